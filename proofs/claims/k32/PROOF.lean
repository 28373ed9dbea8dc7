import PyProof.Rows.All
import Wide.All
import OpenK.AllK
import Wide.FinOn
import Lean
import PyProof.EqAt
import PyProof.EqKinds
import PyProof.TupleCall
import PyProof.NeData
import Wide.Seal
import Wide.OfPy
import KE.KSetDisp
import PyProof.DictCompW
import PyProof.EnumMake
import PyProof.Draws
import PyProof.ListMulRoad
import PySem.Challenge.RW_ledpast_k32_tables_looked_at
set_option maxHeartbeats 8000000
set_option Elab.async false
set_option linter.all false
set_option maxRecDepth 100000
namespace L2
open PySem PySem.Spec PyProof.Rows
abbrev Key:=Sum Int Str
def iy:Key->Value->Bool
 | .inl k,v=>Value.isInt k v
 | .inr x,v=>Value.isStrOf x v
def CC (w:World):Key->Int
 | .inl k=>hashInt k
 | .inr x=>hashStr w x
theorem cM:∀ {k:Key} {v:Value},iy k v=true->(∃ i t,k=Sum.inl i/\v=Value.int i t)\/(∃ x t,k=Sum.inr x/\v=Value.str x t)
 | .inl i,v,h=>by
  obtain⟨t,e⟩:=Value.isInt_shape (k:=i) (v:=v) h
  exact .inl ⟨i,t,rfl,e⟩
 | .inr x,v,h=>by
  obtain⟨t,e⟩:=Value.isStrOf_shape (x:=x) (v:=v) h
  exact .inr ⟨x,t,rfl,e⟩
theorem wb (i:Int) (t:Tok):iy (.inl i) (.int i t)=true:=by simp [iy,Value.isInt]
theorem wc (x:Str) (t:Tok):iy (.inr x) (.str x t)=true:=by simp [iy,Value.isStrOf]
theorem Ay (a b:Int):decide ((Sum.inl a:Key)=Sum.inl b)=(a == b):=by
 by_cases e:a=b
 ·subst e;simp
 ·have h:¬ (Sum.inl a:Key)=Sum.inl b:=fun q=>e (Sum.inl.inj q)
  rw [decide_eq_false h]
  exact (beq_eq_false_iff_ne.mpr e).symm
theorem Az (a b:Str):decide ((Sum.inr a:Key)=Sum.inr b)=decide (a=b):=by
 by_cases e:a=b
 ·subst e;simp
 ·have h:¬ (Sum.inr a:Key)=Sum.inr b:=fun q=>e (Sum.inr.inj q)
  rw [decide_eq_false h,decide_eq_false e]
theorem AA (a:Int) (b:Str):decide ((Sum.inl a:Key)=Sum.inr b)=false:=decide_eq_false (fun q=>nomatch q)
theorem AB (a:Str) (b:Int):decide ((Sum.inr a:Key)=Sum.inl b)=false:=decide_eq_false (fun q=>nomatch q)
def aT (prog:Program) (w:World):PySem.KeyKind prog w Key where
 is:=iy
 hash:=CC w
 inj:=fun v a b ha hb=>by
  rcases cM ha with ⟨i,t,rfl,rfl⟩ | ⟨x,t,rfl,rfl⟩
  ·rcases cM hb with ⟨j,u,rfl,e⟩ | ⟨y,u,rfl,e⟩
   ·injection e with e1 _;rw [e1]
   ·exact nomatch e
  ·rcases cM hb with ⟨j,u,rfl,e⟩ | ⟨y,u,rfl,e⟩
   ·exact nomatch e
   ·injection e with e1 _;rw [e1]
 byValue:=fun k v h=>by
  rcases cM h with ⟨i,t,rfl,rfl⟩ | ⟨x,t,rfl,rfl⟩ <;> rfl
 pyHash:=fun hv h=>by
  rcases cM hv with ⟨i,t,rfl,rfl⟩ | ⟨x,t,rfl,rfl⟩
  ·exact wpAny_pyHash_int h
  ·exact wpAny_pyHash_str h
 eqBool:=fun hu hv h=>by
  rcases cM hu with ⟨i,t,rfl,rfl⟩ | ⟨x,t,rfl,rfl⟩
  ·rcases cM hv with ⟨j,u,rfl,rfl⟩ | ⟨y,u,rfl,rfl⟩
   ·rw [Ay] at h;exact wpAny_eqBool_int h
   ·rw [AA] at h;exact SeqAt.EqAt.int_str i t y u _ _ _ _ h
  ·rcases cM hv with ⟨j,u,rfl,rfl⟩ | ⟨y,u,rfl,rfl⟩
   ·rw [AB] at h;exact SeqAt.EqAt.str_int x t j u _ _ _ _ h
   ·rw [Az] at h;exact wpAny_eqBool_str h
 «strs»:=fun k x t v h=>by
  rcases cM h with ⟨i,u,rfl,e⟩ | ⟨y,u,rfl,e⟩
  ·exact nomatch e
  ·injection e with e1 _
   subst e1
   cases v <;> rfl
theorem mI (prog:Program) (w:World) (i:Int) (t:Tok):(aT prog w).is (.inl i) (.int i t)=true:=wb i t
theorem mJ (prog:Program) (w:World) (x:Str) (t:Tok):(aT prog w).is (.inr x) (.str x t)=true:=wc x t
inductive V where
 | aC | bl (b:Bool) | int (i:Int) | str (x:Str) | ky (b:Array UInt8) | qQ (b:UInt64) | ref (a:Addr) | ty (n:String)
 deriving DecidableEq
def RelV:V->Value->Prop
 | .aC,u=>u=Value.none
 | .bl b,u=>u=Value.bool b
 | .int i,u=>∃ t,u=Value.int i t
 | .str x,u=>∃ t,u=Value.str x t
 | .ky b,u=>∃ t,u=Value.bytes b t
 | .qQ b,u=>∃ t,u=Value.float b t
 | .ref a,u=>u=Value.ref a
 | .ty n,u=>u=Value.type n
abbrev Vals:List V->List Value->Prop:=Paired RelV
theorem Vals.length {xs:List V} {us:List Value} (r:Vals xs us):xs.length=us.length:=Paired.length r
theorem Vals.get:∀ {xs:List V} {us:List Value} {i:Nat} {x:V},Vals xs us->xs[i]? = some x->∃ u,us[i]? = some u/\RelV x u
 | _,_,_,_,.nil,e=>by simp at e
 | _,_,0,_,.cons r _,e=>by simp at e;subst e;exact⟨_,rfl,r⟩
 | _,_,i+1,x,.cons _ t,e=>by
  obtain⟨u,h1,h2⟩:=Vals.get (i:=i) (x:=x) t (by simpa using e)
  exact⟨u,by simpa using h1,h2⟩
theorem Vals.set {x:V} {u:Value} (r:RelV x u):∀ {xs:List V} {us:List Value} (i:Nat),Vals xs us->Vals (xs.set i x) (us.set i u)
 | _,_,_,.nil=>.nil
 | _,_,0,.cons _ t=>.cons r t
 | _,_,i+1,.cons q t=>.cons q (Vals.set r i t)
theorem Vals.append:∀ {xs ys:List V} {us ws:List Value},Vals xs us->Vals ys ws->Vals (xs++ys) (us++ws)
 | _,_,_,_,.nil,s=>s
 | _,_,_,_,.cons r t,s=>.cons r (Vals.append t s)
theorem Vals.take:∀ {xs:List V} {us:List Value} (n:Nat),Vals xs us->Vals (xs.take n) (us.take n)
 | _,_,0,_=>.nil
 | _,_,_+1,.nil=>.nil
 | _,_,n+1,.cons r t=>.cons r (Vals.take n t)
theorem Vals.drop:∀ {xs:List V} {us:List Value} (n:Nat),Vals xs us->Vals (xs.drop n) (us.drop n)
 | _,_,0,r=>r
 | _,_,_+1,.nil=>.nil
 | _,_,n+1,.cons _ t=>Vals.drop n t
def fi:Option V->Option Value->Prop
 | some v,some u=>RelV v u
 | none,none=>True
 | _,_=>False
def KV {κ : Type}:List (κ × V)->List (κ × Value)->Prop:=Paired fun (p:κ × V) (q:κ × Value)=>p.1=q.1/\RelV p.2 q.2
def kV:Key->V
 | .inl i=>.int i
 | .inr x=>.str x
inductive HO where
 | lst (xs:List V)
 | tup (xs:List V)
 | dK (kvs:List (Key × V)) | dT (kvs:List (List Key × V))
 | set (S:Int->Bool) (n:Nat)
 | ins (C dx:Addr) (fs:List (Str × V))
 | own (x:Addr)
 | xd (fs:List (Str × V))
 | met (f x:Addr)
 | AD (lo hi:Int)
 | dq (o:Obj) (u:HO)
 | kN (ps:Array Value)
 | ext (φ : Heap->Prop)
abbrev Hp:=Addr->Option HO
def upd (H:Hp) (a:Addr) (o:HO):Hp:=fun b=>if b=a then some o else H b
theorem aa {H:Hp} {a:Addr} {o:HO}:upd H a o a=some o:=by unfold upd;rw [if_pos rfl]
theorem ao {H:Hp} {a b:Addr} {o:HO} (h:b ≠ a):upd H a o b=H b:=by unfold upd;rw [if_neg h]
theorem bJ {H:Hp} {a b:Addr} {o u:HO} (h:H a=some o) (h':H b=some u) (d:o ≠ u):a ≠ b:=by
 intro e;subst e;rw [h] at h';exact d (Option.some.inj h')
theorem bg {H:Hp} {a b:Addr} {o:HO} (h:H a=some o) (h':H b=none):a ≠ b:=by
 intro e;subst e;rw [h] at h';cases h'
section
variable (P:Program) (w:World)
def bP (H:Hp) (h:Heap) (a:Addr):HO->Prop
 | .lst xs=>xs.length<=sizeLine/\∃ (its:List Value) (n:Nat),Vals xs its/\h.get? a=some { cls:=.type "list",data:=.seq its.toArray n }
 | .tup xs=>xs.length<=sizeLine/\∃ its:List Value,Vals xs its/\∃ o,h.get? a=some o/\o.cls=.type "tuple" /\ ∃ n,o.data=.seq its.toArray n/\o.dict=none
 | .dK kvs=>kvs.length<=sizeLine/\(a == sysModules)=false/\∃ vs,KV kvs vs/\h.DictOf (aT P w) a vs
 | .dT kvs=>kvs.length<=sizeLine/\(a == sysModules)=false/\∃ xs:List (List Key × Addr × Value),
   Paired (fun (p:List Key × V) (q:List Key × Addr × Value)=>p.1=q.1/\H q.2.1=some (.tup (p.1.map kV))/\RelV p.2 q.2.2) kvs xs /\
   ∃ o es ep,h.get? a=some o/\o.ExactDict/\o.data=.dict es ep/\es.toList=xs.map (entryOfKey (tupleKind (aT P w)))/\(xs.map (·.1)).Nodup
 | .set S n=>h.SetOf (intKind P w) a S n
 | .ins C dx fs=>H dx=some (.own a)/\fs.length<=1000/\dx ≠ a/\h.get? a=some (PySem.W.instObj C dx) /\
   ∃ mA,h.Ns1 dx mA/\(∀ f,fi (fs.lookup f) (mA f))/\PySem.Within mA (fs.map (·.1))
 | .own _=>∃ o,h.get? a=some o
 | .xd fs=>∃ mA,h.Ns1 a mA/\∀ f,fi (fs.lookup f) (mA f)
 | .AD lo hi=>∃ t u v,h.get? a=some { cls:=.type "range",data:=.fields #[.int lo t,.int hi u,.int 1 v] }
 | .dq o u=>h.get? a=some o/\bP H h a u
 | .kN ps=>h.get? a=some { cls:=.none,data:=.fields ps }
 | .met f x=>h.get? a=some (PySem.W.methodObj (.ref f) (.ref x))
 | .ext φ=>φ h/\(∃ o,h.get? a=some o)/\∀ h1 h2:Heap,φ h1->(∀ o,h1.get? a=some o->h2.get? a=some o)->φ h2
def dH (H:Hp) (h:Heap):Prop:=∀ a o,H a=some o->bP P w H h a o
end
section
variable {P:Program} {w:World} {H H':Hp} {h h':Heap} {a:Addr} {o:HO}
theorem bP.lt (x:bP P w H h a o):a < h.objs.size:=by
 cases o with
 | lst xs=>obtain⟨_,_,_,_,e⟩:=x;exact Heap.lt_size e
 | tup xs=>obtain⟨_,_,_,p⟩:=x;exact (let ⟨o,e,_⟩:=p;Heap.lt_size e)
 | dK kvs=>obtain⟨_,_,_,_,o,_,_,e,_⟩:=x;exact Heap.lt_size e
 | dT kvs=>obtain⟨_,_,_,_,o,_,_,e,_⟩:=x;exact Heap.lt_size e
 | set S n=>obtain⟨o,_,_,_,e,_⟩:=x;exact Heap.lt_size e
 | ins C dx fs=>obtain⟨_,_,_,e,_⟩:=x;exact Heap.lt_size e
 | own y=>obtain⟨_,e⟩:=x;exact Heap.lt_size e
 | xd fs=>obtain⟨_,⟨_,_,_,e,_⟩,_⟩:=x;exact Heap.lt_size e
 | AD lo hi=>obtain⟨_,_,_,e⟩:=x;exact Heap.lt_size e
 | dq ob u=>obtain⟨e,_⟩:=x;exact Heap.lt_size e
 | kN ps=>exact Heap.lt_size (show h.get? a=some _ from x)
 | met f y=>exact Heap.lt_size (show h.get? a=some _ from x)
 | ext φ=>obtain⟨_,⟨_,e⟩,_⟩:=x;exact Heap.lt_size e
theorem Paired.xM {α β : Type} {F G:α->β->Prop}:∀ {l₁ : List α} {l₂ : List β},Paired F l₁ l₂->(∀ a b,F a b->G a b)->Paired G l₁ l₂
 | _,_,.nil,_=>.nil
 | _,_,.cons r t,f=>.cons (f _ _ r) (Paired.xM t f)
theorem bP.mS (x:bP P w H h a o) (k:∀ b u,(b=a\/H b=some (.own a))->h.get? b=some u->h'.get? b=some u)
  (ho:∀ b,H b=some (.own a)->H' b=some (.own a)) (ht:∀ b xs,H b=some (.tup xs)->H' b=some (.tup xs)):bP P w H' h' a o:=by
 induction o with
 | lst xs=>obtain⟨z,its,n,r,e⟩:=x;exact⟨z,its,n,r,k _ _ (.inl rfl) e⟩
 | tup xs=>obtain⟨z,its,r,ob,e,c⟩:=x;exact⟨z,its,r,ob,k _ _ (.inl rfl) e,c⟩
 | dK kvs=>obtain⟨z,y,vs,r,ob,es,ep,e,c⟩:=x;exact⟨z,y,vs,r,ob,es,ep,k _ _ (.inl rfl) e,c⟩
 | dT kvs =>
  obtain⟨z,y,xs,r,ob,es,ep,e,c⟩:=x
  exact⟨z,y,xs,Paired.xM r fun p q z=>⟨z.1,ht _ _ z.2.1,z.2.2⟩,ob,es,ep,k _ _ (.inl rfl) e,c⟩
 | set S n=>obtain⟨ob,es,ep,t,e,c⟩:=x;exact⟨ob,es,ep,t,k _ _ (.inl rfl) e,c⟩
 | ins C dx fs =>
  obtain⟨d,z,ne,e,mA,⟨od,es,ep,e2,c⟩,r⟩:=x
  exact⟨ho _ d,z,ne,k _ _ (.inl rfl) e,mA,⟨od,es,ep,k _ _ (.inr d) e2,c⟩,r⟩
 | own y=>obtain⟨ob,e⟩:=x;exact⟨ob,k _ _ (.inl rfl) e⟩
 | xd fs=>obtain⟨mA,⟨od,es,ep,e,c⟩,r⟩:=x;exact⟨mA,⟨od,es,ep,k _ _ (.inl rfl) e,c⟩,r⟩
 | AD lo hi=>obtain⟨t,u,v,e⟩:=x;exact⟨t,u,v,k _ _ (.inl rfl) e⟩
 | dq ob u ih=>obtain⟨e,q⟩:=x;exact⟨k _ _ (.inl rfl) e,ih q⟩
 | kN ps =>
  have e:h.get? a=some { cls:=.none,data:=.fields ps }:=x
  show h'.get? a=some { cls:=.none,data:=.fields ps }
  exact k a _ (.inl rfl) e
 | met f y =>
  have e:h.get? a=some (PySem.W.methodObj (.ref f) (.ref y)):=x
  show h'.get? a=some (PySem.W.methodObj (.ref f) (.ref y))
  exact k a _ (.inl rfl) e
 | ext φ=>obtain⟨p,⟨o,e⟩,st⟩:=x;exact⟨st _ _ p fun o q=>k _ _ (.inl rfl) q,⟨o,k _ _ (.inl rfl) e⟩,st⟩
theorem dH.lt (x:dH P w H h) (e:H a=some o):a < h.objs.size:=(x a o e).lt
theorem dH.fresh (x:dH P w H h) (e:h.objs.size<=a):H a=none:=by
 cases q:H a with
 | none=>rfl
 | some u=>exact absurd (Nat.lt_of_lt_of_le (x.lt q) e) (Nat.lt_irrefl _)
theorem dH.kept (x:dH P w H h) (k:∀ b u,h.get? b=some u->h'.get? b=some u):dH P w H h':=fun a o e =>
 (x a o e).mS (fun b u _ q=>k b u q) (fun _ q=>q) fun _ _ q=>q
theorem dH.laid (x:dH P w H h) (k:∀ b u,h.get? b=some u->h'.get? b=some u) (hp:h.objs.size<=a) (new:bP P w (upd H a o) h' a o):dH P w (upd H a o) h':=fun b u e=>by
 have hn:=x.fresh hp
 by_cases hb:b=a
 ·subst hb;rw [aa] at e;cases e;exact new
 ·rw [ao hb] at e
  exact (x b u e).mS (fun c v _ q=>k c v q) (fun c q=>by rw [ao (bg q hn)];exact q) fun c xs q=>by rw [ao (bg q hn)];exact q
end
def Rd (H:Hp) (a:Addr) (u:HO):Prop:=H a=some u\/∃ o,H a=some (.dq o u)
theorem Rd.ok {P:Program} {w:World} {H:Hp} {h:Heap} {a:Addr} {u:HO} (r:Rd H a u) (x:dH P w H h):bP P w H h a u:=by
 rcases r with r | ⟨o,r⟩
 ·exact x a u r
 ·obtain⟨_,q⟩:=x a _ r
  exact q
def we:Option HO->Prop
 | some (.lst _)=>True
 | some (.dK _)=>True
 | some (.dT _)=>True
 | some (.set _ _)=>True
 | some (.ins _ _ _)=>True
 | some (.ext _)=>True
 | _=>False
section
variable {P:Program} {w:World} {H:Hp} {h h':Heap} {x e:Addr} {o':HO}
theorem dH.write (ok:dH P w H h) (mu:we (H x)) (he:e=x\/H e=some (.own x)) (k:∀ b u,b ≠ e->h.get? b=some u->h'.get? b=some u) (heo:∃ u,h'.get? e=some u)
  (new:bP P w (upd H x o') h' x o'):dH P w (upd H x o') h':=fun b u q=>by
 have nown:∀ c y,H c=some (.own y)->c ≠ x:=fun c y r z=>by subst z;rw [r] at mu;exact mu
 have ntup:∀ c xs,H c=some (.tup xs)->c ≠ x:=fun c xs r z=>by subst z;rw [r] at mu;exact mu
 by_cases hb:b=x
 ·subst hb;rw [aa] at q;cases q;exact new
 ·rw [ao hb] at q
  by_cases hbe:b=e
  ·have q':H b=some (.own x):=by
    rcases he with z | z
    ·exact absurd (hbe.trans z) hb
    ·rw [hbe];exact z
   rw [q] at q';cases q'
   obtain⟨v,hv⟩:=heo
   exact⟨v,by rw [hbe];exact hv⟩
  ·refine (ok b u q).mS (fun c v hc r=>k c v ?_ r) (fun c r=>by rw [ao (nown c b r)];exact r) fun c xs r=>by rw [ao (ntup c xs r)];exact r
   rcases hc with rfl | hc
   ·exact hbe
   ·rintro rfl
    rcases he with z | z
    ·exact nown c b hc z
    ·rw [hc] at z;cases z;exact hb rfl
end
structure Un (fs ex:List Addr) (H H':Hp) (h h':Heap):Prop where
 keep:∀ b o,h.get? b=some o->H b=none->b ∉ fs->b ∉ ex->h'.get? b=some o
 slot:∀ b o,h.get? b=some o->H b=none->b ∈ fs->b ∉ ex->∃ sl,h'.get? b=some { o with slots:=sl }
 free:∀ b o,h.get? b=some o->H b=none->b ∉ ex->H' b=none
 there:∀ b o,h.get? b=some o->b ∉ ex->∃ o',h'.get? b=some o'
 aI:∀ b xs,H b=some (.tup xs)->H' b=some (.tup xs)
 ig:∀ b o u,H b=some (.dq o u)->H' b=some (.dq o u)
 iI:∀ b ps,H b=some (.kN ps)->∃ more,H' b=some (.kN (ps++more))
section
variable {fs fs' ex ex':List Addr} {H H1 H2:Hp} {h h1 h2 h':Heap} {a x e:Addr} {o:HO}
theorem Un.any (u:Un fs ex H H1 h h1) {b:Addr} {ob:Obj} (q:h.get? b=some ob) (n:H b=none) (hx:b ∉ ex):∃ sl,h1.get? b=some { ob with slots:=sl }:=by
 by_cases hb:b ∈ fs
 ·exact u.slot b ob q n hb hx
 ·exact⟨ob.slots,u.keep b ob q n hb hx⟩
theorem Un.kept (k:∀ b u,h.get? b=some u->h'.get? b=some u):Un fs ex H H h h' :=
 ⟨fun b ob q _ _ _=>k b ob q,fun b ob q _ _ _=>⟨ob.slots,k b ob q⟩,fun _ _ _ n _=>n,fun b ob q _=>⟨ob,k b ob q⟩,fun _ _ q=>q,fun _ _ _ q=>q,fun _ ps q=>⟨#[],by rw [q];simp⟩⟩
theorem Un.refl:Un fs ex H H h h:=Un.kept fun _ _ q=>q
theorem Un.laid (k:∀ b u,h.get? b=some u->h'.get? b=some u) (hp:h.objs.size<=a) (hn:H a=none):Un fs ex H (upd H a o) h h' where
 keep:=fun b u q _ _ _=>k b u q
 slot:=fun b u q _ _ _=>⟨u.slots,k b u q⟩
 free:=fun b u q n _=>by rw [ao (Nat.ne_of_lt (Nat.lt_of_lt_of_le (Heap.lt_size q) hp))];exact n
 there:=fun b u q _=>⟨u,k b u q⟩
 aI:=fun b xs q=>by rw [ao (bg q hn)];exact q
 ig:=fun b u xs q=>by rw [ao (bg q hn)];exact q
 iI:=fun b ps q=>⟨#[],by rw [ao (bg q hn),q];simp⟩
theorem Un.write (mu:we (H x)) (he:e=x\/H e=some (.own x)) (k:∀ b u,b ≠ e->h.get? b=some u->h'.get? b=some u) (heo:∃ u,h'.get? e=some u):Un fs ex H (upd H x o) h h':=by
  have hx:∀ b,H b=none->b ≠ x:=fun b n z=>by subst z;rw [n] at mu;exact mu
  have hb:∀ b,H b=none->b ≠ e:=fun b n z=>by
    subst z
    rcases he with r | r
    · exact hx b n r
    · rw [n] at r;cases r
  have hm:∀ b u,H b=some u->¬ we (some u)->b ≠ x:=fun b u q nm z=>by subst z;rw [q] at mu;exact nm mu
  refine⟨fun b u q n _ _=>k b u (hb b n) q,fun b u q n _ _=>⟨u.slots,k b u (hb b n) q⟩,fun b u q n _=>by rw [ao (hx b n)];exact n,fun b u q _=>?_,
    fun b xs q=>by rw [ao (hm b _ q fun z=>z)];exact q,fun b u xs q=>by rw [ao (hm b _ q fun z=>z)];exact q,fun b ps q=>⟨#[],by rw [ao (hm b _ q fun z=>z),q];simp⟩⟩
  by_cases hbe:b=e
  · subst hbe;exact heo
  · exact⟨u,k b u hbe q⟩
end
def zv (h:Heap) (H:Hp):List Addr:=(List.range h.objs.size).filter fun a=>(H a).isSome
def jR (h:Heap) (H:Hp):Heap:=PySem.W.hideAll h (zv h H)
theorem wg (h:Heap) (H:Hp):(jR h H).objs.size=h.objs.size:=PySem.W.hideAll_size _ _
theorem xN {h:Heap} {H:Hp} {b:Addr} {o:Obj} (e:h.get? b=some o) (n:H b=none):(jR h H).get? b=some o :=
 PySem.W.hideAll_get _ e fun hm=>by
  have q:(H b).isSome=true:=(List.mem_filter.mp hm).2
  rw [n] at q;simp at q
theorem zM {h:Heap} {H:Hp} {b:Addr} {o:Obj} (e:(jR h H).get? b=some o):h.get? b=some o/\H b=none:=by
 have e':h.get? b=some o:=PySem.W.of_hideAll (zv h H) e
 refine⟨e',?_⟩
 cases q:H b with
 | none=>rfl
 | some x =>
  have hm:b ∈ zv h H:=List.mem_filter.mpr ⟨List.mem_range.mpr (Heap.lt_size e'),by simp [q]⟩
  have z:(jR h H).get? b=none:=PySem.W.hideAll_none (zv h H) hm
  rw [z] at e;cases e
def zN (g h:Heap) (L:Addr):List (Addr × Obj):=(List.range h.objs.size).filterMap fun a=>if a=L\/(g.get? a).isSome=true then none else (h.get? a).map fun o=>(a,o)
def rest (g h:Heap) (L d:Addr):List (Addr × Obj):=(zN g h L).filter fun p=>decide (p.1 ≠ d)
structure Mod (K:PySem.W.Frag) (mg:Str->Option Value) (base:Heap):Prop where
 AE:K.In base
 glob:base.Ns mainGlobals mg
 blt:∃ mb,base.Ns builtinsNs mb/\∀ x:Str,x ≠ "__name__" -> mb x=bootBuiltins x
 nolimit:base.NoLimit
structure Cx where
 prog:Program
 w:World
 K:PySem.W.Frag
 mg:Str->Option Value
 base:Heap
 A:Around
 N:List Str
 dG:Shared
 jS:Hp
 env:Env
 outer:List Env
 stack:List Env
 ex:List Addr
 fn:Str->Bool
 calm:Bool
 pn:List (Addr × Obj)
 xe:Value->Shared->Prop
def kO (l:List Env):List Addr:=l.filterMap (·.frame)
abbrev Cx.fs (X:Cx):List Addr:=kO X.outer
def AF (sc:Scope) (x:Str):Prop:=sc.names.lookup x=some .local\/sc.names.lookup x=some .cell\/sc.names.lookup x=some .free
def Loc (sc:Scope) (x:Str):Prop:=sc.names.lookup x=some .local\/sc.names.lookup x=some .cell
def Look (env:Env) (h:Heap) (m:Str->Option Value) (x:Str) (u:Value):Prop :=
 (env.kindOf x=some .local/\m x=some u)\/((env.kindOf x=some .cell\/env.kindOf x=some .free)/\∃ c,env.cells.lookup x=some c/\h.IsCell c (some u))
structure Cx.Ok (X:Cx):Prop where
 mod:Mod X.K X.mg X.base
 kind:X.env.scope.kind=.function
 glob:X.env.globals=mainGlobals
 blt:X.env.builtins=builtinsNs
 above:X.dG.heap.objs.size<=X.env.locals
 inj:∀ x y c,X.env.cells.lookup x=some c->X.env.cells.lookup y=some c->x=y
 has:∀ x,(X.env.kindOf x=some .cell\/X.env.kindOf x=some .free)->∃ c,X.env.cells.lookup x=some c
 wj:∀ x c,X.fn x=true->X.env.cells.lookup x=some c->X.dG.heap.objs.size<=c
 hd:X.calm=true->X.A.handled=none
 frames:X.A.frames=some X.stack
 zw:X.stack=X.outer\/(X.stack=X.env :: X.outer/\X.env.frame=some X.env.locals)
 Co:∀ b ∈ X.ex,b ≠ X.env.locals/\∀ x c,X.env.cells.lookup x=some c->c ≠ b
 bs:∀ b o,X.base.get? b=some o->X.dG.heap.get? b=some o/\X.jS b=none
 pD:X.base.objs.size<=X.dG.heap.objs.size
 qR:∀ b o,X.base.get? b=some o->b ∉ X.ex
 u9:∀ b ∈ X.ex,b ∉ X.fs
 iJ:X.dG.heap.FunFrames X.base X.outer
 ue:∀ b ∈ X.fs,X.jS b=none
structure Inv (X:Cx) (pins:List (Addr × Obj)) (σ : List (Option V)) (H:Hp) (s:Shared):Prop where
 ok:X.Ok
 os:s.os=X.dG.os
 bare:AllBare s.gens
 base:Un X.fs X.ex X.jS H X.dG.heap s.heap
 loc:∃ m,s.heap.Ns X.env.locals m/\∀ (i:Nat) (x:Str) (v:V),X.N[i]? = some x->σ[i]? = some (some v)->AF X.env.scope x->∃ u,RelV v u/\Look X.env s.heap m x u
 cell:∀ x c,X.env.cells.lookup x=some c->∃ v,s.heap.IsCell c v
 free:H X.env.locals=none
 en:∀ x c,X.env.cells.lookup x=some c->H c=none
 pin:∀ p ∈ X.pn++pins,s.heap.get? p.1=some p.2/\H p.1=none/\p.1 ≠ X.env.locals/\p.1 ∉ X.fs/\∀ v,p.2.data ≠ .cell v
 aN:dH X.prog X.w H s.heap
 len:σ.length=X.N.length
section
variable {X:Cx} {pins:List (Addr × Obj)} {σ : List (Option V)} {H H':Hp} {s:Shared} {h':Heap}
theorem Cx.Ok.CF (ok:X.Ok) {b:Addr} {o:Obj} (e:X.base.get? b=some o):b ∉ X.fs:=fun hb=>by
 have:=(ok.iJ.mem hb).1
 rw [e] at this;cases this
theorem Inv.bs (I:Inv X pins σ H s):∀ b o,X.base.get? b=some o->s.heap.get? b=some o/\H b=none:=fun b o e =>
 ⟨I.base.keep b o (I.ok.bs b o e).1 (I.ok.bs b o e).2 (I.ok.CF e) (I.ok.qR b o e),I.base.free b o (I.ok.bs b o e).1 (I.ok.bs b o e).2 (I.ok.qR b o e)⟩
theorem Inv.bk (I:Inv X pins σ H s):∀ b o,X.base.get? b=some o->s.heap.get? b=some o:=fun b o e=>(I.bs b o e).1
theorem Inv.mod (I:Inv X pins σ H s):Mod X.K X.mg X.base:=I.ok.mod
theorem Inv.fS (I:Inv X pins σ H s):X.K.In s.heap:=I.ok.mod.AE.keeps I.bk
theorem Inv.lt (I:Inv X pins σ H s):X.env.locals < s.heap.objs.size:=let ⟨_,hn,_⟩:=I.loc;hn.lt
theorem Inv.sz (I:Inv X pins σ H s):X.dG.heap.objs.size<=s.heap.objs.size:=Nat.le_trans I.ok.above (Nat.le_of_lt I.lt)
theorem Inv.CG (I:Inv X pins σ H s) {a:Addr} (h:s.heap.objs.size<=a):a ∉ X.fs:=fun hb=>by
 obtain⟨_,o,ho,_⟩:=I.ok.iJ.mem hb
 exact absurd (Nat.lt_of_lt_of_le (Heap.lt_size ho) (Nat.le_trans I.sz h)) (Nat.lt_irrefl _)
theorem Inv.qS (I:Inv X pins σ H s):∀ x c,X.env.cells.lookup x=some c->c ≠ X.env.locals:=fun x c e z=>by
 obtain⟨v,o,ho,hd⟩:=I.cell x c e
 obtain⟨m,⟨o',es,ep,ho',hd',_⟩,_⟩:=I.loc
 rw [z,ho'] at ho;cases ho;rw [hd'] at hd;cases hd
theorem Inv.iJ (I:Inv X pins σ H s):s.heap.FunFrames X.base X.outer:=by
 have all:∀ (l:List Env),(∀ b ∈ kO l,b ∈ X.fs)->X.dG.heap.FunFrames X.base l->s.heap.FunFrames X.base l:=by
  intro l
  induction l with
  | nil=>intro _ _;trivial
  | cons env r ih =>
   intro hs hl
   obtain⟨hk,⟨L,o,hf,hn,ho,hd⟩,hr⟩:=hl
   have hL:L ∈ X.fs:=hs L (by unfold kO;rw [List.filterMap_cons,hf];exact List.mem_cons_self)
   obtain⟨sl,e⟩:=I.base.slot L o ho (I.ok.ue L hL) hL fun z=>I.ok.u9 L z hL
   exact⟨hk,⟨L,_,hf,hn,e,hd⟩,ih (fun b hb=>hs b (by unfold kO;rw [List.filterMap_cons,hf];exact List.mem_cons_of_mem _ hb)) hr⟩
 exact all X.outer (fun _ hb=>hb) I.ok.iJ
theorem Inv.stack (I:Inv X pins σ H s):s.heap.FunFrames X.base X.stack:=by
 rcases I.ok.zw with e | ⟨e,hf⟩
 ·rw [e];exact I.iJ
 ·rw [e]
  obtain⟨m,hn,_⟩:=I.loc
  refine .cons (by rw [I.ok.kind];decide) hf hn ?_ I.iJ
  exact Heap.get?_none_of_le (Nat.le_trans I.ok.pD I.ok.above)
theorem Inv.kP (I:Inv X pins σ H s):∀ b ∈ kO X.stack,b ∈ X.env.locals :: X.fs:=fun b hb=>by
 rcases I.ok.zw with e | ⟨e,hf⟩
 ·rw [e] at hb;exact List.mem_cons_of_mem _ hb
 ·rw [e] at hb
  unfold kO at hb
  rw [List.filterMap_cons,hf] at hb
  exact hb
theorem Inv.uf (I:Inv X pins σ H s):∀ b ∈ kO X.stack,H b=none:=fun b hb=>by
 rcases List.mem_cons.mp (I.kP b hb) with e | hb
 ·rw [e];exact I.free
 ·obtain⟨_,o,ho,_⟩:=I.ok.iJ.mem hb
  exact I.base.free b o ho (I.ok.ue b hb) fun z=>I.ok.u9 b z hb
theorem Inv.step {g':Array GenState} {t':Nat} {d':Drawn} {ch:List Addr} (I:Inv X pins σ H s)
  (hch:∀ b ∈ ch,(b ∈ X.ex\/X.dG.heap.objs.size<=b)/\b ≠ X.env.locals/\(∀ x c,X.env.cells.lookup x=some c->c ≠ b)/\∀ p ∈ X.pn++pins,p.1 ≠ b)
  (keep:∀ b o,b ≠ X.env.locals->b ∉ X.fs->b ∉ ch->s.heap.get? b=some o->H b=none->h'.get? b=some o)
  (slot:∀ b o,b ≠ X.env.locals->b ∈ X.fs->b ∉ ch->s.heap.get? b=some o->H b=none->∃ sl,h'.get? b=some { o with slots:=sl }) (free:∀ b o,b ∉ ch->s.heap.get? b=some o->H b=none->H' b=none)
  (there:∀ b o,b ∉ ch->s.heap.get? b=some o->∃ o',h'.get? b=some o')
  (aI:∀ b xs,H b=some (.tup xs)->H' b=some (.tup xs)) (ig:∀ b o u,H b=some (.dq o u)->H' b=some (.dq o u)) (iI:∀ b ps,H b=some (.kN ps)->∃ more,H' b=some (.kN (ps++more)))
  (ns:∀ m,s.heap.Ns X.env.locals m->h'.Ns X.env.locals m) (aN:dH X.prog X.w H' h') (hg:AllBare g') :
  Inv X pins σ H' { s with heap:=h',gens:=g',drawn:=d',toks:=t' }:=by
 have neL:∀ b o,X.dG.heap.get? b=some o->b ≠ X.env.locals:=fun b o e=>Nat.ne_of_lt (Nat.lt_of_lt_of_le (Heap.lt_size e) I.ok.above)
 have neC:∀ b o,X.dG.heap.get? b=some o->b ∉ X.ex->b ∉ ch:=fun b o e hx hb=>by
  rcases (hch b hb).1 with z | z
  ·exact hx z
  ·exact absurd (Nat.lt_of_lt_of_le (Heap.lt_size e) z) (Nat.lt_irrefl _)
 have cellK:∀ x c,X.env.cells.lookup x=some c->∀ v,s.heap.IsCell c v->h'.IsCell c v:=fun x c e v ⟨o,ho,hd⟩=>by
  have nch:c ∉ ch:=fun z=>(hch c z).2.2.1 x c e rfl
  by_cases hc:c ∈ X.fs
  ·obtain⟨sl,q⟩:=slot c o (I.qS x c e) hc nch ho (I.en x c e)
   exact⟨_,q,hd⟩
  ·exact⟨o,keep c o (I.qS x c e) hc nch ho (I.en x c e),hd⟩
 refine⟨I.ok,I.os,hg,⟨fun b o e n hb hx=>?_,fun b o e n hb hx=>?_,fun b o e n hx=>?_,fun b o e hx=>?_,fun b xs e=>aI b xs (I.base.aI b xs e),fun b o xs e=>ig b o xs (I.base.ig b o xs e),fun b ps e=>?_⟩,?_,fun x c e=>?_,?_,fun x c e=>?_,fun p hp=>?_,aN,I.len⟩
 ·exact keep b o (neL b o e) hb (neC b o e hx) (I.base.keep b o e n hb hx) (I.base.free b o e n hx)
 ·obtain⟨sl,e1⟩:=I.base.slot b o e n hb hx
  obtain⟨sl',e2⟩:=slot b _ (neL b o e) hb (neC b o e hx) e1 (I.base.free b o e n hx)
  exact⟨sl',e2⟩
 ·obtain⟨o',e1⟩:=I.base.there b o e hx
  exact free b o' (neC b o e hx) e1 (I.base.free b o e n hx)
 ·obtain⟨o',e1⟩:=I.base.there b o e hx
  exact there b o' (neC b o e hx) e1
 ·obtain⟨m1,e1⟩:=I.base.iI b ps e
  obtain⟨m2,e2⟩:=iI b _ e1
  exact⟨m1++m2,by rw [e2,Array.append_assoc]⟩
 ·obtain⟨m,hn,hl⟩:=I.loc
  refine⟨m,ns m hn,fun i x v e1 e2 e3=>?_⟩
  obtain⟨u,r,l⟩:=hl i x v e1 e2 e3
  refine⟨u,r,?_⟩
  rcases l with l | ⟨k,c,e,z⟩
  ·exact .inl l
  ·exact .inr ⟨k,c,e,cellK x c e _ z⟩
 ·obtain⟨v,z⟩:=I.cell x c e
  exact⟨v,cellK x c e v z⟩
 ·obtain⟨m,⟨o,_,_,ho,_⟩,_⟩:=I.loc
  exact free _ o (fun z=>(hch _ z).2.1 rfl) ho I.free
 ·obtain⟨v,o,ho,hd⟩:=I.cell x c e
  exact free c o (fun z=>(hch c z).2.2.1 x c e rfl) ho (I.en x c e)
 ·obtain⟨e,n,ne,nf,d⟩:=I.pin p hp
  have nch:p.1 ∉ ch:=fun z=>(hch p.1 z).2.2.2 p hp rfl
  exact⟨keep p.1 p.2 ne nf nch e n,free p.1 p.2 nch e n,ne,nf,d⟩
theorem Inv.un {t':Nat} (I:Inv X pins σ H s) (u:Un X.fs [] H H' s.heap h') (aN:dH X.prog X.w H' h'):Inv X pins σ H' { s with heap:=h',toks:=t' }:=by
  obtain⟨m,⟨o,es,ep,ho,r⟩,_⟩:=id I.loc
  obtain⟨sl,hL⟩:=u.any ho I.free (by simp)
  exact I.step (g':=s.gens) (d':=s.drawn) (ch:=[]) (fun _ z=>nomatch z) (fun b o _ hb _ e n=>u.keep b o e n hb (by simp)) (fun b o _ hb _ e n=>u.slot b o e n hb (by simp)) (fun b o _ e n=>u.free b o e n (by simp)) (fun b o _ e=>u.there b o e (by simp)) u.aI u.ig u.iI (fun m' hm=>by
    obtain⟨o',es',ep',ho',r'⟩:=hm
    rw [ho] at ho';cases ho'
    exact⟨_,es',ep',hL,r'⟩) aN I.bare
theorem Inv.call {g':Array GenState} {t':Nat} {d':Drawn} {ch:List Addr} (I:Inv X pins σ H s) (u:Un (kO X.stack) ch H H' s.heap h') (aN:dH X.prog X.w H' h') (hg:AllBare g')
  (hch:∀ b ∈ ch,(b ∈ X.ex\/X.dG.heap.objs.size<=b)/\b ≠ X.env.locals/\(∀ x c,X.env.cells.lookup x=some c->c ≠ b)/\∀ p ∈ X.pn++pins,p.1 ≠ b) :
  Inv X pins σ H' { s with heap:=h',gens:=g',drawn:=d',toks:=t' }:=by
 obtain⟨m,⟨o,es,ep,ho,r⟩,_⟩:=id I.loc
 obtain⟨sl,hL⟩:=u.any ho I.free fun z=>(hch _ z).2.1 rfl
 exact I.step (ch:=ch) hch (fun b o hL hb hc e n=>u.keep b o e n (fun z=>(List.mem_cons.mp (I.kP b z)).elim hL hb) hc) (fun b o _ _ hc e n=>u.any e n hc) (fun b o hc e n=>u.free b o e n hc) (fun b o hc e=>u.there b o e hc) u.aI u.ig u.iI (fun m' hm=>by
  obtain⟨o',es',ep',ho',r'⟩:=hm
  rw [ho] at ho';cases ho'
  exact⟨_,es',ep',hL,r'⟩) aN hg
theorem Inv.turned {t':Nat} {it:Addr} (I:Inv X pins σ H s) (k:∀ b o,b ≠ it->s.heap.get? b=some o->h'.get? b=some o) (hn:H it=none) (hL:it ≠ X.env.locals)
  (h1:it ∈ X.ex\/X.dG.heap.objs.size<=it) (h2:∀ x c,X.env.cells.lookup x=some c->c ≠ it) (h3:∀ p ∈ X.pn++pins,p.1 ≠ it):Inv X pins σ H { s with heap:=h',toks:=t' }:=by
 have nit:∀ b u,H b=some u->b ≠ it:=fun b u e z=>by rw [z,hn] at e;cases e
 refine I.step (g':=s.gens) (d':=s.drawn) (ch:=[it]) (fun b hb=>?_) (fun b o _ _ hc e _=>k b o (fun z=>hc (by simp [z])) e) (fun b o _ _ hc e _=>⟨o.slots,k b o (fun z=>hc (by simp [z])) e⟩) (fun _ _ _ _ n=>n)
  (fun b o hc e=>⟨o,k b o (fun z=>hc (by simp [z])) e⟩) (fun _ _ e=>e) (fun _ _ _ e=>e) (fun b ps e=>⟨#[],by rw [e];simp⟩) (fun m hm=>?_) (fun b u e=>?_) I.bare
 ·have e:b=it:=by simpa using hb
  subst e
  exact⟨h1,hL,h2,h3⟩
 ·obtain⟨o,es,ep,ho,r⟩:=hm
  exact⟨o,es,ep,k _ o (Ne.symm hL) ho,r⟩
 ·refine (I.aN b u e).mS (fun c v hc q=>k c v ?_ q) (fun _ q=>q) fun _ _ q=>q
  rcases hc with z | z
  ·rw [z];exact nit b u e
  ·exact nit c _ z
theorem Inv.tok (I:Inv X pins σ H s) (t:Nat):Inv X pins σ H { s with toks:=t }:=I.un (h':=s.heap) (t':=t) Un.refl I.aN
theorem Inv.kept {t':Nat} (I:Inv X pins σ H s) (k:∀ b u,s.heap.get? b=some u->h'.get? b=some u):Inv X pins σ H { s with heap:=h',toks:=t' }:=I.un (Un.kept k) (I.aN.kept k)
theorem Inv.laid {a:Addr} {o:HO} {t':Nat} (I:Inv X pins σ H s) (k:∀ b u,s.heap.get? b=some u->h'.get? b=some u) (hp:s.heap.objs.size<=a) (new:bP X.prog X.w (upd H a o) h' a o) :
  Inv X pins σ (upd H a o) { s with heap:=h',toks:=t' }:=I.un (Un.laid k hp (I.aN.fresh hp)) (I.aN.laid k hp new)
theorem Inv.write {x e:Addr} {o:HO} {t':Nat} (I:Inv X pins σ H s) (mu:we (H x)) (he:e=x\/H e=some (.own x)) (k:∀ b u,b ≠ e->s.heap.get? b=some u->h'.get? b=some u) (heo:∃ u,h'.get? e=some u)
  (new:bP X.prog X.w (upd H x o) h' x o):Inv X pins σ (upd H x o) { s with heap:=h',toks:=t' }:=I.un (Un.write mu he k heo) (I.aN.write mu he k heo new)
theorem Inv.ug {pins':List (Addr × Obj)} (I:Inv X pins σ H s) (h:∀ p ∈ pins',s.heap.get? p.1=some p.2/\H p.1=none/\p.1 ≠ X.env.locals/\p.1 ∉ X.fs/\∀ v,p.2.data ≠ .cell v):Inv X pins' σ H s :=
 ⟨I.ok,I.os,I.bare,I.base,I.loc,I.cell,I.free,I.en,fun p hp=>(List.mem_append.mp hp).elim (fun z=>I.pin p (List.mem_append_left _ z)) (h p),I.aN,I.len⟩
theorem qT {N:List Str} (hN:N.Nodup) {i j:Nat} {x:Str} (a:N[i]? = some x) (b:N[j]? = some x):i=j:=by
 obtain⟨h1,e1⟩:=List.getElem?_eq_some_iff.mp a
 obtain⟨h2,e2⟩:=List.getElem?_eq_some_iff.mp b
 exact (List.getElem_inj hN).mp (e1.trans e2.symm)
theorem pE {M:Model} {A:Around} {E:Value->Shared->Prop} {i:Nat} {x:Str} {v:V} {u:Value} {Q:Unit->Shared->Prop} (I:Inv X pins σ H s) (hN:X.N.Nodup) (hi:X.N[i]? = some x) (hx:Loc X.env.scope x) (r:RelV v u)
  (h:∀ s',Inv X pins (σ.set i (some v)) H s'->(∃ a,Heap.SameBut a s.heap s'.heap/\(a=X.env.locals\/X.env.cells.lookup x=some a))->Q () s') (hf:X.fn x=true\/X.env.scope.names.lookup x=some .local:=by first | exact .inl rfl | exact .inr rfl | assumption):wpAny M A (storeName X.env x u) Q E s:=by
 obtain⟨m,hn,hl⟩:=id I.loc
 have hcls:(X.env.scope.kind == .class || (X.env.scope.kind == .module && X.env.locals != X.env.globals))=false:=by rw [I.ok.kind];rfl
 have hiσ : i < σ.length:=by rw [I.len];exact (List.getElem?_eq_some_iff.mp hi).1
 have qS:=I.qS
 have tracked:∀ {a:Addr} {h':Heap},(∃ o,s.heap.get? a=some o/\H a=none)->Heap.SameBut a s.heap h'->dH X.prog X.w H h':=fun {a h'} ha hs b ob e=>by
  obtain⟨_,_,hfree⟩:=ha
  refine (I.aN b ob e).mS (fun c w' hc q=>(hs.2 c ?_).trans q) (fun _ q=>q) fun _ _ q=>q
  rintro rfl
  rcases hc with rfl | hc
  ·rw [hfree] at e;cases e
  ·rw [hfree] at hc;cases hc
 rcases hx with hk | hk
 ·refine wpAny_storeName_local hk hn (fun h' hn' hs=>?_) hcls
  obtain⟨oL,_,_,hoL,_⟩:=id hn
  refine h _ ⟨I.ok,I.os,I.bare,⟨fun b o e n hb hx=>?_,fun b o e n hb hx=>?_,I.base.free,fun b o e hx=>?_,I.base.aI,I.base.ig,I.base.iI⟩,⟨_,hn',fun j y v' e1 e2 e3=>?_⟩,fun y c e=>?_,I.free,I.en,fun p hp=>?_,tracked ⟨oL,hoL,I.free⟩ hs,by simpa using I.len⟩ ⟨_,hs,.inl rfl⟩
  ·exact (hs.2 b (Nat.ne_of_lt (Nat.lt_of_lt_of_le (Heap.lt_size e) I.ok.above))).trans (I.base.keep b o e n hb hx)
  ·obtain⟨sl,e1⟩:=I.base.slot b o e n hb hx
   exact⟨sl,(hs.2 b (Nat.ne_of_lt (Nat.lt_of_lt_of_le (Heap.lt_size e) I.ok.above))).trans e1⟩
  ·obtain⟨o',e1⟩:=I.base.there b o e hx
   exact⟨o',(hs.2 b (Nat.ne_of_lt (Nat.lt_of_lt_of_le (Heap.lt_size e) I.ok.above))).trans e1⟩
  ·by_cases hj:j=i
   ·subst hj
    rw [hi] at e1;cases e1
    rw [List.getElem?_set_self hiσ] at e2
    cases e2
    exact⟨u,r,.inl ⟨hk,by simp⟩⟩
   ·rw [List.getElem?_set_ne (Ne.symm hj)] at e2
    obtain⟨u',r',q⟩:=hl j y v' e1 e2 e3
    refine⟨u',r',?_⟩
    rcases q with ⟨k,e⟩ | ⟨k,c,e,z⟩
    ·refine .inl ⟨k,?_⟩
     have:y ≠ x:=fun e=>hj (qT hN e1 (e ▸ hi))
     simp [this,e]
    ·exact .inr ⟨k,c,e,z.sameBut hs (qS y c e)⟩
  ·obtain⟨w',z⟩:=I.cell y c e
   exact⟨w',z.sameBut hs (qS y c e)⟩
  ·obtain⟨e,n,ne,nf,d⟩:=I.pin p hp
   exact⟨(hs.2 p.1 ne).trans e,n,ne,nf,d⟩
 ·have hfn:X.fn x=true:=by
   rcases hf with z | z
   ·exact z
   ·rw [z] at hk;cases hk
  obtain⟨c,hc⟩:=I.ok.has x (.inl hk)
  obtain⟨w',z⟩:=I.cell x c hc
  refine wpAny_storeName_cell I.ok.kind hk hc z (fun h' hc' hs=>?_)
  obtain⟨oc,hoc,hocd⟩:=id z
  refine h { s with heap:=h' } ⟨I.ok,I.os,I.bare,⟨fun b o e n hb hx=>?_,fun b o e n hb hx=>?_,I.base.free,fun b o e hx=>?_,I.base.aI,I.base.ig,I.base.iI⟩,⟨m,hn.sameBut hs (Ne.symm (qS x c hc)),fun j y v' e1 e2 e3=>?_⟩,fun y c' e=>?_,I.free,I.en,fun p hp=>?_,tracked ⟨oc,hoc,I.en x c hc⟩ hs,by simpa using I.len⟩ ⟨c,hs,.inr hc⟩
  ·exact (hs.2 b (Nat.ne_of_lt (Nat.lt_of_lt_of_le (Heap.lt_size e) (I.ok.wj x c hfn hc)))).trans (I.base.keep b o e n hb hx)
  ·obtain⟨sl,e1⟩:=I.base.slot b o e n hb hx
   exact⟨sl,(hs.2 b (Nat.ne_of_lt (Nat.lt_of_lt_of_le (Heap.lt_size e) (I.ok.wj x c hfn hc)))).trans e1⟩
  ·obtain⟨o',e1⟩:=I.base.there b o e hx
   exact⟨o',(hs.2 b (Nat.ne_of_lt (Nat.lt_of_lt_of_le (Heap.lt_size e) (I.ok.wj x c hfn hc)))).trans e1⟩
  ·by_cases hj:j=i
   ·subst hj
    rw [hi] at e1;cases e1
    rw [List.getElem?_set_self hiσ] at e2
    cases e2
    exact⟨u,r,.inr ⟨.inl hk,c,hc,hc'⟩⟩
   ·rw [List.getElem?_set_ne (Ne.symm hj)] at e2
    obtain⟨u',r',q⟩:=hl j y v' e1 e2 e3
    refine⟨u',r',?_⟩
    rcases q with q | ⟨k,c',e,z'⟩
    ·exact .inl q
    ·refine .inr ⟨k,c',e,z'.sameBut hs ?_⟩
     rintro rfl
     exact hj (qT hN e1 (I.ok.inj _ _ _ e hc ▸ hi))
  ·by_cases hcc:c' = c
   ·subst hcc;exact⟨_,hc'⟩
   ·obtain⟨w2,z2⟩:=I.cell y c' e
    exact⟨w2,z2.sameBut hs hcc⟩
  ·obtain⟨e,n,ne,nf,d⟩:=I.pin p hp
   refine⟨(hs.2 p.1 ?_).trans e,n,ne,nf,d⟩
   intro q
   rw [q,hoc] at e
   have q':oc=p.2:=Option.some.inj e
   exact d w' (by rw [<-q'];exact hocd)
theorem jT {M:Model} {A:Around} {E:Value->Shared->Prop} {i:Nat} {x:Str} {v:V} {u:Value} {Q:Unit->Shared->Prop} (I:Inv X pins σ H s) (hN:X.N.Nodup) (hi:X.N[i]? = some x) (hx:Loc X.env.scope x) (r:RelV v u)
  (h:∀ s',Inv X pins (σ.set i (some v)) H s'->Q () s') (hf:X.fn x=true\/X.env.scope.names.lookup x=some .local:=by first | exact .inl rfl | exact .inr rfl | assumption):wpAny M A (storeName X.env x u) Q E s :=
 pE I hN hi hx r (fun s' I' _=>h s' I') hf
theorem Inv.zx {s':Shared} {ch:List Addr} (I:Inv X pins σ H s) (ho:s'.os=s.os) (u:Un (kO X.stack) ch H H' s.heap s'.heap) (aN:dH X.prog X.w H' s'.heap) (hg:AllBare s'.gens)
  (hch:∀ b ∈ ch,(b ∈ X.ex\/X.dG.heap.objs.size<=b)/\b ≠ X.env.locals/\(∀ x c,X.env.cells.lookup x=some c->c ≠ b)/\∀ p ∈ X.pn++pins,p.1 ≠ b):Inv X pins σ H' s':=by
 obtain⟨h',g',d',t',o'⟩:=s'
 have e:o' = s.os:=ho
 subst e
 exact I.call (g':=g') (t':=t') (d':=d') u aN hg hch
end
abbrev XK:=Value->Option Addr->Hp->Prop
abbrev St:=List (Option V)
abbrev VK:=V->Hp->Prop
abbrev TE:=St->Hp->VK->Prop
abbrev TT:=St->Hp->(Bool->Hp->Prop)->Prop
abbrev TA:=St->Hp->(List V->Hp->Prop)->Prop
structure Ends where
 nx:St->Hp->Prop
 rt:VK
 bk:St->Hp->Prop:=fun _ _=>False
 ct:St->Hp->Prop:=fun _ _=>False
abbrev TS:=Ends->St->Hp->Prop
def EP (X:Cx) (pins:List (Addr × Obj)) (σ : St) (Q:VK) (u:Value) (s':Shared):Prop:=∃ v H',Inv X pins σ H' s'/\RelV v u/\Q v H'
def TP (X:Cx) (pins:List (Addr × Obj)) (σ : St) (Q:Bool->Hp->Prop) (b:Bool) (s':Shared):Prop:=∃ H',Inv X pins σ H' s'/\Q b H'
def AP (X:Cx) (pins:List (Addr × Obj)) (σ : St) (Q:List V->Hp->Prop) (us:List Value) (s':Shared):Prop:=∃ vs H',Inv X pins σ H' s'/\Vals vs us/\Q vs H'
def SP (X:Cx) (pins:List (Addr × Obj)) (D:Ends) (f:Flow) (s':Shared):Prop :=
 match f with
 | .next=>∃ σ' H',Inv X pins σ' H' s'/\D.nx σ' H'
 | .brk=>∃ σ' H',Inv X pins σ' H' s'/\D.bk σ' H'
 | .cont=>∃ σ' H',Inv X pins σ' H' s'/\D.ct σ' H'
 | .ret u=>∃ v σ' H',Inv X pins σ' H' s'/\RelV v u/\D.rt v H'
def PE (X:Cx) (e:Expr) (t:TE):Prop :=
 ∀ (pins:List (Addr × Obj)) (s:Shared) (σ : St) (H:Hp) (Q:VK),Inv X pins σ H s->t σ H Q->wpAny (model X.prog X.w) X.A (eval e X.env) (EP X pins σ Q) X.xe s
def PT (X:Cx) (e:Expr) (t:TT):Prop :=
 ∀ (pins:List (Addr × Obj)) (s:Shared) (σ : St) (H:Hp) (Q:Bool->Hp->Prop),Inv X pins σ H s->t σ H Q->wpAny (model X.prog X.w) X.A (isTrue e X.env (eval e X.env)) (TP X pins σ Q) X.xe s
def PW (X:Cx) (e:Expr) (t:TT):Prop :=
 ∀ (whole:Sem Value) (pins:List (Addr × Obj)) (s:Shared) (σ : St) (H:Hp) (Q:Bool->Hp->Prop),Inv X pins σ H s->t σ H Q->wpAny (model X.prog X.w) X.A (isTrue e X.env whole) (TP X pins σ Q) X.xe s
theorem PW.pt {X:Cx} {e:Expr} {t:TT} (h:PW X e t):PT X e t:=h _
def PA (X:Cx) (es:List Expr) (t:TA):Prop :=
 ∀ (pos:Pos) (pins:List (Addr × Obj)) (s:Shared) (σ : St) (H:Hp) (Q:List V->Hp->Prop),Inv X pins σ H s->t σ H Q->wpAny (model X.prog X.w) X.A (spliced (backTo pos (starEach es X.env))) (AP X pins σ Q) X.xe s
def PS (X:Cx) (st:Stmt) (t:TS):Prop :=
 ∀ (pins:List (Addr × Obj)) (s:Shared) (σ : St) (H:Hp) (D:Ends),Inv X pins σ H s->t D σ H->wpAny (model X.prog X.w) X.A (exec st X.env) (SP X pins D) X.xe s
def iK (X:Cx) (st:List Stmt) (t:TS):Prop :=
 ∀ (pins:List (Addr × Obj)) (s:Shared) (σ : St) (H:Hp) (D:Ends),Inv X pins σ H s->t D σ H->wpAny (model X.prog X.w) X.A (execs st X.env) (SP X pins D) X.xe s
theorem bA {α : Type} {t:Sem α} {Q Q':α->Shared->Prop} {M:Model} {A:Around} {E:Value->Shared->Prop} {s:Shared} (h:wpAny M A t Q E s) (hQ:∀ a s,Q a s->Q' a s):wpAny M A t Q' E s:=wpAny_mono h hQ fun _ _ x=>x
section
variable {X:Cx}
inductive mT (i:Nat) (σ : St) (H:Hp) (Q:VK):Prop
 | mk (v:_) (_:σ[i]? = some (some v)) (_:Q v H)
def tC (v:V):TE:=fun _ H Q=>Q v H
theorem AG {i:Nat} {x:Str} {pos:Pos} (hN:X.N[i]? = some x) (hv:AF X.env.scope x) (hd:(x == ("__debug__" : Str))=false:=by decide) (hcd:(x == ("__classdict__" : Str))=false:=by decide):PE X (.Name x pos) (mT i):=by
 intro pins s σ H Q I h
 obtain⟨v,e,h⟩:=h
 obtain⟨m,hn,hl⟩:=I.loc
 obtain⟨u,r,l⟩:=hl i x v hN e hv
 have fin:EP X pins σ Q u s:=⟨v,H,I,r,h⟩
 rcases l with ⟨hk,hm⟩ | ⟨hk,c,hc,hcell⟩
 ·exact wpAny_Name (wpAny_loadName_local I.ok.kind hk hn hm fin) hd
 ·rcases hk with hk | hk
  ·exact wpAny_Name (wpAny_loadName_cell I.ok.kind hk hc hcell fin) hd
  ·exact wpAny_Name (wpAny_loadName_free I.ok.kind hk hc hcell fin hcd) hd
theorem ah {i j pos}:PE X (.Constant (.int i) j pos) (tC (.int i)):=fun _ _ _ H _ I h=>wpAny_Constant_int ⟨.int i,H,I.tok _,⟨_,rfl⟩,h⟩
theorem cN {b j pos}:PE X (.Constant (.bool b) j pos) (tC (.bl b)):=fun _ _ _ H _ I h=>Constant_bool ⟨.bl b,H,I,rfl,h⟩
theorem bH {j pos}:PE X (.Constant .none j pos) (tC .aC):=fun _ _ _ H _ I h=>Constant_none ⟨.aC,H,I,rfl,h⟩
theorem bI {x j pos}:PE X (.Constant (.str x) j pos) (tC (.str x)):=fun _ _ _ H _ I h=>Calls.Constant_str ⟨.str x,H,I.tok _,⟨_,rfl⟩,h⟩
def Gl (X:Cx) (x:Str):Prop:=X.env.kindOf x=some .globalImplicit
theorem uh {E:Value->Shared->Prop} {pins:List (Addr × Obj)} {s:Shared} {σ : St} {H:Hp} {x:Str} {u:Value} {pos:Pos} {Q:Value->Shared->Prop} (I:Inv X pins σ H s) (hg:Gl X x) (hm:X.mg x=some u) (h:Q u s)
  (hd:(x == ("__debug__" : Str))=false:=by decide):wpAny (model X.prog X.w) X.A (eval (.Name x pos) X.env) Q E s :=
 Calls.Name_function_global I.ok.kind hg (Calls.loadGlobal_global (by rw [I.ok.glob];exact I.mod.glob.keeps I.bk) hm h) hd
theorem kQ {E:Value->Shared->Prop} {pins:List (Addr × Obj)} {s:Shared} {σ : St} {H:Hp} {x:Str} {u:Value} {pos:Pos} {Q:Value->Shared->Prop} (I:Inv X pins σ H s) (hg:Gl X x) (hm:X.mg x=none) (hv:bootBuiltins x=some u) (h:Q u s)
  (hn:x ≠ "__name__" := by decide) (hd:(x == ("__debug__" : Str))=false:=by decide):wpAny (model X.prog X.w) X.A (eval (.Name x pos) X.env) Q E s:=by
 obtain⟨mb,h1,h2⟩:=I.mod.blt
 exact Calls.Name_function_global I.ok.kind hg (Calls.loadGlobal_builtin (by rw [I.ok.glob];exact I.mod.glob.keeps I.bk) hm (by rw [I.ok.blt];exact h1.keeps I.bk) ((h2 x hn).trans hv) h) hd
theorem fA {x:Str} {v:V} {u:Value} {pos:Pos} (hg:Gl X x) (hm:X.mg x=some u) (r:RelV v u) (hd:(x == ("__debug__" : Str))=false:=by decide):PE X (.Name x pos) (tC v) :=
 fun _ _ _ H _ I h=>uh I hg hm ⟨v,H,I,r,h⟩ hd
theorem zO {x:Str} {v:V} {u:Value} {pos:Pos} (hg:Gl X x) (hm:X.mg x=none) (hv:bootBuiltins x=some u) (r:RelV v u) (hn:x ≠ "__name__" := by decide) (hd:(x == ("__debug__" : Str))=false:=by decide):PE X (.Name x pos) (tC v) :=
 fun _ _ _ H _ I h=>kQ I hg hm hv ⟨v,H,I,r,h⟩ hn hd
variable {a b:Expr} {ta tb:TE} {pos:Pos}
def PC (X:Cx) (op:CmpOp) (a b:Expr) (t:TE):Prop :=
 ∀ (pins:List (Addr × Obj)) (s:Shared) (σ : St) (H:Hp) (Q:VK),Inv X pins σ H s->t σ H Q ->
  wpAny (model X.prog X.w) X.A (eval a X.env) (fun v s₁=>wpAny (model X.prog X.w) X.A (eval b X.env) (fun u s₂=>wpAny (model X.prog X.w) X.A (compareOp op v u) (EP X pins σ Q) X.xe s₂) X.xe s₁) X.xe s
theorem qU (b:Expr) {op:CmpOp} (h:op ≠ .In) (h2:op ≠ .NotIn):behindInMarks op b=false:=by
 have e1:(op == CmpOp.In)=false:=by cases op <;> first | rfl | exact absurd rfl h
 have e2:(op == CmpOp.NotIn)=false:=by cases op <;> first | rfl | exact absurd rfl h2
 cases b <;> simp [behindInMarks,e1,e2]
def CH (ta:TE):TE:=fun σ H Q=>ta σ H fun x H1=>Q (.bl (decide (x=.aC))) H1
def BH (ta:TE):TE:=fun σ H Q=>ta σ H fun x H1=>Q (.bl (!decide (x=.aC))) H1
theorem RelV.qV {x:V} {v:Value} (r:RelV x v):(v == Value.none)=decide (x=.aC):=by
 cases x with
 | aC=>cases r;rfl
 | bl _=>cases r;rfl
 | int _=>obtain⟨t,rfl⟩:=r;rfl
 | str _=>obtain⟨t,rfl⟩:=r;rfl
 | ky _=>obtain⟨t,rfl⟩:=r;rfl
 | qQ _=>obtain⟨t,rfl⟩:=r;rfl
 | ref _=>cases r;rfl
 | ty _=>cases r;rfl
theorem cO {j pos'} (ha:PE X a ta):PC X .Is a (.Constant .none j pos') (CH ta):=by
 intro pins s σ H Q I h
 refine bA (ha pins s σ H _ I h) fun v s1 ⟨x,H1,I1,r1,q1⟩=>?_
 exact Constant_none (is_none_gen ⟨.bl _,H1,I1,by rw [r1.qV];rfl,q1⟩)
theorem cA {j pos'} (ha:PE X a ta):PC X .IsNot a (.Constant .none j pos') (BH ta):=by
 intro pins s σ H Q I h
 refine bA (ha pins s σ H _ I h) fun v s1 ⟨x,H1,I1,r1,q1⟩=>?_
 exact Constant_none (isnot_none_gen ⟨.bl _,H1,I1,by rw [r1.qV];rfl,q1⟩)
inductive BI (Q:(Bool->Hp->Prop)) (x:V) (H1:Hp):Prop
 | mk (c:_) (_:x=.bl c) (_:Q c H1)
def tB (t:TE):TT:=fun σ H Q=>t σ H fun x H1=>BI Q x H1
theorem fG {op:CmpOp} {t:TE} (h:PC X op a b t) (h1:behindInMarks op b=false:=by first | exact qU _ (by decide) (by decide) | rfl):PE X (.Compare a [op] [b] pos) t:=fun pins s σ H Q I hw=>wpAny_Compare1 (h pins s σ H Q I hw) h1
theorem bW {op:CmpOp} {t:TE} (h:PC X op a b t) (h1:behindInMarks op b=false:=by first | exact qU _ (by decide) (by decide) | rfl):PT X (.Compare a [op] [b] pos) (tB t):=by
 intro pins s σ H Q I hw
 refine wpAny_isTrue_Compare1 (bA (h pins s σ H _ I hw) fun v s1 h1=>bA h1 fun u s2 h2=>bA h2 fun c s3 ⟨x,H1,I1,r1,q1⟩=>?_) h1
 obtain⟨d,rfl,q⟩:=q1
 cases r1
 exact wpAny_truthy_bool ⟨H1,I1,q⟩
theorem eX {e:Expr} {t:TE} (h:PE X e t) (he:∀ whole,isTrue e X.env whole=(do let v <-whole;standAt e.pos;holding [v] (truthy v)):=by intro _;rfl):PT X e (tB t):=by
 intro pins s σ H Q I hw
 refine isTrue_plain (bA (h pins s σ H _ I hw) fun v s1 ⟨x,H1,I1,r1,q1⟩=>?_) (he _)
 obtain⟨d,rfl,q⟩:=q1
 cases r1
 exact wpAny_truthy_bool ⟨H1,I1,q⟩
variable {tA tB':TT} {rest:List Expr}
def CI (t u:TT):TT:=fun σ H Q=>t σ H fun c H1=>if c=true then u σ H1 Q else Q false H1
def Dd (t u:TT):TT:=fun σ H Q=>t σ H fun c H1=>if c=true then Q true H1 else u σ H1 Q
def CJ (t:TT):TT:=fun σ H Q=>t σ H fun c H1=>Q (!c) H1
theorem dt (ha:PT X a tA):PW X (.BoolOp .And [a] pos) tA:=by
 intro wh pins s σ H Q I h
 refine isTrue_and (bA (ha pins s σ H Q I h) fun c s1 e=>?_)
 cases c with
 | true=>exact isTrue_and_nil e
 | false=>exact e
theorem fT (ha:PT X a tA):PW X (.BoolOp .Or [a] pos) tA:=by
 intro wh pins s σ H Q I h
 refine isTrue_or (bA (ha pins s σ H Q I h) fun c s1 e=>?_)
 cases c with
 | false=>exact isTrue_or_nil e
 | true=>exact e
theorem dM (ha:PT X a tA) (hb:PW X (.BoolOp .And (b :: rest) pos) tB'):PW X (.BoolOp .And (a :: b :: rest) pos) (CI tA tB'):=by
 intro wh pins s σ H Q I h
 refine isTrue_and (bA (ha pins s σ H _ I h) fun c s1 ⟨H1,I1,q1⟩=>?_)
 cases c with
 | true=>exact hb wh pins s1 σ H1 Q I1 q1
 | false=>exact⟨H1,I1,q1⟩
theorem iz (ha:PT X a tA) (hb:PW X (.BoolOp .Or (b :: rest) pos) tB'):PW X (.BoolOp .Or (a :: b :: rest) pos) (Dd tA tB'):=by
 intro wh pins s σ H Q I h
 refine isTrue_or (bA (ha pins s σ H _ I h) fun c s1 ⟨H1,I1,q1⟩=>?_)
 cases c with
 | true=>exact⟨H1,I1,q1⟩
 | false=>exact hb wh pins s1 σ H1 Q I1 q1
theorem nG (ha:PT X a tA):PT X (.UnaryOp .Not a pos) (CJ tA):=by
 intro pins s σ H Q I h
 exact isTrue_not (ha pins s σ H (fun c H1=>Q (!c) H1) I h)
inductive xO (tb:TE) (σ : St) (Q:VK) (x:V) (H1:Hp):Prop
 | mk (c:_) (_:x=.bl c) (_:if c=true then tb σ H1 Q else Q (.bl false) H1)
def BJ (ta tb:TE):TE:=fun σ H Q=>ta σ H fun x H1=>xO tb σ Q x H1
inductive zP (tb:TE) (σ : St) (Q:VK) (x:V) (H1:Hp):Prop
 | mk (c:_) (_:x=.bl c) (_:if c=true then Q (.bl true) H1 else tb σ H1 Q)
def CK (ta tb:TE):TE:=fun σ H Q=>ta σ H fun x H1=>zP tb σ Q x H1
theorem eD {op} {t:TE} (h:PE X a t):PE X (.BoolOp op [a] pos) t:=fun pins s σ H Q I hw=>BoolOp_one (h pins s σ H Q I hw)
theorem jB (ha:PE X a ta) (hb:PE X (.BoolOp .And (b :: rest) pos) tb):PE X (.BoolOp .And (a :: b :: rest) pos) (BJ ta tb):=by
 intro pins s σ H Q I h
 refine BoolOp_and (bA (ha pins s σ H _ I h) fun v s1 ⟨x,H1,I1,r1,q1⟩=>?_)
 obtain⟨c,rfl,q1⟩:=q1
 cases r1
 refine wpAny_truthy_bool ?_
 cases c with
 | true=>exact hb pins s1 σ H1 Q I1 q1
 | false=>exact⟨.bl false,H1,I1,rfl,q1⟩
theorem jU (ha:PE X a ta) (hb:PE X (.BoolOp .Or (b :: rest) pos) tb):PE X (.BoolOp .Or (a :: b :: rest) pos) (CK ta tb):=by
 intro pins s σ H Q I h
 refine BoolOp_or (bA (ha pins s σ H _ I h) fun v s1 ⟨x,H1,I1,r1,q1⟩=>?_)
 obtain⟨c,rfl,q1⟩:=q1
 cases r1
 refine wpAny_truthy_bool ?_
 cases c with
 | false=>exact hb pins s1 σ H1 Q I1 q1
 | true=>exact⟨.bl true,H1,I1,rfl,q1⟩
def De (t:TT) (ta tb:TE):TE:=fun σ H Q=>t σ H fun c H1=>if c=true then ta σ H1 Q else tb σ H1 Q
theorem eQ {c:Expr} (hc:PT X c tA) (ha:PE X a ta) (hb:PE X b tb):PE X (.IfExp c a b pos) (De tA ta tb):=by
 intro pins s σ H Q I h
 refine wpAny_IfExp (bA (hc pins s σ H _ I h) fun d s1 ⟨H1,I1,q1⟩=>?_)
 cases d with
 | true=>exact ha pins s1 σ H1 Q I1 q1
 | false=>exact hb pins s1 σ H1 Q I1 q1
end
def aP (K:PySem.W.Frag) (H:Hp) (a:Addr) (xs:List V):Prop :=
 Rd H a (.lst xs) \/
  ∃ (o:Obj) (its:Array Value) (n:Nat),K.lookup a=some o/\o.cls=.type "list" /\ o.dict=none/\o.data=.seq its n/\its.size<=sizeLine/\Vals xs its.toList
def ar (K:PySem.W.Frag) (H:Hp) (a:Addr) (xs:List V):Prop :=
 Rd H a (.tup xs) \/
  ∃ (o:Obj) (its:Array Value) (n:Nat),K.lookup a=some o/\o.cls=.type "tuple" /\ o.data=.seq its n/\its.size<=sizeLine/\Vals xs its.toList
def CL:Value->Option V
 | .none=>some .aC
 | .bool b=>some (.bl b)
 | .int i _=>some (.int i)
 | .str x _=>some (.str x)
 | .bytes b _=>some (.ky b)
 | .float b _=>some (.qQ b)
 | .ref a=>some (.ref a)
 | .type n=>some (.ty n)
 | _=>none
theorem RelV.abs {x:V} {u:Value} (r:RelV x u):CL u=some x:=by
 cases x with
 | aC=>cases r;rfl
 | bl _=>cases r;rfl
 | int _=>obtain⟨t,rfl⟩:=r;rfl
 | str _=>obtain⟨t,rfl⟩:=r;rfl
 | ky _=>obtain⟨t,rfl⟩:=r;rfl
 | qQ _=>obtain⟨t,rfl⟩:=r;rfl
 | ref _=>cases r;rfl
 | ty _=>cases r;rfl
theorem RelV.inj {x y:V} {u:Value} (r:RelV x u) (q:RelV y u):x=y:=Option.some.inj (r.abs.symm.trans q.abs)
theorem Vals.inj:∀ {xs ys:List V} {us:List Value},Vals xs us->Vals ys us->xs=ys
 | _,_,_,.nil,.nil=>rfl
 | _,_,_,.cons r t,.cons r' t'=>by rw [r.inj r',Vals.inj t t']
section
variable {X:Cx} {pins:List (Addr × Obj)} {σ : St} {H:Hp} {s:Shared} {a:Addr} {xs ys:List V}
theorem aP.of {K:PySem.W.Frag} (h:H a=some (.lst xs)):aP K H a xs:=.inl (.inl h)
theorem ar.of {K:PySem.W.Frag} (h:H a=some (.tup xs)):ar K H a xs:=.inl (.inl h)
theorem Inv.list (I:Inv X pins σ H s) (h:aP X.K H a xs):∃ its:List Value,Vals xs its/\PlainL s.heap a its.toArray/\xs.length<=sizeLine:=by
 rcases h with h | ⟨o,its,n,hk,hc,hd,hs,hz,r⟩
 ·obtain⟨z,its,n,r,e⟩:=h.ok I.aN
  exact⟨its,r,⟨_,n,e,rfl,rfl,rfl⟩,z⟩
 ·refine⟨its.toList,r,⟨o,n,I.fS a o hk,hc,hd,by simpa using hs⟩,?_⟩
  have e:=r.length
  simp only [Array.length_toList] at e
  omega
theorem Inv.tuple (I:Inv X pins σ H s) (h:ar X.K H a xs):∃ its:List Value,Vals xs its/\IsTup s.heap a its.toArray/\xs.length<=sizeLine:=by
 rcases h with h | ⟨o,its,n,hk,hc,hs,hz,r⟩
 ·obtain⟨z,its,r,o,e,c,n,d,_⟩:=h.ok I.aN
  exact⟨its,r,⟨o,e,c,n,d⟩,z⟩
 ·refine⟨its.toList,r,⟨o,I.fS a o hk,hc,n,by simpa using hs⟩,?_⟩
  have e:=r.length
  simp only [Array.length_toList] at e
  omega
theorem Inv.xP (I:Inv X pins σ H s) (h:aP X.K H a xs) (h':aP X.K H a ys):xs=ys:=by
 obtain⟨its,r,⟨o,n,e,_,_,d⟩,_⟩:=I.list h
 obtain⟨its',r',⟨o',n',e',_,_,d'⟩,_⟩:=I.list h'
 rw [e] at e';cases e'
 rw [d] at d'
 injection d' with d1 _
 have:its=its':=by simpa using congrArg Array.toList d1
 subst this
 exact r.inj r'
theorem Inv.kR (I:Inv X pins σ H s) (h:ar X.K H a xs) (h':ar X.K H a ys):xs=ys:=by
 obtain⟨its,r,⟨o,e,_,n,d⟩,_⟩:=I.tuple h
 obtain⟨its',r',⟨o',e',_,n',d'⟩,_⟩:=I.tuple h'
 rw [e] at e';cases e'
 rw [d] at d'
 injection d' with d1 _
 have:its=its':=by simpa using congrArg Array.toList d1
 subst this
 exact r.inj r'
end
abbrev Cx.jg (X:Cx) (E:Value->Shared->Prop):Cx:={ X with xe:=E }
abbrev Cx.zy (X:Cx):Cx:=X.jg fun _ _=>False
theorem Cx.Ok.jg {X:Cx} (ok:X.Ok) (E:Value->Shared->Prop):(X.jg E).Ok :=
 ⟨ok.mod,ok.kind,ok.glob,ok.blt,ok.above,ok.inj,ok.has,ok.wj,ok.hd,ok.frames,ok.zw,ok.Co,ok.bs,ok.pD,ok.qR,ok.u9,ok.iJ,ok.ue⟩
theorem Cx.Ok.gX {X:Cx} {E:Value->Shared->Prop} (ok:(X.jg E).Ok):X.Ok :=
 ⟨ok.mod,ok.kind,ok.glob,ok.blt,ok.above,ok.inj,ok.has,ok.wj,ok.hd,ok.frames,ok.zw,ok.Co,ok.bs,ok.pD,ok.qR,ok.u9,ok.iJ,ok.ue⟩
section
variable {X:Cx} {pins:List (Addr × Obj)} {σ : St} {H:Hp} {s:Shared} {E:Value->Shared->Prop}
theorem Inv.jg (I:Inv X pins σ H s) (E:Value->Shared->Prop):Inv (X.jg E) pins σ H s:=⟨I.ok.jg E,I.os,I.bare,I.base,I.loc,I.cell,I.free,I.en,I.pin,I.aN,I.len⟩
theorem Inv.gX (I:Inv (X.jg E) pins σ H s):Inv X pins σ H s:=⟨I.ok.gX,I.os,I.bare,I.base,I.loc,I.cell,I.free,I.en,I.pin,I.aN,I.len⟩
theorem SP.gX {D:Ends} {f:Flow} {s':Shared} (h:SP (X.jg E) pins D f s'):SP X pins D f s':=by
 cases f with
 | next=>obtain⟨σ',H',I,q⟩:=h;exact⟨σ',H',I.gX,q⟩
 | brk=>obtain⟨σ',H',I,q⟩:=h;exact⟨σ',H',I.gX,q⟩
 | cont=>obtain⟨σ',H',I,q⟩:=h;exact⟨σ',H',I.gX,q⟩
 | ret u=>obtain⟨v,σ',H',I,r,q⟩:=h;exact⟨v,σ',H',I.gX,r,q⟩
theorem iK.zy {st:List Stmt} {t:TS} (h:iK X.zy st t):iK X st t:=fun pins s σ H D I hw =>
 wpAny_mono (h pins s σ H D (I.jg _) hw) (fun _ _ q=>q.gX) fun _ _ z=>False.elim z
end
section
variable {X:Cx} {st:Stmt} {rest:List Stmt} {t u:TS} {e:Expr} {te:TE} {pos:Pos}
def BK:TS:=fun D σ H=>D.nx σ H
def CM (t u:TS):TS:=fun D σ H=>t { D with nx:=u D } σ H
theorem aL:iK X [] BK:=fun _ _ σ H _ I h=>wpAny_execs_nil ⟨σ,H,I,h⟩
theorem af (h1:PS X st t) (h2:iK X rest u):iK X (st :: rest) (CM t u):=by
 intro pins s σ H D I h
 refine wpAny_execs_cons (bA (h1 pins s σ H { D with nx:=u D } I h) fun f s1 q=>?_)
 cases f with
 | next =>
  obtain⟨σ',H',I',q⟩:=q
  exact h2 pins s1 σ' H' D I' q
 | ret v=>exact q
 | brk=>exact q
 | cont=>exact q
theorem ai (h1:PS X st t):iK X [st] t:=by
 intro pins s σ H D I h
 refine wpAny_execs_cons (bA (h1 pins s σ H D I h) fun f s1 q=>?_)
 cases f with
 | next=>exact wpAny_execs_nil q
 | ret v=>exact q
 | brk=>exact q
 | cont=>exact q
theorem Inv.quiet {pins:List (Addr × Obj)} {σ : St} {H:Hp} {s:Shared} (I:Inv X pins σ H s):interactive X.env=false:=by simp [interactive,I.ok.kind]
def BL (te:TE):TS:=fun D σ H=>te σ H fun _ H1=>D.nx σ H1
theorem dI (he:PE X e te) (hs:swapsWith e none pos.line X.env=pure false:=by rfl):PS X (.Expr e pos) (BL te):=by
 intro pins s σ H D I h
 exact wpAny_Expr_any (bA (he pins s σ H _ I h) fun v s1 ⟨x,H1,I1,r1,q1⟩=>⟨σ,H1,I1,q1⟩) I.quiet hs
def xQ (te:TE):TS:=fun D σ H=>te σ H D.rt
theorem aB (he:PE X e te):PS X (.Return (some e) pos) (xQ te):=by
 intro pins s σ H D I h
 exact wpAny_Return_some (bA (he pins s σ H _ I h) fun v s1 ⟨x,H1,I1,r1,q1⟩=>⟨x,σ,H1,I1,r1,q1⟩)
def CN (c:TT) (t u:TS):TS:=fun D σ H=>c σ H fun b H1=>if b=true then t D σ H1 else u D σ H1
theorem aV {c:Expr} {a b:List Stmt} {tc:TT} (hc:PT X c tc) (ha:iK X a t) (hb:iK X b u):PS X (.If c a b pos) (CN tc t u):=by
 intro pins s σ H D I h
 refine wpAny_If (bA (hc pins s σ H _ I h) fun d s1 ⟨H1,I1,q1⟩=>?_)
 cases d with
 | true=>exact ha pins s1 σ H1 D I1 q1
 | false=>exact hb pins s1 σ H1 D I1 q1
end
abbrev TG:=V->St->Hp->(St->Hp->Prop)->Prop
abbrev qW:=List V->St->Hp->(St->Hp->Prop)->Prop
def PG (X:Cx) (target:Expr) (t:TG):Prop :=
 ∀ (pins:List (Addr × Obj)) (s:Shared) (σ : St) (H:Hp) (v:V) (u:Value) (Q:St->Hp->Prop),Inv X pins σ H s->RelV v u->t v σ H Q ->
  wpAny (model X.prog X.w) X.A (assign target X.env u) (fun _ s'=>∃ σ' H',Inv X pins σ' H' s'/\Q σ' H') X.xe s
def zz (X:Cx) (ts:List Expr) (t:qW):Prop :=
 ∀ (pins:List (Addr × Obj)) (s:Shared) (σ : St) (H:Hp) (vs:List V) (us:List Value) (Q:St->Hp->Prop),Inv X pins σ H s->Vals vs us->t vs σ H Q ->
  wpAny (model X.prog X.w) X.A (assignInOrder ((assignEach ts X.env).map (·.2)) us) (fun _ s'=>∃ σ' H',Inv X pins σ' H' s'/\Q σ' H') X.xe s
abbrev xR:=V->V->V->Hp->(Hp->Prop)->Prop
def AH (X:Cx) (t:xR):Prop :=
 ∀ (pins:List (Addr × Obj)) (s:Shared) (σ : St) (H:Hp) (o i v:V) (ov iv u:Value) (Q:Hp->Prop),Inv X pins σ H s->RelV o ov->RelV i iv->RelV v u->t o i v H Q ->
  wpAny (model X.prog X.w) X.A (setItem ov iv u) (fun _ s'=>∃ H',Inv X pins σ H' s'/\Q H') X.xe s
section
variable {X:Cx} {pos:Pos}
def lT (i:Nat):TG:=fun v σ H Q=>Q (σ.set i (some v)) H
theorem zQ {i:Nat} {x:Str} (hN:X.N.Nodup) (hi:X.N[i]? = some x) (hx:Loc X.env.scope x) (hf:X.fn x=true\/X.env.scope.names.lookup x=some .local:=by first | exact .inl rfl | exact .inr rfl | assumption):PG X (.Name x pos) (lT i):=by
 intro pins s σ H v u Q I r h
 exact wpAny_assign_Name (jT I hN hi hx r (fun s' I'=>⟨_,H,I',h⟩) hf)
def CO:qW:=fun vs σ H Q=>vs = []/\Q σ H
inductive BM (t:TG) (u:qW) (vs:List V) (σ : St) (H:Hp) (Q:(St->Hp->Prop)):Prop
 | mk (v r:_) (_:vs=v :: r) (_:t v σ H fun σ' H'=>u r σ' H' Q)
theorem bR:zz X [] CO:=by
 intro pins s σ H vs us Q I r h
 obtain⟨e,h⟩:=h
 subst e
 cases r
 exact assignInOrder_nil ⟨σ,H,I,h⟩
theorem aH {e:Expr} {es:List Expr} {t:TG} {u:qW} (h1:PG X e t) (h2:zz X es u)
  (hs:(assignEach (e :: es) X.env).map (·.2)=assign e X.env :: (assignEach es X.env).map (·.2):=by rfl):zz X (e :: es) (BM t u):=by
 intro pins s σ H vs us Q I r h
 obtain⟨v,vr,e1,h⟩:=h
 subst e1
 cases r with
 | cons r rr =>
  rw [hs]
  refine assignInOrder_cons (bA (h1 pins s σ H _ _ _ I r h) fun _ s1 ⟨σ1,H1,I1,q1⟩=>?_)
  exact h2 pins s1 σ1 H1 _ _ Q I1 rr q1
inductive xS (K:PySem.W.Frag) (n:Nat) (t:qW) (v:V) (σ : St) (H:Hp) (Q:(St->Hp->Prop)):Prop
 | mk (a xs:_) (_:v=.ref a) (_:ar K H a xs) (_:xs.length=n) (_:t xs σ H Q)
theorem cm {es:List Expr} {k:Nat} {t:qW} {n:Nat} (hc:X.calm=true) (h:zz X es t)
  (hn:(assignEach es X.env).length=n:=by rfl) (hst:(assignEach es X.env).findIdx? (·.1)=none:=by rfl):PG X (.Tuple es k pos) (xS X.K n t):=by
 intro pins s σ H v u Q I r hw
 obtain⟨a,xs,e1,hq,hl,hw⟩:=hw
 subst e1
 cases r
 obtain⟨its,rv,ht,hz⟩:=I.tuple hq
 refine assign_Tuple_tuple (I.ok.hd hc) ht (by simp [hn,<-hl,rv.length]) hst fun h' hx=>?_
 have I1:Inv X pins σ H { s with heap:=h' }:=I.kept (t':=s.toks) fun b o e=>hx b o (Nat.ne_of_lt (Heap.lt_size e)) e
 exact h pins _ σ H xs _ Q I1 (by simpa using rv) hw
def CP (to ti:TE) (t:xR):TG:=fun v σ H Q=>to σ H fun o H1=>ti σ H1 fun i H2=>t o i v H2 fun H3=>Q σ H3
theorem eY {o i:Expr} {to ti:TE} {t:xR} (ho:PE X o to) (hi:PE X i ti) (hs:AH X t)
  (ha:∀ v,assign (.Subscript o i pos) X.env v=(do
   let ov <-holding [v] (eval o X.env)
   let iv <-holding [v,ov] (eval i X.env)
   standAt pos
   holding [v,ov,iv] (setItem ov iv v)
   release [v,ov,iv] []):=by intro _;rfl):PG X (.Subscript o i pos) (CP to ti t):=by
 intro pins s σ H v u Q I r h
 rw [ha]
 refine wpAny_bind (wpAny_holding (bA (ho pins s σ H _ I h) fun ov s1 ⟨x,H1,I1,r1,q1⟩=>?_))
 refine wpAny_bind (wpAny_holding (bA (hi pins s1 σ H1 _ I1 q1) fun iv s2 ⟨y,H2,I2,r2,q2⟩=>?_))
 refine wpAny_bind (wpAny_standAt (wpAny_bind (wpAny_holding (bA (hs pins s2 σ H2 x y v ov iv u _ I2 r1 r2 r q2) fun _ s3 ⟨H3,I3,q3⟩=>?_))))
 exact wpAny_release ⟨σ,H3,I3,q3⟩
def oE (te:TE) (g:TG):TS:=fun D σ H=>te σ H fun x H1=>g x σ H1 D.nx
theorem cx {tg e:Expr} {te:TE} {g:TG} (he:PE X e te) (hg:PG X tg g) (hs:swapsWithSole [tg] e pos.line X.env=pure false:=by rfl) (hw:swappedStores [tg] e X.env=pure none:=by rfl)
  (h1:(assignEach [tg] X.env).map (·.2) = [assign tg X.env]:=by rfl):PS X (.Assign [tg] e pos) (oE te g):=by
 intro pins s σ H D I h
 refine wpAny_Assign_stores (bA (he pins s σ H _ I h) fun v s1 ⟨x,H1,I1,r1,q1⟩=>?_) hs hw
 rw [h1]
 exact bA (hg pins s1 σ H1 x v _ I1 r1 q1) fun _ s2 q=>q
theorem AI {i:Nat} {x:Str} {e:Expr} {te:TE} {pos':Pos} (hN:X.N.Nodup) (hi:X.N[i]? = some x) (hx:Loc X.env.scope x) (he:PE X e te) (hs:swapsWith e (some (.Name x pos')) pos.line X.env=pure false:=by rfl) (hf:X.fn x=true\/X.env.scope.names.lookup x=some .local:=by first | exact .inl rfl | exact .inr rfl | assumption) :
  PS X (.Assign [.Name x pos'] e pos) (oE te (lT i)):=by
 intro pins s σ H D I h
 refine wpAny_Assign_Name (bA (he pins s σ H _ I h) fun v s1 ⟨y,H1,I1,r1,q1⟩=>?_) hs
 exact jT I1 hN hi hx r1 (fun s2 I2=>⟨_,H1,I2,q1⟩) hf
inductive zR (i:Nat) (j:Nat) (D:Ends) (σ : St) (vs:List V) (H1:Hp):Prop
 | mk (v w:_) (_:vs = [v,w]) (_:D.nx ((σ.set i (some v)).set j (some w)) H1)
def CQ (i j:Nat) (ta:TA):TS:=fun D σ H=>ta σ H fun vs H1=>zR i j D σ vs H1
theorem wk {i j:Nat} {x y:Str} {a b:Expr} {ta:TA} {px py pt:Pos} {kt k2 pt2} (hc:X.calm=true) (hN:X.N.Nodup) (hi:X.N[i]? = some x) (hj:X.N[j]? = some y) (hij:i ≠ j)
  (hx:X.env.scope.names.lookup x=some .local) (hy:X.env.scope.names.lookup y=some .local) (ha:PA X [a,b] ta)
  (hw:swappedStores [.Tuple [.Name x px,.Name y py] kt pt] (.Tuple [a,b] k2 pt2) X.env=pure (some [x,y]))
  (hs:swapsWithSole [.Tuple [.Name x px,.Name y py] kt pt] (.Tuple [a,b] k2 pt2) pos.line X.env=pure false:=by rfl) :
  PS X (.Assign [.Tuple [.Name x px,.Name y py] kt pt] (.Tuple [a,b] k2 pt2) pos) (CQ i j ta):=by
 intro pins s σ H D I h
 rw [exec_Assign_arm]
 refine wpAny_bind (wpAny_standAt ?_)
 rw [hs]
 refine wpAny_bind (wpAny_pure ?_)
 rw [if_neg (by decide)]
 refine wpAny_bind (Tuple_ (bA (ha _ pins s σ H _ I h) fun us s1 ⟨vs,H1,I1,r1,q1⟩=>?_))
 obtain⟨v,w,e1,q1⟩:=q1
 subst e1
 obtain⟨u1,u2,rfl,rv,rw'⟩:∃ u1 u2,us = [u1,u2]/\RelV v u1/\RelV w u2:=by
  cases r1 with
  | cons p q =>
   cases q with
   | cons p' q' =>
    cases q'
    exact⟨_,_,rfl,p,p'⟩
 refine wpAny_newObj_type ?_ (by show 2<=sizeLine;decide)
 have I2:Inv X pins σ H1 { s1 with heap:=s1.heap.push { cls:=.type "tuple",data:=.seq [u1,u2].toArray } }:=I1.kept (t':=s1.toks) fun b o e=>Heap.get?_push_of_some _ e
 rw [hw]
 refine wpAny_bind (wpAny_pure ?_)
 show wpAny (model X.prog X.w) X.A (do rule "assign.swapped-stores";let items <-unpackItems (.ref s1.heap.objs.size) 2 none;assignInOrder [fun v=>bindName X.env y v,fun v=>bindName X.env x v] items.reverse;pure Flow.next) _ _ _
 refine wpAny_bind (wpAny_rule (wpAny_bind (unpackItems_tuple (items:=#[u1,u2]) (I.ok.hd hc) (IsTup.new s1.heap _) fun h' hx'=>?_)))
 have I3:=I2.kept (h':=h') (t':=s1.toks) fun b o e=>hx' b o (Nat.ne_of_lt (Heap.lt_size e)) e
 show wpAny _ _ (assignInOrder [fun v=>bindName X.env y v,fun v=>bindName X.env x v] [u2,u1] >>= fun _=>pure Flow.next) _ _ _
 refine wpAny_bind (assignInOrder_cons (wpAny_bindName (jT I3 hN hj (.inl hy) rw' (fun s2 I4=>?_) (.inr hy))))
 refine assignInOrder_cons (wpAny_bindName (jT I4 hN hi (.inl hx) rv (fun s3 I5=>assignInOrder_nil (wpAny_pure ?_)) (.inr hx)))
 rw [List.set_comm _ _ (Ne.symm hij)] at I5
 exact⟨_,H1,I5,q1⟩
end
section
variable {X:Cx} {pos:Pos}
def AJ (c:TT) (tb:TS):TS:=fun D σ H=>∃ W:Nat->St->Hp->Prop,(∃ m,W m σ H)/\∀ m σ H,W m σ H ->
 c σ H fun b H1=>if b=true then ∃ N:St->Hp->Prop,(∀ σ' H',N σ' H'->∃ m',m' < m/\W m' σ' H')/\tb { D with nx:=N,ct:=N,bk:=D.nx } σ H1 else D.nx σ H1
theorem qX {c:Expr} {body:List Stmt} {tc:TT} {tb:TS} (hp:PassesOwn (model X.prog X.w) X.A X.env X.xe) (hc:PT X c tc) (hb:iK X body tb):PS X (.While c body [] pos) (AJ tc tb):=by
 intro pins s σ H D I h
 obtain⟨W,⟨m0,w0⟩,turn⟩:=h
 refine wpAny_While (codeAny_whileLoop (fun n s'=>∃ σ' H',Inv X pins σ' H' s'/\W n σ' H') ?_ m0 ⟨σ,H,I,w0⟩)
 rintro n s1 ⟨σ1,H1,I1,w1⟩
 refine wpAny_passesOwn hp (bA (hc pins s1 σ1 H1 _ I1 (turn n σ1 H1 w1)) fun b s2 ⟨H2,I2,q2⟩=>?_)
 cases b with
 | true =>
  obtain⟨N,hN,q2⟩:=q2
  rw [if_pos rfl]
  refine wpAny_passesOwn hp (bA (hb pins s2 σ1 H2 _ I2 q2) fun f s3 q3=>?_)
  cases f with
  | next =>
   obtain⟨σ3,H3,I3,n3⟩:=q3
   obtain⟨m',hm,w3⟩:=hN σ3 H3 n3
   exact⟨m',hm,σ3,H3,I3,w3⟩
  | cont =>
   obtain⟨σ3,H3,I3,n3⟩:=q3
   obtain⟨m',hm,w3⟩:=hN σ3 H3 n3
   exact⟨m',hm,σ3,H3,I3,w3⟩
  | brk=>exact q3
  | ret v=>exact q3
 | false =>
  rw [if_neg Bool.false_ne_true]
  exact wpAny_execs_nil ⟨σ1,H2,I2,q2⟩
end
structure It where
 go:Nat->Hp->Prop
 pF:Nat->Hp->V->Hp->Prop
 stop:Nat->Hp->Prop
def gy (X:Cx) (pins:List (Addr × Obj)) (H:Hp) (b:Addr):Prop :=
 H b=none/\b ≠ X.env.locals/\b ∉ X.fs/\(b ∈ X.ex\/X.dG.heap.objs.size<=b)/\(∀ x c,X.env.cells.lookup x=some c->c ≠ b)/\∀ p ∈ X.pn++pins,p.1 ≠ b
theorem Inv.mU {X:Cx} {pins:List (Addr × Obj)} {σ : St} {H H':Hp} {s:Shared} {b:Addr} (I:Inv X pins σ H s) (hb:s.heap.objs.size<=b) (hn:H' b=none):gy X pins H' b:=by
 refine⟨hn,Nat.ne_of_gt (Nat.lt_of_lt_of_le I.lt hb),I.CG hb,.inr (Nat.le_trans I.sz hb),fun x c e z=>?_,fun p hp z=>?_⟩
 ·obtain⟨v,q⟩:=I.cell x c e
  exact absurd (Nat.lt_of_lt_of_le q.lt (by rw [z];exact hb)) (Nat.lt_irrefl _)
 ·exact absurd (Nat.lt_of_lt_of_le (Heap.lt_size (I.pin p hp).1) (by rw [z];exact hb)) (Nat.lt_irrefl _)
structure Turn (P:Program) (w:World) (K:PySem.W.Frag) (tg:Expr) (J:It) (fp:List Addr) (it:Addr) (tn:Nat->Heap->Prop):Prop where
 mem:it ∈ fp
 obj:∀ i h,tn i h->∀ b ∈ fp,∃ o,h.get? b=some o/\∀ v,o.data ≠ .cell v
 keep:∀ i h h',tn i h->(∀ b ∈ fp,∀ o,h.get? b=some o->h'.get? b=some o)->tn i h'
 item:∀ (X:Cx),X.prog=P->X.w=w->X.K=K->X.calm=true->∀ (i:Nat) (pins:List (Addr × Obj)) (s:Shared) (σ : St) (H:Hp) (E:Value->Shared->Prop),Inv X pins σ H s->(∀ b ∈ fp,gy X pins H b)->tn i s.heap->J.go i H ->
  wpAny (model P w) X.A (pyNext (.ref it)) (fun r s1=>∃ u,r=some u /\
   wpAny (model P w) X.A (letOwnedTupleGo tg (.ref it) u) (fun _ s2=>∃ x H',Inv X pins σ H' s2/\RelV x u/\J.pF i H x H'/\tn (i+1) s2.heap/\∀ b ∈ fp,H' b=none) E s1) E s
 done:∀ (X:Cx),X.prog=P->X.w=w->X.K=K->X.calm=true->∀ (i:Nat) (pins:List (Addr × Obj)) (s:Shared) (σ : St) (H:Hp) (E:Value->Shared->Prop),Inv X pins σ H s->(∀ b ∈ fp,gy X pins H b)->tn i s.heap->J.stop i H ->
  wpAny (model P w) X.A (pyNext (.ref it)) (fun r s1=>r=none/\Inv X pins σ H s1) E s
 self:∀ (A:Around) (i:Nat) (s:Shared) (Q:Value->Shared->Prop) (E:Value->Shared->Prop),tn i s.heap->Q (.ref it) s->wpAny (model P w) A (pyIter (.ref it)) Q E s
abbrev TI:=St->Hp->(It->Hp->Prop)->Prop
def Cq (X:Cx) (pins:List (Addr × Obj)) (σ : St) (tg:Expr) (R:It->Hp->Prop) (itv:Value) (s2:Shared):Prop :=
 ∃ (it:Addr) (fp:List Addr) (tn:Nat->Heap->Prop) (J:It) (H':Hp),itv=.ref it/\Inv X pins σ H' s2/\Turn X.prog X.w X.K tg J fp it tn/\tn 0 s2.heap/\(∀ b ∈ fp,gy X pins H' b)/\R J H'
def PI (X:Cx) (tg iter:Expr) (wi:TI):Prop :=
 ∀ (pins:List (Addr × Obj)) (s:Shared) (σ : St) (H:Hp) (R:It->Hp->Prop),Inv X pins σ H s->wi σ H R ->
  wpAny (model X.prog X.w) X.A (eval iter X.env) (fun v s1=>wpAny (model X.prog X.w) X.A (pyIter v) (Cq X pins σ tg R) X.xe s1) X.xe s
theorem qJ {M:Model} {A:Around} {E:Value->Shared->Prop} {s:Shared} {tg:Expr} {it:Addr} {u:Value} {o:Obj} {n:String} {vs:Array Value} {Q:Unit->Shared->Prop} (ho:s.heap.get? it=some o) (hc:o.cls=.type n) (hd:o.data=.fields vs)
    (hn:["enumerate", "zip", "dict_itemiterator", "dict_reverseitemiterator", "odict_iterator", "itertools.zip_longest", "itertools.pairwise"].contains n=false) (hQ:Q () s):wpAny M A (letOwnedTupleGo tg (.ref it) u) Q E s:=by
  unfold letOwnedTupleGo
  cases tg <;> first
    | exact wpAny_pure hQ
    | (cases u <;> first
        | exact wpAny_pure hQ
        | (refine wpAny_bind (wpAny_load ho ?_)
           rw [hc,hd]
           show wpAny M A (if (["enumerate", "zip", "dict_itemiterator", "dict_reverseitemiterator", "odict_iterator", "itertools.zip_longest", "itertools.pairwise"].contains n && vs[0]? == some (rawInt _))=true then _ else _) Q E s
           rw [if_neg (by intro h;rw [hn,Bool.false_and] at h;cases h)]
           exact wpAny_pure hQ))
def ui (K:PySem.W.Frag) (a:Addr):It :=
 ⟨fun i H=>∃ xs x,aP K H a xs/\xs[i]? = some x,fun i H x H'=>H' = H/\∀ xs,aP K H a xs->xs[i]? = some x,fun i H=>∃ xs,aP K H a xs/\xs.length<=i⟩
def qY (K:PySem.W.Frag) (a:Addr):It :=
 ⟨fun i H=>∃ xs x,ar K H a xs/\xs[i]? = some x,fun i H x H'=>H' = H/\∀ xs,ar K H a xs->xs[i]? = some x,fun i H=>∃ xs,ar K H a xs/\xs.length<=i⟩
def qZ (lo:Int) (n:Nat):It:=⟨fun i _=>i < n,fun i H x H'=>H' = H/\x=.int (lo+i),fun i _=>n<=i⟩
theorem wm {P:Program} {w:World} {K:PySem.W.Frag} {tg:Expr} (a it:Addr):Turn P w K tg (ui K a) [it] it (fun i h=>h.IsListIter it a i) where
 mem:=by simp
 obj:=fun i h st b hb=>by
  have e:b=it:=by simpa using hb
  subst e
  obtain⟨o,e,c,d⟩:=st
  exact⟨o,e,fun v z=>by rw [d] at z;cases z⟩
 keep:=fun i h h' st k=>st.at fun o e=>k it (by simp) o e
 item:=by
  intro X hP hw hK hc i pins s σ H E I hf st hg
  subst hP hw hK
  obtain⟨xs,x,hq,hx⟩:=hg
  obtain⟨its,rv,p,hz⟩:=I.list hq
  obtain⟨u,hu,ru⟩:=rv.get hx
  obtain⟨f0,f1,f2,f3,f4,f5⟩:=hf it (by simp)
  refine wpAny_pyNext_list_item st p.isList (x:=u) (by simpa using hu) fun h' st' sb=>?_
  have I1:Inv X pins σ H { s with heap:=h' }:=I.turned (t':=s.toks) (fun b o hb e=>(sb.2 b hb).trans e) f0 f1 f3 f4 f5
  obtain⟨o,e,c,d⟩:=id st'
  exact⟨u,rfl,qJ (s:={ s with heap:=h' }) e c d (by decide) ⟨x,H,I1,ru,⟨rfl,fun ys hy=>by rw [I.xP hy hq];exact hx⟩,st',fun b hb=>(hf b hb).1⟩⟩
 done:=by
  intro X hP hw hK hc i pins s σ H E I hf st hg
  subst hP hw hK
  obtain⟨xs,hq,hx⟩:=hg
  obtain⟨its,rv,p,hz⟩:=I.list hq
  obtain⟨f0,f1,f2,f3,f4,f5⟩:=hf it (by simp)
  have hl:=rv.length
  exact wpAny_pyNext_list_end (I.ok.hd hc) st p.isList (by simp;omega) fun h' eb=>⟨rfl,I.turned (t':=s.toks) (fun b o hb e=>eb b o hb e) f0 f1 f3 f4 f5⟩
 self:=fun _ _ _ _ _ st h=>wpAny_pyIter_listiter st h
theorem va {P:Program} {w:World} {K:PySem.W.Frag} {tg:Expr} (a it:Addr):Turn P w K tg (qY K a) [it] it (fun i h=>h.IsTupleIter it a i) where
 mem:=by simp
 obj:=fun i h st b hb=>by
  have e:b=it:=by simpa using hb
  subst e
  obtain⟨o,e,c,d⟩:=st
  exact⟨o,e,fun v z=>by rw [d] at z;cases z⟩
 keep:=fun i h h' st k=>st.at fun o e=>k it (by simp) o e
 item:=by
  intro X hP hw hK hc i pins s σ H E I hf st hg
  subst hP hw hK
  obtain⟨xs,x,hq,hx⟩:=hg
  obtain⟨its,rv,p,hz⟩:=I.tuple hq
  obtain⟨u,hu,ru⟩:=rv.get hx
  obtain⟨f0,f1,f2,f3,f4,f5⟩:=hf it (by simp)
  refine wpAny_pyNext_tuple_item st (show s.heap.IsTuple a its.toArray from p) (x:=u) (by simpa using hu) fun h' st' sb=>?_
  have I1:Inv X pins σ H { s with heap:=h' }:=I.turned (t':=s.toks) (fun b o hb e=>(sb.2 b hb).trans e) f0 f1 f3 f4 f5
  obtain⟨o,e,c,d⟩:=id st'
  exact⟨u,rfl,qJ (s:={ s with heap:=h' }) e c d (by decide) ⟨x,H,I1,ru,⟨rfl,fun ys hy=>by rw [I.kR hy hq];exact hx⟩,st',fun b hb=>(hf b hb).1⟩⟩
 done:=by
  intro X hP hw hK hc i pins s σ H E I hf st hg
  subst hP hw hK
  obtain⟨xs,hq,hx⟩:=hg
  obtain⟨its,rv,p,hz⟩:=I.tuple hq
  obtain⟨f0,f1,f2,f3,f4,f5⟩:=hf it (by simp)
  have hl:=rv.length
  exact wpAny_pyNext_tuple_end (I.ok.hd hc) st (show s.heap.IsTuple a its.toArray from p) (by simp;omega) fun h' eb=>⟨rfl,I.turned (t':=s.toks) (fun b o hb e=>eb b o hb e) f0 f1 f3 f4 f5⟩
 self:=fun _ _ _ _ _ st h=>wpAny_pyIter_tupleiter st h
theorem vb {P:Program} {w:World} {K:PySem.W.Frag} {tg:Expr} (it:Addr) (lo:Int) (n:Nat):Turn P w K tg (qZ lo n) [it] it (fun i h=>IsRangeIter h it (lo+(i:Nat) * 1) ((n:Int) - (i:Nat)) 1) where
 mem:=by simp
 obj:=fun i h st b hb=>by
  have e:b=it:=by simpa using hb
  subst e
  exact⟨_,st,fun v z=>by
   have z':Data.fields _=Data.cell v:=z
   cases z'⟩
 keep:=fun i h h' st k=>k it (by simp) _ st
 item:=by
  intro X hP hw hK hc i pins s σ H E I hf st hg
  subst hP hw hK
  obtain⟨f0,f1,f2,f3,f4,f5⟩:=hf it (by simp)
  have W:=Walks.range (prog:=X.prog) (w:=X.w) (I.ok.hd hc) it lo 1 n
  refine W.item i s _ _ hg st fun v h' tk hv st' kk=>?_
  obtain⟨t,rfl⟩:=hv
  have I1:Inv X pins σ H { s with heap:=h',toks:=tk }:=I.turned (fun b o hb e=>kk b o (by simpa using hb) e) f0 f1 f3 f4 f5
  refine⟨_,rfl,qJ (s:={ s with heap:=h',toks:=tk }) (n := "range_iterator") st' rfl rfl (by decide) ⟨.int (lo+i),H,I1,⟨t,?_⟩,⟨rfl,rfl⟩,st',fun b hb=>(hf b hb).1⟩⟩
  rw [Int.mul_one]
 done:=by
  intro X hP hw hK hc i pins s σ H E I hf st hg
  subst hP hw hK
  obtain⟨f0,f1,f2,f3,f4,f5⟩:=hf it (by simp)
  exact wpAny_pyNext_range_end (I.ok.hd hc) st (by have:n<=i:=hg;omega) fun h' eb=>⟨rfl,I.turned (t':=s.toks) (fun b o hb e=>eb b o hb e) f0 f1 f3 f4 f5⟩
 self:=fun _ _ _ _ _ st h=>wpAny_pyIter_rangeiter st h
section
variable {X:Cx} {tg:Expr}
inductive xT (K:PySem.W.Frag) (R:(It->Hp->Prop)) (x:V) (H1:Hp):Prop
 | mk (a:_) (_:x=.ref a) (_:(∃ xs,aP K H1 a xs)) (_:R (ui K a) H1)
def BN (K:PySem.W.Frag) (tl:TE):TI:=fun σ H R=>tl σ H fun x H1=>xT K R x H1
inductive zS (K:PySem.W.Frag) (R:(It->Hp->Prop)) (x:V) (H1:Hp):Prop
 | mk (a:_) (_:x=.ref a) (_:(∃ xs,ar K H1 a xs)) (_:R (qY K a) H1)
def CS (K:PySem.W.Frag) (tl:TE):TI:=fun σ H R=>tl σ H fun x H1=>zS K R x H1
theorem gB {l:Expr} {tl:TE} (hl:PE X l tl):PI X tg l (BN X.K tl):=by
 intro pins s σ H R I h
 refine bA (hl pins s σ H _ I h) fun v s1 ⟨x,H1,I1,r1,q1⟩=>?_
 obtain⟨a,e,⟨xs,hq⟩,q⟩:=q1
 subst e
 cases r1
 obtain⟨its,rv,p,hz⟩:=I1.list hq
 refine wpAny_pyIter_list p.isList ?_
 refine⟨s1.heap.objs.size,[s1.heap.objs.size],_,_,H1,rfl,I1.kept (t':=s1.toks) fun b o e=>Heap.get?_push_of_some _ e,wm a _,⟨_,Heap.get?_push_size _ rfl,rfl,rfl⟩,fun b hb=>?_,q⟩
 have e:b=s1.heap.objs.size:=by simpa using hb
 subst e
 exact I1.mU (Nat.le_refl _) (I1.aN.fresh (Nat.le_refl _))
theorem dY {l:Expr} {tl:TE} (hl:PE X l tl):PI X tg l (CS X.K tl):=by
 intro pins s σ H R I h
 refine bA (hl pins s σ H _ I h) fun v s1 ⟨x,H1,I1,r1,q1⟩=>?_
 obtain⟨a,e,⟨xs,hq⟩,q⟩:=q1
 subst e
 cases r1
 obtain⟨its,rv,p,hz⟩:=I1.tuple hq
 refine wpAny_pyIter_tuple (show s1.heap.IsTuple a its.toArray from p) ?_
 refine⟨s1.heap.objs.size,[s1.heap.objs.size],_,_,H1,rfl,I1.kept (t':=s1.toks) fun b o e=>Heap.get?_push_of_some _ e,va a _,⟨_,Heap.get?_push_size _ rfl,rfl,rfl⟩,fun b hb=>?_,q⟩
 have e:b=s1.heap.objs.size:=by simpa using hb
 subst e
 exact I1.mU (Nat.le_refl _) (I1.aN.fresh (Nat.le_refl _))
theorem xU {pins:List (Addr × Obj)} {σ : St} {H:Hp} {s:Shared} {R:It->Hp->Prop} {E:Value->Shared->Prop} {lo hi:Int} {t u v:Tok} {tk:Nat} (I:Inv X pins σ H s) (h1:-(2 ^ 62)<=lo) (h2:lo < 2 ^ 62) (h3:-(2 ^ 62)<=hi) (h4:hi < 2 ^ 62)
  (q:R (qZ lo (hi - lo).toNat) H):wpAny (model X.prog X.w) X.A (pyIter (.ref s.heap.objs.size)) (Cq X pins σ tg R) E { s with heap:=s.heap.push { cls:=.type "range",data:=.fields #[.int lo t,.int hi u,.int 1 v] },toks:=tk }:=by
 refine wpAny_pyIter_range (IsRange.new ..) (small_one h1 h2 h3 h4) ?_
 have I1:Inv X pins σ H { s with heap:=s.heap.push { cls:=.type "range",data:=.fields #[.int lo t,.int hi u,.int 1 v] },toks:=tk }:=I.kept fun b o e=>Heap.get?_push_of_some _ e
 refine⟨(s.heap.push { cls:=.type "range",data:=.fields #[.int lo t,.int hi u,.int 1 v] }).objs.size,[(s.heap.push { cls:=.type "range",data:=.fields #[.int lo t,.int hi u,.int 1 v] }).objs.size],_,_,H,rfl,
  I1.kept (t':=tk) fun b o e=>Heap.get?_push_of_some _ e,vb _ lo (hi - lo).toNat,?_,fun b hb=>?_,q⟩
 ·have e1:lo+((0:Nat):Int) * 1=lo:=by simp
  have e2:(((hi - lo).toNat:Nat):Int) - ((0:Nat):Int)=Builtin.Range.rangeSize lo hi 1:=by rw [rangeSize_one];split <;> omega
  show IsRangeIter _ _ (lo+((0:Nat):Int) * 1) ((((hi - lo).toNat:Nat):Int) - ((0:Nat):Int)) 1
  rw [e1,e2]
  exact Heap.get?_push_size _ rfl
 ·have e:b=(s.heap.push { cls:=.type "range",data:=.fields #[.int lo t,.int hi u,.int 1 v] }).objs.size:=by simpa using hb
  subst e
  exact I1.mU (Nat.le_refl _) (I1.aN.fresh (Nat.le_refl _))
inductive xV (R:(It->Hp->Prop)) (vs:List V) (H1:Hp):Prop
 | mk (j:Int) (_:vs = [.int j]) (_:-(2 ^ 62)<=j) (_:j < 2 ^ 62) (_:R (qZ 0 j.toNat) H1)
def BO (ta:TA):TI:=fun σ H R=>ta σ H fun vs H1=>xV R vs H1
theorem dZ {a:Expr} {ta:TA} {p pos:Pos} (hg:Gl X "range") (hm:X.mg "range" = none) (ha:PA X [a] ta) (hs:starEach [a] X.env = [(false,eval a X.env)]:=by rfl):PI X tg (.Call (.Name "range" p) [a] [] pos) (BO ta):=by
 intro pins s σ H R I h
 refine Call_ (kQ I hg hm boot_range (PyProof.Rows.callWith_type1 (bA (ha pos pins s σ H _ I h) fun us s1 ⟨vs,H1,I1,r1,q1⟩=>?_) hs rfl))
 obtain⟨j,e,q1,q2,q⟩:=q1
 subst e
 cases r1 with
 | cons r rr =>
  cases rr
  obtain⟨t,rfl⟩:=r
  exact call_range_1 (xU I1 (by omega) (by omega) q1 q2 (by simpa using q))
def CT (wi:TI) (g:TG) (tb:TS):TS:=fun D σ H=>wi σ H fun J H1=>∃ W:Nat->Nat->St->Hp->Prop,(∃ m,W 0 m σ H1)/\∀ i m σ H,W i m σ H ->
 (J.stop i H/\D.nx σ H)\/(J.go i H/\∃ N:St->Hp->Prop,(∀ σ' H',N σ' H'->∃ m',m' < m/\W (i+1) m' σ' H')/\∀ x H',J.pF i H x H'->g x σ H' fun σ2 H2=>tb { D with nx:=N,ct:=N,bk:=D.nx } σ2 H2)
def jC (fp:List Addr) (h:Heap):List (Addr × Obj):=fp.filterMap fun b=>(h.get? b).map fun o=>(b,o)
theorem fB {fp:List Addr} {h:Heap} {b:Addr} {o:Obj} (hb:b ∈ fp) (e:h.get? b=some o):(b,o) ∈ jC fp h:=List.mem_filterMap.mpr ⟨b,hb,by rw [e];rfl⟩
theorem wo {fp:List Addr} {h:Heap} {p:Addr × Obj} (hp:p ∈ jC fp h):p.1 ∈ fp/\h.get? p.1=some p.2:=by
 obtain⟨b,hb,e⟩:=List.mem_filterMap.mp hp
 cases q:h.get? b with
 | none=>rw [q] at e;cases e
 | some o =>
  rw [q] at e
  have e':(b,o)=p:=Option.some.inj e
  subst e'
  exact⟨hb,q⟩
theorem Inv.pinned {pins:List (Addr × Obj)} {σ : St} {H:Hp} {s:Shared} {fp:List Addr} (I:Inv X pins σ H s) (hf:∀ b ∈ fp,gy X pins H b) (ho:∀ b ∈ fp,∃ o,s.heap.get? b=some o/\∀ v,o.data ≠ .cell v):Inv X (pins++jC fp s.heap) σ H s :=
 I.ug fun p hp=>(List.mem_append.mp hp).elim (fun z=>I.pin p (List.mem_append_right _ z)) fun z=>by
  obtain⟨hb,e⟩:=wo z
  obtain⟨f0,f1,f2,_⟩:=hf p.1 hb
  obtain⟨o,e',d⟩:=ho p.1 hb
  rw [e] at e';cases e'
  exact⟨e,f0,f1,f2,d⟩
theorem Inv.fM {pins pl:List (Addr × Obj)} {σ : St} {H:Hp} {s:Shared} (I:Inv X (pins++pl) σ H s):Inv X pins σ H s:=I.ug fun p hp=>I.pin p (List.mem_append_right _ (List.mem_append_left _ hp))
theorem df {iter:Expr} {body:List Stmt} {wi:TI} {g:TG} {tb:TS} {pos:Pos} (hp:PassesOwn (model X.prog X.w) X.A X.env X.xe) (hc:X.calm=true) (hi:PI X tg iter wi) (hg:PG X tg g) (hb:iK X body tb)
  (hs:∀ x,foldedSetIterable iter X.env x=pure x:=by intro _;rfl):PS X (.For tg iter body [] pos) (CT wi g tb):=by
 intro pins s σ H D I h
 refine wpAny_For (bA (hi pins s σ H _ I h) fun v s1 h1=>bA h1 fun itv s2 h2=>?_) hs
 obtain⟨it,fp,tn,J,H2,e,I2,T,st2,f2,W,⟨m0,w0⟩,turn⟩:=h2
 subst e
 have stat:∀ {H':Hp},(∀ b ∈ fp,H' b=none)->∀ b ∈ fp,gy X pins H' b:=fun hn b hb=>⟨hn b hb,(f2 b hb).2⟩
 refine codeAny_forLoop_any (fun n s'=>∃ i σ' H',Inv X pins σ' H' s'/\tn i s'.heap/\(∀ b ∈ fp,H' b=none)/\W i n σ' H') ?_ m0 ⟨0,σ,H2,I2,st2,fun b hb=>(f2 b hb).1,w0⟩
 rintro n s3 ⟨i,σ3,H3,I3,st3,fr3,w3⟩
 rcases turn i n σ3 H3 w3 with ⟨stop,qn⟩ | ⟨go,N,hN,step⟩
 ·refine wpAny_passesOwn hp (bA (T.done X rfl rfl rfl hc i pins s3 σ3 H3 X.xe I3 (stat fr3) st3 stop) fun r s4 ⟨hr,I4⟩=>?_)
  subst hr
  exact wpAny_execs_nil ⟨σ3,H3,I4,qn⟩
 ·refine wpAny_passesOwn hp (bA (T.item X rfl rfl rfl hc i pins s3 σ3 H3 X.xe I3 (stat fr3) st3 go) fun r s4 ⟨u,hr,h4⟩=>?_)
  subst hr
  refine wpAny_passesOwn hp (bA h4 fun _ s5 ⟨x,H5,I5,r5,y5,st5,fr5⟩=>?_)
  have I5':=I5.pinned (stat fr5) (T.obj _ _ st5)
  refine wpAny_passesOwn hp (bA (hg _ s5 σ3 H5 x u _ I5' r5 (step x H5 y5)) fun _ s6 ⟨σ6,H6,I6,q6⟩=>?_)
  refine wpAny_passesOwn hp (bA (hb _ s6 σ6 H6 _ I6 q6) fun f s7 q7=>?_)
  have again:∀ {σ7:St} {H7:Hp},Inv X (pins++jC fp s5.heap) σ7 H7 s7->N σ7 H7->∃ m,m < n/\∃ i σ' H',Inv X pins σ' H' s7/\tn i s7.heap/\(∀ b ∈ fp,H' b=none)/\W i m σ' H':=fun {σ7 H7} I7 n7=>by
   obtain⟨m',hm,w7⟩:=hN σ7 H7 n7
   refine⟨m',hm,i+1,σ7,H7,I7.fM,T.keep _ _ _ st5 fun b hb o e=>(I7.pin (b,o) (List.mem_append_right _ (List.mem_append_right _ (fB hb e)))).1,fun b hb=>?_,w7⟩
   obtain⟨o,e,d⟩:=T.obj _ _ st5 b hb
   exact (I7.pin (b,o) (List.mem_append_right _ (List.mem_append_right _ (fB hb e)))).2.1
  cases f with
  | next=>obtain⟨σ7,H7,I7,n7⟩:=q7;exact again I7 n7
  | cont=>obtain⟨σ7,H7,I7,n7⟩:=q7;exact again I7 n7
  | brk=>obtain⟨σ7,H7,I7,q7⟩:=q7;exact⟨σ7,H7,I7.fM,q7⟩
  | ret v=>obtain⟨x7,σ7,H7,I7,r7,q7⟩:=q7;exact⟨x7,σ7,H7,I7.fM,r7,q7⟩
end
theorem jV {K:PySem.W.Frag} {a:Addr} {xs:List V} {g:TG} {tb:TS} {D:Ends} {σ : St} {H:Hp} (Pv:Nat->St->Hp->Prop) (h0:Pv 0 σ H) (hl:∀ i σ H,i<=xs.length->Pv i σ H->aP K H a xs)
  (hs:∀ i x σ H,xs[i]? = some x->Pv i σ H->g x σ H fun σ2 H2=>tb { D with nx:=Pv (i+1),ct:=Pv (i+1),bk:=D.nx } σ2 H2) (hd:∀ σ H,Pv xs.length σ H->D.nx σ H) :
  ∃ W:Nat->Nat->St->Hp->Prop,(∃ m,W 0 m σ H)/\∀ i m σ H,W i m σ H ->
   ((ui K a).stop i H/\D.nx σ H)\/((ui K a).go i H/\∃ N:St->Hp->Prop,(∀ σ' H',N σ' H'->∃ m',m' < m/\W (i+1) m' σ' H')/\∀ x H',(ui K a).pF i H x H'->g x σ H' fun σ2 H2=>tb { D with nx:=N,ct:=N,bk:=D.nx } σ2 H2):=by
 refine⟨fun i m σ H=>m=xs.length - i/\i<=xs.length/\Pv i σ H,⟨xs.length,by simp,Nat.zero_le _,h0⟩,?_⟩
 rintro i m σ H ⟨rfl,hi,p⟩
 have q:=hl i σ H hi p
 by_cases hlt:i < xs.length
 ·refine .inr ⟨⟨xs,xs[i],q,by simp [hlt]⟩,Pv (i+1),fun σ' H' p'=>⟨xs.length - (i+1),by omega,rfl,hlt,p'⟩,fun x H' y=>?_⟩
  obtain⟨e,y⟩:=y
  subst e
  exact hs i x σ _ (y xs q) p
 ·have e:i=xs.length:=by omega
  subst e
  exact .inl ⟨⟨xs,q,Nat.le_refl _⟩,hd σ H p⟩
theorem gC {K:PySem.W.Frag} {a:Addr} {xs:List V} {g:TG} {tb:TS} {D:Ends} {σ : St} {H:Hp} (Pv:Nat->St->Hp->Prop) (h0:Pv 0 σ H) (hl:∀ i σ H,i<=xs.length->Pv i σ H->ar K H a xs)
  (hs:∀ i x σ H,xs[i]? = some x->Pv i σ H->g x σ H fun σ2 H2=>tb { D with nx:=Pv (i+1),ct:=Pv (i+1),bk:=D.nx } σ2 H2) (hd:∀ σ H,Pv xs.length σ H->D.nx σ H) :
  ∃ W:Nat->Nat->St->Hp->Prop,(∃ m,W 0 m σ H)/\∀ i m σ H,W i m σ H ->
   ((qY K a).stop i H/\D.nx σ H)\/((qY K a).go i H/\∃ N:St->Hp->Prop,(∀ σ' H',N σ' H'->∃ m',m' < m/\W (i+1) m' σ' H')/\∀ x H',(qY K a).pF i H x H'->g x σ H' fun σ2 H2=>tb { D with nx:=N,ct:=N,bk:=D.nx } σ2 H2):=by
 refine⟨fun i m σ H=>m=xs.length - i/\i<=xs.length/\Pv i σ H,⟨xs.length,by simp,Nat.zero_le _,h0⟩,?_⟩
 rintro i m σ H ⟨rfl,hi,p⟩
 have q:=hl i σ H hi p
 by_cases hlt:i < xs.length
 ·refine .inr ⟨⟨xs,xs[i],q,by simp [hlt]⟩,Pv (i+1),fun σ' H' p'=>⟨xs.length - (i+1),by omega,rfl,hlt,p'⟩,fun x H' y=>?_⟩
  obtain⟨e,y⟩:=y
  subst e
  exact hs i x σ _ (y xs q) p
 ·have e:i=xs.length:=by omega
  subst e
  exact .inl ⟨⟨xs,q,Nat.le_refl _⟩,hd σ H p⟩
theorem gY {lo:Int} {n:Nat} {g:TG} {tb:TS} {D:Ends} {σ : St} {H:Hp} (Pv:Nat->St->Hp->Prop) (h0:Pv 0 σ H)
  (hs:∀ i σ H,i < n->Pv i σ H->g (.int (lo+i)) σ H fun σ2 H2=>tb { D with nx:=Pv (i+1),ct:=Pv (i+1),bk:=D.nx } σ2 H2) (hd:∀ σ H,Pv n σ H->D.nx σ H) :
  ∃ W:Nat->Nat->St->Hp->Prop,(∃ m,W 0 m σ H)/\∀ i m σ H,W i m σ H ->
   ((qZ lo n).stop i H/\D.nx σ H)\/((qZ lo n).go i H/\∃ N:St->Hp->Prop,(∀ σ' H',N σ' H'->∃ m',m' < m/\W (i+1) m' σ' H')/\∀ x H',(qZ lo n).pF i H x H'->g x σ H' fun σ2 H2=>tb { D with nx:=N,ct:=N,bk:=D.nx } σ2 H2):=by
 refine⟨fun i m σ H=>m=n - i/\i<=n/\Pv i σ H,⟨n,by simp,Nat.zero_le _,h0⟩,?_⟩
 rintro i m σ H ⟨rfl,hi,p⟩
 by_cases hlt:i < n
 ·refine .inr ⟨hlt,Pv (i+1),fun σ' H' p'=>⟨n - (i+1),by omega,rfl,hlt,p'⟩,fun x H' y=>?_⟩
  obtain⟨e,y⟩:=y
  subst e y
  exact hs i σ _ hlt p
 ·have e:i=n:=by omega
  subst e
  exact .inl ⟨Nat.le_refl _,hd σ H p⟩
abbrev R2:=V->V->Hp->VK->Prop
def dU (X:Cx) (f:Value->Value->Sem Value) (r:R2):Prop :=
 ∀ (pins:List (Addr × Obj)) (s:Shared) (σ : St) (H:Hp) (x y:V) (v u:Value) (Q:VK),Inv X pins σ H s->RelV x v->RelV y u->r x y H Q ->
  wpAny (model X.prog X.w) X.A (f v u) (EP X pins σ Q) X.xe s
def AK (X:Cx) (f:Value->Sem Value) (r:V->Hp->VK->Prop):Prop :=
 ∀ (pins:List (Addr × Obj)) (s:Shared) (σ : St) (H:Hp) (x:V) (v:Value) (Q:VK),Inv X pins σ H s->RelV x v->r x H Q ->
  wpAny (model X.prog X.w) X.A (f v) (EP X pins σ Q) X.xe s
def eR (X:Cx) (f:Value) (r:List V->Hp->VK->Prop):Prop :=
 ∀ (pins:List (Addr × Obj)) (s:Shared) (σ : St) (H:Hp) (xs:List V) (us:List Value) (Q:VK),Inv X pins σ H s->Vals xs us->r xs H Q ->
  wpAny (model X.prog X.w) X.A (call f us) (EP X pins σ Q) X.xe s
def uj (r:R2) (ta tb:TE):TE:=fun σ H Q=>ta σ H fun x H1=>tb σ H1 fun y H2=>r x y H2 Q
def Df (r:V->Hp->VK->Prop) (ta:TE):TE:=fun σ H Q=>ta σ H fun x H1=>r x H1 Q
inductive rI (C:Int->Int->Prop) (g:Int->Int->V) (x:V) (y:V) (H:Hp) (Q:VK):Prop
 | mk (i j:_) (_:x=.int i) (_:y=.int j) (_:C i j) (_:Q (g i j) H)
inductive pG (g:Int->Int->V) (x:V) (y:V) (H:Hp) (Q:VK):Prop
 | mk (i j:_) (_:x=.int i) (_:y=.int j) (_:Q (g i j) H)
inductive rU (g:Int->V) (x:V) (H:Hp) (Q:VK):Prop
 | mk (i:_) (_:x=.int i) (_:Q (g i) H)
section
variable {X:Cx} {a b c:Expr} {ta tb tc:TE} {pos:Pos}
theorem xW (ha:PE X a ta) (hb:PE X b tb) {pins:List (Addr × Obj)} {s:Shared} {σ : St} {H:Hp} {R:V->V->Hp->Prop} (I:Inv X pins σ H s)
  (h:ta σ H fun x H1=>tb σ H1 fun y H2=>R x y H2) {Q:Value->Shared->Prop} {f:Value->Value->Sem Value}
  (hf:∀ v u s2 x y H2,Inv X pins σ H2 s2->RelV x v->RelV y u->R x y H2->wpAny (model X.prog X.w) X.A (f v u) Q X.xe s2) :
  wpAny (model X.prog X.w) X.A (eval a X.env) (fun v s₁=>wpAny (model X.prog X.w) X.A (eval b X.env) (fun u s₂=>wpAny (model X.prog X.w) X.A (f v u) Q X.xe s₂) X.xe s₁) X.xe s:=by
 refine bA (ha pins s σ H _ I h) fun v s1 ⟨x,H1,I1,r1,q1⟩=>?_
 refine bA (hb pins s1 σ H1 _ I1 q1) fun u s2 ⟨y,H2,I2,r2,q2⟩=>?_
 exact hf v u s2 x y H2 I2 r1 r2 q2
theorem aS {op:Operator} {r:R2} (ho:dU X (binaryOp op) r) (ha:PE X a ta) (hb:PE X b tb):PE X (.BinOp a op b pos) (uj r ta tb):=by
 intro pins s σ H Q I h
 exact wpAny_BinOp (xW ha hb I h fun v u s2 x y H2 I2 rx ry q=>ho pins s2 σ H2 x y v u Q I2 rx ry q)
theorem zA {op:UnaryOp} {r:V->Hp->VK->Prop} (ho:AK X (unaryOp op) r) (ha:PE X a ta):PE X (.UnaryOp op a pos) (Df r ta):=by
 intro pins s σ H Q I h
 exact UnaryOp_ (bA (ha pins s σ H _ I h) fun v s1 ⟨x,H1,I1,r1,q1⟩=>ho pins s1 σ H1 x v Q I1 r1 q1)
theorem uk {f:Value->Value->Sem Value} {C:Int->Int->Prop} {g:Int->Int->Int}
  (rule:∀ (i j:Int) (t u:Tok) (s:Shared) (Q:Value->Shared->Prop) (E:Value->Shared->Prop),C i j->Q (.int (g i j) s.toks) { s with toks:=s.toks+1 }->wpAny (model X.prog X.w) X.A (f (.int i t) (.int j u)) Q E s) :
  dU X f (rI C fun i j=>.int (g i j)):=by
 intro pins s σ H x y v u Q I rx ry h
 obtain⟨i,j,rfl,rfl,hc,q⟩:=h
 obtain⟨t,rfl⟩:=rx
 obtain⟨t',rfl⟩:=ry
 exact rule i j t t' s _ _ hc ⟨.int (g i j),H,I.tok _,⟨_,rfl⟩,q⟩
theorem AL {f:Value->Value->Sem Value} {g:Int->Int->Int}
  (rule:∀ (i j:Int) (t u:Tok) (s:Shared) (Q:Value->Shared->Prop) (E:Value->Shared->Prop),Q (.int (g i j) s.toks) { s with toks:=s.toks+1 }->wpAny (model X.prog X.w) X.A (f (.int i t) (.int j u)) Q E s) :
  dU X f (pG fun i j=>.int (g i j)):=by
 intro pins s σ H x y v u Q I rx ry h
 obtain⟨i,j,rfl,rfl,q⟩:=h
 obtain⟨t,rfl⟩:=rx
 obtain⟨t',rfl⟩:=ry
 exact rule i j t t' s _ _ ⟨.int (g i j),H,I.tok _,⟨_,rfl⟩,q⟩
theorem vc {f:Value->Value->Sem Value} {g:Int->Int->Bool}
  (rule:∀ (i j:Int) (t u:Tok) (s:Shared) (Q:Value->Shared->Prop) (E:Value->Shared->Prop),Q (.bool (g i j)) s->wpAny (model X.prog X.w) X.A (f (.int i t) (.int j u)) Q E s) :
  dU X f (pG fun i j=>.bl (g i j)):=by
 intro pins s σ H x y v u Q I rx ry h
 obtain⟨i,j,rfl,rfl,q⟩:=h
 obtain⟨t,rfl⟩:=rx
 obtain⟨t',rfl⟩:=ry
 exact rule i j t t' s _ _ ⟨.bl (g i j),H,I,rfl,q⟩
def CU (i j:Int):Prop:=0 < j/\j < 1073741824
def CV (i j:Int):Prop:=0<=j/\j<=1000000/\i.natAbs < 2 ^ 64
def xX (i j:Int):Prop:=(-(2 ^ 64) < i/\i < 2 ^ 64)\/(-(2 ^ 64) < j/\j < 2 ^ 64)
theorem xX.ok {i j:Int} (h:xX i j):IntMulOk i j:=by
 rcases h with ⟨h1,h2⟩ | ⟨h1,h2⟩
 ·exact .of_left (intBits_le_64 h1 h2)
 ·exact .of_right (intBits_le_64 h1 h2)
theorem cy:dU X (binaryOp .Add) (pG fun i j=>.int (i+j)):=AL fun _ _ _ _ _ _ _ q=>add_int q
theorem fj:dU X (binaryOp .Sub) (pG fun i j=>.int (i - j)):=AL fun _ _ _ _ _ _ _ q=>sub_int q
theorem gZ:dU X (binaryOp .Mult) (rI xX fun i j=>.int (i * j)):=uk fun _ _ _ _ _ _ _ hc q=>mul_int q hc.ok
theorem lU:dU X (binaryOp .FloorDiv) (rI CU fun i j=>.int (i / j)):=uk fun i j _ _ _ _ _ hc q=>by
 have h1:(0:Int) < j:=hc.1
 have h2:j < 1073741824:=hc.2
 exact floordiv_int (by omega) (by rw [Int.fdiv_eq_ediv_of_nonneg i (by omega)];exact q) (.inl (PyProof.noPylong_small (by omega)))
theorem fU:dU X (binaryOp .Mod) (rI (fun _ j=>0 < j) fun i j=>.int (i % j)):=uk fun i j _ _ _ _ _ hc q=>by
 have h1:(0:Int) < j:=hc
 exact mod_int' (by omega) (by rw [Int.fmod_eq_emod_of_nonneg i (by omega)];exact q)
theorem nH:dU X (binaryOp .Pow) (rI CV fun i j=>.int (i ^ j.toNat)):=uk fun _ _ _ _ _ _ _ hc q=>pow_int_small hc.1 hc.2.1 hc.2.2 q
theorem Dg {f:Value->Sem Value} {g:Int->Int}
  (rule:∀ (i:Int) (t:Tok) (s:Shared) (Q:Value->Shared->Prop) (E:Value->Shared->Prop),Q (.int (g i) s.toks) { s with toks:=s.toks+1 }->wpAny (model X.prog X.w) X.A (f (.int i t)) Q E s) :
  AK X f (rU fun i=>.int (g i)):=by
 intro pins s σ H x v Q I rx h
 obtain⟨i,rfl,q⟩:=h
 obtain⟨t,rfl⟩:=rx
 exact rule i t s _ _ ⟨.int (g i),H,I.tok _,⟨_,rfl⟩,q⟩
theorem wq:AK X (unaryOp .USub) (rU fun i=>.int (-i)):=Dg fun _ _ _ _ _ q=>neg_int q
end
def xY:V->V->Bool
 | .aC,.aC=>true | .aC,.int _=>true | .int _,.aC=>true | .aC,.bl _=>true | .bl _,.aC=>true | .aC,.str _=>true | .str _,.aC=>true
 | .int _,.int _=>true | .bl _,.bl _=>true | .str _,.str _=>true | .ky _,.ky _=>true
 | .int _,.str _=>true | .str _,.int _=>true | .bl _,.str _=>true | .str _,.bl _=>true
 | _,_=>false
def Dh:R2:=fun x y H Q=>xY x y=true/\Q (.bl (decide (x=y))) H
def Di:R2:=fun x y H Q=>xY x y=true/\Q (.bl (!decide (x=y))) H
theorem um {i j:Int}:decide (V.int i=V.int j)=(i == j):=by
 rw [Bool.eq_iff_iff]
 simp
theorem wu {i j:Bool}:decide (V.bl i=V.bl j)=(i == j):=by
 rw [Bool.eq_iff_iff]
 simp
theorem uo {i j:Str}:decide (V.str i=V.str j)=(i == j):=by
 rw [Bool.eq_iff_iff]
 simp
theorem uq {i j:Array UInt8}:decide (V.ky i=V.ky j)=(i.toList == j.toList):=by
 rw [Bool.eq_iff_iff]
 cases i
 cases j
 simp
section
variable {X:Cx} {a b c:Expr} {ta tb tc:TE} {pos:Pos}
theorem bT {pins:List (Addr × Obj)} {σ : St} {H:Hp} {s:Shared} {Q:VK} {k k':Bool} (I:Inv X pins σ H s) (q:Q (.bl k) H) (e:k=k'):EP X pins σ Q (.bool k') s:=by
 subst e
 exact⟨.bl k,H,I,rfl,q⟩
theorem bK:dU X (compareOp .Eq) Dh:=by
 intro pins s σ H x y v u Q I rx ry h
 obtain⟨hs,q⟩:=h
 cases x with
 | aC =>
  cases rx
  cases y with
  | aC=>cases ry;exact PySem.EqNone.eq_none_none (bT I q (by simp))
  | bl j=>cases ry;exact PySem.EqNone.eq_none_bool (bT I q (by simp))
  | int j=>obtain⟨t',rfl⟩:=ry;exact PySem.EqNone.eq_none_int (bT I q (by simp))
  | str j=>obtain⟨t',rfl⟩:=ry;exact PySem.EqNone.eq_none_str (bT I q (by simp))
  | _=>exact absurd (show false=true from hs) Bool.false_ne_true
 | bl i =>
  cases rx
  cases y with
  | aC=>cases ry;exact PySem.EqNone.eq_bool_none (bT I q (by simp))
  | bl j=>cases ry;exact eq_bool (bT I q wu)
  | str j=>obtain⟨t',rfl⟩:=ry;exact PySem.EqMixed.eq_bool_str (bT I q (by simp))
  | _=>exact absurd (show false=true from hs) Bool.false_ne_true
 | int i =>
  obtain⟨t,rfl⟩:=rx
  cases y with
  | aC=>cases ry;exact PySem.EqNone.eq_int_none (bT I q (by simp))
  | int j=>obtain⟨t',rfl⟩:=ry;exact eq_int (bT I q um)
  | str j=>obtain⟨t',rfl⟩:=ry;exact PySem.EqMixed.eq_int_str (bT I q (by simp))
  | _=>exact absurd (show false=true from hs) Bool.false_ne_true
 | str i =>
  obtain⟨t,rfl⟩:=rx
  cases y with
  | aC=>cases ry;exact PySem.EqNone.eq_str_none (bT I q (by simp))
  | bl j=>cases ry;exact PySem.EqMixed.eq_str_bool (bT I q (by simp))
  | int j=>obtain⟨t',rfl⟩:=ry;exact PySem.EqMixed.eq_str_int (bT I q (by simp))
  | str j=>obtain⟨t',rfl⟩:=ry;exact eq_str (bT I q uo)
  | _=>exact absurd (show false=true from hs) Bool.false_ne_true
 | ky i =>
  obtain⟨t,rfl⟩:=rx
  cases y with
  | ky j=>obtain⟨t',rfl⟩:=ry;exact PySem.W.eq_bytes (bT I q uq)
  | _=>exact absurd (show false=true from hs) Bool.false_ne_true
 | _=>cases y <;> exact absurd (show false=true from hs) Bool.false_ne_true
theorem zB:dU X (compareOp .NotEq) Di:=by
 intro pins s σ H x y v u Q I rx ry h
 obtain⟨hs,q⟩:=h
 cases x with
 | aC =>
  cases rx
  cases y with
  | aC=>cases ry;exact PySem.EqNone.ne_none_none (bT I q (by simp))
  | bl j=>cases ry;exact PySem.EqNone.ne_none_bool (bT I q (by simp))
  | int j=>obtain⟨t',rfl⟩:=ry;exact PySem.EqNone.ne_none_int (bT I q (by simp))
  | str j=>obtain⟨t',rfl⟩:=ry;exact PySem.EqNone.ne_none_str (bT I q (by simp))
  | _=>exact absurd (show false=true from hs) Bool.false_ne_true
 | bl i =>
  cases rx
  cases y with
  | aC=>cases ry;exact PySem.EqNone.ne_bool_none (bT I q (by simp))
  | bl j=>cases ry;exact ne_bool (bT I q (congrArg not wu))
  | str j=>obtain⟨t',rfl⟩:=ry;exact PySem.EqMixed.ne_bool_str (bT I q (by simp))
  | _=>exact absurd (show false=true from hs) Bool.false_ne_true
 | int i =>
  obtain⟨t,rfl⟩:=rx
  cases y with
  | aC=>cases ry;exact PySem.EqNone.ne_int_none (bT I q (by simp))
  | int j=>obtain⟨t',rfl⟩:=ry;exact ne_int (bT I q (congrArg not um))
  | str j=>obtain⟨t',rfl⟩:=ry;exact PySem.EqMixed.ne_int_str (bT I q (by simp))
  | _=>exact absurd (show false=true from hs) Bool.false_ne_true
 | str i =>
  obtain⟨t,rfl⟩:=rx
  cases y with
  | aC=>cases ry;exact PySem.EqNone.ne_str_none (bT I q (by simp))
  | bl j=>cases ry;exact PySem.EqMixed.ne_str_bool (bT I q (by simp))
  | int j=>obtain⟨t',rfl⟩:=ry;exact PySem.EqMixed.ne_str_int (bT I q (by simp))
  | str j=>obtain⟨t',rfl⟩:=ry;exact ne_str (bT I q (congrArg not uo))
  | _=>exact absurd (show false=true from hs) Bool.false_ne_true
 | ky i =>
  obtain⟨t,rfl⟩:=rx
  cases y with
  | ky j=>obtain⟨t',rfl⟩:=ry;exact PySem.W.ne_bytes (bT I q (congrArg not uq))
  | _=>exact absurd (show false=true from hs) Bool.false_ne_true
 | _=>cases y <;> exact absurd (show false=true from hs) Bool.false_ne_true
theorem gR:dU X (compareOp .Lt) (pG fun i j=>.bl (decide (i < j))):=vc fun _ _ _ _ _ _ _ q=>lt_int q
theorem qK:dU X (compareOp .LtE) (pG fun i j=>.bl (decide (i<=j))):=vc fun _ _ _ _ _ _ _ q=>le_int q
theorem iA:dU X (compareOp .Gt) (pG fun i j=>.bl (decide (j < i))):=vc fun _ _ _ _ _ _ _ q=>gt_int q
theorem BP:dU X (compareOp .GtE) (pG fun i j=>.bl (decide (j<=i))):=vc fun _ _ _ _ _ _ _ q=>ge_int q
theorem aK (b:Expr) {op:CmpOp} (h:op ≠ .In:=by decide) (h2:op ≠ .NotIn:=by decide):behindInMarks op b=false:=by
 have e1:(op == CmpOp.In)=false:=by cases op <;> first | rfl | exact absurd rfl h
 have e2:(op == CmpOp.NotIn)=false:=by cases op <;> first | rfl | exact absurd rfl h2
 cases b <;> simp [behindInMarks,e1,e2]
theorem eE {op:CmpOp} {r:R2} (ho:dU X (compareOp op) r) (ha:PE X a ta) (hb:PE X b tb) (hm:behindInMarks op b=false):PE X (.Compare a [op] [b] pos) (uj r ta tb):=by
 intro pins s σ H Q I h
 exact wpAny_Compare1 (xW ha hb I h fun v u s2 x y H2 I2 rx ry q=>ho pins s2 σ H2 x y v u Q I2 rx ry q) hm
inductive xZ (Q:(Bool->Hp->Prop)) (x:V) (H':Hp):Prop
 | mk (k:_) (_:x=.bl k) (_:Q k H')
def BQ (t:TE):TT:=fun σ H Q=>t σ H fun x H'=>xZ Q x H'
theorem aG {op:CmpOp} {r:R2} (ho:dU X (compareOp op) r) (ha:PE X a ta) (hb:PE X b tb) (hm:behindInMarks op b=false):PT X (.Compare a [op] [b] pos) (BQ (uj r ta tb)):=by
 intro pins s σ H Q I h
 refine wpAny_isTrue_Compare1 (bA (ha pins s σ H _ I h) fun v s1 ⟨x,H1,I1,r1,q1⟩=>bA (hb pins s1 σ H1 _ I1 q1) fun u s2 ⟨y,H2,I2,r2,q2⟩ =>
  bA (ho pins s2 σ H2 x y v u _ I2 r1 r2 q2) fun c s3 ⟨z,H3,I3,r3,k,e,q3⟩=>?_) hm
 subst e
 cases r3
 exact wpAny_truthy_bool ⟨H3,I3,q3⟩
theorem jD:(sizeLine:Nat) < 2 ^ 63:=by rw [sizeLine_eq];decide
theorem vd:dU X (binaryOp .Add) (fun x y H Q=>∃ i j,x=.str i/\y=.str j/\i.length+j.length<=sizeLine/\Q (.str (i++j)) H):=by
 intro pins s σ H x y v u Q I rx ry h
 obtain⟨i,j,rfl,rfl,hz,q⟩:=h
 obtain⟨t,rfl⟩:=rx
 obtain⟨t',rfl⟩:=ry
 exact add_str (fun t' tk=>⟨.str (i++j),H,I.tok _,⟨_,rfl⟩,q⟩) hz
theorem vals1 {x:V} {us:List Value} (r:Vals [x] us):∃ u,us = [u]/\RelV x u:=by
 cases r with
 | cons r1 r2=>cases r2;exact⟨_,rfl,r1⟩
theorem vals2 {x y:V} {us:List Value} (r:Vals [x,y] us):∃ u w',us = [u,w']/\RelV x u/\RelV y w':=by
 cases r with
 | cons r1 r2 =>
  cases r2 with
  | cons r3 r4=>cases r4;exact⟨_,_,rfl,r1,r3⟩
theorem wx (hc:X.calm=true):eR X (.builtin "max") (fun xs H Q=>∃ i j,xs = [.int i,.int j]/\Q (.int (if j > i then j else i)) H):=by
 intro pins s σ H xs us Q I r h
 obtain⟨i,j,rfl,q⟩:=h
 obtain⟨u,w',rfl,⟨t,rfl⟩,⟨t',rfl⟩⟩:=vals2 r
 refine max_two_ints (I.ok.hd hc) fun h' tk k=>⟨_,H,I.kept k,?_,q⟩
 by_cases hj:j > i
 ·rw [if_pos hj,if_pos hj];exact⟨_,rfl⟩
 ·rw [if_neg hj,if_neg hj];exact⟨_,rfl⟩
theorem kT (hc:X.calm=true):eR X (.builtin "min") (fun xs H Q=>∃ i j,xs = [.int i,.int j]/\Q (.int (if j < i then j else i)) H):=by
 intro pins s σ H xs us Q I r h
 obtain⟨i,j,rfl,q⟩:=h
 obtain⟨u,w',rfl,⟨t,rfl⟩,⟨t',rfl⟩⟩:=vals2 r
 refine min_two_ints (I.ok.hd hc) fun h' tk k=>⟨_,H,I.kept k,?_,q⟩
 by_cases hj:j < i
 ·rw [if_pos hj,if_pos hj];exact⟨_,rfl⟩
 ·rw [if_neg hj,if_neg hj];exact⟨_,rfl⟩
theorem fQ:eR X (.type "int") (fun xs H Q=>(∃ i,xs = [.int i]/\Q (.int i) H)\/∃ k,xs = [.bl k]/\Q (.int (if k then 1 else 0)) H):=by
 intro pins s σ H xs us Q I r h
 rcases h with ⟨i,rfl,q⟩ | ⟨k,rfl,q⟩
 ·obtain⟨u,rfl,t,rfl⟩:=vals1 r
  exact call_int_int ⟨.int i,H,I,⟨_,rfl⟩,q⟩
 ·obtain⟨u,rfl,r1⟩:=vals1 r
  cases r1
  exact call_int_bool ⟨.int (if k then 1 else 0),H,I.tok _,⟨_,rfl⟩,q⟩
end
structure x9 (h:Heap) (x dx C:Addr) (mA:Str->Option Value):Prop where
 obj:h.get? x=some (PySem.W.instObj C dx)
 ns:h.Ns1 dx mA
 ne:dx ≠ x
theorem wy {h:Heap} {dx:Addr} {mA:Str->Option Value} (n:h.Ns1 dx mA):∃ od,h.get? dx=some od/\∀ name,PySem.W.lookIn name od=some (mA name):=by
 obtain⟨o,es,ep,ho,hd,hk,_,hm⟩:=n
 refine⟨o,ho,fun name=>?_⟩
 have e:=hm name
 unfold nsFind findBy at e
 rw [<-Array.find?_toList] at e
 unfold PySem.W.lookIn
 rw [hd]
 dsimp only
 split
 ·rename_i y q
  rw [q] at e
  exact congrArg some e
 ·rename_i q
  rw [q] at e
  have a:es.toList.any (·.refKey)=false:=by
   rw [List.any_eq_false]
   intro y hy
   obtain⟨z,t,hkey⟩:=hk y (Array.mem_toList_iff.mp hy)
   simp [DictEntry.refKey,hkey]
  have a':¬ es.toList.any (·.refKey)=true:=by rw [a];exact Bool.false_ne_true
  rw [if_neg a']
  exact congrArg some e
theorem x9.look {h:Heap} {x dx C:Addr} {mA:Str->Option Value} (I:x9 h x dx C mA):∃ od,PySem.W.InstAt h x (PySem.W.instObj C dx) C (some od)/\∀ name,PySem.W.lookIn name od=some (mA name) :=
 let ⟨od,ho,hl⟩:=wy I.ns
 ⟨od,⟨I.obj,rfl,rfl,ho⟩,hl⟩
section
variable {prog:Program} {w:World} {A:Around} {E:Value->Shared->Prop} {s:Shared} {K:PySem.W.Frag} {x dx C f:Addr} {mA:Str->Option Value} {name:Str} {v:Value}
end
theorem fi.some_of {v:V} {o:Option Value} (r:fi (some v) o):∃ u,o=some u/\RelV v u:=by
 cases o with
 | none=>exact (show False from r).elim
 | some u=>exact⟨u,rfl,r⟩
theorem fi.none_of {o:Option Value} (r:fi none o):o=none:=by
 cases o with
 | none=>rfl
 | some u=>exact (show False from r).elim
section
variable {P:Program} {w:World} {H H':Hp} {h h':Heap} {a C dx:Addr} {fs fs':List (Str × V)}
theorem zT (aN:dH P w H h) (e:H a=some (.ins C dx fs)):∃ mA,x9 h a dx C mA/\(∀ f,fi (fs.lookup f) (mA f))/\PySem.Within mA (fs.map (·.1))/\fs.length<=1000/\H dx=some (.own a):=by
 obtain⟨d,z,ne,ob,mA,n,r,q⟩:=(show bP P w H h a (.ins C dx fs) from aN a _ e)
 exact⟨mA,⟨ob,n,ne⟩,r,q,z,d⟩
end
structure AM (K:PySem.W.Frag) (C:Addr):Prop where
 pg:PySem.W.plainGet K C Str.empty=true
 hd:PySem.W.hasDictIn K C=true
 po:PySem.W.plainOver K C=true
 sa:PySem.W.findIn K (.ref C) "__setattr__" = some (some (.builtin "object.__setattr__"))
theorem AM.get {K:PySem.W.Frag} {C:Addr} (c:AM K C) (f:Str):PySem.W.plainGet K C f=true:=c.pg
section
variable {X:Cx} {pins:List (Addr × Obj)} {σ : St} {H:Hp} {s:Shared} {a C dx:Addr} {fs:List (Str × V)} {f:Str} {v:V} {A:Around} {E:Value->Shared->Prop}
end
section
variable {X:Cx} {o e value:Expr} {f:Str} {pos pos' tpos:Pos} {ta tv:TE}
end
section
variable {X:Cx} {pins:List (Addr × Obj)} {σ : St} {H:Hp} {s:Shared} {A:Around} {E:Value->Shared->Prop} {Q:Value->Shared->Prop} {c:Value} {b:Bool}
inductive gF (K:PySem.W.Frag) (H:Hp):V->Value->Prop where
 | aC:gF K H .aC (.type "NoneType")
 | bl (x:Bool):gF K H (.bl x) (.type "bool")
 | int (i:Int):gF K H (.int i) (.type "int")
 | str (x:Str):gF K H (.str x) (.type "str")
 | qQ (x:UInt64):gF K H (.qQ x) (.type "float")
 | lst {a:Addr} {xs:List V} (e:H a=some (.lst xs)):gF K H (.ref a) (.type "list")
 | dq {a:Addr} {o:Obj} {xs:List V} (e:H a=some (.dq o (.lst xs))):gF K H (.ref a) (.type "list")
 | tup {a:Addr} {xs:List V} (e:H a=some (.tup xs)):gF K H (.ref a) (.type "tuple")
 | dK {a:Addr} {kvs:List (Key × V)} (e:H a=some (.dK kvs)):gF K H (.ref a) (.type "dict")
 | dT {a:Addr} {kvs:List (List Key × V)} (e:H a=some (.dT kvs)):gF K H (.ref a) (.type "dict")
 | ins {a C dx:Addr} {fs:List (Str × V)} (e:H a=some (.ins C dx fs)) (cl:AM K C) (ha:PySem.W.findIn K (.ref C) "__class__" = some (some (.builtin "object.__class__")))
   (hn:PySem.W.specialIn K (.builtin "object.__class__") "__get__" = some (some (.builtin "getset_descriptor.__get__"))) (htk:PySem.W.takesIn K (.builtin "object.__class__")=some true)
   (hm:PySem.W.mroIn K C (.type "object")=some true):gF K H (.ref a) (.ref C)
theorem wz {x:V} {u t:Value} (I:Inv X pins σ H s) (rx:RelV x u) (ty:gF X.K H x t) (e:PySem.W.kitOne X.K t c=some b) (h:∀ tk,Q (.bool b) { s with toks:=tk }) :
  wpAny (model X.prog X.w) A (call (.builtin "isinstance") [u,c]) Q E s:=by
 cases ty with
 | aC=>cases (show u=Value.none from rx);exact PySem.W.kia_one PySem.W.kitx_none I.fS True.intro e (fun z=>nomatch z) h
 | bl y=>cases (show u=Value.bool y from rx);exact PySem.W.kia_one PySem.W.kitx_bool I.fS True.intro e (fun z=>nomatch z) h
 | int i=>obtain⟨t,q⟩:=(show ∃ t,u=Value.int i t from rx);cases q;exact PySem.W.kia_one PySem.W.kitx_int I.fS True.intro e (fun z=>nomatch z) h
 | str y=>obtain⟨t,q⟩:=(show ∃ t,u=Value.str y t from rx);cases q;exact PySem.W.kia_one PySem.W.kitx_str I.fS True.intro e (fun z=>nomatch z) h
 | qQ y=>obtain⟨t,q⟩:=(show ∃ t,u=Value.float y t from rx);cases q;exact PySem.W.kia_one PySem.W.kitx_float I.fS True.intro e (fun z=>nomatch z) h
 | @lst a xs ea =>
  cases (show u=Value.ref a from rx)
  obtain⟨_,_,n,_,h1⟩:=(show bP X.prog X.w H s.heap a (.lst xs) from I.aN a _ ea)
  exact PySem.W.kia_one PySem.W.kitx_list I.fS ⟨_,h1,rfl⟩ e (fun z=>nomatch z) h
 | @dq a ob xs ea =>
  cases (show u=Value.ref a from rx)
  obtain⟨_,_,_,n,_,h1⟩:=(show bP X.prog X.w H s.heap a (.dq ob (.lst xs)) from I.aN a _ ea)
  exact PySem.W.kia_one PySem.W.kitx_list I.fS ⟨_,h1,rfl⟩ e (fun z=>nomatch z) h
 | @tup a xs ea =>
  cases (show u=Value.ref a from rx)
  obtain⟨_,_,_,p⟩:=(show bP X.prog X.w H s.heap a (.tup xs) from I.aN a _ ea)
  obtain⟨o,h1,h2,_⟩:=p
  exact PySem.W.kia_one PySem.W.kitx_tuple I.fS ⟨o,h1,h2⟩ e (fun z=>nomatch z) h
 | @dK a kvs ea =>
  cases (show u=Value.ref a from rx)
  obtain⟨_,_,vs,_,p⟩:=(show bP X.prog X.w H s.heap a (.dK kvs) from I.aN a _ ea)
  obtain⟨o,es,ep,h1,h2,_⟩:=p
  exact PySem.W.kia_one PySem.W.kitx_dict I.fS ⟨o,h1,h2.1⟩ e (fun z=>nomatch z) h
 | @dT a kvs ea =>
  cases (show u=Value.ref a from rx)
  obtain⟨_,_,xs,_,o,es,ep,h1,h2,_⟩:=(show bP X.prog X.w H s.heap a (.dT kvs) from I.aN a _ ea)
  exact PySem.W.kia_one PySem.W.kitx_dict I.fS ⟨o,h1,h2.1⟩ e (fun z=>nomatch z) h
 | @ins a C dx fs ea cl ha hn htk hm =>
  cases (show u=Value.ref a from rx)
  obtain⟨mA,O,_⟩:=zT I.aN ea
  obtain⟨od,J,_⟩:=O.look
  exact PySem.W.kia_one (PySem.W.kitx_own (cl.get _) cl.hd ha hn htk hm) I.fS J e (fun z=>nomatch z) h
end
structure eF (k:Nat) (A:Around):Prop where
 hd:A.handled=none
 dp:A.depth+3 * k+5 < recursionLimit
 un:A.units+16 * k+200 < cLine
theorem eF.mono {j k:Nat} {A:Around} (r:eF k A) (h:j<=k):eF j A:=⟨r.hd,by have:=r.dp;omega,by have:=r.un;omega⟩
theorem eF.deeper {k:Nat} {A:Around} (r:eF (k+1) A) (env:Env):eF k (A.deeper env) :=
 ⟨r.hd,by have:=r.dp;show A.depth+1+3 * k+5 < _;omega,by have:=r.un;show A.units+3+16 * k+200 < _;omega⟩
theorem eF.depth {k:Nat} {A:Around} (r:eF k A):A.depth < recursionLimit:=by have:=r.dp;omega
theorem eF.units {k:Nat} {A:Around} (r:eF k A):A.units+64 < cLine:=by have:=r.un;omega
def eS:TA:=fun _ H Q=>Q [] H
def bZ (ta:TE) (tr:TA):TA:=fun σ H Q=>ta σ H fun x H1=>tr σ H1 fun xs H2=>Q (x :: xs) H2
section
variable {X:Cx} {e:Expr} {es:List Expr} {te:TE} {t:TA} {pos:Pos}
theorem cz:PA X [] eS:=fun _ _ _ _ H Q I h=>Calls.spliced_nil ⟨[],H,I,.nil,h⟩
theorem bG (ha:PE X e te) (hr:PA X es t) (hs:starEach (e :: es) X.env=(false,eval e X.env) :: starEach es X.env:=by rfl):PA X (e :: es) (bZ te t):=by
 intro pos pins s σ H Q I h
 rw [hs]
 show wpAny _ _ (spliced ((false,eval e X.env) :: backTo pos (starEach es X.env))) _ _ s
 refine Calls.spliced_cons (bA (ha pins s σ H _ I h) fun u s1 ⟨x,H1,I1,r1,q1⟩=>?_)
 exact bA (hr pos pins s1 σ H1 _ I1 q1) fun us s2 ⟨xs,H2,I2,r2,q2⟩=>⟨x :: xs,H2,I2,.cons r1 r2,q2⟩
def ij (t:TA):TE:=fun σ H Q=>t σ H fun xs H1=>xs.length<=sizeLine/\∀ p,H1 p=none->Q (.ref p) (upd H1 p (.tup xs))
def ya (t:TA):TE:=fun σ H Q=>t σ H fun xs H1=>xs.length<=sizeLine/\∀ p,H1 p=none->Q (.ref p) (upd H1 p (.lst xs))
theorem aY {x1} (h:PA X es t):PE X (.Tuple es x1 pos) (ij t):=by
 intro pins s σ H Q I hq
 refine wpAny_Tuple_spliced (bA (h pos pins s σ H _ I hq) fun us s1 ⟨xs,H1,I1,r,z,q⟩=>⟨by rw [<-r.length];exact z,?_⟩)
 have hf:H1 s1.heap.objs.size=none:=I1.aN.fresh (Nat.le_refl _)
 refine⟨.ref s1.heap.objs.size,upd H1 s1.heap.objs.size (.tup xs),I1.laid (t':=s1.toks) (fun b u e=>Heap.get?_push_of_some _ e) (Nat.le_refl _) ?_,rfl,q _ hf⟩
 exact⟨z,us,r,⟨_,Heap.get?_push_size _ rfl,rfl,_,rfl,rfl⟩⟩
theorem b8 (h:PA X es t):PE X (.List es pos) (ya t):=by
 intro pins s σ H Q I hq
 refine wpAny_List_spliced (bA (h pos pins s σ H _ I hq) fun us s1 ⟨xs,H1,I1,r,z,q⟩=>⟨by rw [<-r.length];exact z,?_⟩)
 have hf:H1 s1.heap.objs.size=none:=I1.aN.fresh (Nat.le_refl _)
 refine⟨.ref s1.heap.objs.size,upd H1 s1.heap.objs.size (.lst xs),I1.laid (t':=s1.toks) (fun b u e=>Heap.get?_push_of_some _ e) (Nat.le_refl _) ?_,rfl,q _ hf⟩
 exact⟨z,us,0,r,Heap.get?_push_size _ rfl⟩
end
abbrev Sp:=List V->Hp->VK->XK->Prop
abbrev kU:=List Env->Hp->Shared->XK->Value->Shared->Prop
structure ve (P:Program) (w:World) (K:PySem.W.Frag) (mg:Str->Option Value) (base:Heap) (A:Around) (outer:List Env) (s:Shared) (H:Hp):Prop where
 frames:A.frames=some outer
 mod:Mod K mg base
 bs:∀ b o,base.get? b=some o->s.heap.get? b=some o/\H b=none
 pD:base.objs.size<=s.heap.objs.size
 iJ:s.heap.FunFrames base outer
 ue:∀ b ∈ kO outer,H b=none
 aN:dH P w H s.heap
 bare:AllBare s.gens
def CE (outer:List Env) (P:Program) (w:World) (H:Hp) (s:Shared) (Q:VK) (u:Value) (s':Shared):Prop :=
 ∃ v H',s'.os=s.os/\AllBare s'.gens/\Un (kO outer) [] H H' s.heap s'.heap/\dH P w H' s'.heap/\RelV v u/\Q v H'
def CR (CX:kU) (outer:List Env) (P:Program) (w:World) (H:Hp) (s:Shared) (Q:VK) (E:XK) (r:Result) (s':Shared):Prop :=
 match r with
 | .ok (.ret u)=>CE outer P w H s Q u s'
 | .ok _=>False
 | .error e=>CX outer H s E e s'
structure bw (P:Program) (w:World) (K:PySem.W.Frag) (mg:Str->Option Value) (base:Heap) (CX:kU) (k:Nat) (f:Addr) (fd:FuncData) (ps:List Str) (sp:Sp):Prop where
 len:∀ vs H Q E,sp vs H Q E->vs.length=ps.length
 run:∀ (A:Around) (outer:List Env) (s:Shared) (H:Hp) (args:Args) (us:List Value) (vs:List V) (Q:VK) (E:XK),eF k A->ve P w K mg base A outer s H->BindsTo s fd args (ps.zip us)->Vals vs us->sp vs H Q E ->
  codeAny (model P w) A (.call (.ref f) args) (CR CX outer P w H s Q E) s
section
variable {X:Cx} {pins:List (Addr × Obj)} {σ : St} {H:Hp} {s s':Shared}
theorem Inv.CW (I:Inv X pins σ H s):ve X.prog X.w X.K X.mg X.base X.A X.stack s H :=
 ⟨I.ok.frames,I.ok.mod,I.bs,Nat.le_trans I.ok.pD I.sz,I.stack,I.uf,I.aN,I.bare⟩
theorem Inv.after {Q:VK} {u:Value} (I:Inv X pins σ H s) (h:CE X.stack X.prog X.w H s Q u s'):EP X pins σ Q u s':=by
 obtain⟨v,H',os,bare,un,aN,r,q⟩:=h
 obtain⟨hh,g,d,t,os'⟩:=s'
 obtain rfl:os' = s.os:=os
 exact⟨v,H',I.call (h':=hh) (g':=g) (d':=d) (t':=t) (ch:=[]) un aN bare (fun b z=>absurd z (by simp)),r,q⟩
end
def qL (sp:Sp) (dvs:List V) (E:XK) (t:TA):TE:=fun σ H Q=>t σ H fun vs H1=>sp (vs++dvs) H1 Q E
def Binds (K:PySem.W.Frag) (fd:FuncData) (ps:List Str) (ds:List Value):Prop :=
 ∀ (s:Shared) (us:List Value),K.In s.heap->(us++ds).length=ps.length->BindsTo s fd ⟨us,[]⟩ (ps.zip (us++ds))
theorem Binds.all {K:PySem.W.Frag} {fd:FuncData} {ps:List Str} (h:∀ us:List Value,us.length=ps.length->bindArgs fd ⟨us,[]⟩=pure (ps.zip us)):Binds K fd ps []:=fun s us _ hl=>by
 rw [List.append_nil] at hl ⊢
 exact .of_eq (h us hl)
def Passes (CX:kU) (X:Cx) (E:XK):Prop:=∀ (pins:List (Addr × Obj)) (σ : St) (H:Hp) (s:Shared) (e:Value) (s':Shared),Inv X pins σ H s->CX X.stack H s E e s'->X.xe e s'
section
variable {X:Cx} {CX:kU} {k:Nat} {f C:Addr} {fd:FuncData} {ps:List Str} {sp:Sp} {dvs:List V} {ds:List Value} {E:XK} {x m:Str} {p pos apos:Pos} {e o:Expr} {es:List Expr} {ta:TE} {t:TA}
theorem AN {pins:List (Addr × Obj)} {σ : St} {H:Hp} {s:Shared} {Q:VK} {us:List Value} {vs:List V} (F:bw X.prog X.w X.K X.mg X.base CX k f fd ps sp) (hr:eF k X.A) (hb:Binds X.K fd ps ds) (hd:Vals dvs ds) (hx:Passes CX X E)
  (I:Inv X pins σ H s) (r:Vals vs us) (h:sp (vs++dvs) H Q E):wpAny (model X.prog X.w) X.A (call (.ref f) us) (EP X pins σ Q) X.xe s:=by
 have r2:Vals (vs++dvs) (us++ds):=r.append hd
 have hl:(us++ds).length=ps.length:=by rw [<-r2.length];exact F.len _ _ _ _ h
 refine wpAny_call (codeAny_mono (F.run X.A X.stack s H ⟨us,[]⟩ (us++ds) (vs++dvs) Q E hr I.CW (hb s us I.fS hl) r2 h) fun r s' hq=>?_)
 cases r with
 | error e=>exact hx pins σ H s e s' I hq
 | ok fl =>
  cases fl with
  | ret u=>exact I.after hq
  | next=>exact False.elim hq
  | brk=>exact False.elim hq
  | cont=>exact False.elim hq
theorem zU (F:bw X.prog X.w X.K X.mg X.base CX k f fd ps sp) (hr:eF k X.A) (hg:Gl X x) (hm:X.mg x=some (.ref f)) (hk:PySem.W.keepIn X.K (.ref f)=true) (hb:Binds X.K fd ps ds) (hd:Vals dvs ds) (hx:Passes CX X E)
  (ha:PA X (e :: es) t) (hdb:(x == ("__debug__" : Str))=false:=by decide) (he:starEach (e :: es) X.env=(false,eval e X.env) :: starEach es X.env:=by rfl) (hpl:(backTo pos (starEach es X.env)).any (·.1)=false:=by rfl) :
  PE X (.Call (.Name x p) (e :: es) [] pos) (qL sp dvs E t):=by
 intro pins s σ H Q I h
 refine wpAny_Call_Name_kw (uh I hg hm ?_ hdb)
 refine PySem.W.callWith_K (h₀:=X.base) I.ok.mod.AE hk (bA (ha pos pins s σ H _ I h) fun us s1 ⟨vs,H1,I1,r,q⟩=>⟨I1.fS,?_⟩) he hpl
 exact AN F hr hb hd hx I1 r q
end
section
variable {X:Cx} {CX:kU} {k:Nat} {f C:Addr} {fd:FuncData} {ps ks:List Str} {sp:Sp} {E:XK} {x m:Str} {p pos apos kpos:Pos} {e o:Expr} {es:List Expr} {kws:List Keyword} {te ta:TE} {t tk:TA} {nm:Option Str}
variable {g:List Value->List Value->List Value} {gV:List V->List V->List V}
end
structure aO (N P:List Str) (sc:Scope):Prop where
 kind:sc.kind=.function
 co:sc.isCoroutine=false
 gen:sc.isGenerator=false
 nd:N.Nodup
 pre:N.take P.length=P
 par:∀ x ∈ P,sc.names.lookup x=some .local\/sc.names.lookup x=some .cell
 AO:∀ y ∈ sc.names,y.2 ≠ .free
theorem pH {kindOf:Str->Option NameKind} {x:Str}:∀ {binds:List (Str × Value)} {m:Str->Option Value},(∀ v,(x,v) ∉ binds)->bindL kindOf binds m x=m x
 | [],_,_=>rfl
 | (n,v) :: r,m,h=>by
  unfold bindL
  rw [pH fun w hw=>h w (List.mem_cons_of_mem _ hw)]
  split
  ·have:x ≠ n:=by rintro rfl;exact h v List.mem_cons_self
   simp [this]
  ·rfl
theorem pI {kindOf:Str->Option NameKind} {x:Str}:∀ {binds:List (Str × Value)} {m:Str->Option Value},(∀ v,(x,v) ∉ binds)->bindC kindOf binds m x=m x
 | [],_,_=>rfl
 | (n,v) :: r,m,h=>by
  unfold bindC
  rw [pI fun w hw=>h w (List.mem_cons_of_mem _ hw)]
  split
  ·rfl
  ·have:x ≠ n:=by rintro rfl;exact h v List.mem_cons_self
   simp [this]
theorem pJ {kindOf:Str->Option NameKind} {x:Str} {v:Value}:∀ {P:List Str} {vs:List Value} {i:Nat} {m:Str->Option Value},P.Nodup->P[i]? = some x->vs[i]? = some v->kindOf x=some .local ->
  bindL kindOf (P.zip vs) m x=some v
 | [],_,_,_,_,h,_,_=>by simp at h
 | _ :: _,[],_,_,_,_,h,_=>by simp at h
 | p :: P,w :: vs,0,m,nd,h1,h2,hk=>by
  simp at h1 h2;subst h1;subst h2
  show bindL kindOf ((p,w) :: P.zip vs) m p=_
  unfold bindL
  rw [pH fun v hv=>(List.nodup_cons.mp nd).1 (List.of_mem_zip hv).1,if_pos hk]
  simp
 | p :: P,w :: vs,i+1,m,nd,h1,h2,hk=>by
  show bindL kindOf ((p,w) :: P.zip vs) m x=_
  unfold bindL
  exact pJ (i:=i) (List.nodup_cons.mp nd).2 (by simpa using h1) (by simpa using h2) hk
theorem pK {kindOf:Str->Option NameKind} {x:Str} {v:Value}:∀ {P:List Str} {vs:List Value} {i:Nat} {m:Str->Option Value},P.Nodup->P[i]? = some x->vs[i]? = some v->kindOf x ≠ some .local ->
  bindC kindOf (P.zip vs) m x=some v
 | [],_,_,_,_,h,_,_=>by simp at h
 | _ :: _,[],_,_,_,_,h,_=>by simp at h
 | p :: P,w :: vs,0,m,nd,h1,h2,hk=>by
  simp at h1 h2;subst h1;subst h2
  show bindC kindOf ((p,w) :: P.zip vs) m p=_
  unfold bindC
  rw [pI fun v hv=>(List.nodup_cons.mp nd).1 (List.of_mem_zip hv).1,if_neg hk]
  simp
 | p :: P,w :: vs,i+1,m,nd,h1,h2,hk=>by
  show bindC kindOf ((p,w) :: P.zip vs) m x=_
  unfold bindC
  exact pK (i:=i) (List.nodup_cons.mp nd).2 (by simpa using h1) (by simpa using h2) hk
def start (N:List Str) (vs:List V):St:=vs.map some++List.replicate (N.length - vs.length) none
def oF (CX:kU) (P:Program) (w:World) (K:PySem.W.Frag) (mg:Str->Option Value) (base:Heap) (N:List Str) (qual:Str) (scope:Scope) (f:Addr) (cd:Value) (A:Around) (outer:List Env) (s:Shared) (H:Hp) (E:XK):Cx where
 prog:=P
 w:=w
 K:=K
 mg:=mg
 base:=base
 A:=A.deeper (envOfC qual scope s.heap.objs.size f cd)
 N:=N
 dG:=s
 jS:=H
 env:=envOfC qual scope s.heap.objs.size f cd
 outer:=outer
 stack:=envOfC qual scope s.heap.objs.size f cd :: outer
 ex:=[]
 calm:=true
 fn:=fun _=>true
 pn:=[]
 xe:=fun e s'=>wpAny (model P w) (A.deeper (envOfC qual scope s.heap.objs.size f cd)) (leaving (envOfC qual scope s.heap.objs.size f cd) e) (fun _ s''=>CX outer H s E e s'') (fun e' s''=>CX outer H s E e' s'') s'
theorem q9 {sc:Scope} {n:Nat} {x:Str} (h:sc.names.lookup x=some .cell):∃ c,(cellsFrom n sc.names []).lookup x=some c:=by
 have q:=PySem.W.cellsFrom_some sc.names n [] (.inl h)
 exact Option.isSome_iff_exists.mp q
theorem wA {CX:kU} {P:Program} {w:World} {K:PySem.W.Frag} {mg:Str->Option Value} {base:Heap} {N ps:List Str} {qual:Str} {scope:Scope} {f:Addr} {cd:Value} {A:Around} {outer:List Env} {s s1:Shared} {H:Hp} {E:XK} {us:List Value} {vs:List V}
  (S:aO N ps scope) (hd:A.handled=none) (e0:ve P w K mg base A outer s H) (hl:vs.length=ps.length) (r:Vals vs us)
  (x:InCallC s s.heap.objs.size (bindL (envOfC qual scope s.heap.objs.size f cd).kindOf (ps.zip us) fun _=>none) (cellsFrom (s.heap.objs.size+1) scope.names []) (bindC (envOfC qual scope s.heap.objs.size f cd).kindOf (ps.zip us) fun _=>none) s1) :
  Inv (oF CX P w K mg base N qual scope f cd A outer s H E) [] (start N vs) H s1:=by
 have hpl:ps.length<=N.length:=by have:=congrArg List.length S.pre;rw [List.length_take] at this;omega
 obtain⟨h1,tk,rfl,hk⟩:=x.done
 have noA:∀ b:Addr,b ∉ (oF CX P w K mg base N qual scope f cd A outer s H E).ex:=fun b z=>absurd (show b ∈ ([]:List Addr) from z) (by simp)
 refine⟨⟨e0.mod,S.kind,rfl,rfl,Nat.le_refl _,fun y z c h1 h2=>?_,fun y hy=>?_,fun y c _ h=>?_,fun _=>hd,Around.frames_deeper e0.frames,.inr ⟨rfl,rfl⟩,fun b z=>absurd z (noA b),e0.bs,e0.pD,fun b _ _=>noA b,fun b z=>absurd z (noA b),e0.iJ,e0.ue⟩,
  rfl,e0.bare,Un.kept hk,⟨_,x.toInCall.ns,fun i y v h1 h2 h3=>?_⟩,fun y c h=>⟨_,x.cell y c h⟩,e0.aN.fresh (Nat.le_refl _),fun y c h=>?_,fun p hp=>absurd (show p ∈ ([]:List (Addr × Obj)) from hp) (by simp),e0.aN.kept hk,?_⟩
 ·exact name_of_addr x.apart (PySem.mem_of_lookup h1) (PySem.mem_of_lookup h2)
 ·have hy:scope.names.lookup y=some .cell\/scope.names.lookup y=some .free:=hy
  rcases hy with hy | hy
  ·exact q9 hy
  ·exact absurd rfl (S.AO _ (PySem.mem_of_lookup hy))
 ·exact Nat.le_of_lt (x.above y c (PySem.mem_of_lookup h))
 ·have hi:i < vs.length:=by
   unfold start at h2
   by_cases hi:i < vs.length
   ·exact hi
   ·rw [List.getElem?_append_right (by simpa using hi)] at h2
    rw [List.getElem?_replicate] at h2
    split at h2 <;> cases h2
  have ha:vs[i]? = some v:=by
   unfold start at h2
   rw [List.getElem?_append_left (by simpa using hi),List.getElem?_map] at h2
   cases e:vs[i]? with
   | none=>rw [e] at h2;cases h2
   | some a=>rw [e] at h2;cases h2;rfl
  obtain⟨u,hu,rv⟩:=r.get ha
  have hp:ps[i]? = some y:=by
   rw [<-S.pre,List.getElem?_take_of_lt (by omega)];exact h1
  have ndP:ps.Nodup:=by rw [<-S.pre];exact S.nd.sublist (List.take_sublist _ _)
  refine⟨u,rv,?_⟩
  rcases S.par y (List.mem_of_getElem? hp) with k | k
  ·exact .inl ⟨k,pJ ndP hp hu k⟩
  ·obtain⟨c,e⟩:=q9 (n:=s.heap.objs.size+1) k
   refine .inr ⟨.inl k,c,e,?_⟩
   have q:=x.cell y c e
   rw [pK ndP hp hu (by show scope.names.lookup y ≠ _;rw [k];decide)] at q
   exact q
 ·exact e0.aN.fresh (Nat.le_of_lt (x.above y c (PySem.mem_of_lookup h)))
 ·unfold start
  show _=N.length
  rw [List.length_append,List.length_map,List.length_replicate]
  omega
theorem BR {CX:kU} {P:Program} {w:World} {K:PySem.W.Frag} {mg:Str->Option Value} {base:Heap} {k:Nat} {f:Addr} {name qual:Str} {params:Arguments} {body:List Stmt} {scope:Scope} {dV kV doc pm cdv ct oc:Value} {an od:Option Addr}
  {osl:Array (Option Value)} {N ps:List Str} {sp:Sp} (lk:K.lookup f=some ⟨oc,od,.func (PySem.W.fnOf name qual params body scope dV kV doc pm an cdv ct),osl⟩) (hcd:PySem.W.codeIn K cdv qual=true) (S:aO N ps scope)
  (len:∀ vs H Q E,sp vs H Q E->vs.length=ps.length)
  (hbody:∀ (A:Around) (outer:List Env) (s:Shared) (H:Hp) (vs:List V) (Q:VK) (E:XK),eF k (A.deeper (envOfC qual scope s.heap.objs.size f cdv))->sp vs H Q E ->
   ∃ t,iK (oF CX P w K mg base N qual scope f cdv A outer s H E) body t/\t { nx:=fun _ H'=>Q .aC H',rt:=Q } (start N vs) H) :
  bw P w K mg base CX (k+1) f (PySem.W.fnOf name qual params body scope dV kV doc pm an cdv ct) ps sp:=by
 refine⟨len,fun A outer s H args us vs Q E hr e0 hb r hsp=>?_⟩
 have hl:=len _ _ _ _ hsp
 have KX:K.In s.heap:=e0.mod.AE.keeps fun b o e=>(e0.bs b o e).1
 have lim:s.heap.NoLimit:=e0.mod.nolimit.keeps fun b o e=>(e0.bs b o e).1
 have hkind:∀ y ∈ ps.zip us,scope.names.lookup y.1=some .local\/(scope.names.lookup y.1=some .cell/\((cellsFrom (s.heap.objs.size+1) scope.names []).lookup y.1).isSome=true):=fun ⟨n,v⟩ hy=>by
  rcases S.par n (List.of_mem_zip hy).1 with q | q
  ·exact .inl q
  ·exact .inr ⟨q,PySem.W.cellsFrom_some _ _ _ (.inl q)⟩
 refine codeAny_call_function hr.depth (KX _ _ lk) rfl S.co S.gen rfl (PySem.W.codeRec_of KX hcd) (hb _ _ _ _ ?_)
 refine wpAny_newFunctionEnv_cells S.kind hkind fun env he s1 x=>?_
 subst he
 refine⟨lim.keeps x.toInCall.keep,codeAny_func ?_⟩
 obtain⟨t,ht,hq⟩:=hbody A outer s H vs Q E (hr.deeper _) hsp
 have I:Inv (oF CX P w K mg base N qual scope f cdv A outer s H E) [] (start N vs) H s1:=wA S hr.hd e0 hl r x
 refine wpAny_mono (ht [] s1 (start N vs) H _ I hq) (fun fl s' hs=>?_) fun e s' hs=>hs
 have fin:∀ {σ':St} {H':Hp} {v:V} {u:Value},Inv (oF CX P w K mg base N qual scope f cdv A outer s H E) [] σ' H' s'->RelV v u->Q v H'->CE outer P w H s Q u s' :=
  fun {σ' H' v u} J rv q=>⟨v,H',J.os,J.bare,J.base,J.aN,rv,q⟩
 cases fl with
 | ret u =>
  obtain⟨v,σ',H',J,rv,q⟩:=hs
  exact fin J rv q
 | next =>
  obtain⟨σ',H',J,q⟩:=hs
  exact fin (v:=V.aC) (u:=Value.none) J rfl q
 | brk =>
  obtain⟨_,_,_,q⟩:=hs
  exact False.elim q
 | cont =>
  obtain⟨_,_,_,q⟩:=hs
  exact False.elim q
section
variable {X:Cx} {x:Str} {p pos:Pos} {e:Expr} {es:List Expr} {t:TA} {id T:String} {r:List V->Hp->VK->Prop}
def Cr (r:List V->Hp->VK->Prop) (t:TA):TE:=fun σ H Q=>t σ H fun vs H1=>r vs H1 Q
theorem aX (hc:eR X (.builtin id) r) (hg:Gl X x) (hm:X.mg x=none) (hv:bootBuiltins x=some (.builtin id)) (ha:PA X (e :: es) t) (hn:x ≠ "__name__" := by decide) (hdb:(x == ("__debug__" : Str))=false:=by decide)
  (he:starEach (e :: es) X.env=(false,eval e X.env) :: starEach es X.env:=by rfl) (hpl:(backTo pos (starEach es X.env)).any (·.1)=false:=by rfl):PE X (.Call (.Name x p) (e :: es) [] pos) (Cr r t):=by
 intro pins s σ H Q I h
 refine wpAny_Call_Name_kw (kQ I hg hm hv ?_ hn hdb)
 exact PyProof.Rows.callWith_builtin1 (bA (ha pos pins s σ H _ I h) fun us s1 ⟨vs,H1,I1,r1,q1⟩=>hc pins s1 σ H1 vs us Q I1 r1 q1) he hpl
theorem ba (hc:eR X (.type T) r) (hg:Gl X x) (hm:X.mg x=none) (hv:bootBuiltins x=some (.type T)) (ha:PA X (e :: es) t) (hn:x ≠ "__name__" := by decide) (hdb:(x == ("__debug__" : Str))=false:=by decide)
  (he:starEach (e :: es) X.env=(false,eval e X.env) :: starEach es X.env:=by rfl) (hpl:(backTo pos (starEach es X.env)).any (·.1)=false:=by rfl):PE X (.Call (.Name x p) (e :: es) [] pos) (Cr r t):=by
 intro pins s σ H Q I h
 refine wpAny_Call_Name_kw (kQ I hg hm hv ?_ hn hdb)
 exact PyProof.Rows.callWith_type1 (bA (ha pos pins s σ H _ I h) fun us s1 ⟨vs,H1,I1,r1,q1⟩=>hc pins s1 σ H1 vs us Q I1 r1 q1) he hpl
end
end L2
namespace HT
open PySem PyProof.Rows
section
open PySem.SeqAt
open PySem.AutoSeq1 (wpAny_loadPart')
open PySem.MeetsSeq PySem.MeetsSeq2 PySem.MeetsSeq3
end
section
variable {prog:Program} {w:World} {A:Around} {E:Value->Shared->Prop} {s:Shared}
def b5 (n d:Nat):Option Int->Nat
 | none=>d
 | some v=>if v < 0 then (v+(n:Int)).toNat else min v.toNat n
theorem AQ (n d:Nat) (hd:d<=n) (o:Option Int):b5 n d o<=n:=by
 cases o with
 | none=>exact hd
 | some v =>
  show (if v < 0 then (v+(n:Int)).toNat else min v.toNat n)<=n
  by_cases hv:v < 0
  ·rw [if_pos hv];omega
  ·rw [if_neg hv];exact Nat.min_le_right _ _
theorem ur (v:Int) (n d:Nat):(if v < 0 then max (v+(n:Int)) 0 else min v (n:Int))=((b5 n d (some v):Nat):Int):=by
 show (if v < 0 then max (v+(n:Int)) 0 else min v (n:Int))=(((if v < 0 then (v+(n:Int)).toNat else min v.toNat n):Nat):Int)
 by_cases hv:v < 0
 ·simp only [if_pos hv];omega
 ·simp only [if_neg hv];omega
theorem vf (lo hi:Option Int) (n:Nat):Builtin.Slice.sliceAdjust lo hi 1 (n:Int)=(((b5 n 0 lo:Nat):Int),((b5 n n hi:Nat):Int)):=by
 have h1:¬ ((1:Int) < 0):=by omega
 unfold Builtin.Slice.sliceAdjust
 simp only [h1,if_false]
 refine Prod.ext ?_ ?_
 ·cases lo with
  | none=>rfl
  | some v=>exact ur v n 0
 ·cases hi with
  | none=>rfl
  | some v=>exact ur v n n
theorem vg (i j:Nat):Builtin.Slice.slicePlaces (i:Int) (j:Int) 1=j - i:=by
 unfold Builtin.Slice.slicePlaces
 have h1:(1:Int) > 0:=by omega
 simp only [h1,if_true,Int.ediv_one]
 split <;> omega
theorem nI {v:Value} {o:Option Int} {Q:Option Int->Shared->Prop} (p:IsPart v o) (h:Q o s):wpAny (model prog w) A (Builtin.Slice.slicePartIndex v) Q E s:=by
 cases p with
 | none=>exact slicePart_none h
 | int i t=>exact slicePart_int h
theorem iL {sl:Addr} {vl vu:Value} {lo hi:Option Int} {n:Nat} {Q:Int × Int × Nat->Shared->Prop} (hs:s.heap.IsSliceOf sl vl vu .none) (pl:IsPart vl lo) (pu:IsPart vu hi)
  (h:Q (((b5 n 0 lo:Nat):Int),1,b5 n n hi - b5 n 0 lo) s):wpAny (model prog w) A (Builtin.Slice.sliceApplied (.ref sl) (pure (n:Int))) Q E s:=by
 obtain⟨os,hos,hcs,hds⟩:=id hs
 unfold Builtin.Slice.sliceApplied Builtin.Slice.sliceFields
 refine wpAny_bind (wpAny_bind (wpAny_field hos hds (x:=vl) rfl (wpAny_bind (wpAny_field hos hds (x:=vu) rfl (wpAny_bind (wpAny_field hos hds (x:=.none) rfl (wpAny_pure ?_)))))))
 refine wpAny_bind (slicePart_none ?_)
 show wpAny _ _ (if ((1:Int) == 0)=true then _ else _) _ _ s
 rw [if_neg (by decide)]
 refine wpAny_bind (nI pl (wpAny_bind (nI pu (wpAny_bind (wpAny_pure ?_)))))
 show wpAny _ _ (match Builtin.Slice.sliceAdjust lo hi 1 (n:Int) with | (lo,hi)=>pure (lo,(1:Int),Builtin.Slice.slicePlaces lo hi 1)) _ _ s
 rw [vf lo hi n]
 show wpAny _ _ (pure (((b5 n 0 lo:Nat):Int),(1:Int),Builtin.Slice.slicePlaces ((b5 n 0 lo:Nat):Int) ((b5 n n hi:Nat):Int) 1)) _ _ s
 rw [vg]
 exact wpAny_pure h
theorem yb (xs:Array Value) (i k:Nat):((List.range k).filterMap fun (m:Nat)=>xs[((i:Int)+(m:Int) * 1).toNat]?).toArray=((xs.toList.drop i).take k).toArray:=by
 have e:(fun (m:Nat)=>xs[((i:Int)+(m:Int) * 1).toNat]?)=fun m=>xs[i+m]?:=by
  funext m
  have:((i:Int)+(m:Int) * 1).toNat=i+m:=by omega
  rw [this]
 rw [e]
 have:=pick_run xs i k
 rw [List.filterMap_map] at this
 have e2:((fun x=>xs[x]?) ∘ fun x=>i+x)=fun m=>xs[i+m]?:=rfl
 rw [e2] at this
 rw [this]
theorem mF {t sl:Addr} {items:Array Value} {vl vu:Value} {lo hi:Option Int} {Q:Value->Shared->Prop} (ht:IsTup s.heap t items) (hs:s.heap.IsSliceOf sl vl vu .none) (pl:IsPart vl lo) (pu:IsPart vu hi)
  (hw:¬ (b5 items.size 0 lo=0/\b5 items.size items.size hi=items.size))
  (h:Q (.ref s.heap.objs.size) { s with heap:=s.heap.push { cls:=.type "tuple",data:=.seq ((items.toList.drop (b5 items.size 0 lo)).take (b5 items.size items.size hi - b5 items.size 0 lo)).toArray } })
  (hsz:items.size<=sizeLine):wpAny (model prog w) A (getItem (.ref t) (.ref sl)) Q E s:=by
 have htake:sizeOk (.seq ((items.toList.drop (b5 items.size 0 lo)).take (b5 items.size items.size hi - b5 items.size 0 lo)).toArray):=by
  show ((items.toList.drop (b5 items.size 0 lo)).take (b5 items.size items.size hi - b5 items.size 0 lo)).toArray.size<=sizeLine
  rw [List.size_toArray,List.length_take,List.length_drop,Array.length_toList]
  omega
 have hj:b5 items.size items.size hi<=items.size:=AQ _ _ (Nat.le_refl _) hi
 obtain⟨os,hos,hcs,hds⟩:=id hs
 have hTs:s.TypeIs (.ref sl) "slice" := ⟨os,hos,hcs⟩
 unfold getItem
 try with_reducible refine wpAny_holding ?_
 first | refine wpAny_bind (wpAny_pure ?_) | skip
 refine wpAny_bind (wpAny_sequenceKey ht.typeIs (by decide) ?_)
 refine wpAny_bind (wpAny_callSpecial?_slot (name:=Str.ofString "__getitem__") ht.typeIs PyProof.Rows.slot_tuple_getitem
  (wpAny_call_entry PyProof.Rows.slot_tuple_getitem ht.typeIs entry_tuple_getitem ?_ (args_tuple_getitem _ _)))
 show wpAny _ _ (Builtin.Tuple.tupleItemsOf (.ref t) >>= _) _ _ s
 refine wpAny_bind (tupleItemsOf_ ht ?_)
 refine wpAny_bind (wpAny_typeOf hTs ?_)
 rw [if_pos (by decide)]
 refine wpAny_bind (iL hs pl pu ?_)
 have hno:¬ ((((b5 items.size 0 lo:Nat):Int) == 0 && (1:Int) == 1 && (b5 items.size items.size hi - b5 items.size 0 lo) == items.size)=true):=by
  intro q
  rw [Bool.and_eq_true,Bool.and_eq_true] at q
  have q1:((b5 items.size 0 lo:Nat):Int)=0:=eq_of_beq q.1.1
  have q2:b5 items.size items.size hi - b5 items.size 0 lo=items.size:=eq_of_beq q.2
  exact hw ⟨by omega,by omega⟩
 show wpAny _ _ (if (((b5 items.size 0 lo:Nat):Int) == 0 && (1:Int) == 1 && (b5 items.size items.size hi - b5 items.size 0 lo) == items.size)=true then _ else _) _ _ s
 rw [if_neg hno,yb]
 first
  | exact wpAny_bind (m:=Builtin.Tuple.tupleExact _) (wpAny_newObj_type (wpAny_pure ⟨_,rfl,wpAny_pure h⟩) htake)
  | exact wpAny_bind (m:=Builtin.Tuple.tupleExact _) (wpAny_newObj_type (wpAny_bind (wpAny_pure (wpAny_pure ⟨_,rfl,wpAny_pure h⟩))) htake)
  | exact wpAny_bind (wpAny_bind (m:=Builtin.Tuple.tupleExact _) (wpAny_newObj_type (wpAny_pure (wpAny_pure ⟨_,rfl,wpAny_pure h⟩)) htake))
  | exact wpAny_bind (wpAny_bind (m:=Builtin.Tuple.tupleExact _) (wpAny_newObj_type (wpAny_pure ⟨_,rfl,wpAny_pure h⟩) htake))
end
end HT
namespace L2
open PySem PySem.Spec PyProof.Rows
abbrev TO:=St->Hp->(Option Int->Hp->Prop)->Prop
def PO (X:Cx) (e:Option Expr) (t:TO):Prop :=
 ∀ (pins:List (Addr × Obj)) (s:Shared) (σ : St) (H:Hp) (Q:Option Int->Hp->Prop),Inv X pins σ H s->t σ H Q ->
  wpAny (model X.prog X.w) X.A (evalPart e X.env) (fun u s'=>∃ o H',Inv X pins σ H' s'/\IsPart u o/\Q o H') X.xe s
def zV:TO:=fun _ H Q=>Q none H
inductive yc (Q:(Option Int->Hp->Prop)) (x:V) (H1:Hp):Prop
 | mk (i:_) (_:x=.int i) (_:Q (some i) H1)
def BS (t:TE):TO:=fun σ H Q=>t σ H fun x H1=>yc Q x H1
theorem intsAre_of {ns:List Int}:∀ {us:List Value},Vals (ns.map V.int) us->IntsAre us ns:=by
 induction ns with
 | nil=>intro us r;rw [List.map_nil] at r;cases r;exact .nil
 | cons n ns ih =>
  intro us r
  rw [List.map_cons] at r
  cases r with
  | cons r1 r2 =>
   obtain⟨t,e⟩:=r1
   subst e
   exact .cons n t (ih r2)
section
variable {X:Cx} {e:Expr} {te:TE} {lo hi:Option Expr} {tl th:TO} {pos p2:Pos}
theorem uv:PO X none zV:=by
 intro pins s σ H Q I h
 rw [evalPart_none]
 exact wpAny_pure ⟨none,H,I,.none,h⟩
theorem uw (h:PE X e te):PO X (some e) (BS te):=by
 intro pins s σ H Q I hw
 rw [evalPart_some]
 refine bA (h pins s σ H _ I hw) fun u s1 ⟨x,H1,I1,r1,q1⟩=>?_
 obtain⟨i,rfl,q⟩:=q1
 obtain⟨t,rfl⟩:=r1
 exact⟨some i,H1,I1,.int i t,q⟩
def AR (X:Cx) (r:V->Option Int->Option Int->Hp->VK->Prop):Prop :=
 ∀ (pins:List (Addr × Obj)) (s:Shared) (σ : St) (H:Hp) (x:V) (v vl vu:Value) (lo hi:Option Int) (sl:Addr) (Q:VK),Inv X pins σ H s->RelV x v->s.heap.IsSliceOf sl vl vu .none->IsPart vl lo->IsPart vu hi->r x lo hi H Q ->
  ∃ T id,typeLookup (.type T) "__getitem__" = pure (some (.builtin id))/\s.TypeIs v T/\wpAny (model X.prog X.w) X.A (getItem v (.ref sl)) (EP X pins σ Q) X.xe s
def Dj (r:V->Option Int->Option Int->Hp->VK->Prop) (te:TE) (tl th:TO):TE:=fun σ H Q=>te σ H fun x H1=>tl σ H1 fun l H2=>th σ H2 fun u H3=>r x l u H3 Q
theorem rh {r:V->Option Int->Option Int->Hp->VK->Prop} (hr:AR X r) (he:PE X e te) (hl:PO X lo tl) (hu:PO X hi th):PE X (.Subscript e (.Slice lo hi none p2) pos) (Dj r te tl th):=by
 intro pins s σ H Q I h
 refine Subscript_ (bA (he pins s σ H _ I h) fun v s1 ⟨x,H1,I1,r1,q1⟩=>?_)
 refine wpAny_Slice (bA (hl pins s1 σ H1 _ I1 q1) fun vl s2 ⟨l,H2,I2,pl,q2⟩=>bA (hu pins s2 σ H2 _ I2 q2) fun vu s3 ⟨u,H3,I3,pu,q3⟩=>?_)
 rw [evalPart_none]
 refine wpAny_pure ?_
 have I4:Inv X pins σ H3 { s3 with heap:=s3.heap.push { cls:=.type "slice",data:=.fields #[vl,vu,.none] } }:=I3.kept (t':=s3.toks) fun b ob q=>Heap.get?_push_of_some _ q
 obtain⟨T,id,hT,ht,hg⟩:=hr pins { s3 with heap:=s3.heap.push { cls:=.type "slice",data:=.fields #[vl,vu,.none] } } σ H3 x v vl vu l u s3.heap.objs.size Q I4 r1 (Heap.IsSliceOf.new ..) pl pu q3
 show wpAny (model X.prog X.w) X.A (subscriptTail e (.Slice lo hi none p2) v (.ref s3.heap.objs.size)) (EP X pins σ Q) X.xe { s3 with heap:=s3.heap.push { cls:=.type "slice",data:=.fields #[vl,vu,.none] } }
 exact tail_any (ops:=[.ref s3.heap.objs.size,v]) ht hT hg (by with_unfolding_all rfl)
def mV (xs:List V) (lo hi:Option Int):List V:=(xs.drop (HT.b5 xs.length 0 lo)).take (HT.b5 xs.length xs.length hi - HT.b5 xs.length 0 lo)
theorem tI (xs:List V) (lo hi:Option Int):(mV xs lo hi).length<=xs.length:=by
 unfold mV
 rw [List.length_take,List.length_drop]
 omega
inductive CY (K:PySem.W.Frag) (x:V) (lo:Option Int) (hi:Option Int) (H:Hp) (Q:VK):Prop
 | mk (a xs:_) (_:x=.ref a) (_:ar K H a xs) (_:¬ (HT.b5 xs.length 0 lo=0/\HT.b5 xs.length xs.length hi=xs.length)) (_:∀ p,H p=none->Q (.ref p) (upd H p (.tup (mV xs lo hi))))
theorem AS:AR X (CY X.K):=by
 intro pins s σ H x v vl vu lo hi sl Q I rx hs pl pu h
 obtain⟨a,xs,rfl,hx,hw,q⟩:=h
 cases rx
 obtain⟨its,r,ht,hz⟩:=I.tuple hx
 have hlen:its.toArray.size=xs.length:=by rw [List.size_toArray];exact r.length.symm
 refine⟨"tuple",_,PyProof.Rows.slot_tuple_getitem.lookup,ht.typeIs,?_⟩
 refine HT.mF ht hs pl pu (by rw [hlen];exact hw) ?_ (by rw [hlen];exact hz)
 rw [hlen]
 refine⟨.ref s.heap.objs.size,_,I.laid (t':=s.toks) (o:=.tup (mV xs lo hi)) (fun b ob q=>Heap.get?_push_of_some _ q) (Nat.le_refl _) ?_,rfl,q _ (I.aN.fresh (Nat.le_refl _))⟩
 exact⟨Nat.le_trans (tI xs lo hi) hz,_,(r.drop (HT.b5 xs.length 0 lo)).take (HT.b5 xs.length xs.length hi - HT.b5 xs.length 0 lo),⟨_,Heap.get?_push_size _ rfl,rfl,_,rfl,rfl⟩⟩
end
def kW (n:Nat) (i:Int):Option Nat:=if 0<=i then (if i < n then some i.toNat else none) else if -(n:Int)<=i then some (i+n).toNat else none
def fE {α : Type} (xs:List α) (i:Int):Option α:=(kW xs.length i).bind fun j=>xs[j]?
theorem oG {n:Nat} {i:Int} {j:Nat} (h:kW n i=some j):seqIndex? i n=some j/\j < n/\-(n:Int)<=i/\i < n:=by
 unfold kW at h
 by_cases h0:0<=i
 ·rw [if_pos h0] at h
  by_cases h1:i < n
  ·rw [if_pos h1] at h
   have e:i.toNat=j:=Option.some.inj h
   exact⟨by rw [seqIndex_of h0 h1,e],by omega,by omega,h1⟩
  ·rw [if_neg h1] at h;cases h
 ·rw [if_neg h0] at h
  by_cases h1:-(n:Int)<=i
  ·rw [if_pos h1] at h
   have e:(i+n).toNat=j:=Option.some.inj h
   exact⟨by rw [seqIndex_neg (by omega) h1,e],by omega,h1,by omega⟩
  ·rw [if_neg h1] at h;cases h
theorem oH {α : Type} {xs:List α} {i:Int} {v:α} (h:fE xs i=some v):∃ j,seqIndex? i xs.length=some j/\xs[j]? = some v/\j < xs.length/\-(xs.length:Int)<=i/\i < xs.length:=by
 unfold fE at h
 cases e:kW xs.length i with
 | none=>rw [e] at h;cases h
 | some j =>
  rw [e] at h
  obtain⟨h1,h2,h3,h4⟩:=oG e
  exact⟨j,h1,h,h2,h3,h4⟩
theorem bC {α : Type} {xs:List α} {j:Nat} {v:α} (h:xs[j]? = some v):fE xs (j:Int)=some v:=by
 have hj:j < xs.length:=(List.getElem?_eq_some_iff.mp h).1
 have e:kW xs.length (j:Int)=some j:=by
  unfold kW
  rw [if_pos (by omega),if_pos (by omega)];simp
 unfold fE;rw [e];exact h
def oJ (b:Expr):Prop:=∀ o i,subscripted b false o i=operate [o,i] (getItem o i)
def rl (X:Cx) (r:R2):Prop :=
 ∀ (value slice:Expr) (pins:List (Addr × Obj)) (s:Shared) (σ : St) (H:Hp) (x y:V) (v u:Value) (Q:VK),Inv X pins σ H s->RelV x v->RelV y u->r x y H Q ->
  subscripted slice false v u=operate [v,u] (getItem v u)->wpAny (model X.prog X.w) X.A (subscriptTail value slice v u) (EP X pins σ Q) X.xe s
def Cs (X:Cx) (id:String) (r:V->List V->Hp->VK->Prop):Prop :=
 ∀ (pins:List (Addr × Obj)) (s:Shared) (σ : St) (H:Hp) (x:V) (xs:List V) (v:Value) (us:List Value) (Q:VK),Inv X pins σ H s->RelV x v->Vals xs us->r x xs H Q ->
  wpAny (model X.prog X.w) X.A (call (.builtin id) (v :: us)) (EP X pins σ Q) X.xe s
section
variable {X:Cx} {a b:Expr} {ta tb:TE} {pos:Pos}
theorem zC {r:R2} (hr:rl X r) (ha:PE X a ta) (hb:PE X b tb) (hs:oJ b):PE X (.Subscript a b pos) (uj r ta tb):=by
 intro pins s σ H Q I h
 exact Subscript_ (xW ha hb I h fun v u s2 x y H2 I2 rx ry q=>hr a b pins s2 σ H2 x y v u Q I2 rx ry q (hs _ _))
inductive rm (K:PySem.W.Frag) (x:V) (y:V) (H:Hp) (Q:VK):Prop
 | mk (p xs i v:_) (_:x=.ref p) (_:y=.int i) (_:aP K H p xs) (_:fE xs i=some v) (_:Q v H)
inductive yd (K:PySem.W.Frag) (x:V) (y:V) (H:Hp) (Q:VK):Prop
 | mk (p xs i v:_) (_:x=.ref p) (_:y=.int i) (_:ar K H p xs) (_:fE xs i=some v) (_:Q v H)
inductive CZ  (x:V) (y:V) (H:Hp) (Q:VK):Prop
 | mk (z i c:_) (_:x=.str z) (_:y=.int i) (_:z.length<=sizeLine) (_:fE z.cps.toList i=some c) (_:Q (.str ⟨#[c]⟩) H)
theorem bL:rl X (rm X.K):=by
 intro value slice pins s σ H x y v u Q I rx ry h hs
 obtain⟨p,xs,i,z,rfl,rfl,hq,he,q⟩:=h
 cases rx
 obtain⟨t,rfl⟩:=ry
 obtain⟨its,r,pl,hz⟩:=I.list hq
 obtain⟨j,h1,h2,h3,h4,h5⟩:=oH he
 obtain⟨w,ew,rw'⟩:=r.get h2
 have hl:=r.length
 have hn:=jD
 have fin:EP X pins σ Q w s:=⟨z,H,I,rw',q⟩
 by_cases h0:0<=i
 ·have hj:i.toNat=j:=by
   rw [seqIndex_of h0 h5] at h1
   exact Option.some.inj h1
  exact item_listR pl.isList h0 (by omega) (by rw [hj];simpa using ew) fin hs
 ·have hj:(i+(its.toArray.size:Int)).toNat=j:=by
   rw [seqIndex_neg (by omega) h4] at h1
   rw [List.size_toArray,<-hl]
   exact Option.some.inj h1
  exact subscriptTail_builtinR (x:=w) pl.isList.typeIs slot_list_getitem.lookup
   (wpAny_getItem_list_neg (Q:=fun r s'=>r=w/\EP X pins σ Q r s') pl.isList (by omega) (by rw [List.size_toArray] <;> omega) (by omega) (by rw [hj];simpa using ew) ⟨rfl,fin⟩) hs
theorem aR:rl X (yd X.K):=by
 intro value slice pins s σ H x y v u Q I rx ry h hs
 obtain⟨p,xs,i,z,rfl,rfl,hq,he,q⟩:=h
 cases rx
 obtain⟨t,rfl⟩:=ry
 obtain⟨its,r,pl,hz⟩:=I.tuple hq
 obtain⟨j,h1,h2,h3,h4,h5⟩:=oH he
 obtain⟨w,ew,rw'⟩:=r.get h2
 have hl:=r.length
 have hn:=jD
 have fin:EP X pins σ Q w s:=⟨z,H,I,rw',q⟩
 exact subscriptTail_builtinR (x:=w) pl.typeIs slot_tuple_getitem.lookup
  (getItem_tuple (j:=j) (Q:=fun r s'=>r=w/\EP X pins σ Q r s') pl (by omega) (by omega) (by rw [List.size_toArray,<-hl];exact h1) (by simpa using ew) ⟨rfl,fin⟩) hs
theorem nJ:rl X CZ:=by
  intro value slice pins s σ H x y v u Q I rx ry h hs
  obtain⟨z,i,c,rfl,rfl,hz,he,q⟩:=h
  obtain⟨t,rfl⟩:=rx
  obtain⟨t',rfl⟩:=ry
  obtain⟨j,h1,h2,h3,h4,h5⟩:=oH he
  have hl:z.cps.toList.length=z.length:=by simp [Str.length]
  rw [hl] at h1 h4 h5
  have hn:=jD
  exact tail_any (typeIs_str s z t) slot_str_getitem.lookup (getItem_str (c:=c) (by
    have e1:decide (i < -(2 ^ 63:Int))=false:=decide_eq_false (by omega)
    have e2:decide (i >= 2 ^ 63)=false:=decide_eq_false (by omega)
    rw [e1,e2,Bool.or_false]) (by rw [h1];simpa using h2) ⟨.str ⟨#[c]⟩,H,I.tok _,⟨_,rfl⟩,q⟩) hs
theorem vh (its:List Value) (n j:Nat) (u:Value):Obj.mapSeq (·.setIfInBounds j u) { cls:=.type "list",data:=.seq its.toArray n } = { cls:=.type "list",data:=.seq (its.set j u).toArray n }:=by
 simp [Obj.mapSeq]
theorem Inv.lst {pins:List (Addr × Obj)} {σ : St} {H:Hp} {s:Shared} {p:Addr} {xs:List V} (I:Inv X pins σ H s) (h:H p=some (.lst xs)) :
  ∃ (its:List Value) (n:Nat),Vals xs its/\s.heap.get? p=some { cls:=.type "list",data:=.seq its.toArray n }/\xs.length<=sizeLine:=by
 obtain⟨z,its,n,r,e⟩:=I.aN p _ h
 exact⟨its,n,r,e,z⟩
theorem Inv.AU {pins:List (Addr × Obj)} {σ : St} {H:Hp} {s:Shared} {p:Addr} {xs ys:List V} {its its':List Value} {n n':Nat} {f:Obj->Obj} (I:Inv X pins σ H s) (h:H p=some (.lst xs))
  (ho:s.heap.get? p=some { cls:=.type "list",data:=.seq its.toArray n }) (hf:f { cls:=.type "list",data:=.seq its.toArray n } = { cls:=.type "list",data:=.seq its'.toArray n' }) (r:Vals ys its') (hz:ys.length<=sizeLine) (t:Nat) :
  Inv X pins σ (upd H p (.lst ys)) { s with heap:=s.heap.update p f,toks:=t }:=by
 have e:(s.heap.update p f).get? p=some { cls:=.type "list",data:=.seq its'.toArray n' }:=by
  rw [Heap.get?_update_self f ho (by rw [hf] <;> rfl),hf]
 refine I.write (x:=p) (e:=p) (by rw [h];trivial) (.inl rfl) (fun b u hb q=>(Heap.get?_update_other _ _ (Ne.symm hb)).trans q) ⟨_,e⟩ ?_
 exact⟨hz,its',n',r,e⟩
inductive BU  (o:V) (i:V) (v:V) (H:Hp) (Q:(Hp->Prop)):Prop
 | mk (p xs k j:_) (_:o=.ref p) (_:i=.int k) (_:H p=some (.lst xs)) (_:kW xs.length k=some j) (_:Q (upd H p (.lst (xs.set j v))))
theorem set_list:AH X BU:=by
 intro pins s σ H o i v ov iv u Q I ro ri rv h
 obtain⟨p,xs,k,j,rfl,rfl,hp,hj,q⟩:=h
 cases ro
 obtain⟨t,rfl⟩:=ri
 obtain⟨its,n,r,ho,hz⟩:=I.lst hp
 obtain⟨h1,h2,h3,h4⟩:=oG hj
 have hl:=r.length
 have hn:=jD
 have I':Inv X pins σ (upd H p (.lst (xs.set j v))) { s with heap:=s.heap.update p (Obj.mapSeq (·.setIfInBounds j u)) } :=
  I.AU hp ho (vh its n j u) (r.set rv j) (by rw [List.length_set];exact hz) s.toks
 by_cases h0:0<=k
 ·have hk:k.toNat=j:=by
   rw [seqIndex_of h0 h4] at h1
   exact Option.some.inj h1
  exact PySem.W.ki_setAt ho h0 (by omega) (by rw [List.size_toArray,<-hl];exact h4) (by rw [hk];exact⟨_,I',q⟩)
 ·have hk:(k+(its.toArray.size:Int)).toNat=j:=by
   rw [seqIndex_neg (by omega) h3] at h1
   rw [List.size_toArray,<-hl]
   exact Option.some.inj h1
  exact PySem.W.ki_setBack ho (by omega) (by rw [List.size_toArray,<-hl];exact h3) (by omega) (by rw [hk];exact⟨_,I',q⟩)
def fC:V->Bool
 | .aC=>true
 | .bl _=>true
 | .int _=>true
 | .str _=>true
 | _=>false
def kX:V->V->Bool
 | .aC,.aC=>true
 | .bl a,.bl b=>a == b
 | .bl a,.int b=>(if a then 1 else 0) == b
 | .int a,.bl b=>a == (if b then 1 else 0)
 | .int a,.int b=>a == b
 | .str a,.str b=>a == b
 | _,_=>false
theorem AV {A:Around} {s:Shared} {y x:V} {u v:Value} (ry:RelV y u) (rx:RelV x v) (fy:fC y=true) (fx:fC x=true):SeqAt.EqAt A s u v (kX y x):=by
 cases y with
 | aC =>
  cases ry
  cases x with
  | aC=>cases rx;exact SeqAt.EqAt.same _
  | bl b=>cases rx;exact SeqAt.EqAt.none_bool b
  | int b=>obtain⟨t,rfl⟩:=rx;exact SeqAt.EqAt.none_int b t
  | str b=>obtain⟨t,rfl⟩:=rx;exact SeqAt.EqAt.none_str b t
  | _=>exact absurd (show false=true from fx) Bool.false_ne_true
 | bl a =>
  cases ry
  cases x with
  | aC=>cases rx;exact SeqAt.EqAt.bool_none a
  | bl b=>cases rx;exact SeqAt.EqAt.bool_bool a b
  | int b=>obtain⟨t,rfl⟩:=rx;exact SeqAt.EqAt.bool_int a b t
  | str b=>obtain⟨t,rfl⟩:=rx;exact SeqAt.EqAt.bool_str a b t
  | _=>exact absurd (show false=true from fx) Bool.false_ne_true
 | int a =>
  obtain⟨t',rfl⟩:=ry
  cases x with
  | aC=>cases rx;exact SeqAt.EqAt.int_none a t'
  | bl b=>cases rx;exact SeqAt.EqAt.int_bool a t' b
  | int b=>obtain⟨t,rfl⟩:=rx;exact SeqAt.EqAt.int_int a t' b t
  | str b=>obtain⟨t,rfl⟩:=rx;exact SeqAt.EqAt.int_str a t' b t
  | _=>exact absurd (show false=true from fx) Bool.false_ne_true
 | str a =>
  obtain⟨t',rfl⟩:=ry
  cases x with
  | aC=>cases rx;exact SeqAt.EqAt.str_none a t'
  | bl b=>cases rx;exact SeqAt.EqAt.str_bool a t' b
  | int b=>obtain⟨t,rfl⟩:=rx;exact SeqAt.EqAt.str_int a t' b t
  | str b=>obtain⟨t,rfl⟩:=rx;exact SeqAt.EqAt.str_str a t' b t
  | _=>exact absurd (show false=true from fx) Bool.false_ne_true
 | _=>exact absurd (show false=true from fy) Bool.false_ne_true
def hJ (x:V) (u:Value):Bool:=match u with
 | .none=>kX .aC x
 | .bool b=>kX (.bl b) x
 | .int i _=>kX (.int i) x
 | .str z _=>kX (.str z) x
 | _=>false
theorem rn {x y:V} {u:Value} (r:RelV y u) (f:fC y=true):hJ x u=kX y x:=by
 cases y with
 | aC=>cases r;rfl
 | bl b=>cases r;rfl
 | int i=>obtain⟨t,rfl⟩:=r;rfl
 | str z=>obtain⟨t,rfl⟩:=r;rfl
 | _=>exact absurd (show false=true from f) Bool.false_ne_true
theorem jE {x:V}:∀ {xs:List V} {us:List Value},Vals xs us->xs.all fC=true->us.any (hJ x)=xs.any fun y=>kX y x
 | _,_,.nil,_=>rfl
 | y :: xs,u :: us,.cons r t,f=>by
  rw [List.all_cons,Bool.and_eq_true] at f
  rw [List.any_cons,List.any_cons,rn r f.1,jE t f.2]
theorem gG {A:Around} {s:Shared} {x:V} {v:Value} (rx:RelV x v) (fx:fC x=true):∀ {xs:List V} {us:List Value},Vals xs us->xs.all fC=true->∀ u ∈ us,SeqAt.EqAt A s u v (hJ x u)
 | _,_,.nil,_=>fun u hu=>by cases hu
 | y :: xs,u :: us,.cons r t,f=>fun u' hu=>by
  rw [List.all_cons,Bool.and_eq_true] at f
  rcases List.mem_cons.mp hu with rfl | hu
  ·rw [rn r f.1];exact AV r rx f.1 fx
  ·exact gG rx fx t f.2 u' hu
def jF (x:V) (xs:List V):Bool:=xs.any fun y=>kX y x
inductive AW (K:PySem.W.Frag) (neg:Bool) (x:V) (y:V) (H:Hp) (Q:VK):Prop
 | mk (p xs:_) (_:y=.ref p) (_:(aP K H p xs\/ar K H p xs)) (_:fC x=true) (_:xs.all fC=true) (_:Q (.bl (if neg then !jF x xs else jF x xs)) H)
theorem pL:dU X (compareOp .In) (AW X.K false):=by
 intro pins s σ H x y v u Q I rx ry h
 obtain⟨p,xs,rfl,hq,fx,fs,q⟩:=h
 cases ry
 rcases hq with hq | hq
 ·obtain⟨its,r,pl,hz⟩:=I.list hq
  refine SeqAt.in_listAt (hJ x) pl.isList (fun w hw=>gG rx fx r fs w (by simpa using hw)) ⟨.bl _,H,I,rfl,?_⟩
  rw [show its.toArray.any (hJ x)=its.any (hJ x) by simp,jE r fs]
  exact q
 ·obtain⟨its,r,pl,hz⟩:=I.tuple hq
  refine SeqAt.in_tupleAt (hJ x) pl (fun w hw=>gG rx fx r fs w (by simpa using hw)) ⟨.bl _,H,I,rfl,?_⟩
  rw [show its.toArray.any (hJ x)=its.any (hJ x) by simp,jE r fs]
  exact q
theorem kY:dU X (compareOp .NotIn) (AW X.K true):=by
 intro pins s σ H x y v u Q I rx ry h
 obtain⟨p,xs,rfl,hq,fx,fs,q⟩:=h
 cases ry
 rcases hq with hq | hq
 ·obtain⟨its,r,pl,hz⟩:=I.list hq
  refine SeqAt.notIn_listAt (hJ x) pl.isList (fun w hw=>gG rx fx r fs w (by simpa using hw)) ⟨.bl _,H,I,rfl,?_⟩
  rw [show its.toArray.any (hJ x)=its.any (hJ x) by simp,jE r fs]
  exact q
 ·obtain⟨its,r,pl,hz⟩:=I.tuple hq
  refine SeqAt.notIn_tupleAt (hJ x) pl (fun w hw=>gG rx fx r fs w (by simpa using hw)) ⟨.bl _,H,I,rfl,?_⟩
  rw [show its.toArray.any (hJ x)=its.any (hJ x) by simp,jE r fs]
  exact q
theorem bh:eR X (.builtin "len") (fun xs H Q=>∃ p ys,xs = [.ref p]/\(aP X.K H p ys\/ar X.K H p ys)/\Q (.int ys.length) H):=by
 intro pins s σ H xs us Q I r h
 obtain⟨p,ys,rfl,hq,q⟩:=h
 obtain⟨u,rfl,rx⟩:=vals1 r
 cases rx
 have hn:=jD
 rcases hq with hq | hq
 ·obtain⟨its,r',pl,hz⟩:=I.list hq
  have hlen:=r'.length
  exact Calls.call_len_list pl.isList (by simp only [List.size_toArray] <;> omega) ⟨.int ys.length,H,I.tok _,⟨s.toks+1,by rw [List.size_toArray,hlen]⟩,q⟩
 ·obtain⟨its,r',pl,hz⟩:=I.tuple hq
  have hlen:=r'.length
  exact len_tuple pl (by simp only [List.size_toArray] <;> omega) ⟨.int ys.length,H,I.tok _,⟨s.toks+1,by rw [List.size_toArray,hlen]⟩,q⟩
theorem iM:eR X (.type "list") (fun xs H Q=>∃ p ys,xs = [.ref p]/\(aP X.K H p ys\/ar X.K H p ys)/\∀ l,H l=none->Q (.ref l) (upd H l (.lst ys))):=by
 intro pins s σ H xs us Q I r h
 obtain⟨p,ys,rfl,hq,q⟩:=h
 obtain⟨u,rfl,rx⟩:=vals1 r
 cases rx
 have fin:∀ (its:List Value),Vals ys its->ys.length<=sizeLine->∀ (h':Heap) (c':Nat),(∀ b o',s.heap.get? b=some o'->h'.get? b=some o') ->
   h'.get? s.heap.objs.size=some { cls:=.type "list",dict:=none,data:=.seq its.toArray c',slots:=#[] }->EP X pins σ Q (.ref s.heap.objs.size) { s with heap:=h' }:=fun its r' hz h' c' kp e =>
  ⟨.ref s.heap.objs.size,_,I.laid (t':=s.toks) kp (Nat.le_refl _) (show bP X.prog X.w _ h' _ (.lst ys) from ⟨hz,its,c',r',e⟩),rfl,q _ (I.aN.fresh (Nat.le_refl _))⟩
 rcases hq with hq | hq
 ·obtain⟨its,r',pl,hz⟩:=I.list hq
  have hlen:=r'.length
  obtain⟨o,ho,hc,n,hd⟩:=pl.isList
  exact call_list_seq p (.inl rfl) ho hc hd (fun h' c' kp e=>fin its r' hz h' c' kp e) (by simp only [List.size_toArray] <;> omega)
 ·obtain⟨its,r',pl,hz⟩:=I.tuple hq
  have hlen:=r'.length
  obtain⟨o,ho,hc,n,hd⟩:=pl
  exact call_list_seq p (.inr rfl) ho hc hd (fun h' c' kp e=>fin its r' hz h' c' kp e) (by simp only [List.size_toArray] <;> omega)
theorem bF:eR X (.type "tuple") (fun xs H Q=>∃ p ys,xs = [.ref p]/\((aP X.K H p ys/\∀ l,H l=none->Q (.ref l) (upd H l (.tup ys)))\/(ar X.K H p ys/\Q (.ref p) H))):=by
 intro pins s σ H xs us Q I r h
 obtain⟨p,ys,rfl,h⟩:=h
 obtain⟨u,rfl,rx⟩:=vals1 r
 cases rx
 rcases h with ⟨hq,q⟩ | ⟨hq,q⟩
 ·obtain⟨its,r',pl,hz⟩:=I.list hq
  have hlen:=r'.length
  refine call_tuple_list pl.isList (fun h' kp=>?_) (by simp only [List.size_toArray] <;> omega)
  have I1:Inv X pins σ H { s with heap:=h' }:=I.kept (t':=s.toks) kp
  have I2:Inv X pins σ (upd H h'.objs.size (.tup ys)) { s with heap:=h'.push { cls:=.type "tuple",data:=.seq its.toArray } } :=
   I1.laid (t':=s.toks) (fun b o e=>Heap.get?_push_of_some _ e) (Nat.le_refl _) (show bP X.prog X.w _ _ _ (.tup ys) from ⟨hz,its,r',⟨_,Heap.get?_push_size _ rfl,rfl,_,rfl,rfl⟩⟩)
  exact⟨.ref h'.objs.size,_,I2,rfl,q _ (I1.aN.fresh (Nat.le_refl _))⟩
 ·obtain⟨its,r',pl,hz⟩:=I.tuple hq
  exact call_tuple_same pl ⟨.ref p,H,I,rfl,q⟩
def Ct (K:PySem.W.Frag) (T:String) (x:V) (H:Hp):Prop:=match x with
 | .str _=>T = "str"
 | .int _=>T = "int"
 | .ref p=>(T = "list" /\ ∃ xs,aP K H p xs)\/(T = "tuple" /\ ∃ o,K.lookup p=some o/\o.cls=.type "tuple" /\ o.dict=none) \/
   (T = "dict" /\ ((∃ kvs,H p=some (.dK kvs))\/∃ kvs,H p=some (.dT kvs)))\/(T = "set" /\ ∃ S n,H p=some (.set S n))
 | _=>False
theorem AX {pins:List (Addr × Obj)} {σ : St} {H:Hp} {s:Shared} {T:String} {x:V} {v:Value} (I:Inv X pins σ H s) (r:RelV x v) (ty:Ct X.K T x H) :
  s.TypeIs v T/\∀ a,v=.ref a->∃ ob,s.heap.get? a=some ob/\ob.dict=none:=by
 cases x with
 | str z =>
  obtain⟨t,rfl⟩:=r
  cases (show T = "str" from ty)
  exact⟨typeIs_str s z t,fun _ e=>nomatch e⟩
 | int i =>
  obtain⟨t,rfl⟩:=r
  cases (show T = "int" from ty)
  exact⟨typeIs_int s i t,fun _ e=>nomatch e⟩
 | ref p =>
  cases r
  rcases ty with ⟨rfl,xs,hq⟩ | ⟨rfl,o,hk,hc,hd⟩ | ⟨rfl,hk⟩ | ⟨rfl,S,n,hk⟩
  ·obtain⟨its,_,pl,_⟩:=I.list hq
   refine⟨pl.isList.typeIs,fun a e=>?_⟩
   cases e
   obtain⟨o,n,e,c,hd,_⟩:=pl
   exact⟨o,e,hd⟩
  ·refine⟨⟨o,I.fS p o hk,hc⟩,fun a e=>?_⟩
   cases e
   exact⟨o,I.fS _ o hk,hd⟩
  ·have z:∃ o,s.heap.get? p=some o/\o.ExactDict:=by
    rcases hk with ⟨kvs,hk⟩ | ⟨kvs,hk⟩
    ·obtain⟨_,_,_,_,o,_,_,e,ex,_⟩:=I.aN p _ hk
     exact⟨o,e,ex⟩
    ·obtain⟨_,_,_,_,o,_,_,e,ex,_⟩:=I.aN p _ hk
     exact⟨o,e,ex⟩
   obtain⟨o,e,ex⟩:=z
   refine⟨⟨o,e,ex.1⟩,fun a e2=>?_⟩
   cases e2
   exact⟨o,e,ex.2.1⟩
  ·obtain⟨o,_,_,_,e,ex,_⟩:=I.aN p _ hk
   refine⟨⟨o,e,ex.1⟩,fun a e2=>?_⟩
   cases e2
   exact⟨o,e,ex.2.1⟩
 | _=>exact False.elim ty
def Dk (K:PySem.W.Frag) (T:String) (r:V->List V->Hp->VK->Prop) (to:TE) (t:TA):TE:=fun σ H Q=>to σ H fun x H1=>Ct K T x H1/\t σ H1 fun xs H2=>r x xs H2 Q
variable {o e:Expr} {es:List Expr} {to:TE} {t:TA} {name:Str} {apos cpos:Pos} {T id:String} {r:V->List V->Hp->VK->Prop}
theorem fg (pa:PlainAttrs T) (slot:Slot T name id) (hty:typeOf (.builtin id)=pure (.type "method_descriptor")) (hm:Cs X id r) (ho:PE X o to) (ha:PA X (e :: es) t)
  (hbase:attributeBase o name X.env (eval o X.env)=eval o X.env:=by rfl)
  (hfew:((backTo cpos (starEach (e :: es) X.env)).all (fun x=>!x.1) && (backToKw cpos (keywordEach [] X.env)).all (fun x=>x.1.isSome)
   && decide ((e :: es).length+([]:List Keyword).length+(if ([]:List Keyword).isEmpty then 0 else 1) < 30))=true:=by rfl)
  (hline:(apos.endLine == cpos.line)=true:=by rfl) (hs:starEach (e :: es) X.env=(false,eval e X.env) :: starEach es X.env:=by rfl) (hplain:(backTo cpos (starEach es X.env)).any (·.1)=false:=by rfl) :
  PE X (.Call (.Attribute o name apos) (e :: es) [] cpos) (Dk X.K T r to t):=by
 intro pins s σ H Q I h
 refine wpAny_Call_method_late hbase hfew hline rfl (bA (ho pins s σ H _ I h) fun v s1 ⟨x,H1,I1,r1,ty,q1⟩=>?_)
 obtain⟨h1,h2⟩:=AX I1 r1 ty
 refine⟨T,id,pa,slot,hty,h1,h2,?_⟩
 have hA:=ha cpos pins s1 σ H1 _ I1 q1
 rw [hs] at hA ⊢
 refine Calls.callWith_builtin (by show (false || (backTo cpos (starEach es X.env)).any (·.1))=false;rw [hplain] <;> rfl) (Calls.evalArgs_plain ?_)
 exact bA hA fun us s2 ⟨vs,H2,I2,r2,q2⟩=>hm pins s2 σ H2 x vs v us Q I2 r1 r2 q2
end
def wB (X:Cx) (id:String) (r:V->List V->Hp->VK->Prop):Prop :=
 ∀ (pins:List (Addr × Obj)) (s:Shared) (σ : St) (H:Hp) (x:V) (xs:List V) (v:Value) (us:List Value) (Q:VK),Inv X pins σ H s->RelV x v->Vals xs us->r x xs H Q ->
  wpAny (model X.prog X.w) X.A (call (.builtin id) (v :: us)) (EP X pins σ Q) X.xe s
theorem Vals.one:∀ {x:V} {us:List Value},Vals [x] us->∃ u,us = [u]/\RelV x u
 | _,_,.cons r .nil=>⟨_,rfl,r⟩
theorem Vals.eraseIdx:∀ {xs:List V} {us:List Value} (i:Nat),Vals xs us->Vals (xs.eraseIdx i) (us.eraseIdx i)
 | _,_,_,.nil=>.nil
 | _,_,0,.cons _ t=>t
 | _,_,i+1,.cons r t=>.cons r (Vals.eraseIdx i t)
theorem Vals.rep {xs:List V} {us:List Value} (h:Vals xs us):∀ k:Nat,Vals (List.replicate k xs).flatten (List.replicate k us).flatten
 | 0=>.nil
 | k+1=>by
  rw [List.replicate_succ,List.replicate_succ,List.flatten_cons,List.flatten_cons]
  exact Vals.append h (Vals.rep h k)
theorem pM {α : Type}:∀ (l:List α) (i:Nat),(l.eraseIdx i).length<=l.length
 | [],_=>Nat.le_refl _
 | _ :: _,0=>Nat.le_succ _
 | _ :: r,i+1=>Nat.succ_le_succ (pM r i)
theorem foldl_rep (its:List Value):∀ (k:Nat) (acc:List Value),
  List.foldl (fun x1 x2=>x1++x2) acc.toArray (List.replicate k its.toArray)=(acc++(List.replicate k its).flatten).toArray
 | 0,acc=>by simp
 | k+1,acc=>by
  have e:acc.toArray++its.toArray=(acc++its).toArray:=by simp
  have e2:(acc++its)++(List.replicate k its).flatten=acc++(List.replicate (k+1) its).flatten:=by
   rw [List.replicate_succ,List.flatten_cons,List.append_assoc]
  rw [<-e2,<-foldl_rep its k (acc++its),<-e,List.replicate_succ,List.foldl_cons]
section
variable {X:Cx} {pins:List (Addr × Obj)} {σ : St} {H:Hp} {s:Shared} {l b:Addr} {xs ys zs:List V}
theorem Inv.vi {its its':List Value} {n:Nat} {f:Array Value->Array Value} {t':Nat} (I:Inv X pins σ H s) (hH:H l=some (.lst xs))
  (e:s.heap.get? l=some { cls:=.type "list",data:=.seq its.toArray n }) (hf:f its.toArray=its'.toArray) (hv:Vals ys its') (hz:ys.length<=sizeLine) :
  Inv X pins σ (upd H l (.lst ys)) { s with heap:=s.heap.update l (Obj.mapSeq f),toks:=t' }:=by
 have q:=PySem.IsL.update e f
 rw [hf] at q
 refine I.write (x:=l) (e:=l) (by rw [hH];exact trivial) (.inl rfl) (fun b' u hb hu=>(Heap.get?_update_other s.heap (Obj.mapSeq f) (Ne.symm hb)).trans hu) ⟨_,q⟩ ?_
 exact⟨hz,its',_,hv,q⟩
theorem Inv.AY {its:List Value} {t':Nat} (I:Inv X pins σ H s) (hv:Vals ys its) (hz:ys.length<=sizeLine) :
  Inv X pins σ (upd H s.heap.objs.size (.lst ys)) { s with heap:=s.heap.push { cls:=.type "list",data:=.seq its.toArray },toks:=t' } :=
 I.laid (fun _ _ q=>Heap.get?_push_of_some _ q) (Nat.le_refl _) ⟨hz,its,0,hv,Heap.get?_push_size _ rfl⟩
theorem Inv.fresh (I:Inv X pins σ H s):H s.heap.objs.size=none:=I.aN.fresh (Nat.le_refl _)
theorem Inv.jW (I:Inv X pins σ H s) (hH:H l=some (.lst xs)):xs.length<=sizeLine/\∃ (its:List Value) (n:Nat),Vals xs its/\xs.length=its.length/\s.heap.get? l=some { cls:=.type "list",data:=.seq its.toArray n }:=by
 obtain⟨z,its,n,r,e⟩:=I.aN l _ hH
 exact⟨z,its,n,r,r.length,e⟩
theorem rA {n:Nat} (h:n<=sizeLine):Builtin.List.listTooLong n=false:=by
 unfold Builtin.List.listTooLong
 exact decide_eq_false (by omega)
end
section
variable {X:Cx}
inductive zW  (x:V) (vs:List V) (H:Hp) (Q:VK):Prop
 | mk (l xs y:_) (_:x=.ref l) (_:vs = [y]) (_:H l=some (.lst xs)) (_:xs.length < sizeLine) (_:Q .aC (upd H l (.lst (xs ++ [y]))))
theorem eN:wB X "list.append" zW:=by
 intro pins s σ H x vs v us Q I rx rv h
 obtain⟨l,xs,y,rfl,rfl,hH,hz,q⟩:=h
 cases rx
 obtain⟨u,rfl,ru⟩:=rv.one
 obtain⟨z,its,n,r,hl,e⟩:=I.jW hH
 refine call_meets F.slot_list_append ⟨_,e,rfl⟩ F.entry_list_append (F.args_list_append_2 _ _) (PySem.list_append l its.toArray n u (by rw [List.size_toArray];omega)) ⟨e,?_⟩
 refine⟨.aC,_,I.vi (its':=its ++ [u]) hH e (by simp) (r.append (.cons ru .nil)) ?_,rfl,q⟩
 rw [List.length_append,List.length_singleton]
 omega
inductive zX  (x:V) (vs:List V) (H:Hp) (Q:VK):Prop
 | mk (l b xs zs:_) (_:x=.ref l) (_:vs = [.ref b]) (_:H l=some (.lst xs)) (_:H b=some (.lst zs)) (_:xs.length+zs.length<=sizeLine) (_:Q .aC (upd H l (.lst (xs++zs))))
theorem pN:wB X "list.extend" zX:=by
 intro pins s σ H x vs v us Q I rx rv h
 obtain⟨l,b,xs,zs,rfl,rfl,hH,hB,hz,q⟩:=h
 cases rx
 obtain⟨u,rfl,ru⟩:=rv.one
 cases ru
 obtain⟨z,its,n,r,hl,e⟩:=I.jW hH
 obtain⟨z2,its2,n2,r2,hl2,e2⟩:=I.jW hB
 have hsz:its.toArray.size+its2.toArray.size<=sizeLine:=by rw [List.size_toArray,List.size_toArray];omega
 have hlong:¬ (!its.toArray.isEmpty && Builtin.List.listTooLong (its.toArray.size+its2.toArray.size))=true:=by
  rw [rA hsz,Bool.and_false]
  exact Bool.false_ne_true
 refine call_meets F.slot_list_extend ⟨_,e,rfl⟩ F.entry_list_extend (F.args_list_extend_2 _ _)
  (AutoSeq1.list_extend_list_list_0 l its.toArray n b its2.toArray n2 hlong (by rw [List.size_toArray];omega) (by omega)) ⟨e,e2,?_⟩
 refine⟨.aC,_,I.vi (its':=its++its2) hH e (by simp) (r.append r2) ?_,rfl,q⟩
 rw [List.length_append]
 omega
inductive AZ  (x:V) (vs:List V) (H:Hp) (Q:VK):Prop
 | mk (l xs i k y:_) (_:x=.ref l) (_:vs = [.int i]) (_:H l=some (.lst xs)) (_:-(2 ^ 63)<=i) (_:i < 2 ^ 63) (_:seqIndex? i xs.length=some k) (_:xs[k]? = some y) (_:Q y (upd H l (.lst (xs.eraseIdx k))))
theorem ye:wB X "list.pop" AZ:=by
 intro pins s σ H x vs v us Q I rx rv h
 obtain⟨l,xs,i,k,y,rfl,rfl,hH,h1,h2,hk,hy,q⟩:=h
 cases rx
 obtain⟨u,rfl,ru⟩:=rv.one
 obtain⟨t,rfl⟩:=ru
 obtain⟨z,its,n,r,hl,e⟩:=I.jW hH
 obtain⟨w,hw,rw'⟩:=r.get hy
 refine call_meets F.slot_list_pop ⟨_,e,rfl⟩ F.entry_list_pop (F.args_list_pop_2 _ _)
  (MeetsSeq.list_pop_at l its.toArray n i t k w (fitsIndex_both h1 h2) (by rw [List.size_toArray,<-hl];exact hk) (by rw [<-Array.getElem?_toList];exact hw) (by rw [List.size_toArray];omega)) ⟨e,?_⟩
 refine⟨y,_,I.vi (its':=its.eraseIdx k) hH e ?_ (r.eraseIdx k) ?_,rw',q⟩
 ·show its.toArray.eraseIdxIfInBounds k=(its.eraseIdx k).toArray
  rw [List.eraseIdxIfInBounds_toArray]
 ·have:=pM xs k
  omega
inductive C0  (x:V) (y:V) (H:Hp) (Q:VK):Prop
 | mk (l b xs zs:_) (_:x=.ref l) (_:y=.ref b) (_:H l=some (.lst xs)) (_:H b=some (.lst zs)) (_:xs.length+zs.length<=sizeLine) (_:∀ p,H p=none->Q (.ref p) (upd H p (.lst (xs++zs))))
theorem A0:dU X (binaryOp .Add) C0:=by
 intro pins s σ H x y v u Q I rx ry h
 obtain⟨l,b,xs,zs,rfl,rfl,hH,hB,hz,q⟩:=h
 cases rx
 cases ry
 obtain⟨z,its,n,r,hl,e⟩:=I.jW hH
 obtain⟨z2,its2,n2,r2,hl2,e2⟩:=I.jW hB
 refine PySem.P.add_list e e2 ?_ (by rw [List.size_toArray,List.size_toArray];omega)
 have ea:its.toArray++its2.toArray=(its++its2).toArray:=by simp
 rw [ea]
 exact⟨.ref _,_,I.AY (t':=s.toks) (r.append r2) (by rw [List.length_append];omega),rfl,q _ I.fresh⟩
inductive C1  (x:V) (y:V) (H:Hp) (Q:VK):Prop
 | mk (l k xs:_) (_:x=.ref l) (_:y=.int k) (_:H l=some (.lst xs)) (_:-(2 ^ 63)<=k) (_:k < 2 ^ 63) (_:xs.length * k.toNat<=sizeLine) (_:∀ p,H p=none->Q (.ref p) (upd H p (.lst (List.replicate k.toNat xs).flatten)))
theorem len_rep {α : Type} (xs:List α) (k:Nat):(List.replicate k xs).flatten.length=k * xs.length:=by
 induction k with
 | zero=>simp
 | succ k ih=>rw [List.replicate_succ,List.flatten_cons,List.length_append,ih,Nat.succ_mul,Nat.add_comm]
theorem rB:dU X (binaryOp .Mult) C1:=by
 intro pins s σ H x y v u Q I rx ry h
 obtain⟨l,k,xs,rfl,rfl,hH,h1,h2,hz,q⟩:=h
 cases rx
 obtain⟨t,rfl⟩:=ry
 obtain⟨z,its,n,r,hl,e⟩:=I.jW hH
 have hlen:its.toArray.size * k.toNat<=sizeLine:=by rw [List.size_toArray,<-hl];exact hz
 have hcap:¬ its.toArray.size * k.toNat > (2 ^ 63 - 1) / 8:=by
  have:(sizeLine:Nat)<=(2 ^ 63 - 1) / 8:=by decide
  omega
 have hfit:¬ (!Builtin.List.listFitsIndex k)=true:=by
  rw [fitsIndex_both h1 h2]
  exact Bool.false_ne_true
 have hlong:¬ Builtin.List.listTooLong (its.toArray.size * k.toNat)=true:=by
  rw [rA hlen]
  exact Bool.false_ne_true
 have hnew:List.foldl (fun x1 x2=>x1++x2) #[] (List.replicate (if its.toArray.isEmpty=true then 0 else k.toNat) its.toArray)=(List.replicate k.toNat its).flatten.toArray:=by
  have f0:∀ m:Nat,List.foldl (fun x1 x2=>x1++x2) #[] (List.replicate m its.toArray)=(List.replicate m its).flatten.toArray:=fun m=>by
   have:=foldl_rep its m []
   rw [List.nil_append] at this
   exact this
  rw [f0]
  cases its with
  | nil=>simp
  | cons a r'=>rw [if_neg (by simp)]
 refine wpAny_binaryOp_repeat_ref (T := "list") (U := "int") (by decide) ⟨_,e,rfl⟩ (fun s'=>typeIs_int s' k t) noFill_list_mul F.fills_int_mul F.slot_int_rmul repeat_list F.slot_int_index.lookup
  (call_meets F.slot_int_rmul (typeIs_int s k t) F.entry_int_rmul (F.args_int_rmul_2 _ _) (int___rmul___int_list k t l its.toArray n)
   ⟨e,rfl,⟨_,e,rfl⟩,call_meets F.slot_list_mul ⟨_,e,rfl⟩ F.entry_list_mul (F.args_list_mul_2 _ _) (AutoListH.list___mul___list_int_3 l its.toArray n k t hfit hcap hlong) ⟨e,?_⟩⟩)
 rw [hnew]
 exact⟨.ref _,_,I.AY (t':=s.toks) (r.rep k.toNat) (by rw [len_rep,Nat.mul_comm];exact hz),rfl,q _ I.fresh⟩
end
section
variable {prog:Program} {w:World} {A:Around} {E:Value->Shared->Prop} {s:Shared}
end
section
variable {X:Cx}
end
end L2
namespace Cu
open PySem PySem.W PySem.Calls PyProof.Rows
theorem nK {P:Params} {h:Heap}:∀ (ns:List Int) (vs:List Value),WellAll P h vs (ns.map WData.int)->IntsAre vs ns:=by
 intro ns
 induction ns with
 | nil =>
  intro vs w
  rw [List.map_nil] at w
  cases w
  exact .nil
 | cons n ns ih =>
  intro vs w
  rw [List.map_cons] at w
  cases w with
  | cons a b =>
   cases a
   exact .cons _ _ (ih _ b)
theorem wC {l:OpenLaw} {n:Nat} (hn:l.most=some n) {P:Params} {h:Heap} {args:List WData} {vals:List Value}
  (hpre:l.row.toRowW.claim.pre args=true) (hwl:WellAll P h vals args) :
  ∃ a vs ns,vals = [Value.ref a]/\args = [WData.list (ns.map WData.int)]/\h.get? a=some { cls:=.type "list",data:=.seq vs.toArray }/\IntsAre vs ns/\ns.length<=n:=by
 have hsh:WShape.hasAll [] args [.list .int] = true:=(pre_splitW hpre).1
 have hc:l.pre.holds [] { args:=args }=true:=(pre_splitW hpre).2
 obtain⟨d,r,rfl,h1,h2⟩:=hasAllW_cons hsh
 obtain rfl:=hasAllW_nil h2
 obtain⟨xs,rfl,h3⟩:=hasW_list h1
 obtain⟨ns,rfl⟩:=items_int h3
 have hlen:ns.length<=n:=by
  unfold OpenLaw.pre at hc
  have h4:(WTm.not (.lt (.lit (.int (n:Int))) (.len (.arg 0)))).holds [] { args:=[.list (ns.map .int)] }=true:=by
   have h4:=(holds_andW hc).1
   rw [hn] at h4
   exact h4
  have h5:=condW_of h4 (w_not (w_lt w_lit (w_len_list (w_arg rfl))))
  rw [List.length_map] at h5
  refine Nat.le_of_not_lt fun q=>?_
  have q':(n:Int) < ((ns.length:Nat):Int):=by omega
  first
   | (rw [decide_eq_true q'] at h5;exact absurd h5 (by decide))
   | (simp at h5;omega)
 cases hwl with
 | cons w1 w2 =>
  cases w2
  cases w1 with
  | list ho hall=>exact⟨_,_,ns,rfl,rfl,ho,nK ns _ hall,hlen⟩
theorem wF (l:OpenLaw) (args:List WData):l.row.toRowW.claim.post args (.bool true) args=true :=
 postW_of (r:=l.row.toRowW) (X:=(true == true))
  (show WShape.has [] (.bool true) .bool=true by first | rfl | decide | simp [WShape.has,WShape.arms,WShape.armsAll])
  (show (WTm.eq .res (.lit (.bool true))).value [] { args:=args,res:=some (.bool true),after:=args }=some (.bool (true == true)) from w_eq_bool (w_res rfl) w_lit) rfl
theorem tJ {l:OpenLaw} {n:Nat} {q:Program} {loose:List Str} {XP:(Str->Option Value)->Heap->Prop} {YP:World->Heap->Prop} {d:DefRec}
  (hn:l.most=some n) (hdf:d.params.defaults = [])
  (call:∀ (w:World) (dG s₁ : Shared) (mg mb:Str->Option Value) (fa:Addr) (o:Obj) (pm cd doc:Value) (a:Addr) (vs:List Value) (ns:List Int),
   Ground q loose [] XP w dG mg mb s₁.heap->YP w s₁.heap ->
   s₁.heap.get? fa=some o->o.data=.func (docDef d.name d.params d.body d.scope pm cd doc)->s₁.heap.CodeRec cd d.name->mg d.name=some (.ref fa) ->
   s₁.heap.get? a=some { cls:=.type "list",data:=.seq vs.toArray }->IntsAre vs ns->ns.length<=n->s₁.gens = #[] ->
   codeAny (model l.prog w) callerA (.call (.ref fa) ⟨[.ref a],[]⟩) (fun r s'=>r=.ok (.ret (.bool true))/\OldK s₁.heap s'.heap/\s'.os=s₁.os/\AllBare s'.gens) s₁) :
  WalkO q loose XP YP l.row.toRowW d [] (fun f vs=>PySem.call f vs):=by
 intro w dG s₁ mg mb G Y fa o pm cd doc dV kV ho hd hcd hD hmg hg args vals as hpre hlay hrd hwl hlo
 obtain rfl:dV=.none:=Dflts.none hD hdf
 obtain rfl:kV=.none:=Dflts.noKw hD
 obtain⟨a,vs,ns,rfl,rfl,hobj,hints,hlen⟩:=wC hn hpre hwl
 refine enter_call (codeAny_mono (call w dG s₁ mg mb fa o pm cd doc a vs ns G Y ho (fd_plain hd) hcd hmg hobj hints hlen hg) fun r s' hq=>?_)
 obtain⟨rfl,h2,h3,h4⟩:=hq
 exact⟨.inl ⟨.bool true,.bool true,[],rfl,fun _=>rfl,.bool true,wF l _,fun _=>⟨List.Pairwise.nil,fun _ hm=>(nomatch hm)⟩⟩,h2,h3,h4⟩
section
variable {prog:Program} {w:World} {A:Around} {E:Value->Shared->Prop} {s:Shared} {K:Frag}
def ledger (h:Heap) (L d:Addr):List (Addr × Obj):=(List.range h.objs.size).filterMap fun a=>if a=L\/a=d then none else (h.get? a).map fun o=>(a,o)
end
end Cu
namespace L2
open PySem PySem.Spec PyProof.Rows
theorem kZ:∀ {vs:List Value} {ns:List Int},IntsAre vs ns->Vals (ns.map V.int) vs
 | _,_,.nil=>.nil
 | _,_,.cons n t h=>.cons ⟨t,rfl⟩ (kZ h)
def yf (H:Hp):Prop:=∀ b,H b=none\/∃ o xs,H b=some (.dq o (.lst xs))
theorem yg {P:Program} {w:World} {K:PySem.W.Frag} {mg mb:Str->Option Value} {CX:kU} {k:Nat} {fa a:Addr} {fd:FuncData} {x:Str} {sp:Sp} {s₁ : Shared} {vs:List Value} {ns:List Int}
    (KX:K.In s₁.heap) (hns:s₁.heap.Ns mainGlobals mg) (hb:s₁.heap.Ns builtinsNs mb) (hbb:∀ x:Str,x ≠ "__name__" -> mb x=bootBuiltins x) (hlim:s₁.heap.NoLimit) (hg:s₁.gens = #[])
    (ha:s₁.heap.get? a=some { cls:=.type "list",data:=.seq vs.toArray }) (hi:IntsAre vs ns) (hl:ns.length<=sizeLine) (hr:eF k callerA)
    (F:∀ base:Heap,K.In base->base.Ns mainGlobals mg->bw P w K mg base CX k fa fd [x] sp) (hbind:∀ (s:Shared) (u:Value),BindsTo s fd ⟨[u],[]⟩ [(x,u)])
    (hsp:∀ H:Hp,yf H->aP K H a (ns.map V.int)->sp [.ref a] H (fun v _=>v=.bl true) fun _ _ _=>False)
    (hCX:∀ H e s',CX [] H s₁ (fun _ _ _=>False) e s'->False) :
    codeAny (model P w) callerA (.call (.ref fa) ⟨[.ref a],[]⟩) (fun r s'=>r=.ok (.ret (.bool true))/\OldK s₁.heap s'.heap/\s'.os=s₁.os/\AllBare s'.gens) s₁:=by
  have rv:=kZ hi
  have lenV:=hi.length
  have core:∀ H:Hp,yf H->aP K H a (ns.map V.int)->dH P w H s₁.heap->(∀ b,H b ≠ none->b=a)->(H a ≠ none->K.lookup a=none) ->
      codeAny (model P w) callerA (.call (.ref fa) ⟨[.ref a],[]⟩) (fun r s'=>r=.ok (.ret (.bool true))/\OldK s₁.heap s'.heap/\s'.os=s₁.os/\AllBare s'.gens) s₁:=by
    intro H hO hS aN hA hK
    have base_of:∀ {b:Addr} {o:Obj},s₁.heap.get? b=some o->H b=none->(jR s₁.heap H).get? b=some o:=fun e n=>xN e n
    have noA:∀ {b:Addr} {o:Obj} {es:Array DictEntry} {ep:Nat},s₁.heap.get? b=some o->o.data=.dict es ep->H b=none:=fun {b o es ep} e d=>by
      cases q:H b with
      | none=>rfl
      | some u =>
        have e':b=a:=hA b (by rw [q];simp)
        subst e'
        rw [ha] at e;cases e
        have d':Data.seq vs.toArray _=Data.dict es ep:=d
        cases d'
    have nsK:∀ {b:Addr} {m:Str->Option Value},s₁.heap.Ns b m->(jR s₁.heap H).Ns b m:=fun {b m} ⟨o,es,ep,e,d,r⟩=>⟨o,es,ep,base_of e (noA e d),d,r⟩
    have hKb:K.In (jR s₁.heap H):=fun b o e=>base_of (KX b o e) (by
      cases q:H b with
      | none=>rfl
      | some u =>
        have e':b=a:=hA b (by rw [q];simp)
        subst e'
        rw [hK (by rw [q];simp)] at e;cases e)
    have hM:Mod K mg (jR s₁.heap H):=⟨hKb,nsK hns,⟨mb,nsK hb,hbb⟩,let ⟨mc,h1,h2⟩:=hlim;⟨mc,nsK h1,h2⟩⟩
    have e0:ve P w K mg (jR s₁.heap H) callerA [] s₁ H:=⟨rfl,hM,fun b o e=>zM e,Nat.le_of_eq (wg _ _),trivial,fun b hb=>absurd (show b ∈ ([]:List Addr) from hb) (by simp),aN,.of_eq hg⟩
    refine codeAny_mono ((F _ hKb (nsK hns)).run callerA [] s₁ H ⟨[.ref a],[]⟩ [.ref a] [.ref a] _ _ hr e0 (hbind s₁ (.ref a)) (.cons rfl .nil) (hsp H hO hS)) fun r s' h=>?_
    cases r with
    | error e=>exact (hCX H e s' h).elim
    | ok fl =>
      cases fl with
      | next=>exact False.elim h
      | brk=>exact False.elim h
      | cont=>exact False.elim h
      | ret u =>
        obtain⟨v,H',os,bare,un,hok',r',q⟩:=h
        have q':v=.bl true:=q
        subst q'
        obtain rfl:u=Value.bool true:=r'
        refine⟨rfl,OldK.of_keep fun b o e=>?_,os,bare⟩
        cases q:H b with
        | none=>exact un.keep b o e q (by intro z;exact absurd (show b ∈ ([]:List Addr) from z) (by simp)) (by simp)
        | some u =>
          rcases hO b with z | ⟨ob,xs,z⟩
          · rw [q] at z;cases z
          · have z2:=un.ig b ob _ z
            obtain⟨e1,_⟩:=aN b _ z
            obtain⟨e2,_⟩:=hok' b _ z2
            rw [e] at e1;cases e1
            exact e2
  cases hk:K.lookup a with
  | some o =>
    have e:=KX a o hk
    rw [ha] at e
    cases e
    refine core (fun _=>none) (fun _=>.inl rfl) (.inr ⟨_,vs.toArray,_,hk,rfl,rfl,rfl,by rw [List.size_toArray,lenV];exact hl,by simpa using rv⟩) (fun b u z=>by have z':(none:Option HO)=some u:=z;cases z') (fun b z=>absurd rfl z) fun z=>absurd rfl z
  | none =>
    refine core (fun b=>if b=a then some (.dq { cls:=.type "list",data:=.seq vs.toArray } (.lst (ns.map V.int))) else none) (fun b=>?_) (.inl (.inr ⟨{ cls:=.type "list",data:=.seq vs.toArray },if_pos rfl⟩)) (fun b u z=>?_) (fun b z=>?_) fun _=>hk
    · by_cases hb:b=a
      · exact .inr ⟨_,_,if_pos hb⟩
      · exact .inl (if_neg hb)
    · by_cases hb:b=a
      · have z':=(if_pos hb).symm.trans z
        cases z'
        subst hb
        exact⟨ha,by rw [List.length_map];exact hl,vs,_,rv,ha⟩
      · have z':=(if_neg hb).symm.trans z
        cases z'
    · by_cases hb:b=a
      · exact hb
      · exact absurd (if_neg hb) z
abbrev KOf {K:PySem.W.Frag} {h:Heap} (_:K.In h):PySem.W.Frag:=K
theorem zY {l:PySem.W.OpenLaw} {n k:Nat} {q:Program} {loose:List Str} {XP:(Str->Option Value)->Heap->Prop} {YP:World->Heap->Prop} {d:DefRec} {K:Params->PySem.W.Frag} {CX:World->kU} {sp:World->Sp} {x:Str}
  (hn:l.most=some n) (hn2:n<=sizeLine) (hdf:d.params.defaults = []) (hr:eF k callerA)
  (hY:∀ (w:World) (h:Heap),YP w h->(K w.params).In h)
  (F:∀ (w:World) (mg:Str->Option Value) (fa:Addr) (h:Heap),(K w.params).In h->h.Ns mainGlobals mg->mg d.name=some (.ref fa) ->
   ∃ fd:FuncData,(∀ (s:Shared) (u:Value),BindsTo s fd ⟨[u],[]⟩ [(x,u)]) /\
    ∀ base:Heap,(K w.params).In base->base.Ns mainGlobals mg->bw l.prog w (K w.params) mg base (CX w) k fa fd [x] (sp w))
  (hsp:∀ (w:World) (H:Hp) (a:Addr) (ns:List Int),ns.length<=n->yf H->aP (K w.params) H a (ns.map V.int)->sp w [.ref a] H (fun v _=>v=.bl true) fun _ _ _=>False)
  (hCX:∀ (w:World) (H:Hp) (s:Shared) (e:Value) (s':Shared),CX w [] H s (fun _ _ _=>False) e s'->False) :
  PySem.W.WalkO q loose XP YP l.row.toRowW d [] (fun f vs=>PySem.call f vs):=by
 refine Cu.tJ hn hdf fun w dG s₁ mg mb fa o pm cd doc a vs ns G Y ho hd hcd hmg hobj hints hlen hg=>?_
 have KX:=hY w _ Y
 obtain⟨fd,hb,hF⟩:=F w mg fa _ KX G.T.g hmg
 exact yg KX G.T.g G.T.b G.T.builtins G.T.nolimit hg hobj hints (Nat.le_trans hlen hn2) hr hF hb (fun H hO hS=>hsp w H a ns hlen hO hS) fun H e s'=>hCX w H s₁ e s'
def dW (s:Stmt):Arguments:=match s with
 | .FunctionDef _ a _ _ _ _ _ _ _ _=>a
 | _=>{ posonlyargs:=[],args:=[],vararg:=none,kwonlyargs:=[],kw_defaults:=[],kwarg:=none,defaults:=[] }
def dJ (s:Stmt):List Stmt:=match s with
 | .FunctionDef _ _ b _ _ _ _ _ _ _=>b
 | _=>[]
def ay (s:Stmt):Scope:=match s with
 | .FunctionDef _ _ _ _ _ _ sc _ _ _=>sc
 | _=>{ kind:=.function,names:=[],isGenerator:=false,isCoroutine:=false }
abbrev bX:kU:=fun _ _ _ _ _ _=>False
abbrev E0:XK:=fun _ _ _=>False
theorem BW {X:Cx}:Passes bX X E0:=fun _ _ _ _ _ _ _ h=>h.elim
structure b4 (K:PySem.W.Frag) (x qual:Str) (st:Stmt) (f:Addr) (fd:FuncData):Prop where
 ex:∃ (oc:Value) (od:Option Addr) (kV doc pm:Value) (an:Option Addr) (cdv ct:Value) (osl:Array (Option Value)),
  fd=PySem.W.fnOf x qual (dW st) (dJ st) (ay st) .none kV doc pm an cdv ct/\K.lookup f=some ⟨oc,od,.func fd,osl⟩/\PySem.W.codeIn K cdv qual=true
 kp:PySem.W.keepIn K (.ref f)=true
section
variable {P:Program} {w:World} {K:PySem.W.Frag} {mg:Str->Option Value} {base:Heap}
theorem b4.ok {x qual:Str} {st:Stmt} {f:Addr} {fd:FuncData} {N ps:List Str} {k:Nat} {sp:Sp} (F:b4 K x qual st f fd) (S:aO N ps (ay st)) (len:∀ vs H Q E,sp vs H Q E->vs.length=ps.length)
  (hbody:∀ (cdv:Value) (A:Around) (outer:List Env) (s:Shared) (H:Hp) (vs:List V) (Q:VK) (E:XK),eF k (A.deeper (envOfC qual (ay st) s.heap.objs.size f cdv))->sp vs H Q E ->
   ∃ t,iK (oF bX P w K mg base N qual (ay st) f cdv A outer s H E).zy (dJ st) t/\t { nx:=fun _ H'=>Q .aC H',rt:=Q } (start N vs) H):bw P w K mg base bX (k+1) f fd ps sp:=by
 obtain⟨oc,od,kV,doc,pm,an,cdv,ct,osl,rfl,lk,hcd⟩:=F.ex
 refine BR lk hcd S len fun A outer s H vs Q E hr hsp=>?_
 obtain⟨t,h,q⟩:=hbody cdv A outer s H vs Q E hr hsp
 exact⟨t,h.zy,q⟩
theorem b4.binds {x qual:Str} {st:Stmt} {f:Addr} {fd:FuncData} {ps:List Str} (F:b4 K x qual st f fd)
  (h:∀ (kV doc pm:Value) (an:Option Addr) (cdv ct:Value) (us:List Value),us.length=ps.length->bindArgs (PySem.W.fnOf x qual (dW st) (dJ st) (ay st) .none kV doc pm an cdv ct) ⟨us,[]⟩=pure (ps.zip us)):Binds K fd ps []:=by
 obtain⟨oc,od,kV,doc,pm,an,cdv,ct,osl,rfl,lk,hcd⟩:=F.ex
 exact .all (h kV doc pm an cdv ct)
theorem A1 {x qual:Str} {st:Stmt} {f:Addr} {oc:Value} {od an:Option Addr} {osl:Array (Option Value)} {kV doc pm cdv ct:Value} (l:K.lookup f=some ⟨oc,od,.func (PySem.W.fnOf x qual (dW st) (dJ st) (ay st) .none kV doc pm an cdv ct),osl⟩)
  (c:PySem.W.codeIn K cdv qual=true) (k:PySem.W.keepIn K (.ref f)=true):b4 K x qual st f (PySem.W.fnOf x qual (dW st) (dJ st) (ay st) .none kV doc pm an cdv ct):=⟨⟨oc,od,kV,doc,pm,an,cdv,ct,osl,rfl,l,c⟩,k⟩
end
theorem cZ {A:Around} {k:Nat} (hr:eF k A):A.units+1 < cLine:=Nat.lt_of_le_of_lt (Nat.add_le_add_left (by decide:1<=64) _) hr.units
theorem bp {n:Nat} (h:n<=1000):n < sizeLine:=Nat.lt_of_le_of_lt h (by decide)
section
variable {X:Cx}
theorem pv (i:Nat) {x:Str} {pos:Pos} (hN:X.N[i]? = some x:=by rfl) (hv:AF X.env.scope x:=by first | exact Or.inl rfl | exact Or.inr (Or.inl rfl) | exact Or.inr (Or.inr rfl)) (hd:(x == ("__debug__" : Str))=false:=by decide)
  (hcd:(x == ("__classdict__" : Str))=false:=by decide):PE X (.Name x pos) (mT i):=AG hN hv hd hcd
end
theorem aU {A B:Prop} (h:B):if false=true then A else B:=by
 rw [if_neg Bool.false_ne_true]
 exact h
theorem aQ {A B:Prop} (h:A):if true=true then A else B:=by
 rw [if_pos rfl]
 exact h
theorem b9 {c A B:Prop} [Decidable c] (h1:c->A) (h2:¬ c->B):if c then A else B:=by
 by_cases h:c
 ·rw [if_pos h]
  exact h1 h
 ·rw [if_neg h]
  exact h2 h
def ae (H H':Hp):Prop:=∀ b o,H b=some o->H' b=some o
theorem ae.refl (H:Hp):ae H H:=fun _ _ h=>h
theorem ae.trans {H H1 H2:Hp} (a:ae H H1) (b:ae H1 H2):ae H H2:=fun c o h=>b c o (a c o h)
theorem ae.free {H H':Hp} (e:ae H H') {l:Addr} (h:H' l=Option.none):H l=Option.none:=by
 cases q:H l with
 | none=>rfl
 | some o =>
  rw [e l o q] at h
  cases h
theorem ae.seq {K:PySem.W.Frag} {H H':Hp} {a:Addr} {xs:List V} (e:ae H H') (h:aP K H a xs):aP K H' a xs:=by
 rcases h with (h | ⟨o,h⟩) | h
 ·exact .inl (.inl (e _ _ h))
 ·exact .inl (.inr ⟨o,e _ _ h⟩)
 ·exact .inr h
section
variable {X:Cx}
theorem zZ:dU X (binaryOp .Mult) (rI IntMulOk fun i j=>.int (i * j)):=uk fun _ _ _ _ _ _ _ hc q=>mul_int q hc
def BX (_i j:Int):Prop:=0 < j/\j.natAbs.log2 < 9000
theorem yh:dU X (binaryOp .FloorDiv) (rI BX fun i j=>.int (i / j)):=uk fun i j _ _ _ _ _ hc q=>by
 have h1:(0:Int) < j:=hc.1
 exact floordiv_int (by omega) (by rw [Int.fdiv_eq_ediv_of_nonneg i (by omega)];exact q) (.inl (PyProof.noPylong_of_log2 hc.2))
inductive C2 (K:PySem.W.Frag) (xs:List V) (H:Hp) (Q:VK):Prop
 | mk (x T t b:_) (_:xs = [x,.ty T]) (_:gF K H x t) (_:PySem.W.kitOne K t (.type T)=some b) (_:Q (.bl b) H)
theorem yi:eR X (.builtin "isinstance") (C2 X.K):=by
 intro pins s σ H vs us Q I rv h
 obtain⟨x,T,t,b,rfl,ty,e,q⟩:=h
 obtain⟨u,w',rfl,ru,rw'⟩:=vals2 rv
 cases (show w' = Value.type T from rw')
 exact wz I ru ty e fun tk=>⟨.bl b,H,I.tok tk,rfl,q⟩
structure Own (P:Program) (w:World) (K:PySem.W.Frag) (mg:Str->Option Value) (base:Heap) (x:Str) (k:Nat) (ps:List Str) (sp:Sp):Prop where
 ex:∃ f fd,bw P w K mg base bX k f fd ps sp/\mg x=some (.ref f)/\PySem.W.keepIn K (.ref f)=true/\Binds K fd ps []
variable {x:Str} {k:Nat} {ps:List Str} {sp:Sp} {e:Expr} {es:List Expr} {t:TA} {p pos:Pos}
theorem wG (o:Own X.prog X.w X.K X.mg X.base x k ps sp) (hr:eF k X.A) (hg:Gl X x) (ha:PA X (e :: es) t)
  (hdb:(x == ("__debug__" : Str))=false:=by decide) (he:starEach (e :: es) X.env=(false,eval e X.env) :: starEach es X.env:=by rfl)
  (hpl:(backTo pos (starEach es X.env)).any (·.1)=false:=by rfl):PE X (.Call (.Name x p) (e :: es) [] pos) (qL sp [] E0 t):=by
 obtain⟨f,fd,F,hm,hk,hb⟩:=o.ex
 exact zU F hr hg hm hk hb .nil BW ha hdb he hpl
end
theorem cv {α : Type} {x:α} {xs:List α}:fE (x :: xs) 0=some x:=bC (j:=0) rfl
theorem cD {α : Type} {x y:α} {xs:List α}:fE (x :: y :: xs) 1=some y:=bC (j:=1) rfl
theorem at2 {α : Type} {x y z:α} {xs:List α}:fE (x :: y :: z :: xs) 2=some z:=bC (j:=2) rfl
theorem vk {α : Type} {xs:List α} {i:Int} (h0:0<=i) (h1:i < xs.length):∃ v,fE xs i=some v/\v ∈ xs:=by
 obtain⟨j,rfl⟩:∃ j:Nat,i=j:=⟨i.toNat,by omega⟩
 have hj:j < xs.length:=by omega
 exact⟨xs[j],bC (by simp [hj]),List.getElem_mem hj⟩
theorem cF:bootBuiltins "len" = some (.builtin "len"):=by decide +kernel
theorem rC:bootBuiltins "min" = some (.builtin "min"):=by decide +kernel
theorem A2:bootBuiltins "max" = some (.builtin "max"):=by decide +kernel
theorem qr:bootBuiltins "isinstance" = some (.builtin "isinstance"):=by decide +kernel
theorem jG:bootBuiltins "int" = some (.type "int"):=by decide +kernel
theorem z5:bootBuiltins "bool" = some (.type "bool"):=by decide +kernel
theorem cG:bootBuiltins "tuple" = some (.type "tuple"):=by decide +kernel
theorem oM:bootBuiltins "list" = some (.type "list"):=by decide +kernel
def bY (H:Hp) (b:Addr):Prop:=∃ x y:Int,H b=some (.lst [.int x,.int y])/\0<=y/\y < 2147483648
def Fix (b:Addr) (H H':Hp):Prop:=∀ c o,H c=some o->c ≠ b->H' c=some o
theorem Fix.trans {b:Addr} {H H1 H2:Hp} (u:Fix b H H1) (v:Fix b H1 H2):Fix b H H2:=fun c o h n=>v c o (u c o h n) n
theorem Fix.zD {b:Addr} {H:Hp} {o:HO}:Fix b H (upd H b o):=fun c u h n=>by rw [ao n];exact h
theorem Fix.new {b p:Addr} {H:Hp} {o:HO} (hp:H p=none):Fix b H (upd H p o):=fun c u h _=>by rw [ao (bg h hp)];exact h
theorem Fix.of_same {b:Addr} {H H':Hp} (h:ae H H'):Fix b H H':=fun c o e _=>h c o e
theorem ae.new {p:Addr} {H:Hp} {o:HO} (hp:H p=none):ae H (upd H p o):=fun c u h=>by rw [ao (bg h hp)];exact h
theorem bY.new {b p:Addr} {H:Hp} {o:HO} (h:bY H b) (hp:H p=none):bY (upd H p o) b:=by
 obtain⟨x,y,e,q⟩:=h
 exact⟨x,y,by rw [ao (bg e hp)];exact e,q⟩
theorem bY.same {b:Addr} {H H':Hp} (h:bY H b) (s:ae H H'):bY H' b:=by
 obtain⟨x,y,e,q⟩:=h
 exact⟨x,y,s _ _ e,q⟩
theorem pO {α : Type} {x0:α}:[x0].length<=sizeLine:=by show 1<=sizeLine;decide
theorem ln2 {α : Type} {x0 x1:α}:[x0,x1].length<=sizeLine:=by show 2<=sizeLine;decide
theorem rD {α : Type} {x0 x1 x2:α}:[x0,x1,x2].length<=sizeLine:=by show 3<=sizeLine;decide
theorem Dl {α : Type} {x0 x1 x2 x3 x4:α}:[x0,x1,x2,x3,x4].length<=sizeLine:=by show 5<=sizeLine;decide
theorem Dm {α : Type} {x0 x1 x2 x3 x4 x5 x6:α}:[x0,x1,x2,x3,x4,x5,x6].length<=sizeLine:=by show 7<=sizeLine;decide
theorem ae.nL {b:Addr} {H H1 H2:Hp} (s:ae H H1) (n:H b=none) (f:Fix b H1 H2):ae H H2:=fun c o e=>f c o (s c o e) (bg e n)
theorem bY.fV {b p:Addr} {H:Hp} {xs:List V} (h:bY H b) (e:H p=some (.tup xs)):p ≠ b:=by
 obtain⟨x,y,e1,_⟩:=h
 exact bJ e e1 (by intro z;cases z)
theorem bY.d5 {b p:Addr} {H:Hp} (h:bY H b) (e:H p=none):p ≠ b:=by
 obtain⟨x,y,e1,_⟩:=h
 exact fun z=>bg e1 e z.symm
inductive zE (K:PySem.W.Frag) (vs:List V) (H:Hp) (Q:VK) (_:XK):Prop
 | mk (a:Addr) (ns:List Int) (k:Int) (_:vs = [.ref a,.int k]) (_:aP K H a (ns.map V.int)) (_:0<=k) (_:∀ b H',H b=none->bY H' b->ae H H'->Q (.ref b) H')
inductive fk  (vs:List V) (H:Hp) (Q:VK) (_:XK):Prop
 | mk (b:Addr) (m:Int) (_:vs = [.ref b,.int m]) (_:bY H b) (_:(0 < m/\m.natAbs.log2 < 9000)) (_:∀ r H',0<=r->r < m->bY H' b->Fix b H H'->Q (.int r) H')
inductive qM (K:PySem.W.Frag) (vs:List V) (H:Hp) (Q:VK) (_:XK):Prop
 | mk (a:Addr) (ns:List Int) (_:vs = [.ref a]) (_:aP K H a (ns.map V.int)) (_:ns.length<=63) (_:∀ H',Q (.bl true) H')
def hV (cells:List (Str × Addr)):List (Str × NameKind)->List (Str × Addr)->List (Str × Addr)
 | [],cs=>cs
 | (n,k) :: r,cs=>hV cells r (if k == .free then (n,(cells.lookup n).getD 0) :: cs else cs)
theorem jX {scope:Scope} {env:Env} (hf:∀ y ∈ scope.names,y.2=.free->∃ c,env.cells.lookup y.1=some c):closureFor scope env=pure (hV env.cells scope.names []):=by
 have key:∀ (names:List (Str × NameKind)) (cs:List (Str × Addr)),(∀ y ∈ names,y.2=.free->∃ c,env.cells.lookup y.1=some c) ->
   (forIn names cs fun x r=>match x with
    | (name,kind)=>if (kind == NameKind.free)=true then (do let a <-cellOf env name;pure (ForInStep.yield ((name,a) :: r))) else pure (ForInStep.yield r):Sem (List (Str × Addr)))=pure (hV env.cells names cs):=by
  intro names
  induction names with
  | nil=>intro cs _;rfl
  | cons y r ih =>
   intro cs hy
   obtain⟨n,k⟩:=y
   have ih':=fun cs=>ih cs fun z hz=>hy z (List.mem_cons_of_mem _ hz)
   rw [List.forIn_cons]
   by_cases hk:(k == NameKind.free)=true
   ·have e:k=.free:=by simpa using hk
    obtain⟨c,hc⟩:=hy (n,k) List.mem_cons_self e
    have hc':env.cells.lookup n=some c:=hc
    simp only [hk,if_true,cellOf,hc',pure_bind,hV,Option.getD_some]
    exact ih' _
   ·have hk':(k == NameKind.free)=false:=by simpa using hk
    simp only [hk',Bool.false_eq_true,if_false,pure_bind,hV]
    exact ih' _
 unfold closureFor
 have e:=key scope.names [] hf
 show ((forIn scope.names ([]:List (Str × Addr)) fun x r=>match x with
    | (name,kind)=>if (kind == NameKind.free)=true then (do let a <-cellOf env name;pure (ForInStep.yield ((name,a) :: r))) else pure (ForInStep.yield r):Sem (List (Str × Addr))) >>= fun r=>pure r)=_
 rw [e,pure_bind]
theorem i9 {cells:List (Str × Addr)}:∀ (names:List (Str × NameKind)) (cs:List (Str × Addr)),(∀ y ∈ names,y.2=.free->∃ c,cells.lookup y.1=some c) ->
  (∀ x c,cs.lookup x=some c->cells.lookup x=some c)->∀ x c,(hV cells names cs).lookup x=some c->cells.lookup x=some c
 | [],_,_,h,x,c,e=>h x c e
 | (n,k) :: r,cs,hf,h,x,c,e=>by
  refine i9 r _ (fun y hy=>hf y (List.mem_cons_of_mem _ hy)) (fun z d hz=>?_) x c e
  by_cases hk:(k == NameKind.free)=true
  ·rw [if_pos hk] at hz
   obtain⟨c',hc⟩:=hf (n,k) List.mem_cons_self (by simpa using hk)
   have hc':cells.lookup n=some c':=hc
   rw [List.lookup_cons] at hz
   cases hzn:z == n with
   | true =>
    rw [hzn] at hz
    have:z=n:=by simpa using hzn
    subst this
    rw [hc'] at hz ⊢
    simpa using hz
   | false=>rw [hzn] at hz;exact h z d hz
  ·rw [if_neg hk] at hz;exact h z d hz
theorem lV {cells:List (Str × Addr)} {x:Str}:∀ (names:List (Str × NameKind)) (cs:List (Str × Addr)),((x,NameKind.free) ∈ names\/∃ c,cs.lookup x=some c)->∃ c,(hV cells names cs).lookup x=some c
 | [],_,h=>by
  rcases h with h | h
  ·cases h
  ·exact h
 | (n,k) :: r,cs,h=>by
  refine lV r _ ?_
  by_cases hk:(k == NameKind.free)=true
  ·rw [if_pos hk]
   cases hxn:x == n with
   | true=>exact .inr ⟨_,by rw [List.lookup_cons,hxn]⟩
   | false =>
    rcases h with h | ⟨c,h⟩
    ·rcases List.mem_cons.mp h with h | h
     ·have:x=n:=(Prod.mk.inj h).1
      subst this
      simp at hxn
     ·exact .inl h
    ·exact .inr ⟨c,by rw [List.lookup_cons,hxn];exact h⟩
  ·rw [if_neg hk]
   rcases h with h | h
   ·rcases List.mem_cons.mp h with h | h
    ·have:NameKind.free=k:=(Prod.mk.inj h).2
     subst this
     simp at hk
    ·exact .inl h
   ·exact .inr h
theorem iN {env:Env} {x:Str} {k:NameKind} (hk:k=.cell\/k=.free):∀ {names:List (Str × NameKind)},(∀ y ∈ names,y.2 ≠ .cell) ->
  (names.map fun (n,k)=>if (k == NameKind.free && env.scope.kind == .function && env.kindOf n == some .cell) then (n,NameKind.cell) else (n,k)).lookup x=some k->(x,NameKind.free) ∈ names
 | [],_,h=>by simp at h
 | (n,q) :: r,hc,h=>by
  have ih:=iN (env:=env) (x:=x) hk (names:=r) (fun y hy=>hc y (List.mem_cons_of_mem _ hy))
  have h':List.lookup x ((if (q == NameKind.free && env.scope.kind == .function && env.kindOf n == some .cell)=true then (n,NameKind.cell) else (n,q)) :: _)=some k:=h
  by_cases hq:(q == NameKind.free && env.scope.kind == .function && env.kindOf n == some .cell)=true
  ·rw [if_pos hq,List.lookup_cons] at h'
   have eq:q=.free:=by
    rw [Bool.and_eq_true,Bool.and_eq_true] at hq
    simpa using hq.1.1
   cases hxn:x == n with
   | true =>
    have:x=n:=by simpa using hxn
    subst this;subst eq
    exact List.mem_cons_self
   | false=>rw [hxn] at h';exact List.mem_cons_of_mem _ (ih h')
  ·rw [if_neg hq,List.lookup_cons] at h'
   cases hxn:x == n with
   | true =>
    rw [hxn] at h'
    have:x=n:=by simpa using hxn
    subst this
    have e:q=k:=Option.some.inj h'
    subst e
    rcases hk with hk | hk
    ·exact absurd hk (hc (x,q) List.mem_cons_self)
    ·subst hk;exact List.mem_cons_self
   | false=>rw [hxn] at h';exact List.mem_cons_of_mem _ (ih h')
theorem iO {env:Env} {x:Str}:∀ {names:List (Str × NameKind)},names.lookup x=some .free ->
  (names.map fun (n,k)=>if (k == NameKind.free && env.scope.kind == .function && env.kindOf n == some .cell) then (n,NameKind.cell) else (n,k)).lookup x=some .cell \/
  (names.map fun (n,k)=>if (k == NameKind.free && env.scope.kind == .function && env.kindOf n == some .cell) then (n,NameKind.cell) else (n,k)).lookup x=some .free
 | [],h=>by simp at h
 | (n,q) :: r,h=>by
  have ih:=iO (env:=env) (x:=x) (names:=r)
  show List.lookup x ((if (q == NameKind.free && env.scope.kind == .function && env.kindOf n == some .cell)=true then (n,NameKind.cell) else (n,q)) :: _)=some .cell \/
   List.lookup x ((if (q == NameKind.free && env.scope.kind == .function && env.kindOf n == some .cell)=true then (n,NameKind.cell) else (n,q)) :: _)=some .free
  rw [List.lookup_cons] at h
  by_cases hq:(q == NameKind.free && env.scope.kind == .function && env.kindOf n == some .cell)=true
  ·rw [if_pos hq,List.lookup_cons]
   cases hxn:x == n with
   | true=>exact .inl rfl
   | false=>rw [hxn] at h;exact ih h
  ·rw [if_neg hq,List.lookup_cons]
   cases hxn:x == n with
   | true=>rw [hxn] at h;exact .inr h
   | false=>rw [hxn] at h;exact ih h
def du (X:Cx) (scope:Scope) (C:Addr) (N':List Str) (fp:List Addr) (s₁ : Shared) (H₁ : Hp):Cx where
 prog:=X.prog
 w:=X.w
 K:=X.K
 mg:=X.mg
 base:=X.base
 A:=X.A
 N:=N'
 dG:=s₁
 jS:=H₁
 env:=compEnvC scope (hV X.env.cells scope.names []) C X.env
 outer:=X.stack
 stack:=X.stack
 ex:=fp
 fn:=fun _=>false
 calm:=X.calm
 pn:=[]
 xe:=fun _ _=>False
def fN (X:Cx) (scope:Scope):List Str->List Nat->Prop
 | [],[]=>True
 | x :: fr,j :: js=>(X.N[j]? = some x/\(X.env.kindOf x=some .cell\/X.env.kindOf x=some .free)/\scope.names.lookup x=some .free)/\fN X scope fr js
 | _,_=>False
theorem fN.len {X:Cx} {scope:Scope}:∀ {fr:List Str} {js:List Nat},fN X scope fr js->fr.length=js.length
 | [],[],_=>rfl
 | _ :: _,_ :: _,h=>by simp [fN.len h.2]
 | [],_ :: _,h=>h.elim
 | _ :: _,[],h=>h.elim
theorem fN.mem {X:Cx} {scope:Scope} {x:Str}:∀ {fr:List Str} {js:List Nat},fN X scope fr js->x ∈ fr->X.env.kindOf x=some .cell\/X.env.kindOf x=some .free
 | [],[],_,h=>by cases h
 | a :: fr,b :: js,h,hm=>by
  rcases List.mem_cons.mp hm with rfl | hm
  ·exact h.1.2.1
  ·exact fN.mem h.2 hm
 | [],_ :: _,h,_=>h.elim
 | _ :: _,[],h,_=>h.elim
theorem fN.get {X:Cx} {scope:Scope}:∀ {fr:List Str} {js:List Nat} {i:Nat} {x:Str} {j:Nat},fN X scope fr js->fr[i]? = some x->js[i]? = some j ->
  X.N[j]? = some x/\(X.env.kindOf x=some .cell\/X.env.kindOf x=some .free)/\scope.names.lookup x=some .free
 | [],[],_,_,_,_,h,_=>by simp at h
 | a :: fr,b :: js,0,x,j,h,h1,h2=>by
  simp at h1 h2
  subst h1;subst h2
  exact h.1
 | a :: fr,b :: js,i+1,x,j,h,h1,h2=>fN.get h.2 (by simpa using h1) (by simpa using h2)
 | [],_ :: _,_,_,_,h,_,_=>h.elim
 | _ :: _,[],_,_,_,h,_,_=>h.elim
def hX (n:Nat) (js:List Nat) (σ : St):St:=List.replicate n none++js.map fun j=>σ.getD j none
theorem wH {X:Cx} {pins:List (Addr × Obj)} {σ : St} {H:Hp} {s:Shared} {scope:Scope} {fp:List Addr} {C:Addr} {N':List Str} (I:Inv X pins σ H s) (hk:scope.kind=.function) (hcell:∀ y ∈ scope.names,y.2 ≠ .cell)
  (hf:∀ y ∈ scope.names,y.2=.free->∃ c,X.env.cells.lookup y.1=some c) (hC:s.heap.objs.size<=C) (hfp:∀ b ∈ fp,gy X pins H b) (hlt:∀ b ∈ fp,b < s.heap.objs.size):(du X scope C N' fp s H).Ok:=by
 have ag:∀ x c,(hV X.env.cells scope.names []).lookup x=some c->X.env.cells.lookup x=some c:=i9 scope.names [] hf fun x c e=>by simp at e
 refine⟨I.ok.mod,hk,I.ok.glob,I.ok.blt,hC,fun x y c h1 h2=>I.ok.inj x y c (ag x c h1) (ag y c h2),fun x hx=>?_,(fun x c h=>(by cases h)),I.ok.hd,I.ok.frames,.inl rfl,fun b hb=>?_,I.bs,?_,fun b o e hb=>?_,fun b hb=>?_,I.stack,I.uf⟩
 ·refine lV scope.names [] (.inl ?_)
  rcases hx with hx | hx
  ·exact iN (.inl rfl) hcell hx
  ·exact iN (.inr rfl) hcell hx
 ·obtain⟨h1,h2,h3,h4,h5,h6⟩:=hfp b hb
  exact⟨Nat.ne_of_lt (Nat.lt_of_lt_of_le (hlt b hb) hC),fun x c e=>h5 x c (ag x c e)⟩
 ·exact Nat.le_trans I.ok.pD I.sz
 ·obtain⟨h1,h2,h3,h4,h5,h6⟩:=hfp b hb
  rcases h4 with h4 | h4
  ·exact I.ok.qR b o e h4
  ·exact absurd (Nat.lt_of_lt_of_le (Heap.lt_size e) (Nat.le_trans I.ok.pD h4)) (Nat.lt_irrefl _)
 ·obtain⟨h1,h2,h3,h4,h5,h6⟩:=hfp b hb
  intro z
  rcases List.mem_cons.mp (I.kP b z) with z | z
  ·exact h2 z
  ·exact h3 z
def ux (J:It) (n:Nat) (js:List Nat) (g:TG) (ct:TT) (te:TE) (acc:Addr) (σ : St) (H1:Hp) (Q:VK):Prop :=
 ∃ W:Nat->Nat->List V->St->Hp->Prop,(∃ m,W 0 m [] (hX n js σ) (upd H1 acc (.lst [])))/\∀ i m ys τ H2,W i m ys τ H2->H2 acc=some (.lst ys)/\ys.length < sizeLine /\
  ((J.stop i H2/\Q (.ref acc) H2)\/(J.go i H2/\∃ N:List V->St->Hp->Prop,(∀ ys' τ' H',N ys' τ' H'->∃ m',m' < m/\W (i+1) m' ys' τ' H')/\∀ x H3,J.pF i H2 x H3->g x τ H3 fun τ1 H4=>ct τ1 H4 fun b H5 =>
   if b=true then te τ1 H5 fun y H6=>H6 acc=some (.lst ys)/\N (ys ++ [y]) τ1 (upd H6 acc (.lst (ys ++ [y]))) else N ys τ1 H5))
def Cv (n:Nat) (js:List Nat) (wi:TI) (g:TG) (ct:TT) (te:TE):TE:=fun σ H Q=>wi σ H fun J H1=>∀ acc,H1 acc=none->ux J n js g ct te acc σ H1 Q
def rE (X:Cx) (ifs:List Expr) (t:TT):Prop :=
 ∀ (pins:List (Addr × Obj)) (s:Shared) (σ : St) (H:Hp) (Q:Bool->Hp->Prop),Inv X pins σ H s->t σ H Q ->
  wpAny (model X.prog X.w) X.A (forIn ifs true fun c r=>if r=true then do let ok <-isTrue c X.env (eval c X.env);pure (ForInStep.yield ok) else pure (ForInStep.yield r)) (TP X pins σ Q) X.xe s
def A3:TT:=fun _ H Q=>Q true H
theorem dz {X:Cx}:rE X [] A3:=fun _ _ σ H Q I h=>wpAny_pure ⟨H,I,h⟩
theorem oO {X:Cx} {c:Expr} {t:TT} (h:PT X c t):rE X [c] t:=by
 intro pins s σ H Q I q
 rw [List.forIn_cons]
 simp only [if_true,bind_assoc,pure_bind]
 refine wpAny_bind (bA (h pins s σ H Q I q) fun b s1 h1=>?_)
 exact wpAny_pure h1
section
variable {X:Cx} {pos:Pos}
theorem kJ {prog:Program} {w:World} {A:Around} {R:Result->Shared->Prop} {s:Shared} {elt target iter:Expr} {ifs:List Expr} {scope:Scope} {pos:Pos} {it acc:Value} {env:Env} (I:Nat->Shared->Prop)
  (turn:∀ n s,I n s->wpAny (model prog w) A (pyNext it) (fun r s₁=>match r with
   | none=>R (.ok .next) s₁
   | some v=>wpAny (model prog w) A (letOwnedTupleGo target it v) (fun _ s₁'=>wpAny (model prog w) A (assign target env v) (fun _ s₂ =>
     wpAny (model prog w) A (forIn ifs true fun c r=>if r=true then do let ok <-isTrue c env (eval c env);pure (ForInStep.yield ok) else pure (ForInStep.yield r)) (fun ok s₃ =>
      if ok=true then wpAny (model prog w) A (eval elt env) (fun x s₄ =>
       wpAny (model prog w) A (call (.builtin "list.append") [acc,x]) (fun _ s₅=>∃ m,m < n/\I m s₅) (fun _ _=>False) s₄) (fun _ _=>False) s₃
      else ∃ m,m < n/\I m s₃) (fun _ _=>False) s₂) (fun _ _=>False) s₁') (fun _ _=>False) s₁) (fun _ _=>False) s)
  (n:Nat) (h:I n s) :
  codeAny (model prog w) A (.compLoop (.ListComp elt [⟨target,iter,ifs,0⟩] scope pos) 0 it acc env) R s:=by
 refine codeAny_loop rfl I (fun n s hI=>?_) n h
 show wpAny _ A ((compTurn (.ListComp elt [⟨target,iter,ifs,0⟩] scope pos) 0 it acc env).onRaise (fun x=>do noteFrame x env;theTreesLotGoes x)) _ _ s
 refine wpAny_noted ?_
 rw [compTurn_list]
 refine wpAny_bind (wpAny_standAt (wpAny_bind (wpAny_mono (turn n s hI) (fun r s₁ h₁=>?_) fun _ _ h'=>h'.elim)))
 cases r with
 | none=>exact wpAny_pure h₁
 | some v =>
  refine wpAny_bind (wpAny_mono h₁ (fun _ s₁' h₁'=>?_) fun _ _ h'=>h'.elim)
  refine wpAny_bind (wpAny_mono h₁' (fun _ s₂ h₂=>wpAny_bind (wpAny_mono h₂ (fun ok s₃ h₃=>?_) fun _ _ h'=>h'.elim)) fun _ _ h'=>h'.elim)
  cases ok with
  | false=>exact wpAny_pure ⟨rfl,h₃⟩
  | true =>
   exact wpAny_bind (wpAny_bind (wpAny_mono h₃ (fun x s₄ h₄=>wpAny_bind (wpAny_mono h₄ (fun _ s₅ h₅=>wpAny_pure (wpAny_pure ⟨rfl,h₅⟩)) fun _ _ h'=>h'.elim)) fun _ _ h'=>h'.elim))
theorem uy {pins:List (Addr × Obj)} {σ : St} {H:Hp} {s:Shared} {E:Value->Shared->Prop} {tg elt iter:Expr} {ifs:List Expr} {scope:Scope} {g:TG} {ct:TT} {te:TE} {ts fr:List Str} {js:List Nat}
    {it:Addr} {fp:List Addr} {tn:Nat->Heap->Prop} {J:It} {Q:VK} {RR:Value->Addr->Result->Shared->Prop}
    (hc:X.calm=true) (hkind:scope.kind=.function) (hcell:∀ y ∈ scope.names,y.2 ≠ .cell) (hfree:∀ y ∈ scope.names,y.2=.free->X.env.kindOf y.1=some .cell\/X.env.kindOf y.1=some .free)
    (hfr:fN X scope fr js) (htg:∀ C fp s₁ H₁,PG (du X scope C (ts++fr) fp s₁ H₁) tg g) (hct:∀ C fp s₁ H₁,rE (du X scope C (ts++fr) fp s₁ H₁) ifs ct) (hte:∀ C fp s₁ H₁,PE (du X scope C (ts++fr) fp s₁ H₁) elt te)
    (I:Inv X pins σ H s) (T:Turn X.prog X.w X.K tg J fp it tn) (st:tn 0 s.heap) (hfp:∀ b ∈ fp,gy X pins H b)
    (h:∀ acc,H acc=none->ux J ts.length js g ct te acc σ H Q)
    (hRR:∀ acc C H' s' m,Inv X pins σ H' s'->s'.heap.Ns C m->H' C=none->s.heap.objs.size<=C->Q (.ref acc) H'->RR (.ref acc) C (.ok .next) s') :
    wpAny (model X.prog X.w) X.A (newList []) (fun acc s₃=>wpAny (model X.prog X.w) X.A (newFunctionEnv scope X.env.globals (hV X.env.cells scope.names []) [] X.env.qual none .none (some X.env)) (fun cenv s₄ =>
      codeAny (model X.prog X.w) X.A (.compStart (.ListComp elt [⟨tg,iter,ifs,0⟩] scope pos) 0 (.ref it) acc { cenv with scope:=relabel scope X.env }) (RR acc cenv.locals) s₄) E s₃) E s:=by
  have hf:∀ y ∈ scope.names,y.2=.free->∃ c,X.env.cells.lookup y.1=some c:=fun y hy e=>I.ok.has y.1 (hfree y hy e)
  have ag:∀ x c,(hV X.env.cells scope.names []).lookup x=some c->X.env.cells.lookup x=some c:=i9 scope.names [] hf fun x c e=>by simp at e
  have hlt:∀ b ∈ fp,b < s.heap.objs.size:=fun b hb=>by
    obtain⟨o,e,_⟩:=T.obj _ _ st b hb
    exact Heap.lt_size e
  refine wpAny_newObj_type (wpAny_newFunctionEnv hcell (by intro y hy;simp at hy) (fun h₁ hns₁ hsb₁=>?_) hkind)
  dsimp only at hns₁ hsb₁ ⊢
  generalize hH2:s.heap.push { cls:=.type "list",dict:=none,data:=.seq ([]:List Value).toArray }=G2 at hns₁ hsb₁ ⊢
  have hC:G2.objs.size=s.heap.objs.size+1:=by rw [<-hH2,Heap.size_push]
  have hDC:s.heap.objs.size ≠ G2.objs.size:=by rw [hC];exact Nat.ne_of_lt (Nat.lt_succ_self _)
  have hCle:s.heap.objs.size<=G2.objs.size:=by rw [hC];exact Nat.le_succ _
  have below:∀ b,b < s.heap.objs.size->b ≠ G2.objs.size/\b ≠ s.heap.objs.size:=fun b hb=>⟨by rw [hC];exact Nat.ne_of_lt (Nat.lt_succ_of_lt hb),Nat.ne_of_lt hb⟩
  have old:∀ b o,s.heap.get? b=some o->h₁.get? b=some o:=fun b o e=>hsb₁.extBut b o (below b (Heap.lt_size e)).1 (Heap.get?_push_of_some _ (hH2 ▸ Heap.get?_push_of_some _ e))
  have hacc:h₁.get? s.heap.objs.size=some { cls:=.type "list",data:=.seq ([]:List Value).toArray }:=hsb₁.extBut _ _ hDC (Heap.get?_push_of_some _ (hH2 ▸ Heap.get?_push_size _ rfl))
  have nD:H s.heap.objs.size=none:=I.aN.fresh (Nat.le_refl _)
  have nC:H G2.objs.size=none:=I.aN.fresh hCle
  obtain⟨W,⟨m0,w0⟩,turn⟩:=h s.heap.objs.size nD
  generalize hXb:du X scope G2.objs.size (ts++fr) fp s H=Xb
  have Ib:∀ tk,Inv Xb [] (hX ts.length js σ) (upd H s.heap.objs.size (.lst [])) { s with heap:=h₁,toks:=tk }:=by
    intro tk
    subst hXb
    refine⟨wH I hkind hcell hf hCle hfp hlt,rfl,I.bare,Un.laid old (Nat.le_refl _) nD,⟨_,hns₁,fun i x v e1 e2 e3=>?_⟩,fun x c e=>?_,?_,fun x c e=>?_,fun p hp=>absurd (show p ∈ ([]:List (Addr × Obj)) from hp) (by simp),I.aN.laid old (Nat.le_refl _) ⟨by show 0<=sizeLine;decide,[],_,.nil,hacc⟩,?_⟩
    · have hi:ts.length<=i:=by
        refine Nat.le_of_not_lt fun hi=>?_
        unfold hX at e2
        rw [List.getElem?_append_left (by simpa using hi),List.getElem?_replicate] at e2
        split at e2 <;> cases e2
      have e1':fr[i - ts.length]? = some x:=by
        have e1'':(ts++fr)[i]? = some x:=e1
        rw [List.getElem?_append_right hi] at e1''
        exact e1''
      unfold hX at e2
      rw [List.getElem?_append_right (by simpa using hi),List.length_replicate,List.getElem?_map] at e2
      cases ej:js[i - ts.length]? with
      | none=>rw [ej] at e2;cases e2
      | some j =>
        rw [ej] at e2
        have e2':σ.getD j none=some v:=by simpa using e2
        obtain⟨q1,q2,q3⟩:=hfr.get e1' ej
        have e2'':σ[j]? = some (some v):=by
          rw [List.getD_eq_getElem?_getD] at e2'
          cases ez:σ[j]? with
          | none=>rw [ez] at e2';cases e2'
          | some z=>rw [ez] at e2';rw [show z=some v from e2']
        obtain⟨m,hn,hl⟩:=I.loc
        obtain⟨u,r,l⟩:=hl j x v q1 e2'' (by
          rcases q2 with q2 | q2
          · exact .inr (.inl q2)
          · exact .inr (.inr q2))
        refine⟨u,r,.inr ⟨iO q3,?_⟩⟩
        rcases l with ⟨l,_⟩ | ⟨_,c,lc,lv⟩
        · rcases q2 with q2 | q2 <;> (rw [l] at q2;cases q2)
        · obtain⟨c',hc'⟩:=lV (cells:=X.env.cells) scope.names [] (.inl (PySem.mem_of_lookup q3))
          have:=ag x c' hc'
          rw [lc] at this
          cases this
          obtain⟨o,ho,hd⟩:=lv
          exact⟨c,hc',o,old _ _ ho,hd⟩
    · obtain⟨v,o,ho,hd⟩:=I.cell x c (ag x c e)
      exact⟨v,o,old _ _ ho,hd⟩
    · show upd H s.heap.objs.size (.lst []) G2.objs.size=none
      rw [ao hDC.symm];exact nC
    · obtain⟨v,o,ho,hd⟩:=I.cell x c (ag x c e)
      rw [ao (Nat.ne_of_lt (Heap.lt_size ho))]
      exact I.en x c (ag x c e)
    · show (hX ts.length js σ).length=(ts++fr).length
      unfold hX
      rw [List.length_append,List.length_replicate,List.length_map,List.length_append,hfr.len]
  have fpB:∀ {H':Hp},(∀ b ∈ fp,H' b=none)->∀ b ∈ fp,gy Xb [] H' b:=fun {H'} hn b hb=>by
    subst hXb
    obtain⟨h1,h2,h3,h4,h5,h6⟩:=hfp b hb
    refine⟨hn b hb,(below b (hlt b hb)).1,fun z=>?_,.inl hb,fun x c e=>h5 x c (ag x c e),fun p hp=>absurd (show p ∈ ([]:List (Addr × Obj)) from hp) (by simp)⟩
    rcases List.mem_cons.mp (I.kP b z) with z | z
    · exact h2 z
    · exact h3 z
  have fin:∀ {τ : St} {H':Hp} {s':Shared},Inv Xb [] τ H' s'->Q (.ref s.heap.objs.size) H'->RR (.ref s.heap.objs.size) G2.objs.size (.ok .next) s':=fun {τ H' s'} Jb q=>by
    subst hXb
    obtain⟨m,hn,_⟩:=Jb.loc
    refine hRR _ _ H' s' m (I.zx (ch:=fp) Jb.os Jb.base Jb.aN Jb.bare fun b hb=>?_) hn Jb.free hCle q
    obtain⟨h1,h2,h3,h4,h5,h6⟩:=hfp b hb
    exact⟨h4,h2,h5,h6⟩
  have loop:∀ tk,codeAny (model X.prog X.w) X.A (.compLoop (.ListComp elt [⟨tg,iter,ifs,0⟩] scope pos) 0 (.ref it) (.ref s.heap.objs.size) (compEnvC scope (hV X.env.cells scope.names []) G2.objs.size X.env))
        (RR (.ref s.heap.objs.size) G2.objs.size) { s with heap:=h₁,toks:=tk }:=by
    intro tk
    refine kJ (fun n s'=>∃ i ys τ H',Inv Xb [] τ H' s'/\tn i s'.heap/\(∀ b ∈ fp,H' b=none)/\W i n ys τ H') ?_ m0 ⟨0,[],_,_,Ib tk,T.keep _ _ _ st fun b hb o e=>old b o e,fun b hb=>?_,w0⟩
    · rintro n s3 ⟨i,ys,τ,H3,I3,st3,fr3,w3⟩
      have htg':=htg G2.objs.size fp s H
      have hct':=hct G2.objs.size fp s H
      have hte':=hte G2.objs.size fp s H
      rw [hXb] at htg' hct' hte'
      have eP:Xb.prog=X.prog:=by subst hXb;rfl
      have ew:Xb.w=X.w:=by subst hXb;rfl
      have eK:Xb.K=X.K:=by subst hXb;rfl
      have eA:Xb.A=X.A:=by subst hXb;rfl
      have ec:Xb.calm=true:=by subst hXb;exact hc
      have ee:Xb.env=compEnvC scope (hV X.env.cells scope.names []) G2.objs.size X.env:=by subst hXb;rfl
      have ex:Xb.xe=fun _ _=>False:=by subst hXb;rfl
      rw [<-eP,<-ew,<-eA,<-ee]
      obtain⟨ha,hl,turn'⟩:=turn i n ys τ H3 w3
      rcases turn' with ⟨stop,q⟩ | ⟨go,N,hN,step⟩
      · have hd:=T.done Xb eP ew eK ec i [] s3 τ H3 (fun _ _=>False) I3 (fpB fr3) st3 stop
        rw [<-eP,<-ew] at hd
        refine wpAny_mono hd (fun r s4 hr4=>?_) fun _ _ z=>z
        obtain⟨hr,I4⟩:=hr4
        subst hr
        exact fin I4 q
      · have hd:=T.item Xb eP ew eK ec i [] s3 τ H3 (fun _ _=>False) I3 (fpB fr3) st3 go
        rw [<-eP,<-ew] at hd
        refine wpAny_mono hd (fun r s4 hr4=>?_) fun _ _ z=>z
        obtain⟨u,hr,h4⟩:=hr4
        subst hr
        refine wpAny_mono h4 (fun _ s5 ⟨x,H5,I5,r5,y5,st5,fr5⟩=>?_) fun _ _ z=>z
        have I5':=I5.pinned (fpB fr5) (T.obj _ _ st5)
        have keepT:∀ {σ7:St} {H7:Hp} {s7:Shared},Inv Xb ([] ++ jC fp s5.heap) σ7 H7 s7->tn (i+1) s7.heap/\∀ b ∈ fp,H7 b=none:=fun {σ7 H7 s7} I7=>by
          refine⟨T.keep _ _ _ st5 fun b hb o e=>(I7.pin (b,o) (List.mem_append_right _ (List.mem_append_right _ (fB hb e)))).1,fun b hb=>?_⟩
          obtain⟨o,e,d⟩:=T.obj _ _ st5 b hb
          exact (I7.pin (b,o) (List.mem_append_right _ (List.mem_append_right _ (fB hb e)))).2.1
        refine wpAny_mono (htg' _ s5 τ H5 x u _ I5' r5 (step x H5 y5)) (fun _ s6 ⟨τ6,H6,I6,q6⟩=>?_) (fun _ _ z=>by rw [ex] at z;exact z)
        refine wpAny_mono (hct' _ s6 τ6 H6 _ I6 q6) (fun ok s7 ⟨H7,I7,q7⟩=>?_) (fun _ _ z=>by rw [ex] at z;exact z)
        cases ok with
        | false =>
          have q7':N ys τ6 H7:=by rw [if_neg (by simp)] at q7;exact q7
          rw [if_neg (by simp)]
          obtain⟨m',hm,w7⟩:=hN _ _ _ q7'
          exact⟨m',hm,i+1,ys,τ6,H7,I7.fM,(keepT I7).1,(keepT I7).2,w7⟩
        | true =>
          rw [if_pos rfl] at q7 ⊢
          refine wpAny_mono (hte' _ s7 τ6 H7 _ I7 q7) (fun v s8 ⟨y,H8,I8,r8,ha8,n8⟩=>?_) (fun _ _ z=>by rw [ex] at z;exact z)
          refine wpAny_mono (eN (X:=Xb) _ s8 τ6 H8 (.ref s.heap.objs.size) [y] (.ref s.heap.objs.size) [v] (fun _ H9=>H9=upd H8 s.heap.objs.size (.lst (ys ++ [y]))) I8 rfl (.cons r8 .nil) ⟨_,ys,y,rfl,rfl,ha8,hl,rfl⟩) (fun _ s9 ⟨_,H9,I9,_,e9⟩=>?_) (fun _ _ z=>by rw [ex] at z;exact z)
          subst e9
          obtain⟨m',hm,w8⟩:=hN _ _ _ n8
          exact⟨m',hm,i+1,_,τ6,_,I9.fM,(keepT I9).1,(keepT I9).2,w8⟩
    · rw [ao (Nat.ne_of_lt (hlt b hb))]
      exact (hfp b hb).1
  exact codeAny_compStart_list (loop _) (T.self _ 0 _ _ _ (T.keep _ _ _ st fun b hb o e=>old b o e) (loop _))
theorem Inv.rF {pins:List (Addr × Obj)} {σ : St} {H H':Hp} {s s':Shared} {C:Addr} {h':Heap} (I:Inv X pins σ H s) {σ':St} (I':Inv X pins σ' H' s') (hC:H' C=none) (hle:s.heap.objs.size<=C) (hsb:Heap.SameBut C s'.heap h') :
  Inv X pins σ' H' { s' with heap:=h' }:=by
 obtain⟨h1,h2,h3,h4,h5,h6⟩:=I.mU (H':=H') hle hC
 exact I'.turned (t':=s'.toks) (fun b o hb e=>hsb.extBut b o hb e) hC h2 h4 h5 h6
theorem cP {tg elt iter:Expr} {ifs:List Expr} {scope:Scope} {wi:TI} {g:TG} {ct:TT} {te:TE} (ts fr:List Str) (js:List Nat)
  (hc:X.calm=true) (hi:PI X tg iter wi) (hkind:scope.kind=.function) (hcell:∀ y ∈ scope.names,y.2 ≠ .cell) (hnames:∀ y ∈ scope.names,y.2=.local->scope.names.lookup y.1=some .local)
  (hfree0:∀ y ∈ scope.names,y.2=.free->y.1 ∈ fr) (hfr:fN X scope fr js)
  (htg:∀ C fp s₁ H₁,PG (du X scope C (ts++fr) fp s₁ H₁) tg g) (hct:∀ C fp s₁ H₁,rE (du X scope C (ts++fr) fp s₁ H₁) ifs ct) (hte:∀ C fp s₁ H₁,PE (du X scope C (ts++fr) fp s₁ H₁) elt te)
  (hs:∀ x,foldedSetIterable iter X.env x=pure x:=by intro _;rfl):PE X (.ListComp elt [⟨tg,iter,ifs,0⟩] scope pos) (Cv ts.length js wi g ct te):=by
 have hfree:∀ y ∈ scope.names,y.2=.free->X.env.kindOf y.1=some .cell\/X.env.kindOf y.1=some .free:=fun y hy e=>hfr.mem (hfree0 y hy e)
 intro pins s σ H Q I h
 rw [eval_ListComp]
 refine wpAny_comprehension_free (use:=none) rfl hs (jX fun y hy e=>I.ok.has y.1 (hfree y hy e)) hkind hnames (bA (hi pins s σ H _ I h) fun xv s1 h1=>bA h1 fun itv s2 h2=>?_)
 obtain⟨it,fp,tn,J,H2,e,I2,T,st2,f2,hW⟩:=h2
 subst e
 refine uy (RR:=fun acc C=>compPost (model X.prog X.w) X.A X.xe none (EP X pins σ Q) acc C) hc hkind hcell hfree hfr htg hct hte I2 T st2 f2 hW ?_
 intro acc C H' s' m I' hn hC hle q
 exact⟨m,hn,fun h' hsb=>⟨.ref acc,H',I2.rF I' hC hle hsb,rfl,q⟩⟩
theorem rG {tg elt iter:Expr} {ifs:List Expr} {scope:Scope} {wi:TI} {g:TG} {ct:TT} {te:TE} {i:Nat} {y:Str} {py spos:Pos} (ts fr:List Str) (js:List Nat)
  (hsw:swapsWith (.ListComp elt [⟨tg,iter,ifs,0⟩] scope pos) (some (.Name y py)) spos.line X.env=pure true) (hN:X.N.Nodup) (hi0:X.N[i]? = some y) (hx:X.env.scope.names.lookup y=some .local)
  (hc:X.calm=true) (hi:PI X tg iter wi) (hkind:scope.kind=.function) (hcell:∀ y ∈ scope.names,y.2 ≠ .cell) (hnames:∀ y ∈ scope.names,y.2=.local->scope.names.lookup y.1=some .local)
  (hfree0:∀ y ∈ scope.names,y.2=.free->y.1 ∈ fr) (hfr:fN X scope fr js)
  (htg:∀ C fp s₁ H₁,PG (du X scope C (ts++fr) fp s₁ H₁) tg g) (hct:∀ C fp s₁ H₁,rE (du X scope C (ts++fr) fp s₁ H₁) ifs ct) (hte:∀ C fp s₁ H₁,PE (du X scope C (ts++fr) fp s₁ H₁) elt te)
  (hs:∀ x,foldedSetIterable iter X.env x=pure x:=by intro _;rfl):PS X (.Assign [.Name y py] (.ListComp elt [⟨tg,iter,ifs,0⟩] scope pos) spos) (oE (Cv ts.length js wi g ct te) (lT i)):=by
 have hfree:∀ y ∈ scope.names,y.2=.free->X.env.kindOf y.1=some .cell\/X.env.kindOf y.1=some .free:=fun y hy e=>hfr.mem (hfree0 y hy e)
 intro pins s σ H D I h
 rw [exec_Assign_Name_used _ _ _ _ hsw]
 refine wpAny_bind (wpAny_standAt (wpAny_bind ?_))
 show wpAny _ X.A (do let _ <-comprehension (.ListComp elt [⟨tg,iter,ifs,0⟩] scope pos) scope X.env _ (newList []) false (eval iter X.env) (some (assign (.Name y py) X.env))) _ _ s
 refine wpAny_bind (wpAny_mono (wpAny_comprehension_free (use:=some (assign (.Name y py) X.env)) (Q:=fun _ s'=>SP X pins D .next s') rfl hs (jX fun y hy e=>I.ok.has y.1 (hfree y hy e)) hkind hnames
  (bA (hi pins s σ H _ I h) fun xv s1 h1=>bA h1 fun itv s2 h2=>?_)) (fun _ s' hq=>wpAny_pure (wpAny_pure hq)) fun _ _ e=>e)
 obtain⟨it,fp,tn,J,H2,e,I2,T,st2,f2,hW⟩:=h2
 subst e
 refine uy (Q:=fun v H'=>D.nx (σ.set i (some v)) H') (RR:=fun acc C=>compPost (model X.prog X.w) X.A X.xe (some (assign (.Name y py) X.env)) (fun _ s'=>SP X pins D .next s') acc C) hc hkind hcell hfree hfr htg hct hte I2 T st2 f2 hW ?_
 intro acc C H' s' m I' hn hC hle q
 show wpAny _ X.A (assign (.Name y py) X.env (.ref acc)) _ _ _
 refine wpAny_assign_Name (pE I' hN hi0 (.inl hx) (v:=.ref acc) rfl (fun s'' I'' hch=>?_) (.inr hx))
 obtain⟨h1,h2,h3,h4,h5,h6⟩:=I2.mU (H':=H') hle hC
 obtain⟨a,hsb,ha⟩:=hch
 refine⟨m,hn.sameBut hsb ?_,fun h' hsb'=>⟨_,H',I2.rF I'' hC hle hsb',q⟩⟩
 rcases ha with ha | ha
 ·rw [ha];exact h2
 ·exact fun z=>h5 y a ha z.symm
end
theorem oP {K:PySem.W.Frag} {a acc:Addr} {xs:List V} {n:Nat} {js:List Nat} {g:TG} {ct:TT} {te:TE} {σ : St} {H1:Hp} {Q:VK} (Pv:Nat->List V->St->Hp->Prop) (h0:Pv 0 [] (hX n js σ) (upd H1 acc (.lst [])))
  (hl:∀ i ys τ H,i<=xs.length->Pv i ys τ H->aP K H a xs/\H acc=some (.lst ys)/\ys.length < sizeLine)
  (hs:∀ i x ys τ H,xs[i]? = some x->Pv i ys τ H->g x τ H fun τ1 H4=>ct τ1 H4 fun b H5=>if b=true then te τ1 H5 fun y H6=>H6 acc=some (.lst ys)/\Pv (i+1) (ys ++ [y]) τ1 (upd H6 acc (.lst (ys ++ [y]))) else Pv (i+1) ys τ1 H5)
  (hd:∀ ys τ H,Pv xs.length ys τ H->Q (.ref acc) H) :
  ux (ui K a) n js g ct te acc σ H1 Q:=by
 refine⟨fun i m ys τ H=>m=xs.length - i/\i<=xs.length/\Pv i ys τ H,⟨xs.length,by simp,Nat.zero_le _,h0⟩,?_⟩
 rintro i m ys τ H ⟨rfl,hi,p⟩
 obtain⟨q,q2,q3⟩:=hl i ys τ H hi p
 refine⟨q2,q3,?_⟩
 by_cases hlt:i < xs.length
 ·refine .inr ⟨⟨xs,xs[i],q,by simp [hlt]⟩,Pv (i+1),fun ys' τ' H' p'=>⟨xs.length - (i+1),by omega,rfl,hlt,p'⟩,fun x H' y=>?_⟩
  obtain⟨e,y⟩:=y
  subst e
  exact hs i x ys τ _ (y xs q) p
 ·have e:i=xs.length:=by omega
  subst e
  exact .inl ⟨⟨xs,q,Nat.le_refl _⟩,hd ys τ H p⟩
theorem jH {K:PySem.W.Frag} {a acc:Addr} {xs:List V} {n:Nat} {js:List Nat} {g:TG} {ct:TT} {te:TE} {σ : St} {H1:Hp} {Q:VK} (Pv:Nat->List V->St->Hp->Prop) (h0:Pv 0 [] (hX n js σ) (upd H1 acc (.lst [])))
  (hl:∀ i ys τ H,i<=xs.length->Pv i ys τ H->ar K H a xs/\H acc=some (.lst ys)/\ys.length < sizeLine)
  (hs:∀ i x ys τ H,xs[i]? = some x->Pv i ys τ H->g x τ H fun τ1 H4=>ct τ1 H4 fun b H5=>if b=true then te τ1 H5 fun y H6=>H6 acc=some (.lst ys)/\Pv (i+1) (ys ++ [y]) τ1 (upd H6 acc (.lst (ys ++ [y]))) else Pv (i+1) ys τ1 H5)
  (hd:∀ ys τ H,Pv xs.length ys τ H->Q (.ref acc) H) :
  ux (qY K a) n js g ct te acc σ H1 Q:=by
 refine⟨fun i m ys τ H=>m=xs.length - i/\i<=xs.length/\Pv i ys τ H,⟨xs.length,by simp,Nat.zero_le _,h0⟩,?_⟩
 rintro i m ys τ H ⟨rfl,hi,p⟩
 obtain⟨q,q2,q3⟩:=hl i ys τ H hi p
 refine⟨q2,q3,?_⟩
 by_cases hlt:i < xs.length
 ·refine .inr ⟨⟨xs,xs[i],q,by simp [hlt]⟩,Pv (i+1),fun ys' τ' H' p'=>⟨xs.length - (i+1),by omega,rfl,hlt,p'⟩,fun x H' y=>?_⟩
  obtain⟨e,y⟩:=y
  subst e
  exact hs i x ys τ _ (y xs q) p
 ·have e:i=xs.length:=by omega
  subst e
  exact .inl ⟨⟨xs,q,Nat.le_refl _⟩,hd ys τ H p⟩
theorem jY {lo:Int} {k:Nat} {acc:Addr} {n:Nat} {js:List Nat} {g:TG} {ct:TT} {te:TE} {σ : St} {H1:Hp} {Q:VK} (Pv:Nat->List V->St->Hp->Prop) (h0:Pv 0 [] (hX n js σ) (upd H1 acc (.lst [])))
  (hl:∀ i ys τ H,i<=k->Pv i ys τ H->H acc=some (.lst ys)/\ys.length < sizeLine)
  (hs:∀ i ys τ H,i < k->Pv i ys τ H->g (.int (lo+i)) τ H fun τ1 H4=>ct τ1 H4 fun b H5=>if b=true then te τ1 H5 fun y H6=>H6 acc=some (.lst ys)/\Pv (i+1) (ys ++ [y]) τ1 (upd H6 acc (.lst (ys ++ [y]))) else Pv (i+1) ys τ1 H5)
  (hd:∀ ys τ H,Pv k ys τ H->Q (.ref acc) H) :
  ux (qZ lo k) n js g ct te acc σ H1 Q:=by
 refine⟨fun i m ys τ H=>m=k - i/\i<=k/\Pv i ys τ H,⟨k,by simp,Nat.zero_le _,h0⟩,?_⟩
 rintro i m ys τ H ⟨rfl,hi,p⟩
 obtain⟨q2,q3⟩:=hl i ys τ H hi p
 refine⟨q2,q3,?_⟩
 by_cases hlt:i < k
 ·refine .inr ⟨hlt,Pv (i+1),fun ys' τ' H' p'=>⟨k - (i+1),by omega,rfl,hlt,p'⟩,fun x H' y=>?_⟩
  obtain⟨e,y⟩:=y
  subst e y
  exact hs i ys τ _ hlt p
 ·have e:i=k:=by omega
  subst e
  exact .inl ⟨Nat.le_refl _,hd ys τ H p⟩
section
variable {X:Cx}
theorem wI:dU X (compareOp .IsNot) (fun x y H Q=>∃ c d,x=.bl c/\y=.bl d/\Q (.bl (!(c == d))) H):=by
 intro pins s σ H x y v u Q I rx ry h
 obtain⟨c,d,rfl,rfl,q⟩:=h
 cases (show v=Value.bool c from rx)
 cases (show u=Value.bool d from ry)
 refine wpAny_isNot_plain rfl ⟨.bl (!(c == d)),H,I,?_,q⟩
 cases c <;> cases d <;> rfl
end
def C3 (t:TS):TS:=fun D σ H=>∃ M:St->Hp->Prop,t { D with nx:=M } σ H/\∀ σ' H',M σ' H'->D.nx σ' H'
theorem cQ {X:Cx} {st:Stmt} {t:TS} (h:PS X st t):PS X st (C3 t):=by
 intro pins s σ H D I q
 obtain⟨M,q,hM⟩:=q
 refine bA (h pins s σ H _ I q) fun f s' hs=>?_
 cases f with
 | next =>
  obtain⟨σ',H',I',m⟩:=hs
  exact⟨σ',H',I',hM _ _ m⟩
 | brk=>exact hs
 | cont=>exact hs
 | ret u=>exact hs
theorem fm {m:Int} (h0:0 < m) (h1:m < 1073741824):m.natAbs.log2 < 9000:=by
 have h:m.natAbs.log2 < 30:=(Nat.log2_lt (by omega)).mpr (by omega)
 omega
theorem iG {X:Cx} {K:PySem.W.Frag} {es:List Expr} {k:Nat} {t:qW} {n:Nat} {pos:Pos} (hK:X.K=K) (h:PG X (.Tuple es k pos) (xS X.K n t)):PG X (.Tuple es k pos) (xS K n t):=by
 subst hK
 exact h
mutual
inductive bE (H:Hp):V->PyData->Prop
 | aC:bE H .aC .none
 | bl (b:Bool):bE H (.bl b) (.bool b)
 | int (i:Int):bE H (.int i) (.int i)
 | str (x:Str):bE H (.str x) (.str x)
 | lst {p:Addr} {xs:List V} {ds:List PyData}:H p=some (.lst xs)->bu H xs ds->bE H (.ref p) (.list ds)
 | tup {p:Addr} {xs:List V} {ds:List PyData}:H p=some (.tup xs)->bu H xs ds->bE H (.ref p) (.tuple ds)
inductive bu (H:Hp):List V->List PyData->Prop
 | nil:bu H [] []
 | cons {x:V} {xs:List V} {d:PyData} {ds:List PyData}:bE H x d->bu H xs ds->bu H (x :: xs) (d :: ds)
end
section
variable {P:Program} {w:World} {H:Hp} {h:Heap}
mutual
theorem bE.reads (ok:dH P w H h):∀ {x:V} {d:PyData} {v:Value},bE H x d->RelV x v->∃ as,Reads h v d as
 | _,_,v,.aC,r=>by
  cases (show v=Value.none from r)
  exact⟨_,.none⟩
 | _,_,v,.bl b,r=>by
  cases (show v=Value.bool b from r)
  exact⟨_,.bool b⟩
 | _,_,v,.int i,r=>by
  obtain⟨t,e⟩:=(show ∃ t,v=Value.int i t from r)
  cases e
  exact⟨_,.int i t⟩
 | _,_,v,.str x,r=>by
  obtain⟨t,e⟩:=(show ∃ t,v=Value.str x t from r)
  cases e
  exact⟨_,.str x t⟩
 | _,_,v,.lst (p:=p) (xs:=xs) e ds,r=>by
  cases (show v=Value.ref p from r)
  obtain⟨_,its,n,rv,h1⟩:=(show bP P w H h p (.lst xs) from ok p _ e)
  obtain⟨as,ra⟩:=bu.reads ok ds rv
  exact⟨_,.list (vs:=its.toArray) h1 rfl rfl (by simpa using ra)⟩
 | _,_,v,.tup (p:=p) (xs:=xs) e ds,r=>by
  cases (show v=Value.ref p from r)
  obtain⟨_,its,rv,o,h1,h2,n,h3⟩:=(show bP P w H h p (.tup xs) from ok p _ e)
  obtain⟨as,ra⟩:=bu.reads ok ds rv
  exact⟨_,.tuple (vs:=its.toArray) h1 h2 h3.1 (by simpa using ra)⟩
theorem bu.reads (ok:dH P w H h):∀ {xs:List V} {ds:List PyData} {vs:List Value},bu H xs ds->Vals xs vs->∃ as,ReadsAll h vs ds as
 | _,_,_,.nil,.nil=>⟨_,.nil⟩
 | _,_,_,.cons r rs,.cons q qs=>by
  obtain⟨as,ra⟩:=bE.reads ok r q
  obtain⟨bs,rb⟩:=bu.reads ok rs qs
  exact⟨_,.cons ra rb⟩
end
end
section
variable {X:Cx}
inductive C4 (neg:Bool) (x:V) (y:V) (H:Hp) (Q:VK):Prop
 | mk (dx dy:_) (_:bE H x dx) (_:bE H y dy) (_:dx.canLay0=true) (_:dy.canLay0=true) (_:min dx.depth dy.depth<=60) (_:Q (.bl (if neg then !PyData.eqv dx dy else PyData.eqv dx dy)) H)
theorem A4 (hu:X.A.units+64 < cLine):dU X (compareOp .NotEq) (C4 true):=by
 intro pins s σ H x y v u Q I rx ry h
 obtain⟨dx,dy,r1,r2,c1,c2,hd,q⟩:=h
 obtain⟨as,ra⟩:=r1.reads I.aN rx
 obtain⟨bs,rb⟩:=r2.reads I.aN ry
 exact PySem.SeqAt.neOverData X.prog X.w X.A X.xe s v u dx dy as bs _ ra rb c1 c2 (by omega) ⟨.bl _,H,I,rfl,q⟩
end
def one (c:Nat):Str:=⟨#[c]⟩
theorem rH (rest:List Str):∀ a:Array Nat,(rest.foldl (fun acc p=>acc++Str.empty.cps++p.cps) a).toList=a.toList++rest.flatMap (·.cps.toList):=by
 induction rest with
 | nil=>intro a;simp
 | cons x r ih =>
  intro a
  rw [List.foldl_cons,ih]
  have e:Str.empty.cps = #[]:=rfl
  simp [e]
theorem join_ones (cs:List Nat):(Txt.join Str.empty (cs.map one)).cps.toList=cs:=by
 cases cs with
 | nil=>rfl
 | cons c r =>
  show (List.foldl (fun acc p=>acc++Str.empty.cps++p.cps) (#[c]:Array Nat) (r.map one)).toList=c :: r
  rw [rH]
  simp only [List.flatMap_map,one]
  simp
theorem yj:Str.ofString "" = Str.empty:=by decide +kernel
theorem vm {ys:List Str}:∀ {us:List Value},Vals (ys.map V.str) us->StrsAre us ys:=by
 induction ys with
 | nil=>intro us r;cases r;exact .nil
 | cons y ys ih =>
  intro us r
  cases r with
  | cons h t =>
   obtain⟨k,e⟩:=h
   subst e
   exact .cons y k (ih t)
section
variable {X:Cx}
inductive rJoin (K:PySem.W.Frag) (x:V) (vs:List V) (H:Hp) (Q:VK):Prop
 | mk (z:Str) (p:Addr) (ys:List Str) (_:x=.str z) (_:vs = [.ref p]) (_:aP K H p (ys.map V.str)) (_:(ys.map (·.length)).sum+ys.length * z.length<=16777216) (_:Q (.str (Txt.join z ys)) H)
theorem uz:Cs X "str.join" (rJoin X.K):=by
 intro pins s σ H x vs v us Q I rx rv h
 obtain⟨z,p,ys,rfl,rfl,hS,hz,q⟩:=h
 obtain⟨t,e⟩:=(show ∃ t,v=Value.str z t from rx)
 subst e
 obtain⟨u,rfl,ru⟩:=vals1 rv
 cases (show u=Value.ref p from ru)
 obtain⟨its,rv',pl,_⟩:=I.list hS
 exact join_list pl.isList (by simpa using vm rv') hz fun t' k=>⟨.str _,H,I.tok k,⟨_,rfl⟩,q⟩
end
inductive cK where
 | put (x:Str) (n:Int)
 | copy (x y:Str)
 | add (x:Str) (n:Int)
 | read (x:Str)
 | tell (x:Str)
inductive End where
 | stop
 | go (p:Nat)
 | dA (less:Bool) (x:Str) (n:Int) (p q:Nat)
abbrev Piece:=List cK × End
def wT (b:Bool):Str:=if b=true then "less" else "is"
def dP:cK->PyData
 | .put x n=>.tuple [.str "put",.str x,.int n]
 | .copy x y=>.tuple [.str "copy",.str x,.str y]
 | .add x n=>.tuple [.str "add",.str x,.int n]
 | .read x=>.tuple [.str "read",.str x]
 | .tell x=>.tuple [.str "tell",.str x]
def rJ:End->PyData
 | .stop=>.tuple [.str "stop"]
 | .go p=>.tuple [.str "go",.int p]
 | .dA b x n p q=>.tuple [.str (wT b),.str x,.int n,.int p,.int q]
def eZ (p:Piece):PyData:=.tuple [.tuple (p.1.map dP),rJ p.2]
def fW (ps:List Piece):PyData:=.tuple (ps.map eZ)
structure iP (x:Str):Prop where
 lo:1<=x.length
 hi:x.length<=8
 az:∀ c ∈ x.cps.toList,97<=c/\c<=122
def jZ (n:Int):Prop:=-(10 ^ 40) < n/\n < 10 ^ 40
def d6 (xs:List Str):cK->Prop
 | .put x n=>x ∈ xs/\jZ n
 | .copy x y=>x ∈ xs/\y ∈ xs
 | .add x n=>x ∈ xs/\jZ n
 | .read x=>x ∈ xs
 | .tell x=>x ∈ xs
def lW (xs:List Str) (count:Nat):End->Prop
 | .stop=>True
 | .go p=>p < count
 | .dA _ x n p q=>x ∈ xs/\jZ n/\p < count/\q < count
structure cR (xs:List Str) (most:Nat) (ps:List Piece):Prop where
 gS:∀ p ∈ ps,p.1.length<=most/\∀ d ∈ p.1,d6 xs d
 ends:∀ p ∈ ps,lW xs ps.length p.2
mutual
def d7:PyData->Bool
 | .list _=>false
 | .tuple xs=>cH xs
 | _=>true
def cH:List PyData->Bool
 | []=>true
 | x :: xs=>d7 x && cH xs
end
mutual
theorem bE.aI {H H':Hp} (k:∀ p xs,H p=some (.tup xs)->H' p=some (.tup xs)):∀ {x:V} {d:PyData},bE H x d->d7 d=true->bE H' x d
 | _,_,.aC,_=>.aC
 | _,_,.bl b,_=>.bl b
 | _,_,.int i,_=>.int i
 | _,_,.str x,_=>.str x
 | _,_,.lst _ _,h=>nomatch h
 | _,_,.tup e ds,h=>.tup (k _ _ e) (bu.aI k ds h)
theorem bu.aI {H H':Hp} (k:∀ p xs,H p=some (.tup xs)->H' p=some (.tup xs)):∀ {xs:List V} {ds:List PyData},bu H xs ds->cH ds=true->bu H' xs ds
 | _,_,.nil,_=>.nil
 | _,_,.cons r rs,h=>by
  simp only [cH,Bool.and_eq_true] at h
  exact .cons (bE.aI k r h.1) (bu.aI k rs h.2)
end
theorem bE.fix {b:Addr} {H H':Hp} {x:V} {d:PyData} (r:bE H x d) (hb:bY H b) (f:Fix b H H') (n:d7 d=true):bE H' x d :=
 r.aI (fun p xs e=>f p _ e (hb.fV e)) n
theorem bE.same {H H':Hp} {x:V} {d:PyData} (r:bE H x d) (f:ae H H') (n:d7 d=true):bE H' x d :=
 r.aI (fun p xs e=>f p _ e) n
theorem bu.fix {b:Addr} {H H':Hp} {xs:List V} {ds:List PyData} (r:bu H xs ds) (hb:bY H b) (f:Fix b H H') (n:cH ds=true):bu H' xs ds :=
 r.aI (fun p xs e=>f p _ e (hb.fV e)) n
theorem bu.same {H H':Hp} {xs:List V} {ds:List PyData} (r:bu H xs ds) (f:ae H H') (n:cH ds=true):bu H' xs ds :=
 r.aI (fun p xs e=>f p _ e) n
theorem bu.put {H:Hp} {xs ys:List V} {ds:List PyData} {l:Addr} {o:HO} (r:bu H xs ds) (hl:H l=some (.lst ys)) (n:cH ds=true):bu (upd H l o) xs ds :=
 r.aI (fun p zs e=>by rw [ao (bJ e hl (by intro z;cases z))];exact e) n
theorem bu.app {H:Hp} {x:V} {d:PyData}:∀ {xs:List V} {ds:List PyData},bu H xs ds->bE H x d->bu H (xs ++ [x]) (ds ++ [d])
 | _,_,.nil,q=>.cons q .nil
 | _,_,.cons r rs,q=>.cons r (bu.app rs q)
theorem bu.len {H:Hp}:∀ {xs:List V} {ds:List PyData},bu H xs ds->xs.length=ds.length
 | _,_,.nil=>rfl
 | _,_,.cons _ rs=>by simp [bu.len rs]
theorem jh (d:cK):d7 (dP d)=true:=by cases d <;> rfl
theorem iB (e:End):d7 (rJ e)=true:=by cases e <;> rfl
theorem b6:∀ ds:List cK,cH (ds.map dP)=true
 | []=>rfl
 | d :: ds=>by show (d7 (dP d) && cH (ds.map dP))=true;rw [jh,b6 ds];rfl
theorem iQ (p:Piece):d7 (eZ p)=true:=by
 show (cH (p.1.map dP) && (d7 (rJ p.2) && true))=true
 rw [b6,iB];rfl
theorem cc:∀ ps:List Piece,cH (ps.map eZ)=true
 | []=>rfl
 | p :: ps=>by show (d7 (eZ p) && cH (ps.map eZ))=true;rw [iQ,cc ps];rfl
theorem fH (ps:List Piece):d7 (fW ps)=true:=cc ps
structure eG (H:Hp) (b l:Addr) (xs:List Str):Prop where
 at_:H l=some (.lst (xs.map V.str))
 ne:l ≠ b
 qN:xs ≠ []
 bO:xs.length<=1000
 ok:∀ x ∈ xs,iP x
theorem eG.fix {H H':Hp} {b l:Addr} {xs:List Str} (h:eG H b l xs) (f:Fix b H H'):eG H' b l xs:=⟨f l _ h.at_ h.ne,h.ne,h.qN,h.bO,h.ok⟩
theorem eG.pos {H:Hp} {b l:Addr} {xs:List Str} (h:eG H b l xs):0 < ((xs.map V.str).length:Int)/\((xs.map V.str).length:Int) < 1073741824:=by
 have h1:=h.qN
 have h2:=h.bO
 have h3:0 < xs.length:=by cases xs with | nil=>exact absurd rfl h1 | cons _ _=>simp
 rw [List.length_map]
 omega
inductive uA  (vs:List V) (H:Hp) (Q:VK) (_:XK):Prop
 | mk (b:Addr) (_:vs = [.ref b]) (_:bY H b) (_:∀ l xs H',eG H' b l xs->xs.length<=4->bY H' b->Fix b H H'->Q (.ref l) H')
inductive mW  (vs:List V) (H:Hp) (Q:VK) (_:XK):Prop
 | mk (b:Addr) (_:vs = [.ref b]) (_:bY H b) (_:∀ n H',jZ n->bY H' b->Fix b H H'->Q (.int n) H')
inductive rK  (vs:List V) (H:Hp) (Q:VK) (_:XK):Prop
 | mk (b l:Addr) (xs:List Str) (_:vs = [.ref b,.ref l]) (_:bY H b) (_:eG H b l xs) (_:∀ v d H',bE H' v (dP d)->d6 xs d->bY H' b->Fix b H H'->Q v H')
inductive rL  (vs:List V) (H:Hp) (Q:VK) (_:XK):Prop
 | mk (b l:Addr) (xs:List Str) (c:Nat) (_:vs = [.ref b,.ref l,.int c]) (_:bY H b) (_:eG H b l xs) (_:0 < c) (_:c < 1073741824) (_:∀ v e H',bE H' v (rJ e)->lW xs c e->bY H' b->Fix b H H'->Q v H')
inductive wJ  (vs:List V) (H:Hp) (Q:VK) (_:XK):Prop
 | mk (b:Addr) (c m:Nat) (_:vs = [.ref b,.int c,.int m]) (_:bY H b) (_:0 < c) (_:c<=1000) (_:m<=1000) (_:∀ v xs ps H',bE H' v (fW ps)->ps.length=c->cR xs m ps->((∀ x ∈ xs,iP x)/\xs.length<=4)->bY H' b->Fix b H H'->Q v H')
inductive uB  (vs:List V) (H:Hp) (Q:VK) (_:XK):Prop
 | mk (b:Addr) (m:Nat) (_:vs = [.ref b,.int m]) (_:bY H b) (_:0 < m) (_:m<=1000) (_:∀ (n:Nat) H',0 < n->n<=max m 4->bY H' b->Fix b H H'->Q (.int n) H')
def jI:Str := "abcdefghijklmnopqrstuvwxyz"
theorem rM:jI.cps.toList=(List.range 26).map (· + 97):=by decide +kernel
theorem lZ:jI.length<=sizeLine:=by decide +kernel
theorem nM {r:Int} (h0:0<=r) (h1:r < 26):∃ c,fE jI.cps.toList r=some c/\97<=c/\c<=122:=by
 have hl:jI.cps.toList.length=26:=by rw [rM];simp
 obtain⟨c,hc,hm⟩:=vk (xs:=jI.cps.toList) h0 (by rw [hl];exact h1)
 refine⟨c,hc,?_⟩
 rw [rM] at hm
 obtain⟨k,hk,rfl⟩:=List.mem_map.mp hm
 have:=List.mem_range.mp hk
 omega
theorem j0 {xs:List Str} {r:Int} (h0:0<=r) (h1:r < ((xs.map V.str).length:Int)):∃ x,fE (xs.map V.str) r=some (V.str x)/\x ∈ xs:=by
 obtain⟨v,hv,hm⟩:=vk h0 h1
 obtain⟨x,hx,rfl⟩:=List.mem_map.mp hm
 exact⟨x,hv,hx⟩
theorem fX {σ : L2.St} {H:Hp} {Q:Bool->Hp->Prop} (h:Q true H):A3 σ H Q:=h
theorem cf {i:Nat} {v:V} {σ : L2.St} {H:Hp} {Q:L2.St->Hp->Prop} (h:Q (σ.set i (some v)) H):lT i v σ H Q:=h
section
variable {κ : Type} [DecidableEq κ]
def bS (kvs:List (κ × V)) (k:κ):Option V:=(kvs.find? fun kv=>decide (kv.1=k)).map (·.2)
def putK (kvs:List (κ × V)) (k:κ) (v:V):List (κ × V) :=
 if (kvs.any fun kv=>decide (kv.1=k))=true then kvs.map (fun kv=>if kv.1=k then (kv.1,v) else kv) else kvs ++ [(k,v)]
def eC (kvs:List (κ × V)) (k:κ):List (κ × V):=kvs.filter fun kv=>decide (kv.1 ≠ k)
theorem cS {p:κ × V} {r:List (κ × V)} {k:κ} (e:p.1=k):bS (p :: r) k=some p.2:=by simp [bS,List.find?_cons,e]
theorem cL {p:κ × V} {r:List (κ × V)} {k:κ} (e:¬ p.1=k):bS (p :: r) k=bS r k:=by simp [bS,List.find?_cons,e]
theorem gH (k:κ):∀ kvs:List (κ × V),(kvs.any fun kv=>decide (kv.1=k))=(bS kvs k).isSome
 | []=>rfl
 | p :: r=>by
  rw [List.any_cons]
  by_cases e:p.1=k
  ·simp only [cS e,decide_eq_true e,Bool.true_or,Option.isSome_some]
  ·rw [cL e,decide_eq_false e,Bool.false_or];exact gH k r
theorem rN (k j:κ) (y:V):∀ kvs:List (κ × V),bS (kvs.map fun kv=>if kv.1=k then (kv.1,y) else kv) j=(bS kvs j).map fun x=>if j=k then y else x
 | []=>rfl
 | p :: r=>by
  have ih:=rN k j y r
  rw [List.map_cons]
  by_cases h:p.1=k
  ·rw [if_pos h]
   by_cases e:p.1=j
   ·rw [cS (p:=(p.1,y)) e,cS e,Option.map_some,if_pos (e.symm.trans h)]
   ·rw [cL (p:=(p.1,y)) e,cL e,ih]
  ·rw [if_neg h]
   by_cases e:p.1=j
   ·rw [cS (p:=p) e,cS e,Option.map_some,if_neg (fun z=>h (e.trans z))]
   ·rw [cL (p:=p) e,cL e,ih]
theorem pP (k j:κ) (y:V):∀ kvs:List (κ × V),bS kvs k=none->bS (kvs ++ [(k,y)]) j=if j=k then some y else bS kvs j
 | [],_=>by
  by_cases e:k=j
  ·rw [if_pos e.symm];exact cS (p:=(k,y)) e
  ·rw [if_neg (fun z=>e z.symm)];exact cL (p:=(k,y)) e
 | p :: r,hn=>by
  rw [List.cons_append]
  have hk:¬ p.1=k:=fun z=>by rw [cS z] at hn;cases hn
  rw [cL hk] at hn
  have ih:=pP k j y r hn
  by_cases e:p.1=j
  ·rw [cS e,cS e,if_neg (fun z=>hk (e.trans z))]
  ·rw [cL e,cL e,ih]
theorem yk (kvs:List (κ × V)) (k j:κ) (y:V):bS (putK kvs k y) j=if j=k then some y else bS kvs j:=by
 unfold putK
 by_cases a:(kvs.any fun kv=>decide (kv.1=k))=true
 ·rw [if_pos a,rN]
  rw [gH] at a
  by_cases e:j=k
  ·obtain⟨x,hx⟩:=Option.isSome_iff_exists.mp a
   rw [if_pos e,e,hx,Option.map_some,if_pos rfl]
  ·rw [if_neg e]
   cases bS kvs j with
   | none=>rfl
   | some x=>rw [Option.map_some,if_neg e]
 ·rw [if_neg a]
  refine pP k j y kvs ?_
  rw [gH] at a
  cases q:bS kvs k with
  | none=>rfl
  | some x=>rw [q] at a;exact (a rfl).elim
theorem ji (kvs:List (κ × V)) (k:κ) (v:V):(putK kvs k v).length<=kvs.length+1:=by
 unfold putK
 split
 ·rw [List.length_map];omega
 ·rw [List.length_append,List.length_cons,List.length_nil];omega
theorem yl {kvs:List (κ × V)} {k:κ} (v:V) (h:bS kvs k=none):putK kvs k v=kvs ++ [(k,v)]:=by
 unfold putK
 rw [gH,h]
 exact if_neg (by decide)
theorem fi.wK {o:Option V} {u:Option Value} (r:fi o u):o.isSome=u.isSome:=by
 cases o with
 | none=>cases u with
  | none=>rfl
  | some _=>exact (show False from r).elim
 | some _=>cases u with
  | none=>exact (show False from r).elim
  | some _=>rfl
theorem fi.getD {o:Option V} {u:Option Value} {d:V} {d':Value} (r:fi o u) (rd:RelV d d'):RelV (o.getD d) (u.getD d'):=by
 cases o with
 | none=>cases u with
  | none=>exact rd
  | some _=>exact (show False from r).elim
 | some _=>cases u with
  | none=>exact (show False from r).elim
  | some _=>exact r
theorem KV.val {kvs:List (κ × V)} {vs:List (κ × Value)} (r:KV kvs vs) (k:κ):fi (bS kvs k) (valueAt vs k):=by
 unfold KV at r
 induction r with
 | nil=>exact True.intro
 | @cons p q ps qs h t ih =>
  obtain⟨h1,h2⟩:=h
  by_cases e:p.1=k
  ·have e':q.1=k:=h1.symm.trans e
   have b:valueAt (q :: qs) k=some q.2:=by simp [valueAt,List.find?_cons,e']
   rw [cS e,b];exact h2
  ·have e':¬ q.1=k:=fun z=>e (h1.trans z)
   have b:valueAt (q :: qs) k=valueAt qs k:=by simp [valueAt,List.find?_cons,e']
   rw [cL e,b];exact ih
theorem KV.any {kvs:List (κ × V)} {vs:List (κ × Value)} (r:KV kvs vs) (k:κ):(kvs.any fun kv=>decide (kv.1=k))=vs.any fun kv=>decide (kv.1=k):=by
 unfold KV at r
 induction r with
 | nil=>rfl
 | cons h t ih=>rw [List.any_cons,List.any_cons,ih,h.1]
theorem KV.ym {kvs:List (κ × V)} {vs:List (κ × Value)} (r:KV kvs vs) (k:κ) {y:V} {u:Value} (ry:RelV y u) :
  KV (kvs.map fun kv=>if kv.1=k then (kv.1,y) else kv) (vs.map fun kv=>if kv.1=k then (kv.1,u) else kv):=by
 unfold KV at r ⊢
 induction r with
 | nil=>exact .nil
 | @cons p q ps qs h t ih =>
  rw [List.map_cons,List.map_cons]
  refine .cons ?_ ih
  obtain⟨h1,h2⟩:=h
  by_cases e:p.1=k
  ·rw [if_pos e,if_pos (h1.symm.trans e)];exact⟨h1,ry⟩
  ·rw [if_neg e,if_neg (fun z=>e (h1.trans z))];exact⟨h1,h2⟩
theorem KV.put {kvs:List (κ × V)} {vs:List (κ × Value)} (r:KV kvs vs) (k:κ) {y:V} {u:Value} (ry:RelV y u):KV (putK kvs k y) (stored vs k u):=by
 unfold putK stored
 rw [r.any k]
 by_cases e:(vs.any fun kv=>decide (kv.1=k))=true
 ·rw [if_pos e,if_pos e];exact r.ym k ry
 ·rw [if_neg e,if_neg e];exact Paired.snoc r ⟨rfl,ry⟩
theorem KV.drop {kvs:List (κ × V)} {vs:List (κ × Value)} (r:KV kvs vs) (k:κ):KV (eC kvs k) (without vs k):=by
 unfold KV at r ⊢
 unfold eC without
 induction r with
 | nil=>exact .nil
 | @cons p q ps qs h t ih =>
  obtain⟨h1,h2⟩:=h
  rw [List.filter_cons,List.filter_cons]
  by_cases e:p.1=k
  ·have a:¬ decide (p.1 ≠ k)=true:=by simp [e]
   have b:¬ decide (q.1 ≠ k)=true:=by simp [h1.symm.trans e]
   rw [if_neg a,if_neg b];exact ih
  ·have e':¬ q.1=k:=fun z=>e (h1.trans z)
   have a:decide (p.1 ≠ k)=true:=by simp [e]
   have b:decide (q.1 ≠ k)=true:=by simp [e']
   rw [if_pos a,if_pos b];exact .cons ⟨h1,h2⟩ ih
theorem KV.keys {kvs:List (κ × V)} {vs:List (κ × Value)} (r:KV kvs vs):kvs.map (·.1)=vs.map (·.1):=by
 unfold KV at r
 induction r with
 | nil=>rfl
 | cons h t ih=>rw [List.map_cons,List.map_cons,ih,h.1]
theorem KV.length {kvs:List (κ × V)} {vs:List (κ × Value)} (r:KV kvs vs):kvs.length=vs.length:=Paired.length r
theorem yn (kvs:List (κ × V)) (k:κ):(eC kvs k).length<=kvs.length:=List.length_filter_le _ _
end
theorem ja {P:Program} {w:World} {k:Key} {u:Value} (r:RelV (kV k) u):(aT P w).is k u=true:=by
 cases k with
 | inl i=>obtain⟨t,e⟩:=(show ∃ t,u=Value.int i t from r);subst e;exact mI P w i t
 | inr x=>obtain⟨t,e⟩:=(show ∃ t,u=Value.str x t from r);subst e;exact mJ P w x t
theorem pQ {P:Program} {w:World}:∀ {ks:List Key} {us:List Value},Vals (ks.map kV) us->ItemsAre (aT P w) ks us
 | [],_,r=>by rw [List.map_nil] at r;cases r;exact .nil
 | k :: ks,_,r=>by
  rw [List.map_cons] at r
  cases r with
  | cons h t=>exact .cons (ja h) (pQ t)
abbrev KT (H:Hp):List (List Key × V)->List (List Key × Addr × Value)->Prop:=Paired fun p q=>p.1=q.1/\H q.2.1=some (.tup (p.1.map kV))/\RelV p.2 q.2.2
theorem KT.val {H:Hp} {kvs:List (List Key × V)} {xs:List (List Key × Addr × Value)} (r:KT H kvs xs) (k:List Key):fi (bS kvs k) ((atKey xs k).map (·.2)):=by
 induction r with
 | nil=>exact True.intro
 | @cons p q ps qs h t ih =>
  obtain⟨h1,_,h2⟩:=h
  by_cases e:p.1=k
  ·have e':q.1=k:=h1.symm.trans e
   have b:atKey (q :: qs) k=some q.2:=by simp [atKey,List.find?_cons,e']
   rw [cS e,b];exact h2
  ·have e':¬ q.1=k:=fun z=>e (h1.trans z)
   have b:atKey (q :: qs) k=atKey qs k:=by simp [atKey,List.find?_cons,e']
   rw [cL e,b];exact ih
theorem KT.ym {H:Hp} {kvs:List (List Key × V)} {xs:List (List Key × Addr × Value)} (r:KT H kvs xs) (k:List Key) {y:V} {u:Value} (ry:RelV y u) :
  KT H (kvs.map fun kv=>if kv.1=k then (kv.1,y) else kv) (xs.map (putAt k u)):=by
 induction r with
 | nil=>exact .nil
 | @cons p q ps qs h t ih =>
  rw [List.map_cons,List.map_cons]
  refine .cons ?_ ih
  obtain⟨h1,h2,h3⟩:=h
  unfold putAt
  by_cases e:p.1=k
  ·rw [if_pos e,if_pos (h1.symm.trans e)];exact⟨h1,h2,ry⟩
  ·rw [if_neg e,if_neg (fun z=>e (h1.trans z))];exact⟨h1,h2,h3⟩
theorem KT.put {H:Hp} {kvs:List (List Key × V)} {xs:List (List Key × Addr × Value)} (r:KT H kvs xs) (k:List Key) {b:Addr} {y:V} {u:Value} (hb:H b=some (.tup (k.map kV))) (ry:RelV y u) :
  KT H (putK kvs k y) (storedH xs k b u):=by
 have e:(kvs.any fun kv=>decide (kv.1=k))=(atKey xs k).isSome:=by
  rw [gH,(r.val k).wK,Option.isSome_map]
 unfold putK storedH
 rw [e]
 by_cases q:(atKey xs k).isSome=true
 ·rw [if_pos q,if_pos q];exact r.ym k ry
 ·rw [if_neg q,if_neg q];exact Paired.snoc r ⟨rfl,hb,ry⟩
theorem KT.keeps {H H':Hp} {kvs:List (List Key × V)} {xs:List (List Key × Addr × Value)} (r:KT H kvs xs) (ht:∀ b ys,H b=some (.tup ys)->H' b=some (.tup ys)):KT H' kvs xs :=
 Paired.xM r fun _ _ z=>⟨z.1,ht _ _ z.2.1,z.2.2⟩
section
variable {P:Program} {w:World} {H:Hp} {h:Heap} {a:Addr}
theorem zF {u:HO} (ok:dH P w H h) (e:Rd H a u):bP P w H h a u:=e.ok ok
theorem ma {kvs:List (Key × V)} (ok:dH P w H h) (e:Rd H a (.dK kvs)):kvs.length<=sizeLine/\(a == sysModules)=false/\∃ vs,KV kvs vs/\h.DictOf (aT P w) a vs :=
 show bP P w H h a (.dK kvs) from zF ok e
theorem me {kvs:List (Key × V)} (ok:dH P w H h) (e:H a=some (.dK kvs)):kvs.length<=sizeLine/\(a == sysModules)=false/\∃ vs,KV kvs vs/\h.DictOf (aT P w) a vs:=ma ok (.inl e)
theorem nN {ks:List Key} (ok:dH P w H h) (e:H a=some (.tup (ks.map kV))):(tupleKind (aT P w)).is h ks a:=by
 obtain⟨_,its,r,o,h1,h2,n,h3⟩:=(show bP P w H h a (.tup (ks.map kV)) from ok a _ e)
 exact⟨o,its.toArray,n,h1,h2,h3.1,by simpa using pQ r⟩
theorem nO {kvs:List (List Key × V)} (ok:dH P w H h) (e:Rd H a (.dT kvs)):kvs.length<=sizeLine/\(a == sysModules)=false /\
  ∃ xs,KT H kvs xs/\h.DictOfH (tupleKind (aT P w)) a xs:=by
 obtain⟨z,y,xs,r,o,es,ep,h1,h2,h3,h4,h5⟩:=(show bP P w H h a (.dT kvs) from zF ok e)
 refine⟨z,y,xs,r,o,es,ep,h1,h2,h3,h4,fun x hx=>?_,h5⟩
 have all:∀ {l:List (List Key × V)} {m:List (List Key × Addr × Value)},KT H l m->∀ x ∈ m,(tupleKind (aT P w)).is h x.1 x.2.1:=by
  intro l m q
  induction q with
  | nil=>intro x hx;exact nomatch hx
  | @cons p q ps qs hq t ih =>
   intro x hx
   rcases List.mem_cons.mp hx with e | hx
   ·subst e
    exact nN ok (by rw [<-hq.1];exact hq.2.1)
   ·exact ih x hx
 exact all r x hx
theorem BY {kvs:List (List Key × V)} (ok:dH P w H h) (e:H a=some (.dT kvs)):kvs.length<=sizeLine/\(a == sysModules)=false /\
  ∃ xs,KT H kvs xs/\h.DictOfH (tupleKind (aT P w)) a xs:=nO ok (.inl e)
end
def cY (H:Hp) (a:Addr) (y:V) (r:Option V):Prop :=
 (∃ kvs k,Rd H a (.dK kvs)/\y=kV k/\r=bS kvs k)\/∃ kvs k b,Rd H a (.dT kvs)/\y=.ref b/\H b=some (.tup (k.map kV))/\r=bS kvs k
def j1 (H:Hp) (a:Addr) (y v:V) (H':Hp):Prop :=
 (∃ kvs k,H a=some (.dK kvs)/\y=kV k/\kvs.length < sizeLine/\H' = upd H a (.dK (putK kvs k v))) \/
 ∃ kvs k b,H a=some (.dT kvs)/\y=.ref b/\H b=some (.tup (k.map kV))/\kvs.length < sizeLine/\H' = upd H a (.dT (putK kvs k v))
theorem cY.k {H:Hp} {a:Addr} {kvs:List (Key × V)} {k:Key} (e:H a=some (.dK kvs)):cY H a (kV k) (bS kvs k):=.inl ⟨kvs,k,.inl e,rfl,rfl⟩
theorem j1.k {H:Hp} {a:Addr} {kvs:List (Key × V)} {k:Key} {v:V} (e:H a=some (.dK kvs)) (hl:kvs.length < sizeLine):j1 H a (kV k) v (upd H a (.dK (putK kvs k v))):=.inl ⟨kvs,k,e,rfl,hl,rfl⟩
section
variable {X:Cx} {pins:List (Addr × Obj)} {σ : St} {H:Hp} {s:Shared} {a:Addr} {y v:V} {u r:Value} {o:Option V} {A:Around} {E:Value->Shared->Prop}
theorem Inv.big (I:Inv X pins σ H s):sysModules < s.heap.objs.size:=by
 have h:mainGlobals < s.heap.objs.size:=(I.mod.glob.keeps I.bk).lt
 exact Nat.lt_trans (by decide) h
theorem wL {Q:Value->Shared->Prop} (hu:A.units+1 < cLine) (I:Inv X pins σ H s) (g:cY H a y (some v)) (ry:RelV y u) (h:∀ w' s',Inv X pins σ H s'->RelV v w'->Q w' s') :
  wpAny (model X.prog X.w) A (getItem (.ref a) u) Q E s:=by
 rcases g with ⟨kvs,k,e,ey,l⟩ | ⟨kvs,k,b,e,ey,eb,l⟩
 ·subst ey
  obtain⟨z,hd,vs,rel,dd⟩:=ma I.aN e
  obtain⟨w',hw,rw'⟩:=fi.some_of (v:=v) (o:=valueAt vs k) (by rw [l];exact rel.val k)
  exact wpAny_getItem_of (ja ry) dd.mapOf hw (h w' _ (I.tok _) rw')
 ·subst ey
  cases (show u=Value.ref b from ry)
  obtain⟨z,hd,xs,rel,dd⟩:=nO I.aN e
  obtain⟨w',hw,rw'⟩:=fi.some_of (v:=v) (o:=(atKey xs k).map (·.2)) (by rw [l];exact rel.val k)
  obtain⟨p,hp,hp2⟩:=Option.map_eq_some_iff.mp hw
  refine wpAny_getItem_heap (tupleKind_room_in1 hu) (nN I.aN eb) dd hp ?_
  rw [hp2]
  exact h w' _ (I.tok _) rw'
theorem mf {h':Heap} {t':Nat} {ob:HO} (I:Inv X pins σ H s) (mu:we (H a)) (hs:Heap.SameBut a s.heap h') (he:∃ q,h'.get? a=some q) (new:bP X.prog X.w (upd H a ob) h' a ob) :
  Inv X pins σ (upd H a ob) { s with heap:=h',toks:=t' } :=
 I.write (x:=a) (e:=a) mu (.inl rfl) (fun b q hb z=>(hs.2 b hb).trans z) he new
theorem iR {P:Program} {w:World} {H':Hp} {h':Heap} {kvs:List (Key × V)} {vs:List (Key × Value)} (z:kvs.length<=sizeLine) (hd:(a == sysModules)=false) (rel:KV kvs vs) (dd:h'.DictOf (aT P w) a vs) :
  bP P w H' h' a (.dK kvs):=⟨z,hd,vs,rel,dd⟩
theorem wM {H':Hp} {Q:Unit->Shared->Prop} (hu:A.units+1 < cLine) (I:Inv X pins σ H s) (g:j1 H a y v H') (ry:RelV y u) (rv:RelV v r) (h:∀ s',Inv X pins σ H' s'->Q () s') :
  wpAny (model X.prog X.w) A (setItem (.ref a) u r) Q E s:=by
 rcases g with ⟨kvs,k,e,ey,l,eH⟩ | ⟨kvs,k,b,e,ey,eb,l,eH⟩
 ·subst ey eH
  obtain⟨z,hd,vs,rel,dd⟩:=me I.aN e
  have hz:vs.length<=sizeLine:=by rw [<-rel.length];exact z
  have hl:(putK kvs k v).length<=sizeLine:=by have:=ji kvs k v;omega
  refine wpAny_setItem_pairs (hsz:=hz) (ja ry) dd fun h' dd' hs=>h _ ?_
  have he:∃ q,h'.get? a=some q:=let ⟨q,_,_,hq,_⟩:=dd';⟨q,hq⟩
  exact mf I (by rw [e];exact True.intro) hs he (iR hl hd (rel.put k rv) dd')
 ·subst ey eH
  cases (show u=Value.ref b from ry)
  obtain⟨z,hd,xs,rel,dd⟩:=BY I.aN e
  have hz:xs.length<=sizeLine:=by rw [<-Paired.length rel];exact z
  have hl:(putK kvs k v).length<=sizeLine:=by have:=ji kvs k v;omega
  refine wpAny_setItem_heap (hsz:=hz) (tupleKind_room_in1 hu) (nN I.aN eb) dd fun h' dd' hs=>h _ ?_
  obtain⟨q,es,ep,hq,h2,h3,h4,_,h5⟩:=dd'
  refine mf I (by rw [e];exact True.intro) hs ⟨q,hq⟩ ⟨hl,hd,_,(rel.put k eb rv).keeps fun c ys ec=>?_,q,es,ep,hq,h2,h3,h4,h5⟩
  rw [ao (bJ ec e (fun z=>nomatch z))]
  exact ec
end
section
variable {X:Cx} {pins:List (Addr × Obj)} {σ : St} {H:Hp} {s:Shared} {a:Addr} {kvs:List (Key × V)} {k:Key} {u:Value} {A:Around} {E:Value->Shared->Prop}
theorem BZ {v:V} {more:List Value} {Q:Value->Shared->Prop} (I:Inv X pins σ H s) (e:H a=some (.dK kvs)) (ry:RelV (kV k) u) (l:bS kvs k=some v) (hm:more = []\/∃ x,more = [x])
  (h:∀ w' s',Inv X pins σ (upd H a (.dK (eC kvs k))) s'->RelV v w'->Q w' s'):wpAny (model X.prog X.w) A (call (.builtin "dict.pop") (.ref a :: u :: more)) Q E s:=by
 obtain⟨z,hd,vs,rel,dd⟩:=me I.aN e
 obtain⟨w',hw,rw'⟩:=fi.some_of (v:=v) (o:=valueAt vs k) (by rw [<-l];exact rel.val k)
 have hp:(keyPart u).isSome=true:=by
  cases k with
  | inl i=>obtain⟨t,q⟩:=(show ∃ t,u=Value.int i t from ry);subst q;rfl
  | inr x=>obtain⟨t,q⟩:=(show ∃ t,u=Value.str x t from ry);subst q;rfl
 have ha:argsOk "dict.pop" ⟨.ref a :: u :: more,[]⟩:=by
  rcases hm with q | ⟨x,q⟩
  ·subst q;exact PySem.F.args_dict_pop_2 _ _
  ·subst q;exact PySem.F.args_dict_pop_3 _ _ _
 refine call_meetsIn PySem.F.slot_dict_pop dd.typeIs PySem.F.entry_dict_pop ha (meets_dict_pop_there (aT X.prog X.w) a (ja ry) more hm hp)
  ⟨vs,w',dd,by rw [<-rel.length];exact z,hw,fun h' dd' hs=>h w' _ ?_ rw'⟩
 have he:∃ q,h'.get? a=some q:=let ⟨q,_,_,hq,_⟩:=dd';⟨q,hq⟩
 exact mf I (by rw [e];exact True.intro) hs he (iR (Nat.le_trans (yn kvs k) z) hd (rel.drop k) dd')
theorem A5 {r:Value} {Q:Value->Shared->Prop} (I:Inv X pins σ H s) (e:H a=some (.dK kvs)) (ry:RelV (kV k) u) (l:bS kvs k=none) (h:∀ s',Inv X pins σ H s'->Q r s') :
  wpAny (model X.prog X.w) A (call (.builtin "dict.pop") [.ref a,u,r]) Q E s:=by
 obtain⟨z,hd,vs,rel,dd⟩:=me I.aN e
 have hn:valueAt vs k=none:=fi.none_of (by rw [<-l];exact rel.val k)
 have hp:(keyPart u).isSome=true:=by
  cases k with
  | inl i=>obtain⟨t,q⟩:=(show ∃ t,u=Value.int i t from ry);subst q;rfl
  | inr x=>obtain⟨t,q⟩:=(show ∃ t,u=Value.str x t from ry);subst q;rfl
 exact call_meetsIn PySem.F.slot_dict_pop dd.typeIs PySem.F.entry_dict_pop (PySem.F.args_dict_pop_3 _ _ _) (meets_dict_pop_default (aT X.prog X.w) a (ja ry) hd hp r) ⟨vs,dd,hn,h _ (I.tok _)⟩
end
def yo (i:Expr):Prop:=∀ ov iv,subscripted i false ov iv=operate [ov,iv] (getItem ov iv)
theorem uC {prog:Program} {w:World} {A:Around} {E:Value->Shared->Prop} {s:Shared} {env:Env} {value slice:Expr} {pos:Pos} {T id:String} {Q:Value->Shared->Prop}
  (hl:typeLookup (.type T) "__getitem__" = pure (some (.builtin id))) (hs:yo slice)
  (h:wpAny (model prog w) A (eval value env) (fun o s₁=>wpAny (model prog w) A (eval slice env) (fun i s₂=>s₂.TypeIs o T/\wpAny (model prog w) A (getItem o i) Q E s₂) E s₁) E s) :
  wpAny (model prog w) A (eval (.Subscript value slice pos) env) Q E s:=by
 refine Subscript_ (wpAny_mono h (fun o s₁ h₁=>wpAny_mono h₁ (fun i s₂ h₂=>?_) fun _ _ x=>x) fun _ _ x=>x)
 obtain⟨hT,h₂⟩:=h₂
 unfold subscriptTail
 refine wpAny_bind ?_
 rw [getitemInPython_of_ne hT.not_modules]
 refine wpAny_bind (wpAny_specialOf hT hl ?_)
 have fin:wpAny (model prog w) A (subscripted slice false o i) (fun r s₃=>wpAny (model prog w) A (letTemporaryGo value o r >>= fun _=>pure r) Q E s₃) E s₂:=by
  rw [hs o i]
  exact wpAny_operating (wpAny_mono h₂ (fun r s₃ h₃=>wpAny_bind (wpAny_letTemporaryGo (wpAny_pure h₃))) fun _ _ x=>x)
 first
  | exact wpAny_pure (wpAny_bind fin)
  | exact wpAny_bind (wpAny_pure (wpAny_bind fin))
  | exact wpAny_bind fin
theorem tK {X:Cx} {pins:List (Addr × Obj)} {σ : St} {H:Hp} {s:Shared} {a:Addr} {y:V} {o:Option V} (I:Inv X pins σ H s) (g:cY H a y o):s.TypeIs (.ref a) "dict" := by
 rcases g with ⟨kvs,k,e,_,_⟩ | ⟨kvs,k,b,e,_,_,_⟩
 ·obtain⟨_,_,vs,_,dd⟩:=ma I.aN e
  exact dd.typeIs
 ·obtain⟨_,_,xs,_,dd⟩:=nO I.aN e
  exact dd.typeIs
inductive yq (Q:VK) (x:V) (y:V) (H2:Hp):Prop
 | mk (a v:_) (_:x=.ref a) (_:cY H2 a y (some v)) (_:Q v H2)
def B0 (td ty:TE):TE:=fun σ H Q=>td σ H fun x H1=>ty σ H1 fun y H2=>yq Q x y H2
def Ca (td ty tv:TE):TS:=fun D σ H=>tv σ H fun v H1=>td σ H1 fun x H2=>ty σ H2 fun y H3=>∃ a H4,x=.ref a/\j1 H3 a y v H4/\D.nx σ H4
section
variable {X:Cx} {o i e value:Expr} {pos pos' tpos:Pos} {td ty tv:TE}
theorem jJ (hu:X.A.units+1 < cLine) (ho:PE X o td) (hi:PE X i ty) (hs:yo i):PE X (.Subscript o i pos) (B0 td ty):=by
 intro pins s σ H Q I h
 refine uC PySem.F.slot_dict_getitem.lookup hs (bA (ho pins s σ H _ I h) fun u s1 ⟨x,H1,I1,rx,q1⟩=>bA (hi pins s1 σ H1 _ I1 q1) fun iv s2 ⟨y,H2,I2,ry,a,v,ex,g,q2⟩=>?_)
 subst ex
 obtain rfl:u=Value.ref a:=rx
 exact⟨tK I2 g,wL hu I2 g ry fun w' s3 I3 rw'=>⟨v,H2,I3,rw',q2⟩⟩
theorem jK (hu:X.A.units+1 < cLine) (ho:PE X o td) (hi:PE X i ty) (hv:PE X value tv) (hs:swapsWith value (some (.Subscript o i pos')) pos.line X.env=pure false) :
  PS X (.Assign [.Subscript o i pos'] value pos) (Ca td ty tv):=by
 intro pins s σ H D I h
 refine wpAny_Assign_Subscript (bA (hv pins s σ H _ I h) fun r s1 ⟨v,H1,I1,rv,q1⟩=>bA (ho pins s1 σ H1 _ I1 q1) fun u s2 ⟨x,H2,I2,rx,q2⟩=>bA (hi pins s2 σ H2 _ I2 q2) fun iv s3 ⟨y,H3,I3,ry,a,H4,ex,g,q3⟩=>?_) hs
 subst ex
 obtain rfl:u=Value.ref a:=rx
 exact wM hu I3 g ry rv fun s4 I4=>⟨σ,H4,I4,q3⟩
end
theorem yr {P:Program} {w:World} {H:Hp} (h:Heap) (hb:sysModules < h.objs.size):bP P w H (h.push { cls:=.type "dict",data:=.dict #[] }) h.objs.size (.dK []) :=
 ⟨Nat.zero_le _,beq_eq_false_iff_ne.mpr (Ne.symm (Nat.ne_of_lt hb)),[],.nil,Heap.DictOf.new h⟩
def A6:TE:=fun _ H Q=>∀ p,H p=none->Q (.ref p) (upd H p (.dK []))
section
variable {X:Cx} {pos:Pos}
theorem mX:PE X (.Dict [] [] pos) A6:=fun pins s σ H Q I h =>
 wpAny_Dict_empty ⟨.ref s.heap.objs.size,_,I.laid (a:=s.heap.objs.size) (o:=.dK []) (t':=s.toks) (fun _ _ q=>Heap.get?_push_of_some _ q) (Nat.le_refl _) (yr s.heap I.big),rfl,h _ (I.aN.fresh (Nat.le_refl _))⟩
end
structure M2 (X:Cx) (o:Expr) (m:Str) (apos:Pos) (e f:Expr) (cpos:Pos):Prop where
 base:attributeBase o m X.env (eval o X.env)=eval o X.env
 bO:((backTo cpos (starEach [e,f] X.env)).all (fun x=>!x.1) && (backToKw cpos (keywordEach [] X.env)).all (fun x=>x.1.isSome)
  && decide (([e,f]:List Expr).length+([]:List Keyword).length+(if ([]:List Keyword).isEmpty then 0 else 1) < 30))=true
 line:(apos.endLine == cpos.line)=true
 trees:backTo cpos (starEach [e,f] X.env) = [(false,eval e X.env),(false,eval f X.env)]
def A7 (H:Hp) (a:Addr):Prop:=(∃ kvs,Rd H a (.dK kvs))\/∃ kvs,Rd H a (.dT kvs)
theorem wN {X:Cx} {pins:List (Addr × Obj)} {σ : St} {H:Hp} {s:Shared} {a:Addr} (I:Inv X pins σ H s) (d:A7 H a) :
  s.TypeIs (.ref a) "dict" /\ (∀ b,Value.ref a=.ref b->∃ ob,s.heap.get? b=some ob/\ob.dict=none)/\(a == sysModules)=false:=by
 rcases d with ⟨kvs,e⟩ | ⟨kvs,e⟩
 ·obtain⟨_,hd,vs,_,dd⟩:=ma I.aN e
  refine⟨dd.typeIs,fun b q=>?_,hd⟩
  cases q
  obtain⟨ob,_,_,h1,h2,_⟩:=dd
  exact⟨ob,h1,h2.2.1⟩
 ·obtain⟨_,hd,xs,_,dd⟩:=nO I.aN e
  refine⟨dd.typeIs,fun b q=>?_,hd⟩
  cases q
  obtain⟨ob,_,_,h1,h2,_⟩:=dd
  exact⟨ob,h1,h2.2.1⟩
section
variable {X:Cx} {pins:List (Addr × Obj)} {σ : St} {H:Hp} {s:Shared} {a:Addr} {y d:V} {u r:Value} {o:Option V} {A:Around} {E:Value->Shared->Prop}
theorem A8 {Q:Value->Shared->Prop} (hu:A.units+1 < cLine) (I:Inv X pins σ H s) (g:cY H a y o) (ry:RelV y u) (rd:RelV d r) (h:∀ w' s',Inv X pins σ H s'->RelV (o.getD d) w'->Q w' s') :
  wpAny (model X.prog X.w) A (call (.builtin "dict.get") [.ref a,u,r]) Q E s:=by
 rcases g with ⟨kvs,k,e,ey,l⟩ | ⟨kvs,k,b,e,ey,eb,l⟩
 ·subst ey
  obtain⟨z,hd,vs,rel,dd⟩:=ma I.aN e
  refine call_meetsIn PySem.F.slot_dict_get dd.typeIs PySem.F.entry_dict_get (PySem.F.args_dict_get_3 _ _ _) (meets_dict_get_default (aT X.prog X.w) a (ja ry) hd r) ⟨_,dd.mapOf,h _ _ (I.tok _) ?_⟩
  rw [l]
  exact (rel.val k).getD rd
 ·subst ey
  cases (show u=Value.ref b from ry)
  obtain⟨z,hd,xs,rel,dd⟩:=nO I.aN e
  refine call_meetsIn PySem.F.slot_dict_get dd.typeIs PySem.F.entry_dict_get (PySem.F.args_dict_get_3 _ _ _) (meetsH_dict_get_default (tupleKind (aT X.prog X.w)) a b hd r) ⟨tupleKind_room_in1 hu,k,xs,nN I.aN eb,dd,h _ _ (I.tok _) ?_⟩
  rw [l]
  exact (rel.val k).getD rd
end
inductive wO (Q:VK) (a:Addr) (y:V) (z:V) (H3:Hp):Prop
 | mk (kvs k:_) (_:H3 a=some (.dK kvs)) (_:y=kV k) (_:(∀ v,bS kvs k=some v->Q v (upd H3 a (.dK (eC kvs k))))) (_:(bS kvs k=none->Q z H3))
inductive wQ (ty:TE) (tx:TE) (σ : St) (Q:VK) (x:V) (H1:Hp):Prop
 | mk (a:_) (_:x=.ref a) (_:A7 H1 a) (_:ty σ H1 fun y H2=>tx σ H2 fun z H3=>wO Q a y z H3)
def A9 (td ty tx:TE):TE:=fun σ H Q=>td σ H fun x H1=>wQ ty tx σ Q x H1
section
variable {X:Cx} {o e f:Expr} {apos cpos:Pos} {td ty tx:TE}
theorem rO (ho:PE X o td) (he:PE X e ty) (hf:PE X f tx) (m:M2 X o "pop" apos e f cpos):PE X (.Call (.Attribute o "pop" apos) [e,f] [] cpos) (A9 td ty tx):=by
 intro pins s σ H Q I h
 refine wpAny_Call_method m.base m.bO m.line PySem.F.plainAttrs_dict PySem.F.slot_dict_pop PySem.F.type_dict_pop (bA (ho pins s σ H _ I h) fun u s1 ⟨x,H1,I1,rx,a,ex,d,q1⟩=>?_)
 subst ex
 obtain rfl:u=Value.ref a:=rx
 obtain⟨t1,t2,_⟩:=wN I1 d
 refine⟨t1,t2,?_⟩
 rw [m.trees]
 refine Calls.callWith_builtin rfl (Calls.evalArgs_plain (Calls.spliced_cons (bA (he pins s1 σ H1 _ I1 q1) fun iv s2 ⟨y,H2,I2,ry,q2⟩ =>
  Calls.spliced_cons (bA (hf pins s2 σ H2 _ I2 q2) fun fv s3 ⟨z,H3,I3,rz,kvs,k,ea,ey,q3,q4⟩=>Calls.spliced_nil ?_))))
 subst ey
 cases l:bS kvs k with
 | some v=>exact BZ I3 ea ry l (.inr ⟨fv,rfl⟩) fun w' s4 I4 rw'=>⟨v,_,I4,rw',q3 v l⟩
 | none=>exact A5 I3 ea ry l fun s4 I4=>⟨z,H3,I4,rz,q4 l⟩
end
section
variable {X:Cx} {pins:List (Addr × Obj)} {σ : St} {H:Hp} {s:Shared} {a:Addr} {kvs:List (Key × V)} {A:Around} {E:Value->Shared->Prop}
end
section
variable {X:Cx} {pins:List (Addr × Obj)} {σ : St} {H:Hp} {s:Shared} {a:Addr} {y:V} {u:Value} {A:Around} {E:Value->Shared->Prop}
end
section
variable {X:Cx}
end
section
variable {κ : Type} [DecidableEq κ]
theorem z6 {kvs:List (κ × V)} {k:κ} {v:V} (h:bS kvs k=some v):k ∈ kvs.map (·.1):=by
 have q:(kvs.any fun kv=>decide (kv.1=k))=true:=by
  rw [gH,h]
  all_goals rfl
 obtain⟨p,hp,e⟩:=List.any_eq_true.mp q
 exact List.mem_map.mpr ⟨p,hp,of_decide_eq_true e⟩
theorem pR {p:κ × V} {r:List (κ × V)} {k:κ} (e:p.1=k):eC (p :: r) k=eC r k:=by
 unfold eC
 rw [List.filter_cons,if_neg (by simp [e])]
theorem pS {p:κ × V} {r:List (κ × V)} {k:κ} (e:¬ p.1=k):eC (p :: r) k=p :: eC r k:=by
 unfold eC
 rw [List.filter_cons,if_pos (by simp [e])]
end
theorem bE.cB {H:Hp} {v:V} {ds:List PyData} (h:bE H v (.tuple ds)):∃ p xs,v=.ref p/\H p=some (.tup xs)/\bu H xs ds:=by
 cases h with
 | tup e r=>exact⟨_,_,rfl,e,r⟩
theorem bE.int_inv {H:Hp} {v:V} {i:Int} (h:bE H v (.int i)):v=.int i:=by cases h;rfl
theorem bE.str_inv {H:Hp} {v:V} {x:Str} (h:bE H v (.str x)):v=.str x:=by cases h;rfl
theorem bu.cons_inv {H:Hp} {xs:List V} {d:PyData} {ds:List PyData} (h:bu H xs (d :: ds)):∃ x r,xs=x :: r/\bE H x d/\bu H r ds:=by
 cases h with
 | cons a b=>exact⟨_,_,rfl,a,b⟩
theorem bu.nil_inv {H:Hp} {xs:List V} (h:bu H xs []):xs = []:=by cases h;rfl
theorem bu.get {H:Hp}:∀ {xs:List V} {ds:List PyData} {i:Nat} {d:PyData},bu H xs ds->ds[i]? = some d->∃ x,xs[i]? = some x/\bE H x d
 | _,_,_,_,.nil,e=>by simp at e
 | _,_,0,_,.cons r _,e=>by
  simp at e
  subst e
  exact⟨_,rfl,r⟩
 | _,_,i+1,d,.cons _ t,e=>by
  obtain⟨x,h1,h2⟩:=bu.get (i:=i) (d:=d) t (by simpa using e)
  exact⟨x,by simpa using h1,h2⟩
def qO:cK->List V
 | .put x n=>[.str "put",.str x,.int n]
 | .copy x y=>[.str "copy",.str x,.str y]
 | .add x n=>[.str "add",.str x,.int n]
 | .read x=>[.str "read",.str x]
 | .tell x=>[.str "tell",.str x]
def gI:End->List V
 | .stop=>[.str "stop"]
 | .go p=>[.str "go",.int p]
 | .dA b x n p q=>[.str (wT b),.str x,.int n,.int p,.int q]
theorem gJ {H:Hp} {v:V} {d:cK} (h:bE H v (dP d)):∃ p,v=.ref p/\H p=some (.tup (qO d)):=by
  cases d <;> (
    obtain⟨p,xs,rfl,e,r⟩:=bE.cB h
    obtain⟨x1,r1,rfl,h1,r⟩:=r.cons_inv
    obtain⟨x2,r2,rfl,h2,r⟩:=r.cons_inv
    first
      | (obtain⟨x3,r3,rfl,h3,r⟩:=r.cons_inv
         have z:=r.nil_inv
         subst z
         refine⟨p,rfl,?_⟩
         first
           | rw [e,h1.str_inv,h2.str_inv,h3.int_inv];rfl
           | rw [e,h1.str_inv,h2.str_inv,h3.str_inv];rfl)
      | (have z:=r.nil_inv
         subst z
         refine⟨p,rfl,?_⟩
         rw [e,h1.str_inv,h2.str_inv];rfl))
theorem Ba {H:Hp} {v:V} {e:End} (h:bE H v (rJ e)):∃ p,v=.ref p/\H p=some (.tup (gI e)):=by
 cases e with
 | stop =>
  obtain⟨p,xs,rfl,e,r⟩:=bE.cB h
  obtain⟨x1,r1,rfl,h1,r⟩:=r.cons_inv
  have z:=r.nil_inv
  subst z
  exact⟨p,rfl,by rw [e,h1.str_inv];rfl⟩
 | go q =>
  obtain⟨p,xs,rfl,e,r⟩:=bE.cB h
  obtain⟨x1,r1,rfl,h1,r⟩:=r.cons_inv
  obtain⟨x2,r2,rfl,h2,r⟩:=r.cons_inv
  have z:=r.nil_inv
  subst z
  exact⟨p,rfl,by rw [e,h1.str_inv,h2.int_inv];rfl⟩
 | dA b x n q q' =>
  obtain⟨p,xs,rfl,e,r⟩:=bE.cB h
  obtain⟨x1,r1,rfl,h1,r⟩:=r.cons_inv
  obtain⟨x2,r2,rfl,h2,r⟩:=r.cons_inv
  obtain⟨x3,r3,rfl,h3,r⟩:=r.cons_inv
  obtain⟨x4,r4,rfl,h4,r⟩:=r.cons_inv
  obtain⟨x5,r5,rfl,h5,r⟩:=r.cons_inv
  have z:=r.nil_inv
  subst z
  exact⟨p,rfl,by rw [e,h1.str_inv,h2.str_inv,h3.int_inv,h4.int_inv,h5.int_inv];rfl⟩
theorem iS {H:Hp} {v:V} {ps:List Piece} {i:Nat} {ds:List cK} {e:End} (h:bE H v (fW ps)) (hi:ps[i]? = some (ds,e)) :
  ∃ p xs pc da ea vs,v=.ref p/\H p=some (.tup xs)/\xs.length=ps.length/\xs[i]? = some (.ref pc)/\H pc=some (.tup [.ref da,.ref ea])/\H da=some (.tup vs)/\bu H vs (ds.map dP)/\H ea=some (.tup (gI e)):=by
 obtain⟨p,xs,rfl,e1,r⟩:=bE.cB h
 have hl:=r.len
 obtain⟨x,hx,rx⟩:=r.get (i:=i) (d:=eZ (ds,e)) (by rw [List.getElem?_map,hi];rfl)
 obtain⟨pc,ys,rfl,e2,r2⟩:=bE.cB rx
 obtain⟨y1,t1,rfl,q1,r2⟩:=r2.cons_inv
 obtain⟨y2,t2,rfl,q2,r2⟩:=r2.cons_inv
 have z:=r2.nil_inv
 subst z
 obtain⟨da,vs,rfl,e3,r3⟩:=bE.cB q1
 obtain⟨ea,rfl,e4⟩:=Ba q2
 exact⟨p,xs,pc,da,ea,vs,rfl,e1,by rw [hl,List.length_map],hx,e2,e3,r3,e4⟩
theorem fY {n:Nat} (h:n<=1000000):n < sizeLine:=Nat.lt_of_le_of_lt h (by decide)
theorem aZ {c:Bool} {A B:Prop} (hc:c=false) (h:B):if c=true then A else B:=by subst hc;exact aU h
theorem bV {c:Bool} {A B:Prop} (hc:c=true) (h:A):if c=true then A else B:=by subst hc;exact aQ h
inductive vn (Q:VK) (a:Addr) (y:V) (z:V) (H3:Hp):Prop
 | mk (o v:_) (_:cY H3 a y o) (_:o.getD z=v) (_:Q v H3)
inductive vo (ty:TE) (tx:TE) (σ : St) (Q:VK) (x:V) (H1:Hp):Prop
 | mk (a:_) (_:x=.ref a) (_:A7 H1 a) (_:ty σ H1 fun y H2=>tx σ H2 fun z H3=>vn Q a y z H3)
def z7 (td ty tx:TE):TE:=fun σ H Q=>td σ H fun x H1=>vo ty tx σ Q x H1
theorem cW {X:Cx} {o e f:Expr} {apos cpos:Pos} {td ty tx:TE} (hu:X.A.units+1 < cLine) (ho:PE X o td) (he:PE X e ty) (hf:PE X f tx) (m:M2 X o "get" apos e f cpos):PE X (.Call (.Attribute o "get" apos) [e,f] [] cpos) (z7 td ty tx):=by
 intro pins s σ H Q I h
 refine wpAny_Call_method m.base m.bO m.line PySem.F.plainAttrs_dict PySem.F.slot_dict_get PySem.F.type_dict_get (bA (ho pins s σ H _ I h) fun u s1 ⟨x,H1,I1,rx,a,ex,d,q1⟩=>?_)
 subst ex
 obtain rfl:u=Value.ref a:=rx
 obtain⟨t1,t2,_⟩:=wN I1 d
 refine⟨t1,t2,?_⟩
 rw [m.trees]
 refine Calls.callWith_builtin rfl (Calls.evalArgs_plain (Calls.spliced_cons (bA (he pins s1 σ H1 _ I1 q1) fun iv s2 ⟨y,H2,I2,ry,q2⟩ =>
  Calls.spliced_cons (bA (hf pins s2 σ H2 _ I2 q2) fun fv s3 ⟨z,H3,I3,rz,ov,v,g,ev,q3⟩=>Calls.spliced_nil ?_))))
 exact A8 hu I3 g ry rz fun w' s4 I4 rw'=>⟨v,H3,I4,by rw [<-ev];exact rw',q3⟩
structure RS where
 Cb:Nat
 place:Nat
 w:Str->Int
 taken:Nat
 told:List Int
 word:Str
 yt:List Nat
def DW (kvs:List (Key × V)) (w:Str->Int):Prop:=∀ x:Str,(bS kvs (Sum.inr x:Key)).getD (.int 0)=.int (w x)
def nP (ps:List Piece):Prop:=∀ p ∈ ps,match p.2 with
 | .stop=>True
 | .go q=>q < ps.length
 | .dA _ _ _ q r=>q < ps.length/\r < ps.length
theorem cR.wR {xs:List Str} {m:Nat} {ps:List Piece} (h:cR xs m ps):nP ps:=fun p hp=>by
 have:=h.ends p hp
 cases e:p.2 with
 | stop=>exact True.intro
 | go q=>rw [e] at this;exact this
 | dA b x n q r=>rw [e] at this;exact⟨this.2.2.1,this.2.2.2⟩
def vO:Option Int->V
 | none=>.aC
 | some i=>.int i
def fZ:Option Int->Option Int->Prop
 | some a,some b=>a<=b
 | _,_=>True
def cE (n:Int) (lo hi:Option Int):Bool:=(match lo with | none=>true | some a=>decide (a<=n)) && (match hi with | none=>true | some a=>decide (n<=a))
abbrev Rs:=Option (Option Int × Option Int)
def ik (hi:Option Int) (n:Int):Int:=match hi with | none=>n - 1 | some h=>if n - 1 < h then n - 1 else h
def il (lo:Option Int) (n:Int):Int:=match lo with | none=>n | some l=>if n > l then n else l
def fI (lo hi:Option Int) (n:Int):Rs :=
 match lo with | none=>some (none,some (ik hi n)) | some l=>if ik hi n < l then none else some (some l,some (ik hi n))
def gU (lo hi:Option Int) (n:Int):Rs :=
 match hi with | none=>some (some (il lo n),none) | some h=>if h < il lo n then none else some (some (il lo n),some h)
def kA (lo hi:Option Int) (n:Int):Rs:=if cE n lo hi=true then some (some n,some n) else none
def iT (lo hi:Option Int) (n:Int):Rs:=if lo=some n then (if hi=some n then none else some (some (n+1),hi)) else if hi=some n then some (lo,some (n - 1)) else some (lo,hi)
def j2 (lo hi:Option Int) (n:Int) (side:Bool):Rs:=if side=true then fI lo hi n else gU lo hi n
def rP (lo hi:Option Int) (n:Int) (side:Bool):Rs:=if side=true then kA lo hi n else iT lo hi n
def di (w:Str) (lo hi:Option Int) (n:Int) (side:Bool):Rs:=if w = "less" then j2 lo hi n side else rP lo hi n side
theorem yu {w:Str} {lo hi:Option Int} {n:Int} (le:fZ lo hi) (h1:di w lo hi n true=none) (h2:di w lo hi n false=none):False:=by
 unfold di at h1 h2
 by_cases hw:w = "less"
 ·rw [if_pos hw] at h1 h2
  simp only [j2,if_true,Bool.false_eq_true,if_false] at h1 h2
  unfold fI ik at h1
  unfold gU il at h2
  cases lo <;> cases hi <;> simp only [reduceCtorEq] at h1 h2
  rename_i l h
  simp only [fZ] at le
  by_cases c1:n - 1 < h
  ·simp only [c1,if_true] at h1
   by_cases c2:n - 1 < l
   ·by_cases c3:n > l
    ·simp only [c3,if_true] at h2
     split at h2
     ·omega
     ·cases h2
    ·simp only [c3,if_false] at h2
     split at h2
     ·omega
     ·cases h2
   ·rw [if_neg c2] at h1;cases h1
  ·simp only [c1,if_false] at h1
   split at h1
   ·omega
   ·cases h1
 ·rw [if_neg hw] at h1 h2
  simp only [rP,if_true,Bool.false_eq_true,if_false] at h1 h2
  unfold iT at h2
  by_cases c1:lo=some n
  ·rw [if_pos c1] at h2
   by_cases c2:hi=some n
   ·subst c1;subst c2
    simp [kA,cE] at h1
   ·rw [if_neg c2] at h2;cases h2
  ·rw [if_neg c1] at h2
   split at h2 <;> cases h2
def RV (H:Hp) (v:V) (r:Rs):Prop:=match r with
 | none=>v=.aC
 | some (a,b)=>∃ p,v=.ref p/\H p=some (.tup [vO a,vO b])
theorem RV.same {H H':Hp} {v:V} {r:Rs} (h:RV H v r) (s:ae H H'):RV H' v r:=by
 cases r with
 | none=>exact h
 | some ab =>
  obtain⟨p,e,h⟩:=h
  exact⟨p,e,s _ _ h⟩
theorem RV.put {H:Hp} {v:V} {r:Rs} {l:Addr} {xs:List V} {o:HO} (h:RV H v r) (hl:H l=some (.lst xs)):RV (upd H l o) v r:=by
 cases r with
 | none=>exact h
 | some ab =>
  obtain⟨p,e,h⟩:=h
  exact⟨p,e,by rw [ao (bJ h hl (by intro z;cases z))];exact h⟩
def dO:Option Int->PyData
 | none=>.none
 | some i=>.int i
theorem Bb {H:Hp} (o:Option Int):bE H (vO o) (dO o):=by
 cases o with
 | none=>exact .aC
 | some i=>exact .int i
theorem ae.put {H H':Hp} {l:Addr} {o:HO} (s:ae H H') (n:H l=none):ae H (upd H' l o):=fun c u e=>by rw [ao (bg e n)];exact s c u e
theorem wU:decide (V.str "less" = V.str "less")=true:=by decide +kernel
theorem jb {lo:Option Int} {n:Int}:decide (vO lo=V.int n)=decide (lo=some n):=by
 cases lo with
 | none=>rfl
 | some i =>
  by_cases h:i=n
  ·subst h;simp [vO]
  ·have h1:¬ (V.int i=V.int n):=fun z=>h (V.int.inj z)
   have h2:¬ ((some i:Option Int)=some n):=fun z=>h (Option.some.inj z)
   rw [show vO (some i)=V.int i from rfl,decide_eq_false h1,decide_eq_false h2]
theorem hZ {lo:Option Int} {n:Int}:xY (vO lo) (V.int n)=true:=by cases lo <;> rfl
section
variable {X:Cx} {C:Addr} {m x:Str} {k:Nat} {ps:List Str} {sp:Sp} {oe e:Expr} {es:List Expr} {ta:TE} {t:TA} {p pos apos:Pos}
end
theorem jL:bootBuiltins "dict" = some (.type "dict"):=by decide +kernel
def Dp (a0 a1 a2 a3 a4 a5 a6 a7:V):List (Str × V):=[("pieces",a0),("passed",a1),("place",a2),("worths",a3),("numbers",a4),("taken",a5),("spoken",a6),("over",a7)]
section
variable {a0 a1 a2 a3 a4 a5 a6 a7 z:V}
end
structure dB (C:Addr) (H:Hp) (p pl d nl sl:Addr) (plv:V) (nums:List Int) (S:RS) (m:Nat):Prop where
 ob:∃ dx,H p=some (.ins C dx (Dp plv (.ref pl) (.int S.place) (.ref d) (.ref nl) (.int S.taken) (.ref sl) (.bl (decide (S.word = "stop")))))
 Dq:H pl=some (.lst (S.yt.map fun k=>V.int (k:Nat)))
 last:∃ xs,S.yt=xs ++ [S.Cb]
 dict:∃ kvs,H d=some (.dK kvs)/\DW kvs S.w/\kvs.length<=m
 nums:H nl=some (.lst (nums.map V.int))
 Dr:H sl=some (.lst (S.told.map V.int))
 ne:pl ≠ nl/\pl ≠ sl/\nl ≠ sl
 bO:S.told.length<=m/\S.yt.length<=m+1
section
variable {C:Addr} {H H':Hp} {p pl d nl sl:Addr} {plv:V} {nums:List Int} {S:RS} {m:Nat}
end
end L2
namespace HT
open PySem PyProof.Rows PySem.Spec
section
variable {prog:Program} {w:World} {A:Around} {E:Value->Shared->Prop} {s:Shared}
theorem mG {t sl:Addr} {items:Array Value} {vl vu:Value} {lo hi:Option Int} {Q:Value->Shared->Prop} (ht:IsTup s.heap t items) (hs:s.heap.IsSliceOf sl vl vu .none) (pl:IsPart vl lo) (pu:IsPart vu hi)
  (hw:b5 items.size 0 lo=0/\b5 items.size items.size hi=items.size) (h:Q (.ref t) s):wpAny (model prog w) A (getItem (.ref t) (.ref sl)) Q E s:=by
 obtain⟨os,hos,hcs,hds⟩:=id hs
 have hTs:s.TypeIs (.ref sl) "slice" := ⟨os,hos,hcs⟩
 unfold getItem
 try with_reducible refine wpAny_holding ?_
 first | refine wpAny_bind (wpAny_pure ?_) | skip
 refine wpAny_bind (wpAny_sequenceKey ht.typeIs (by decide) ?_)
 refine wpAny_bind (wpAny_callSpecial?_slot (name:=Str.ofString "__getitem__") ht.typeIs PyProof.Rows.slot_tuple_getitem
  (wpAny_call_entry PyProof.Rows.slot_tuple_getitem ht.typeIs entry_tuple_getitem ?_ (args_tuple_getitem _ _)))
 show wpAny _ _ (Builtin.Tuple.tupleItemsOf (.ref t) >>= _) _ _ s
 refine wpAny_bind (tupleItemsOf_ ht ?_)
 refine wpAny_bind (wpAny_typeOf hTs ?_)
 rw [if_pos (by decide)]
 refine wpAny_bind (iL hs pl pu ?_)
 have hno:((((b5 items.size 0 lo:Nat):Int) == 0 && (1:Int) == 1 && (b5 items.size items.size hi - b5 items.size 0 lo) == items.size)=true):=by
  rw [hw.1,hw.2]
  simp
 show wpAny _ _ (if (((b5 items.size 0 lo:Nat):Int) == 0 && (1:Int) == 1 && (b5 items.size items.size hi - b5 items.size 0 lo) == items.size)=true then _ else _) _ _ s
 rw [if_pos hno]
 refine wpAny_bind ?_
 unfold Builtin.Tuple.tupleIsExact
 refine wpAny_bind (wpAny_typeOf ht.typeIs (wpAny_pure ?_))
 rw [if_pos (by decide)]
 refine wpAny_bind (wpAny_rule ?_)
 first
  | exact wpAny_pure ⟨_,rfl,wpAny_pure h⟩
  | exact wpAny_bind (wpAny_pure (wpAny_pure ⟨_,rfl,wpAny_pure h⟩))
  | exact wpAny_pure (wpAny_pure ⟨_,rfl,wpAny_pure h⟩)
end
end HT
namespace L2
open PySem PySem.Spec PyProof.Rows
section
variable {X:Cx}
inductive Cc (K:PySem.W.Frag) (x:V) (lo:Option Int) (hi:Option Int) (H:Hp) (Q:VK):Prop
 | mk (a xs:_) (_:x=.ref a) (_:ar K H a xs) (_:((HT.b5 xs.length 0 lo=0/\HT.b5 xs.length xs.length hi=xs.length)->Q (.ref a) H)) (_:(¬ (HT.b5 xs.length 0 lo=0/\HT.b5 xs.length xs.length hi=xs.length)->∀ p,H p=none->Q (.ref p) (upd H p (.tup (mV xs lo hi)))))
theorem uD:AR X (Cc X.K):=by
 intro pins s σ H x v vl vu lo hi sl Q I rx hs pl pu h
 obtain⟨a,xs,rfl,hx,q1,q2⟩:=h
 by_cases hw:HT.b5 xs.length 0 lo=0/\HT.b5 xs.length xs.length hi=xs.length
 ·cases rx
  obtain⟨its,r,ht,hz⟩:=I.tuple hx
  have hlen:its.toArray.size=xs.length:=by rw [List.size_toArray];exact r.length.symm
  refine⟨"tuple",_,PyProof.Rows.slot_tuple_getitem.lookup,ht.typeIs,?_⟩
  exact HT.mG ht hs pl pu (by rw [hlen];exact hw) ⟨.ref a,H,I,rfl,q1 hw⟩
 ·exact AS pins s σ H (.ref a) v vl vu lo hi sl Q I rx hs pl pu ⟨a,xs,rfl,hx,hw,q2 hw⟩
end
theorem jj {P:Program} {w:World} {x:Str} {v:Value} (h:(aT P w).is (Sum.inr x) v=true):∃ t,v=.str x t:=by
 cases v with
 | str y t =>
  have:y=x:=by simpa [aT,iy,Value.isStrOf] using h
  exact⟨t,by rw [this]⟩
 | _=>simp [aT,iy,Value.isStrOf] at h
theorem nQ:∀ {vs:List Value} {ks:List Str},vs.length=ks.length->(∀ (j:Nat) (v:Value) (x:Str),vs[j]? = some v->ks[j]? = some x->∃ t,v=.str x t)->StrsAre vs ks
 | [],[],_,_=>.nil
 | v :: vs,x :: ks,hl,h=>by
  obtain⟨t,rfl⟩:=h 0 v x rfl rfl
  exact .cons x t (nQ (by simpa using hl) fun j v' x' h1 h2=>h (j+1) v' x' (by simpa using h1) (by simpa using h2))
 | [],_ :: _,hl,_=>by simp at hl
 | _ :: _,[],hl,_=>by simp at hl
section
variable {prog:Program} {w:World} {A:Around} {E:Value->Shared->Prop} {s:Shared}
open PySem.Calls PySem.W in
theorem gather {T:String} {r d:Addr} {n:Nat} {P:Nat->Value->Prop} {OK:Heap->Prop} {G:List Value->Shared->Prop} (src:KdlSrc prog w T r d n P OK) (calm:A.handled=none) (ok:OK s.heap) (bO:n<=sizeLine)
  (fin:∀ (g:Heap) (tk:Nat) (got:Array Value),(∀ b o,s.heap.get? b=some o->g.get? b=some o)->ItemsOf P got n->s.heap.objs.size<=g.objs.size->G got.toList { s with heap:=g,toks:=tk }) :
  wpAny (model prog w) A (collect (.ref r)) G E s:=by
 obtain⟨lt1,lt2⟩:=src.there _ ok
 unfold collect
 refine wpAny_bind (wpAny_runValue (codeAny_builtin entry_proto_collect' ?_))
 rw [Around.under_plainId PySem.F.plain_proto_collect _]
 show wpAny _ A.in1 (newList [] >>= fun z=>again (.builtin "list.__iadd__" ⟨[z,.ref r],[]⟩)) _ _ s
 refine wpAny_bind (wpAny_newObj_type (wpAny_pure ⟨plainId_quiet PySem.F.plain_list_iadd _,codeAny_builtin entry_list_iadd' ?_⟩))
 rw [Around.under_plainId PySem.F.plain_list_iadd _]
 show wpAny _ A.in1 (Builtin.List.listExtendWith (.ref s.heap.objs.size) (.ref r) (.ref s.heap.objs.size)) _ _ _
 have made:(s.heap.push { cls:=.type "list",data:=.seq ([]:List Value).toArray }).get? s.heap.objs.size=some { cls:=.type "list",data:=.seq #[] }:=Heap.get?_push_size _ rfl
 have run:=kdl_extend (A:=A) (s:={ s with heap:=s.heap.push { cls:=.type "list",data:=.seq ([]:List Value).toArray } })
  (R:=fun (z:Result) (t:Shared)=>∃ (g:Heap) (tk:Nat) (got:Array Value) (c:Nat),z=.ok (.ret (.ref s.heap.objs.size))/\t = { s with heap:=g,toks:=tk } /\
   (∀ b o,s.heap.get? b=some o->g.get? b=some o)/\g.get? s.heap.objs.size=some { cls:=.type "list",dict:=none,data:=.seq got c,slots:=#[] }/\ItemsOf P got n)
  src calm (src.keep _ _ ok fun b _ o e=>Heap.get?_push_of_some _ e) s.heap.objs.size (Nat.ne_of_gt lt1) (Nat.ne_of_gt lt2) (.ref s.heap.objs.size) 0 made
  (fun g tk got c kept at_ its=>⟨g,tk,got,c,rfl,rfl,fun b o e=>kept b o (Nat.ne_of_lt (Heap.lt_size e)) (Heap.get?_push_of_some _ e),at_,its⟩) bO
 refine wpAny_mono run (fun z t x=>?_) fun z t ⟨_,_,_,_,bad,_⟩=>by cases bad
 cases z with
 | done f =>
  obtain⟨g,tk,got,c,e,rfl,kept,at_,its⟩:=x
  cases e
  show wpAny _ A (load s.heap.objs.size >>= _) _ _ _
  exact wpAny_bind (wpAny_load at_ (wpAny_pure (fin g tk got kept its (Nat.le_of_lt (Heap.lt_size at_)))))
 | again more =>
  refine⟨x.1,codeAny_mono x.2 fun z' t' ⟨g,tk,got,c,e1,e2,kept,at_,its⟩=>?_⟩
  subst e1 e2
  show wpAny _ A (load s.heap.objs.size >>= _) _ _ _
  exact wpAny_bind (wpAny_load at_ (wpAny_pure (fin g tk got kept its (Nat.le_of_lt (Heap.lt_size at_)))))
theorem rQ {a:Addr} {kvs:List (Key × Value)} {ks:List Str} {Q:Value->Shared->Prop} (hh:A.handled=none) (lo:(a == sysModules)=false) (dd:s.heap.DictOf (aT prog w) a kvs)
  (hk:kvs.map (·.1)=ks.map Sum.inr) (h64:ks.length < 64)
  (h:∀ (h':Heap) (tk:Nat) (D:Addr) (out:Array Value) (ss':List Str) (e:Nat),(∀ b o,s.heap.get? b=some o->h'.get? b=some o)->s.heap.objs.size<=D->h'.get? D=some { cls:=.type "list",data:=.seq out e } ->
   StrsAre out.toList ss'->ss'.Perm ks->sortedS ss' = true->Q (.ref D) { s with heap:=h',toks:=tk }) :
  wpAny (model prog w) A (call (.builtin "sorted") [.ref a]) Q E s:=by
 refine Calls.call_function_entry kind_sorted plain_sorted entry_sorted (args_sorted1 _) ?_
 unfold Builtin.«sorted»
 refine wpAny_bind (m:=checkCount "sorted" 1 1 _) (wpAny_pure ?_)
 obtain⟨ep,hat⟩:=dd.dictAt
 have hlk:kvs.length=ks.length:=by have:=congrArg List.length hk;simpa using this
 have hs:sizeLine=16777216\/64<=sizeLine:=.inr (by decide)
 have hz:kvs.length<=sizeLine:=by rw [hlk];exact Nat.le_trans (Nat.le_of_lt h64) (by decide)
 refine wpAny_bind (gather (A:=A.in1) (PySem.W.kdl_dict (knd:=aT prog w) (kvs:=kvs) (ep:=ep) lo) hh hat hz fun h' tk acc hkeep hacc hsz=>?_)
 have hl:acc.toList.length=ks.length:=by rw [Array.length_toList,hacc.1,hlk]
 have hS:StrsAre acc.toList ks:=nQ hl fun j v x h1 h2=>by
  obtain⟨k,y,e1,e2⟩:=hacc.2 j v (by rw [<-Array.getElem?_toList];exact h1)
  have e3:(kvs.map (·.1))[j]? = some k:=by rw [List.getElem?_map,e1];rfl
  rw [hk,List.getElem?_map,h2] at e3
  cases (Option.some.inj e3)
  exact jj e2
 refine wpAny_bind (wpAny_newList ?_ (by rw [hl];exact Nat.le_trans (Nat.le_of_lt h64) (by decide)))
 have hoL:(h'.push (seqObj "list" acc.toList.toArray 0)).get? h'.objs.size=some (seqObj "list" acc.toList.toArray 0):=Heap.get?_push_size _ rfl
 refine wpAny_bind (wpAny_holding (wpAny_call_entry slot_list_sort ⟨_,hoL,rfl⟩ entry_list_sort (list_sort_treeK strKind_oneLt hoL hS.keysOf (fun v₁ v₂ rest e=>keyKind_strs (by rw [<-e];exact hS)) (by rw [hl];exact h64) fun st' a1 a2=>⟨_,rfl,?_⟩) (args_list_sort _)))
 obtain⟨ss',b1,b2,b3⟩:=sorted_out_str hS a1 a2
 obtain⟨e,he⟩:=sortedHeap_at (out:=(arrOf st').map (·.2)) hoL
 refine wpAny_pure ⟨_,rfl,h _ tk _ _ ss' e (fun b o ho=>?_) hsz he b1 b2 b3⟩
 have h1:=hkeep b o ho
 have hlt:=Heap.lt_size h1
 rw [sortedHeap_old (Nat.ne_of_lt hlt) (by rw [size_push'];exact Nat.lt_succ_of_lt hlt)]
 exact Heap.get?_push_of_some _ h1
end
theorem oQ:∀ {us:List Value} {ys:List Str},StrsAre us ys->Vals (ys.map V.str) us
 | _,_,.nil=>.nil
 | _,_,.cons x t r=>.cons ⟨t,rfl⟩ (oQ r)
section
variable {X:Cx}
theorem iU (hc:X.calm=true):eR X (.builtin "sorted") (fun vs H Q=>∃ (a:Addr) (kvs:List (Key × V)) (ks:List Str),vs = [.ref a]/\H a=some (.dK kvs)/\kvs.map (·.1)=ks.map Sum.inr/\ks.length < 64 /\
  ∀ (l:Addr) (ss:List Str),ss.Perm ks->sortedS ss=true->H l=none->Q (.ref l) (upd H l (.lst (ss.map V.str)))):=by
 intro pins s σ H xs us Q I r h
 obtain⟨a,kvs,ks,rfl,ha,hk,h64,q⟩:=h
 obtain⟨u,rfl,ru⟩:=vals1 r
 cases (show u=Value.ref a from ru)
 obtain⟨z,hd,vs,rel,dd⟩:=me I.aN ha
 refine rQ (I.ok.hd hc) hd dd (by rw [<-rel.keys];exact hk) h64 fun h' tk D out ss' e hkeep hD he hS hp hs=>?_
 have hv:Vals (ss'.map V.str) out.toList:=oQ hS
 refine⟨.ref D,_,I.laid (t':=tk) (o:=.lst (ss'.map V.str)) hkeep hD (show bP X.prog X.w _ h' _ (.lst (ss'.map V.str)) from ⟨?_,out.toList,e,hv,by simpa using he⟩),rfl,q D ss' hp hs (I.aN.fresh hD)⟩
 rw [List.length_map,hp.length_eq]
 exact Nat.le_trans (Nat.le_of_lt h64) (by decide)
end
theorem rR {kvs:List (Key × V)} {k:Key} {v:V} (nd:(kvs.map (·.1)).Nodup) (h:(k,v) ∈ kvs):bS kvs k=some v:=by
 induction kvs with
 | nil=>cases h
 | cons p r ih =>
  obtain⟨k',v'⟩:=p
  rw [List.map_cons,List.nodup_cons] at nd
  rcases List.mem_cons.mp h with e | h
  ·cases e
   simp [bS]
  ·have hne:¬ k' = k:=fun z=>nd.1 (by rw [z];exact List.mem_map.mpr ⟨(k,v),h,rfl⟩)
   have:=ih nd.2 h
   simp [bS,hne] at this ⊢
   exact this
section
variable {X:Cx}
end
theorem sub_len {α : Type} [DecidableEq α]:∀ {l m:List α},l.Nodup->(∀ x ∈ l,x ∈ m)->l.length<=m.length
 | [],_,_,_=>Nat.zero_le _
 | x :: l,m,nd,h=>by
  rw [List.nodup_cons] at nd
  have hx:=h x (List.mem_cons_self ..)
  have h1:=sub_len (l:=l) (m:=m.erase x) nd.2 fun y hy=>(List.mem_erase_of_ne (fun z=>nd.1 (by rw [<-z];exact hy))).mpr (h y (List.mem_cons_of_mem _ hy))
  rw [List.length_erase_of_mem hx] at h1
  have h2:0 < m.length:=List.length_pos_of_mem hx
  show l.length+1<=m.length
  omega
theorem h8:bootBuiltins "sorted" = some (.builtin "sorted"):=PyProof.Rows.boot_sorted
theorem wV {kvs:List (Key × V)} {k:Key} {v:V}:(putK kvs k v).map (·.1)=kvs.map (·.1)/\k ∈ kvs.map (·.1)\/(putK kvs k v).map (·.1)=kvs.map (·.1) ++ [k]/\¬ k ∈ kvs.map (·.1):=by
 unfold putK
 by_cases h:(kvs.any fun kv=>decide (kv.1=k))=true
 ·rw [if_pos h]
  refine .inl ⟨?_,?_⟩
  ·rw [List.map_map]
   refine List.map_congr_left fun p _=>?_
   show (if p.1=k then (p.1,v) else p).1=p.1
   split <;> rfl
  ·obtain⟨p,hp,he⟩:=List.any_eq_true.mp h
   exact List.mem_map.mpr ⟨p,hp,of_decide_eq_true he⟩
 ·rw [if_neg h]
  refine .inr ⟨by rw [List.map_append];rfl,fun hm=>h ?_⟩
  obtain⟨p,hp,he⟩:=List.mem_map.mp hm
  exact List.any_eq_true.mpr ⟨p,hp,decide_eq_true he⟩
def mh:cK->Str
 | .put x _=>x
 | .copy x _=>x
 | .add x _=>x
 | .read x=>x
 | .tell x=>x
theorem yw (dd:cK):fE (qO dd) 1=some (.str (mh dd)):=by cases dd <;> exact cD
theorem d6.name {xs:List Str} {dd:cK} (h:d6 xs dd):mh dd ∈ xs:=by
 cases dd with
 | put x n=>exact h.1
 | copy x y=>exact h.1
 | add x n=>exact h.1
 | read x=>exact h
 | tell x=>exact h
theorem bY.put {H:Hp} {b p:Addr} {o:HO} (h:bY H b) (n:b ≠ p):bY (upd H p o) b:=by
 obtain⟨x,y,e,z⟩:=h
 exact⟨x,y,by rw [ao n];exact e,z⟩
section
variable {X:Cx}
end
section
variable {a0 a1 z:V}
end
section
variable {C D:Addr} {H H':Hp} {wp p pl d nl sl:Addr} {plv:V} {nums:List Int} {S:RS} {m:Nat}
end
section
variable (C D:Addr)
end
section
variable {C D:Addr} {H H':Hp} {wp p pl d nl sl st d2 tl bl np:Addr} {plv:V} {nums nums':List Int} {S S':RS} {m m':Nat}
end
section
variable (C D:Addr)
end
section
variable {C D:Addr} {H0 H H1 H2:Hp} {wp p pl d nl sl st st' d2 tl bl np b:Addr} {plv:V} {nums more:List Int} {S S':RS} {m m':Nat}
end
section
variable {X:Cx}
end
section
variable {ps:List Piece} {nums more:List Int} {S S0:RS} {m n:Nat}
end
section
variable {ps:List Piece} {nums more:List Int} {S:RS} {m n:Nat}
end
inductive Call where
 | hand (ns:List Int)
 | go (n:Nat)
structure Bc where
 S:RS
 nums:List Int
 m:Nat
structure WA where
 wp:Addr
 p:Addr
 pl:Addr
 d:Addr
 nl:Addr
 sl:Addr
section
variable {C D:Addr} {H H' H0:Hp} {x y:WA} {pv pv':V} {s s':Bc} {c:Addr} {o:HO}
end
section
variable (C D:Addr)
end
section
variable {C D:Addr} {H0 H H1:Hp} {w0 w1 w2:WA} {wl cl nb:Addr} {plv ov:V} {x0 x1 x2 x':Bc} {n0 n1 n':List Int} {vs:List V} {cs:List Call}
end
section
variable {prog:Program} {w:World} {A:Around} {E:Value->Shared->Prop} {s:Shared}
theorem rS {j t:Addr} {n:Nat} {its:Array Value} {x:Value} {Q:Value->Shared->Prop} (hj:s.heap.IsTupleIter j t n) (ht:s.heap.IsTuple t its) (hx:its[n]? = some x)
  (hQ:∀ g,g.IsTupleIter j t (n+1)->Heap.SameBut j s.heap g->Q x { s with heap:=g }):wpAny (model prog w) A (Builtin.SmallTypes.nextOf (.ref j)) Q E s:=by
 obtain⟨ob,eo,ec,ed⟩:=id hj
 obtain⟨ot,et,_,k,ek⟩:=ht
 unfold Builtin.SmallTypes.nextOf
 refine wpAny_bind (wpAny_callSpecial?_slot (name:=Str.ofString "__next__") hj.typeIs F.slot_tuple_iterator_next (wpAny_call_entry F.slot_tuple_iterator_next hj.typeIs F.entry_tuple_iterator_next ?_ (F.args_tuple_iterator_next_1 _)))
 show wpAny _ _ (field (.ref j) 0 >>= _) _ _ s
 refine wpAny_bind (wpAny_field eo ed (x:=.ref t) rfl ?_)
 show wpAny _ _ (if (Value.ref t == Value.none)=true then _ else _) _ _ s
 refine (if_neg (c:=(Value.ref t == Value.none)=true) Bool.false_ne_true) ▸ ?_
 show wpAny _ _ (field (.ref j) 1 >>= _) _ _ s
 refine wpAny_bind (wpAny_field eo ed (x:=.int n 0) rfl (wpAny_bind (wpAny_seqItems et ek ?_)))
 simp only [hx,Int.toNat_natCast]
 refine wpAny_bind (wpAny_setField eo ed (by simp) (wpAny_pure ⟨x,rfl,wpAny_pure (hQ _ ⟨_,Heap.get?_update_self _ eo (Obj.isFreed_of_fields (Obj.data_mapFields ed _)),(Obj.cls_mapFields ..).trans ec,?_⟩ (Heap.SameBut.update ..))⟩))
 rw [Obj.data_mapFields ed];simp [rawInt]
theorem uE {j t:Addr} {n:Nat} {its:Array Value} {Q:Value->Shared->Prop} (ha:A.handled=none) (hj:s.heap.IsTupleIter j t n) (ht:s.heap.IsTuple t its) (hx:its[n]? = none)
    (hE:∀ g e,Heap.ExtBut j s.heap g->(∃ o,g.get? e=some o/\o.cls=.type "StopIteration")->E (.ref e) { s with heap:=g }):wpAny (model prog w) A (Builtin.SmallTypes.nextOf (.ref j)) Q E s:=by
  obtain⟨ob,eo,ec,ed⟩:=id hj
  obtain⟨ot,et,_,k,ek⟩:=ht
  unfold Builtin.SmallTypes.nextOf
  refine wpAny_bind (wpAny_callSpecial?_slot (name:=Str.ofString "__next__") hj.typeIs F.slot_tuple_iterator_next (wpAny_call_entry F.slot_tuple_iterator_next hj.typeIs F.entry_tuple_iterator_next ?_ (F.args_tuple_iterator_next_1 _)))
  show wpAny _ _ (field (.ref j) 0 >>= _) _ _ s
  refine wpAny_bind (wpAny_field eo ed (x:=.ref t) rfl ?_)
  show wpAny _ _ (if (Value.ref t == Value.none)=true then _ else _) _ _ s
  refine (if_neg (c:=(Value.ref t == Value.none)=true) Bool.false_ne_true) ▸ ?_
  show wpAny _ _ (field (.ref j) 1 >>= _) _ _ s
  refine wpAny_bind (wpAny_field eo ed (x:=.int n 0) rfl (wpAny_bind (wpAny_seqItems et ek ?_)))
  simp only [hx,Int.toNat_natCast]
  refine wpAny_bind (wpAny_rule (wpAny_bind (wpAny_setField eo ed (by simp) ?_)))
  show wpAny _ _ (newExc (.type "StopIteration") [] >>= fun _=>_) _ _ _
  refine wpAny_bind ?_
  simp only [newTuple,newExc]
  refine wpAny_bind (wpAny_newObj_type (wpAny_bind (m:=firstArgMember _ _) (wpAny_of_eq (a:=Value.none) (by first | rfl | (simp only [firstArgMember];rfl)) (wpAny_newObj_type ?_ (by size_fits)))) (by size_fits))
  simp only [raiseNew]
  refine wpAny_bind (wpAny_handled (by
    first | rw [show A.in1.handled=none from ha] | rw [ha]
    exact wpAny_bind (wpAny_pure (wpAny_throw (hE _ _ (((Heap.SameBut.update ..).extBut.push _).push _) ⟨_,Heap.get?_push_size _ rfl,rfl⟩)))))
structure uF (z p q j k a b:Addr):Prop where
 pz:p ≠ z
 qz:q ≠ z
 jz:j ≠ z
 kz:k ≠ z
 pq:p ≠ q
 pj:p ≠ j
 pk:p ≠ k
 qj:q ≠ j
 qk:q ≠ k
 jk:j ≠ k
 az:a ≠ z
 aq:a ≠ q
 aj:a ≠ j
 ak:a ≠ k
 bz:b ≠ z
 bq:b ≠ q
 bj:b ≠ j
 bk:b ≠ k
theorem iH {h g:Heap} {a:Addr} {xs:Array Value} (x:h.IsTuple a xs) (k:∀ o,h.get? a=some o->g.get? a=some o):g.IsTuple a xs:=by
 obtain⟨o,e,r⟩:=x
 exact⟨o,k o e,r⟩
theorem z8 {z p q j k a b:Addr} {m n:Nat} {xs ys:Array Value} {x y u v:Value} {Q:Value->Shared->Prop} (D:uF z p q j k a b)
  (gz:IsZip s.heap z p q .none) (gp:IsPair s.heap p (.ref j) (.ref k)) (gq:IsPair s.heap q u v)
  (gj:s.heap.IsTupleIter j a m) (gk:s.heap.IsTupleIter k b n) (ga:s.heap.IsTuple a xs) (gb:s.heap.IsTuple b ys) (hx:xs[m]? = some x) (hy:ys[n]? = some y)
  (hQ:∀ g,IsZip g z p q (rawInt s.heap.objs.size)->IsPair g q x y->g.IsTupleIter j a (m+1)->g.IsTupleIter k b (n+1)->IsPair g s.heap.objs.size x y->g.objs.size=s.heap.objs.size+1 ->
   (∀ c o,c ≠ z->c ≠ q->c ≠ j->c ≠ k->s.heap.get? c=some o->g.get? c=some o)->Q (.ref s.heap.objs.size) { s with heap:=g }) :
  wpAny (model prog w) A (Builtin.«zip.__next__» ⟨[.ref z],[]⟩) (fun fin s'=>∃ v,fin=.done (.ret v)/\Q v s') E s:=by
 show wpAny _ _ (field (.ref z) 2 >>= fun _=>_) _ _ _
 refine wpAny_bind (wpAny_field gz rfl (x:=.bool false) rfl ?_)
 show wpAny _ _ (field (.ref z) 3 >>= fun _=>_) _ _ _
 refine wpAny_bind (wpAny_field gz rfl (x:=.ref p) rfl (wpAny_bind (wpAny_seqItems gp rfl ?_)))
 show wpAny _ _ (Builtin.SmallTypes.ownedTupleIsFree (.ref z) >>= fun _=>_) _ _ _
 refine wpAny_bind ?_
 unfold Builtin.SmallTypes.ownedTupleIsFree
 refine wpAny_bind (wpAny_field gz rfl (x:=.none) rfl (wpAny_pure ?_))
 simp only [if_true]
 refine wpAny_bind (wpAny_rule (wpAny_bind (wpAny_field gz rfl (x:=.ref q) rfl (wpAny_bind (wpAny_setField_rec gz (by simp) fun g1 gz1 t1=>?_)))))
 replace gz1:IsZip g1 z p q .ellipsis:=gz1
 refine wpAny_bind ?_
 simp only [List.forIn_cons,List.forIn_nil,List.zipIdx_cons,List.zipIdx_nil]
 refine wpAny_bind (wpAny_bind (wpAny_onRaise ?_))
 show wpAny _ _ (Builtin.SmallTypes.nextOf (.ref j) >>= fun _=>_) _ _ _
 refine wpAny_bind (rS (gj.extBut t1.extBut D.jz) (iH ga fun o e=>t1.extBut _ _ D.az e) hx fun g2 gj2 t2=>wpAny_pure ?_)
 have gq2:IsPair g2 q u v:=t2.extBut _ _ D.qj (t1.extBut _ _ D.qz gq)
 refine wpAny_bind (wpAny_seqItems gq2 rfl (wpAny_bind (wpAny_updateSeq_pair gq2 fun g3 gq3 t3=>?_)))
 replace gq3:IsPair g3 q x v:=gq3
 refine wpAny_bind (wpAny_letGo (wpAny_pure (wpAny_bind (wpAny_bind (wpAny_onRaise ?_)))))
 show wpAny _ _ (Builtin.SmallTypes.nextOf (.ref k) >>= fun _=>_) _ _ _
 refine wpAny_bind (rS (((gk.extBut t1.extBut D.kz).extBut t2.extBut D.jk.symm).extBut t3.extBut D.qk.symm) (iH gb fun o e=>t3.extBut _ _ D.bq (t2.extBut _ _ D.bj (t1.extBut _ _ D.bz e))) hy fun g4 gk4 t4=>wpAny_pure ?_)
 have gq4:IsPair g4 q x v:=t4.extBut _ _ D.qk gq3
 refine wpAny_bind (wpAny_seqItems gq4 rfl (wpAny_bind (wpAny_updateSeq_pair gq4 fun g5 gq5 t5=>?_)))
 replace gq5:IsPair g5 q x y:=gq5
 refine wpAny_bind (wpAny_letGo (wpAny_pure (wpAny_pure (wpAny_bind (wpAny_seqItems gq5 rfl (wpAny_bind (wpAny_newTuple ?_)))))))
 have ez:g5.objs.size=s.heap.objs.size:=by rw [t5.1,t4.1,t3.1,t2.1,t1.1]
 have gz5:IsZip g5 z p q .ellipsis:=t5.extBut _ _ D.qz.symm (t4.extBut _ _ D.kz.symm (t3.extBut _ _ D.qz.symm (t2.extBut _ _ D.jz.symm gz1)))
 have k5:∀ c o,c ≠ z->c ≠ q->c ≠ j->c ≠ k->s.heap.get? c=some o->g5.get? c=some o:=fun c o c1 c2 c3 c4 e=>t5.extBut _ _ c2 (t4.extBut _ _ c4 (t3.extBut _ _ c2 (t2.extBut _ _ c3 (t1.extBut _ _ c1 e))))
 have gj5:g5.IsTupleIter j a (m+1):=((gj2.extBut t3.extBut D.qj.symm).extBut t4.extBut D.jk).extBut t5.extBut D.qj.symm
 have gk5:g5.IsTupleIter k b (n+1):=gk4.extBut t5.extBut D.qk.symm
 have lz:z < g5.objs.size:=Heap.lt_size gz5
 show wpAny _ _ (Builtin.SmallTypes.ownedTupleHandOut (.ref z) (.ref g5.objs.size) >>= fun _=>_) _ _ _
 refine wpAny_bind ?_
 unfold Builtin.SmallTypes.ownedTupleHandOut
 have gz6:IsZip (g5.push { cls:=.type "tuple",data:=.seq #[x,y] }) z p q .ellipsis:=Heap.get?_push_of_some _ gz5
 refine wpAny_bind (wpAny_setField_rec gz6 (by simp) fun g7 gz7 t7=>?_)
 replace gz7:IsZip g7 z p q (rawInt g5.objs.size):=gz7
 refine wpAny_setField_rec gz7 (by simp) fun g8 gz8 t8=>?_
 replace gz8:IsZip g8 z p q (rawInt g5.objs.size):=gz8
 have up:∀ c o,c ≠ z->g5.get? c=some o->g8.get? c=some o:=fun c o c1 e=>t8.extBut _ _ c1 (t7.extBut _ _ c1 (Heap.get?_push_of_some _ e))
 have gT:IsPair g8 g5.objs.size x y:=t8.extBut _ _ (Nat.ne_of_gt lz) (t7.extBut _ _ (Nat.ne_of_gt lz) (Heap.get?_push_size _ rfl))
 have e8:g8.objs.size=g5.objs.size+1:=by rw [t8.1,t7.1,Heap.size_push]
 rw [ez] at gz8 gT e8
 refine wpAny_pure ⟨_,rfl,?_⟩
 show Q (.ref g5.objs.size) _
 rw [ez]
 refine hQ g8 gz8 (up _ _ D.qz gq5) ?_ ?_ gT e8 fun c o c1 c2 c3 c4 e=>up c o c1 (k5 c o c1 c2 c3 c4 e)
 ·obtain⟨o,e,r⟩:=gj5
  exact⟨o,up _ _ D.jz e,r⟩
 ·obtain⟨o,e,r⟩:=gk5
  exact⟨o,up _ _ D.kz e,r⟩
theorem Bd {z p q j k a b:Addr} {m n:Nat} {xs ys:Array Value} {u v:Value} {Q:Fin->Shared->Prop} (ha:A.handled=none) (D:uF z p q j k a b)
  (gz:IsZip s.heap z p q .none) (gp:IsPair s.heap p (.ref j) (.ref k)) (gq:IsPair s.heap q u v)
  (gj:s.heap.IsTupleIter j a m) (gk:s.heap.IsTupleIter k b n) (ga:s.heap.IsTuple a xs) (gb:s.heap.IsTuple b ys) (hend:xs[m]? = none\/ys[n]? = none)
  (hE:∀ g e,(∀ c o,c ≠ z->c ≠ q->c ≠ j->c ≠ k->s.heap.get? c=some o->g.get? c=some o)->(∃ o,g.get? e=some o/\o.cls=.type "StopIteration")->E (.ref e) { s with heap:=g }) :
  wpAny (model prog w) A (Builtin.«zip.__next__» ⟨[.ref z],[]⟩) Q E s:=by
 show wpAny _ _ (field (.ref z) 2 >>= fun _=>_) _ _ _
 refine wpAny_bind (wpAny_field gz rfl (x:=.bool false) rfl ?_)
 show wpAny _ _ (field (.ref z) 3 >>= fun _=>_) _ _ _
 refine wpAny_bind (wpAny_field gz rfl (x:=.ref p) rfl (wpAny_bind (wpAny_seqItems gp rfl ?_)))
 show wpAny _ _ (Builtin.SmallTypes.ownedTupleIsFree (.ref z) >>= fun _=>_) _ _ _
 refine wpAny_bind ?_
 unfold Builtin.SmallTypes.ownedTupleIsFree
 refine wpAny_bind (wpAny_field gz rfl (x:=.none) rfl (wpAny_pure ?_))
 simp only [if_true]
 refine wpAny_bind (wpAny_rule (wpAny_bind (wpAny_field gz rfl (x:=.ref q) rfl (wpAny_bind (wpAny_setField_rec gz (by simp) fun g1 gz1 t1=>?_)))))
 replace gz1:IsZip g1 z p q .ellipsis:=gz1
 refine wpAny_bind ?_
 simp only [List.forIn_cons,List.forIn_nil,List.zipIdx_cons,List.zipIdx_nil]
 refine wpAny_bind (wpAny_bind (wpAny_onRaise ?_))
 show wpAny _ _ (Builtin.SmallTypes.nextOf (.ref j) >>= fun _=>_) _ _ _
 cases hx:xs[m]? with
 | none =>
  refine wpAny_bind (uE ha (gj.extBut t1.extBut D.jz) (iH ga fun o e=>t1.extBut _ _ D.az e) hx fun g2 e t2 he=>?_)
  obtain⟨oe,eoe,ce⟩:=he
  have gz2:IsZip g2 z p q .ellipsis:=t2 _ _ D.jz.symm gz1
  have ne:e ≠ z:=fun x=>by subst x;rw [gz2] at eoe;cases eoe;simp at ce
  exact wpAny_setField_rec gz2 (by simp) fun g3 _ t3=>hE g3 e (fun c o c1 _ c3 _ x=>t3.extBut _ _ c1 (t2 _ _ c3 (t1.extBut _ _ c1 x))) ⟨oe,t3.extBut _ _ ne eoe,ce⟩
 | some x =>
  have hy:ys[n]? = none:=hend.elim (fun h=>by rw [hx] at h;cases h) id
  refine wpAny_bind (rS (gj.extBut t1.extBut D.jz) (iH ga fun o e=>t1.extBut _ _ D.az e) hx fun g2 gj2 t2=>wpAny_pure ?_)
  have gq2:IsPair g2 q u v:=t2.extBut _ _ D.qj (t1.extBut _ _ D.qz gq)
  refine wpAny_bind (wpAny_seqItems gq2 rfl (wpAny_bind (wpAny_updateSeq_pair gq2 fun g3 gq3 t3=>?_)))
  refine wpAny_bind (wpAny_letGo (wpAny_pure (wpAny_bind (wpAny_bind (wpAny_onRaise ?_)))))
  show wpAny _ _ (Builtin.SmallTypes.nextOf (.ref k) >>= fun _=>_) _ _ _
  refine wpAny_bind (uE ha (((gk.extBut t1.extBut D.kz).extBut t2.extBut D.jk.symm).extBut t3.extBut D.qk.symm) (iH gb fun o e=>t3.extBut _ _ D.bq (t2.extBut _ _ D.bj (t1.extBut _ _ D.bz e))) hy fun g4 e t4 he=>?_)
  obtain⟨oe,eoe,ce⟩:=he
  have gz4:IsZip g4 z p q .ellipsis:=t4 _ _ D.kz.symm (t3.extBut _ _ D.qz.symm (t2.extBut _ _ D.jz.symm gz1))
  have ne:e ≠ z:=fun x=>by subst x;rw [gz4] at eoe;cases eoe;simp at ce
  exact wpAny_setField_rec gz4 (by simp) fun g5 _ t5=>hE g5 e (fun c o c1 c2 c3 c4 x=>t5.extBut _ _ c1 (t4 _ _ c4 (t3.extBut _ _ c2 (t2.extBut _ _ c3 (t1.extBut _ _ c1 x))))) ⟨oe,t5.extBut _ _ ne eoe,ce⟩
theorem z9 {z p q j k a b:Addr} {m n:Nat} {xs ys:Array Value} {x y u v:Value} {Q:Option Value->Shared->Prop} (D:uF z p q j k a b)
  (gz:IsZip s.heap z p q .none) (gp:IsPair s.heap p (.ref j) (.ref k)) (gq:IsPair s.heap q u v)
  (gj:s.heap.IsTupleIter j a m) (gk:s.heap.IsTupleIter k b n) (ga:s.heap.IsTuple a xs) (gb:s.heap.IsTuple b ys) (hx:xs[m]? = some x) (hy:ys[n]? = some y)
  (hQ:∀ g,IsZip g z p q (rawInt s.heap.objs.size)->IsPair g q x y->g.IsTupleIter j a (m+1)->g.IsTupleIter k b (n+1)->IsPair g s.heap.objs.size x y->g.objs.size=s.heap.objs.size+1 ->
   (∀ c o,c ≠ z->c ≠ q->c ≠ j->c ≠ k->s.heap.get? c=some o->g.get? c=some o)->Q (some (.ref s.heap.objs.size)) { s with heap:=g }) :
  wpAny (model prog w) A (pyNext (.ref z)) Q E s:=by
 have ty:s.TypeIs (.ref z) "zip" := ⟨_,gz,rfl⟩
 unfold pyNext
 exact wpAny_bind (wpAny_attempt (wpAny_callSpecial?_slot (name:=Str.ofString "__next__") ty F.slot_zip_next (wpAny_call_entry F.slot_zip_next ty F.entry_zip_next
   (z8 D gz gp gq gj gk ga gb hx hy fun g a1 a2 a3 a4 a5 a6 a7=>wpAny_pure (hQ g a1 a2 a3 a4 a5 a6 a7)) (F.args_zip_next_1 _))))
theorem Aa {z p q j k a b:Addr} {m n:Nat} {xs ys:Array Value} {u v:Value} {Q:Option Value->Shared->Prop} (ha:A.handled=none) (D:uF z p q j k a b)
  (gz:IsZip s.heap z p q .none) (gp:IsPair s.heap p (.ref j) (.ref k)) (gq:IsPair s.heap q u v)
  (gj:s.heap.IsTupleIter j a m) (gk:s.heap.IsTupleIter k b n) (ga:s.heap.IsTuple a xs) (gb:s.heap.IsTuple b ys) (hend:xs[m]? = none\/ys[n]? = none)
  (hQ:∀ g,(∀ c o,c ≠ z->c ≠ q->c ≠ j->c ≠ k->s.heap.get? c=some o->g.get? c=some o)->Q none { s with heap:=g }):wpAny (model prog w) A (pyNext (.ref z)) Q E s:=by
 have ty:s.TypeIs (.ref z) "zip" := ⟨_,gz,rfl⟩
 unfold pyNext
 refine wpAny_bind (wpAny_attempt (wpAny_callSpecial?_slot (name:=Str.ofString "__next__") ty F.slot_zip_next (wpAny_call_entry F.slot_zip_next ty F.entry_zip_next
   (Bd ha D gz gp gq gj gk ga gb hend fun g e hk he=>?_) (F.args_zip_next_1 _))))
 obtain⟨o,eo,ec⟩:=he
 exact wpAny_bind (wpAny_isInstance (T := "StopIteration") (b:=true) ⟨o,eo,ec⟩ isSubtype_stop (wpAny_pure (hQ _ hk)))
abbrev wW (h:Heap) (a:Addr):Heap:=h.push { cls:=.type "tuple_iterator",data:=.fields #[.ref a,.int 0 0] }
abbrev zG (h:Heap) (a b:Addr):Heap:=(wW h a).push { cls:=.type "tuple_iterator",data:=.fields #[.ref b,.int 0 0] }
abbrev zH (h:Heap) (a b:Addr):Heap:=(zG h a b).push { cls:=.type "tuple",data:=.seq #[.ref h.objs.size,.ref (wW h a).objs.size] }
abbrev zI (h:Heap) (a b:Addr):Heap:=(zH h a b).push { cls:=.type "tuple",data:=.seq #[.none,.none] }
abbrev uG (h:Heap) (a b:Addr):Heap:=(zI h a b).push { cls:=.type "zip",data:=.fields #[.none,.bool false,.bool false,.ref (zG h a b).objs.size,.ref (zH h a b).objs.size] }
theorem Be (a b:Addr) (xs ys:Array Value):Meets (Builtin.«zip.__new__» ⟨[.type "zip",.ref a,.ref b],[]⟩) (fun _ R s=>s.heap.IsTuple a xs/\s.heap.IsTuple b ys /\
   R (.ok (.ret (.ref (zI s.heap a b).objs.size))) { s with heap:=uG s.heap a b }) :=
 .of_wp fun P w' A' R' s' hh=>by
  obtain⟨hp,g,d,tk,os⟩:=s'
  obtain⟨ga,gb,hh⟩:=hh
  have hsub:=sub_zip
  have la:Heap.IsTuple (Shared.heap ⟨hp,g,d,tk,os⟩) a xs:=ga
  have lb:Heap.IsTuple (Shared.heap ⟨wW hp a,g,d,tk,os⟩) b ys:=iH gb fun o e=>Heap.get?_push_of_some _ e
  wp_walk using wpAny_pyIter_tuple la,wpAny_pyIter_tuple lb
  exact⟨_,rfl,hh⟩
theorem Ab {a b:Addr} {xs ys:Array Value} {Q:Value->Shared->Prop} (ga:s.heap.IsTuple a xs) (gb:s.heap.IsTuple b ys)
  (h:∀ g,IsZip g (s.heap.objs.size+4) (s.heap.objs.size+2) (s.heap.objs.size+3) .none->IsPair g (s.heap.objs.size+2) (.ref s.heap.objs.size) (.ref (s.heap.objs.size+1)) ->
   IsPair g (s.heap.objs.size+3) .none .none->g.IsTupleIter s.heap.objs.size a 0->g.IsTupleIter (s.heap.objs.size+1) b 0 ->
   (∀ c o,s.heap.get? c=some o->g.get? c=some o)->Q (.ref (s.heap.objs.size+4)) { s with heap:=g }) :
  wpAny (model prog w) A (call (.type "zip") [.ref a,.ref b]) Q E s:=by
 refine callType_new F.called_zip (by decide) (F.typeCall_zip_2 _ _) (F.newCall_zip_2 _ _) (fun obj=>F.args_object_init_3 obj _ _) F.entry_zip_new (Be a b xs ys) ⟨ga,gb,?_⟩
 have z1:(wW s.heap a).objs.size=s.heap.objs.size+1:=Heap.size_push ..
 have z2:(zG s.heap a b).objs.size=s.heap.objs.size+2:=by rw [Heap.size_push,z1]
 have z3:(zH s.heap a b).objs.size=s.heap.objs.size+3:=by rw [Heap.size_push,z2]
 have z4:(zI s.heap a b).objs.size=s.heap.objs.size+4:=by rw [Heap.size_push,z3]
 have up:∀ {h:Heap} {c:Addr} {o o':Obj},h.get? c=some o->(h.push o').get? c=some o:=fun e=>Heap.get?_push_of_some _ e
 have q5:(uG s.heap a b).get? (zI s.heap a b).objs.size=some _:=Heap.get?_push_size _ rfl
 have q4:(uG s.heap a b).get? (zH s.heap a b).objs.size=some _:=up (Heap.get?_push_size _ rfl)
 have q3:(uG s.heap a b).get? (zG s.heap a b).objs.size=some _:=up (up (Heap.get?_push_size _ rfl))
 have q2:(uG s.heap a b).get? (wW s.heap a).objs.size=some _:=up (up (up (Heap.get?_push_size _ rfl)))
 have q1:(uG s.heap a b).get? s.heap.objs.size=some _:=up (up (up (up (Heap.get?_push_size _ rfl))))
 show _/\_
 rw [z2,z3,z4] at q5
 rw [z1,z2] at q3
 rw [z3] at q4
 rw [z1] at q2
 rw [z4]
 exact⟨⟨_,q5,rfl⟩,h _ q5 q3 q4 ⟨_,q1,rfl,rfl⟩ ⟨_,q2,rfl,rfl⟩ fun c o x=>up (up (up (up (up x))))⟩
end
section
variable {X:Cx} {pins:List (Addr × Obj)} {σ : List (Option V)} {H H':Hp} {s:Shared} {h':Heap}
theorem Inv.uH {t':Nat} {fp:List Addr} (I:Inv X pins σ H s) (k:∀ b o,b ∉ fp->s.heap.get? b=some o->h'.get? b=some o) (f:∀ b ∈ fp,gy X pins H b):Inv X pins σ H { s with heap:=h',toks:=t' }:=by
 have nit:∀ b u,H b=some u->b ∉ fp:=fun b u e z=>by rw [(f b z).1] at e;cases e
 refine I.step (g':=s.gens) (d':=s.drawn) (ch:=fp) (fun b hb=>?_) (fun b o _ _ hc e _=>k b o hc e) (fun b o _ _ hc e _=>⟨o.slots,k b o hc e⟩) (fun _ _ _ _ n=>n)
  (fun b o hc e=>⟨o,k b o hc e⟩) (fun _ _ e=>e) (fun _ _ _ e=>e) (fun b ps e=>⟨#[],by rw [e];simp⟩) (fun m hm=>?_) (fun b u e=>?_) I.bare
 ·obtain⟨f0,f1,f2,f3,f4,f5⟩:=f b hb
  exact⟨f3,f1,f4,f5⟩
 ·obtain⟨o,es,ep,ho,r⟩:=hm
  exact⟨o,es,ep,k _ o (fun z=>(f _ z).2.1 rfl) ho,r⟩
 ·refine (I.aN b u e).mS (fun c v hc q=>k c v ?_ q) (fun _ q=>q) fun _ _ q=>q
  rcases hc with z | z
  ·rw [z];exact nit b u e
  ·exact nit c _ z
def rT (K:PySem.W.Frag) (a b:Addr):It :=
 ⟨fun i H=>∃ xs ys x y,ar K H a xs/\ar K H b ys/\xs[i]? = some x/\ys[i]? = some y,
  fun i H v H'=>∃ t x y,v=.ref t/\H t=none/\H' = upd H t (.tup [x,y])/\∀ xs ys,ar K H a xs->ar K H b ys->xs[i]? = some x/\ys[i]? = some y,
  fun i H=>∃ xs ys,ar K H a xs/\ar K H b ys/\(xs.length<=i\/ys.length<=i)⟩
theorem yx {P:Program} {w:World} {K:PySem.W.Frag} {elts:List Expr} {kk:Nat} {pos:Pos} (a b z p q j k:Addr) (D:uF z p q j k a b) :
    Turn P w K (.Tuple elts kk pos) (rT K a b) [z,p,q,j,k] z (fun i h=>IsZip h z p q .none/\IsPair h p (.ref j) (.ref k)/\(∃ u v,IsPair h q u v)/\h.IsTupleIter j a i/\h.IsTupleIter k b i) where
  mem:=by simp
  obj:=fun i h st c hc=>by
    obtain⟨gz,gp,⟨u,v,gq⟩,⟨oj,ej,cj,dj⟩,⟨ok,ek,ck,dk⟩⟩:=st
    simp only [List.mem_cons,List.not_mem_nil,or_false] at hc
    rcases hc with rfl | rfl | rfl | rfl | rfl
    · exact⟨_,gz,fun v e=>by cases e⟩
    · exact⟨_,gp,fun v e=>by cases e⟩
    · exact⟨_,gq,fun v e=>by cases e⟩
    · exact⟨oj,ej,fun v e=>by rw [dj] at e;cases e⟩
    · exact⟨ok,ek,fun v e=>by rw [dk] at e;cases e⟩
  keep:=fun i h g st kp=>by
    obtain⟨gz,gp,⟨u,v,gq⟩,⟨oj,ej,rj⟩,⟨ok,ek,rk⟩⟩:=st
    exact⟨kp z (by simp) _ gz,kp p (by simp) _ gp,⟨u,v,kp q (by simp) _ gq⟩,⟨oj,kp j (by simp) _ ej,rj⟩,⟨ok,kp k (by simp) _ ek,rk⟩⟩
  item:=by
    intro X hP hw hK hc i pins s σ H E I hf st hg
    subst hP hw hK
    obtain⟨gz,gp,⟨u,v,gq⟩,gj,gk⟩:=st
    obtain⟨xs,ys,x,y,ha,hb,hx,hy⟩:=hg
    obtain⟨is,ra,pa,_⟩:=I.tuple ha
    obtain⟨js,rb,pb,_⟩:=I.tuple hb
    obtain⟨xv,hxv,rx⟩:=ra.get hx
    obtain⟨yv,hyv,ry⟩:=rb.get hy
    have sz:∀ c ∈ [z,p,q,j,k],c ≠ s.heap.objs.size:=fun c hc e=>by
      subst e
      simp only [List.mem_cons,List.not_mem_nil,or_false] at hc
      rcases hc with e | e | e | e | e
      · exact absurd (Heap.lt_size gz) (by rw [<-e];exact Nat.lt_irrefl _)
      · exact absurd (Heap.lt_size gp) (by rw [<-e];exact Nat.lt_irrefl _)
      · exact absurd (Heap.lt_size gq) (by rw [<-e];exact Nat.lt_irrefl _)
      · obtain⟨oj,ej,_⟩:=gj
        exact absurd (Heap.lt_size ej) (by rw [<-e];exact Nat.lt_irrefl _)
      · obtain⟨ok,ek,_⟩:=gk
        exact absurd (Heap.lt_size ek) (by rw [<-e];exact Nat.lt_irrefl _)
    refine z9 D gz gp gq gj gk (show s.heap.IsTuple a is.toArray from pa) (show s.heap.IsTuple b js.toArray from pb) (x:=xv) (y:=yv) (by simpa using hxv) (by simpa using hyv) fun g a1 a2 a3 a4 a5 a6 hk=>?_
    refine⟨.ref s.heap.objs.size,rfl,wpAny_letOwnedTupleGo_zip a1 fun g' gz' sb=>?_⟩
    have fr:=I.aN.fresh (a:=s.heap.objs.size) (Nat.le_refl _)
    have I1:Inv X pins σ (upd H s.heap.objs.size (.tup [x,y])) { s with heap:=s.heap.push { cls:=.type "tuple",data:=.seq #[xv,yv] },toks:=s.toks } :=
      I.laid (fun _ _ e=>Heap.get?_push_of_some _ e) (Nat.le_refl _) ⟨by show 2<=sizeLine;decide,[xv,yv],.cons rx (.cons ry .nil),by first | exact IsTup.new _ _ | exact⟨_,Heap.get?_push_size _ rfl,rfl,_,rfl,rfl⟩⟩
    have f1:∀ c ∈ [z,p,q,j,k],gy X pins (upd H s.heap.objs.size (.tup [x,y])) c:=fun c hc=>by
      obtain⟨f0,fr'⟩:=hf c hc
      exact⟨by rw [ao (sz c hc)];exact f0,fr'⟩
    have I2:Inv X pins σ (upd H s.heap.objs.size (.tup [x,y])) { s with heap:=g',toks:=s.toks }:=Inv.uH (s:={ s with heap:=s.heap.push { cls:=.type "tuple",data:=.seq #[xv,yv] },toks:=s.toks }) (fp:=[z,p,q,j,k]) (h':=g') (t':=s.toks) I1 (fun c o hc e=>by
      simp only [List.mem_cons,List.not_mem_nil,or_false,not_or] at hc
      refine sb.extBut _ _ hc.1 ?_
      rcases Heap.get?_push_cases e with ⟨rfl,rfl⟩ | e
      · exact a5
      · exact hk c o hc.1 hc.2.2.1 hc.2.2.2.1 hc.2.2.2.2 e) f1
    refine⟨.ref s.heap.objs.size,_,I2,rfl,⟨_,x,y,rfl,fr,rfl,fun xs' ys' h1 h2=>?_⟩,⟨gz',sb.extBut _ _ D.pz (hk _ _ D.pz D.pq D.pj D.pk gp),⟨xv,yv,sb.extBut _ _ D.qz a2⟩,a3.extBut sb.extBut D.jz,a4.extBut sb.extBut D.kz⟩,fun c hc=>(f1 c hc).1⟩
    rw [I.kR h1 ha,I.kR h2 hb]
    exact⟨hx,hy⟩
  done:=by
    intro X hP hw hK hc i pins s σ H E I hf st hg
    subst hP hw hK
    obtain⟨gz,gp,⟨u,v,gq⟩,gj,gk⟩:=st
    obtain⟨xs,ys,ha,hb,hl⟩:=hg
    obtain⟨is,ra,pa,_⟩:=I.tuple ha
    obtain⟨js,rb,pb,_⟩:=I.tuple hb
    have la:=ra.length
    have lb:=rb.length
    have he:is.toArray[i]? = none\/js.toArray[i]? = none:=by
      rcases hl with h | h
      · exact .inl (by simp;omega)
      · exact .inr (by simp;omega)
    exact Aa (I.ok.hd hc) D gz gp gq gj gk (show s.heap.IsTuple a is.toArray from pa) (show s.heap.IsTuple b js.toArray from pb) he fun g hk=>⟨rfl,I.uH (fp:=[z,p,q,j,k]) (t':=s.toks) (fun c o hc e=>by
      simp only [List.mem_cons,List.not_mem_nil,or_false,not_or] at hc
      exact hk c o hc.1 hc.2.2.1 hc.2.2.2.1 hc.2.2.2.2 e) hf⟩
  self:=fun _ _ _ _ _ st h=>wpAny_pyIter_zip st.1 h
theorem Ds {N a b:Nat} (ha:a < N) (hb:b < N):uF (N+4:Nat) (N+2:Nat) (N+3:Nat) N (N+1:Nat) a b :=
 have ne:∀ {u v:Nat},u < v->¬ (u=v):=fun h e=>by omega
 have ne':∀ {u v:Nat},v < u->¬ (u=v):=fun h e=>by omega
 ⟨ne (by omega),ne (by omega),ne (by omega),ne (by omega),ne (by omega),ne' (by omega),ne' (by omega),ne' (by omega),ne' (by omega),ne (by omega),ne (by omega),ne (by omega),ne (by omega),ne (by omega),ne (by omega),ne (by omega),ne (by omega),ne (by omega)⟩
theorem Bf:bootBuiltins "zip" = some (.type "zip"):=by decide +kernel
inductive Ac (K:PySem.W.Frag) (R:(It->Hp->Prop)) (vs:List V) (H1:Hp):Prop
 | mk (a b:_) (_:vs = [.ref a,.ref b]) (_:(∃ xs,ar K H1 a xs)) (_:(∃ ys,ar K H1 b ys)) (_:R (rT K a b) H1)
def C5 (K:PySem.W.Frag) (ta:TA):TI:=fun σ H R=>ta σ H fun vs H1=>Ac K R vs H1
theorem nR {a b:Expr} {ta:TA} {p pos tp:Pos} {elts:List Expr} {kk:Nat} (hg:Gl X "zip") (hm:X.mg "zip" = none) (ha:PA X [a,b] ta) (hs:starEach [a,b] X.env = [(false,eval a X.env),(false,eval b X.env)]:=by rfl) (hs2:starEach [b] X.env = [(false,eval b X.env)]:=by rfl) :
  PI X (.Tuple elts kk tp) (.Call (.Name "zip" p) [a,b] [] pos) (C5 X.K ta):=by
 intro pins s σ H R I h
 refine Call_ (kQ I hg hm Bf (PyProof.Rows.callWith_type1 (bA (ha pos pins s σ H _ I h) fun us s1 ⟨vs,H1,I1,r1,q1⟩=>?_) (by rw [hs,hs2]) (by rw [hs2];rfl)))
 obtain⟨x,y,e,⟨xs,hx⟩,⟨ys,hy⟩,q⟩:=q1
 subst e
 cases r1 with
 | cons r rr =>
  cases rr with
  | cons r' rr =>
   cases rr
   cases r
   cases r'
   obtain⟨is,rx,px,_⟩:=I1.tuple hx
   obtain⟨js,ry,py,_⟩:=I1.tuple hy
   have lx:x < s1.heap.objs.size:=px.lt
   have ly:y < s1.heap.objs.size:=py.lt
   refine Ab (show s1.heap.IsTuple x is.toArray from px) (show s1.heap.IsTuple y js.toArray from py) fun g gz gp gq gj gk up=>?_
   refine wpAny_pyIter_zip gz ?_
   have I2:Inv X pins σ H1 { s1 with heap:=g }:=I1.kept (t':=s1.toks) up
   refine⟨_,[s1.heap.objs.size+4,s1.heap.objs.size+2,s1.heap.objs.size+3,s1.heap.objs.size,s1.heap.objs.size+1],_,rT X.K x y,H1,rfl,I2,yx x y _ _ _ _ _ ?_,⟨gz,gp,⟨_,_,gq⟩,gj,gk⟩,fun c hc=>?_,q⟩
   ·exact Ds lx ly
   ·have le:s1.heap.objs.size<=c:=by
     simp only [List.mem_cons,List.not_mem_nil,or_false] at hc
     rcases hc with rfl | rfl | rfl | rfl | rfl
     ·exact Nat.le_add_right _ _
     ·exact Nat.le_add_right _ _
     ·exact Nat.le_add_right _ _
     ·exact Nat.le_refl _
     ·exact Nat.le_add_right _ _
    exact I1.mU le (I1.aN.fresh le)
theorem rV {K:PySem.W.Frag} {a b acc:Addr} {xs ys:List V} {n:Nat} {js:List Nat} {g:TG} {ct:TT} {te:TE} {σ : St} {H1:Hp} {Q:VK} (Pv:Nat->List V->St->Hp->Prop) (h0:Pv 0 [] (hX n js σ) (upd H1 acc (.lst [])))
  (hl:∀ i zs τ H,i<=min xs.length ys.length->Pv i zs τ H->ar K H a xs/\ar K H b ys/\H acc=some (.lst zs)/\zs.length < sizeLine)
  (hs:∀ i x y zs τ H t,xs[i]? = some x->ys[i]? = some y->H t=none->Pv i zs τ H->g (.ref t) τ (upd H t (.tup [x,y])) fun τ1 H4=>ct τ1 H4 fun b H5=>if b=true then te τ1 H5 fun v H6=>H6 acc=some (.lst zs)/\Pv (i+1) (zs ++ [v]) τ1 (upd H6 acc (.lst (zs ++ [v]))) else Pv (i+1) zs τ1 H5)
  (hd:∀ zs τ H,Pv (min xs.length ys.length) zs τ H->Q (.ref acc) H) :
  ux (rT K a b) n js g ct te acc σ H1 Q:=by
 refine⟨fun i m zs τ H=>m=min xs.length ys.length - i/\i<=min xs.length ys.length/\Pv i zs τ H,⟨min xs.length ys.length,by simp,Nat.zero_le _,h0⟩,?_⟩
 rintro i m zs τ H ⟨rfl,hi,p⟩
 obtain⟨qa,qb,q2,q3⟩:=hl i zs τ H hi p
 refine⟨q2,q3,?_⟩
 by_cases hlt:i < min xs.length ys.length
 ·have l1:i < xs.length:=by omega
  have l2:i < ys.length:=by omega
  refine .inr ⟨⟨xs,ys,xs[i],ys[i],qa,qb,by simp [l1],by simp [l2]⟩,Pv (i+1),fun zs' τ' H' p'=>⟨min xs.length ys.length - (i+1),by omega,rfl,hlt,p'⟩,fun v H' y=>?_⟩
  obtain⟨t,x,y,rfl,ht,rfl,h⟩:=y
  obtain⟨h1,h2⟩:=h xs ys qa qb
  exact hs i x y zs τ H t h1 h2 ht p
 ·have e:i=min xs.length ys.length:=by omega
  subst e
  refine .inl ⟨⟨xs,ys,qa,qb,?_⟩,hd zs τ H p⟩
  rcases Nat.le_total xs.length ys.length with h | h
  ·exact .inl (by omega)
  ·exact .inr (by omega)
end
structure yy (K:PySem.W.Frag) (mg:Str->Option Value) (nm:Str) (a:Addr) (D:List (Str × Addr)):Prop where
 mK:mg nm=some (.ref a)
 lk:∃ es ep,K.lookup a=some ⟨.type "dict",none,.dict es ep,#[]⟩/\KTD.Rows (fun d v=>v=Value.ref d) es.toList D
section
variable {prog:Program} {w:World} {A:Around} {E:Value->Shared->Prop} {s:Shared}
theorem yz {a d:Addr} {o:Obj} {es:Array DictEntry} {ep:Nat} {k:Str} {t:Tok} {D:List (Str × Addr)} {Q:Option Value->Shared->Prop} (ho:s.heap.get? a=some o) (hd:o.data=.dict es ep)
  (hr:KTD.Rows (fun d v=>v=Value.ref d) es.toList D) (ha:KTD.datumAt k D=some d) (q:Q (some (.ref d)) { s with toks:=s.toks+1 }):wpAny (model prog w) A (dictGet a (.str k t)) Q E s:=by
 unfold dictGet
 try with_reducible refine wpAny_holding ?_
 refine wpAny_bind (wpAny_pyHash_str (wpAny_bind (KTD.kt_dictFind_strs (s:={ s with toks:=s.toks+1 }) ho hd (by have:=hr.exact;obtain⟨l⟩:=es;simpa using this) ?_)))
 have hq:Q (findBy (fun k v=>v.isStr k) es k) { s with toks:=s.toks+1 }:=by
  obtain⟨v,hv,rfl⟩:=hr.find_some ha
  have e:findBy (fun k v=>v.isStr k) es k=some (.ref d):=by
   rw [<-hv]
   obtain⟨l⟩:=es
   simp [findBy]
  rw [e]
  exact q
 rw [findBy_of_findIdx?] at hq
 cases hi:es.findIdx? fun e=>e.key.isStr k with
 | some i=>rw [hi] at hq;exact wpAny_bind (wpAny_dictEntries (s:={ s with toks:=s.toks+1 }) ho hd (wpAny_pure hq))
 | none=>rw [hi] at hq;exact wpAny_pure hq
theorem yA {a d:Addr} {o:Obj} {es:Array DictEntry} {ep:Nat} {k:Str} {t:Tok} {D:List (Str × Addr)} {Q:Value->Shared->Prop} (ty:s.TypeIs (.ref a) "dict") (ho:s.heap.get? a=some o) (hd:o.data=.dict es ep)
  (hr:KTD.Rows (fun d v=>v=Value.ref d) es.toList D) (ha:KTD.datumAt k D=some d) (q:Q (.ref d) { s with toks:=s.toks+1 }):wpAny (model prog w) A (getItem (.ref a) (.str k t)) Q E s:=by
 unfold getItem
 try with_reducible refine wpAny_holding ?_
 refine wpAny_bind (wpAny_sequenceKey ty (by decide) (wpAny_bind (wpAny_callSpecial?_slot (name:=Str.ofString "__getitem__") ty slot_dict_getitem (wpAny_call_entry slot_dict_getitem ty entry_dict_getitem ?_ (args_dict_getitem _ _)))))
 show wpAny _ _ (dictGet a (.str k t) >>= fun _=>_) _ _ s
 exact wpAny_bind (yz ho hd hr ha (wpAny_pure ⟨_,rfl,wpAny_pure q⟩))
end
section
variable {X:Cx}
theorem oR {nm:Str} {a:Addr} {D:List (Str × Addr)} {i:Expr} {p pos:Pos} {ty:TE} (G:yy X.K X.mg nm a D) (hg:Gl X nm) (hi:PE X i ty) (hs:yo i) (hdb:(nm == ("__debug__" : Str))=false:=by decide) :
  PE X (.Subscript (.Name nm p) i pos) (fun σ H Q=>ty σ H fun y H1=>∃ x d,y=.str x/\KTD.datumAt x D=some d/\Q (.ref d) H1):=by
 intro pins s σ H Q I h
 obtain⟨es,ep,hk,hr⟩:=G.lk
 refine uC PySem.F.slot_dict_getitem.lookup hs (bA (fA (v:=.ref a) hg G.mK rfl hdb pins s σ H (fun x H1=>x=.ref a/\ty σ H1 fun y H1=>∃ x d,y=.str x/\KTD.datumAt x D=some d/\Q (.ref d) H1) I ⟨rfl,h⟩) fun u s1 ⟨x,H1,I1,rx,ex,q1⟩=>?_)
 subst ex
 obtain rfl:u=Value.ref a:=rx
 refine bA (hi pins s1 σ H1 _ I1 q1) fun iv s2 ⟨y,H2,I2,ry,k,d,ey,hd,q2⟩=>?_
 subst ey
 obtain⟨t,rfl⟩:=(show ∃ t,iv=Value.str k t from ry)
 have ho:=I2.fS a _ hk
 exact⟨⟨_,ho,rfl⟩,yA ⟨_,ho,rfl⟩ ho rfl hr hd ⟨.ref d,H2,I2.tok _,rfl,q2⟩⟩
end
def pick (w:Str) (xs:List V) (ks:List Str):List V:=((xs.zip ks).filter fun p=>decide (p.2=w)).map (·.1)
def jc (w:Str) (xs:List V) (ks:List Str) (i:Nat):List V:=(((xs.zip ks).take i).filter fun p=>decide (p.2=w)).map (·.1)
theorem vp {w:Str} {xs:List V} {ks:List Str} {i:Nat} {x:V} {k:Str} (hx:xs[i]? = some x) (hk:ks[i]? = some k):jc w xs ks (i+1)=jc w xs ks i++(if k=w then [x] else []):=by
 have hz:(xs.zip ks)[i]? = some (x,k):=by rw [List.getElem?_zip_eq_some];exact⟨hx,hk⟩
 unfold jc
 rw [List.take_add_one,hz,List.filter_append,List.map_append]
 congr 1
 by_cases h:k=w
 ·rw [if_pos h];simp [h]
 ·rw [if_neg h];simp [h]
theorem wX {w:Str} {xs:List V} {ks:List Str}:jc w xs ks (min xs.length (ks.map V.str).length)=pick w xs ks:=by
 unfold jc pick
 rw [List.length_map,List.take_of_length_le (by rw [List.length_zip];exact Nat.le_refl _)]
theorem wY {w:Str} {xs:List V} {ks:List Str} {i:Nat}:(jc w xs ks i).length<=i:=by
 unfold jc
 rw [List.length_map]
 exact Nat.le_trans (List.length_filter_le ..) (by rw [List.length_take];exact Nat.min_le_left ..)
theorem ar.same {K:PySem.W.Frag} {H H':Hp} {a:Addr} {xs:List V} (h:ar K H a xs) (s:ae H H'):ar K H' a xs:=by
 rcases h with h | h
 ·rcases h with h | h
  ·exact .inl (.inl (s _ _ h))
  ·obtain⟨b,hb⟩:=h
   exact .inl (.inr ⟨b,s _ _ hb⟩)
 ·exact .inr h
inductive oU (K:PySem.W.Frag) (vs:List V) (H:Hp) (Q:VK) (_:XK):Prop
 | mk (t s:Addr) (v0:V) (xs:List V) (ks:List Str) (w:Str) (_:vs = [.ref t,.ref s,.str w]) (_:H t=some (.tup (v0 :: xs))) (_:ar K H s (ks.map V.str)) (_:xs.length<=1000) (_:∀ l H',H' l=some (.lst (pick w xs ks))->ae H H'->Q (.ref l) H')
def KTup (K:PySem.W.Frag) (a:Addr) (ks:List Str):Prop:=∃ (o:Obj) (its:Array Value) (n:Nat),K.lookup a=some o/\o.cls=.type "tuple" /\ o.data=.seq its n/\its.size<=sizeLine/\Vals (ks.map V.str) its.toList
structure rW (K:PySem.W.Frag) (mg:Str->Option Value) (aE s0 s1 s2 s3:Addr):Prop where
 tab:yy K mg "END_PARTS" aE [("stop",s0),("go",s1),("less",s2),("is",s3)]
 q0:KTup K s0 []
 q1:KTup K s1 ["piece"]
 q2:KTup K s2 ["name", "number", "piece", "piece"]
 q3:KTup K s3 ["name", "number", "piece", "piece"]
def bQ:End->List Nat
 | .stop=>[]
 | .go p=>[p]
 | .dA _ _ _ p q=>[p,q]
def kE:End->List Str
 | .stop=>[]
 | .go _=>["piece"]
 | .dA ..=>["name", "number", "piece", "piece"]
def wE:End->Str
 | .stop => "stop"
 | .go _ => "go"
 | .dA b ..=>wT b
theorem wZ (e:End):∃ xs,gI e=.str (wE e) :: xs/\xs.length<=1000/\pick "piece" xs (kE e)=(bQ e).map fun k=>V.int (k:Nat):=by
 cases e with
 | stop=>exact⟨[],rfl,by decide,rfl⟩
 | go p=>exact⟨_,rfl,by show 1<=1000;decide,by simp [pick,kE,bQ]⟩
 | dA b x n p q =>
  refine⟨_,rfl,by show 4<=1000;decide,?_⟩
  have h1:¬ ("name" : Str) = "piece" := by decide +kernel
  have h2:¬ ("number" : Str) = "piece" := by decide +kernel
  simp [pick,kE,bQ,h1,h2]
theorem rW.at_ {K:PySem.W.Frag} {mg:Str->Option Value} {aE s0 s1 s2 s3:Addr} (G:rW K mg aE s0 s1 s2 s3) (e:End):∃ s,KTD.datumAt (wE e) [(("stop" : Str),s0),("go",s1),("less",s2),("is",s3)] = some s/\KTup K s (kE e):=by
 have hit:∀ {k:Str} {d:Addr} {D:List (Str × Addr)},KTD.datumAt k ((k,d) :: D)=some d:=fun {k d D}=>by
  show (if decide (k=k)=true then some d else KTD.datumAt k D)=some d
  rw [if_pos (decide_eq_true rfl)]
 have miss:∀ {k x:Str} {d:Addr} {D:List (Str × Addr)} {o:Option Addr},¬ k=x->KTD.datumAt k D=o->KTD.datumAt k ((x,d) :: D)=o:=fun {k x d D o} h e=>by
  show (if decide (k=x)=true then some d else KTD.datumAt k D)=o
  rw [if_neg (by rw [decide_eq_false h];decide)]
  exact e
 cases e with
 | stop=>exact⟨s0,hit,G.q0⟩
 | go p=>exact⟨s1,miss (show ¬ (("go" : Str) = "stop") by decide +kernel) hit,G.q1⟩
 | dA b x n p q =>
  cases b with
  | true=>exact⟨s2,miss (show ¬ (("less" : Str) = "stop") by decide +kernel) (miss (show ¬ (("less" : Str) = "go") by decide +kernel) hit),G.q2⟩
  | false=>exact⟨s3,miss (show ¬ (("is" : Str) = "stop") by decide +kernel) (miss (show ¬ (("is" : Str) = "go") by decide +kernel) (miss (show ¬ (("is" : Str) = "less") by decide +kernel) hit)),G.q3⟩
inductive rZ  (vs:List V) (H:Hp) (Q:VK) (_:XK):Prop
 | mk (ea:Addr) (e:End) (_:vs = [.ref ea]) (_:H ea=some (.tup (gI e))) (_:∀ t H',H' t=some (.tup ((bQ e).map fun k=>V.int (k:Nat)))->ae H H'->Q (.ref t) H')
end L2
namespace LS
open PySem
def Up (xs:Array Nat):Prop:=∀ (i j:Nat) (a b:Nat),i < j->xs[i]? = some a->xs[j]? = some b->a < b
theorem yB {xs:Array Nat} {j:Nat} (up:Up xs):∀ (fuel lo hi:Nat),hi - lo<=fuel->lo<=hi->hi<=xs.size ->
  (∀ i a,i < lo->xs[i]? = some a->a < j)->(∀ i a,hi<=i->xs[i]? = some a->j<=a) ->
  (∀ i a,i < SetTable.below.go xs j fuel lo hi->xs[i]? = some a->a < j)/\(∀ i a,SetTable.below.go xs j fuel lo hi<=i->xs[i]? = some a->j<=a)/\SetTable.below.go xs j fuel lo hi<=xs.size:=by
 intro fuel
 induction fuel with
 | zero =>
  intro lo hi h1 h2 h3 h4 h5
  have e:lo=hi:=by omega
  subst e
  unfold SetTable.below.go
  exact⟨h4,h5,h3⟩
 | succ f ih =>
  intro lo hi h1 h2 h3 h4 h5
  unfold SetTable.below.go
  by_cases hl:lo < hi
  ·rw [if_pos hl]
   dsimp only
   have hm:(lo+hi) / 2 < hi:=by omega
   have hm2:lo<=(lo+hi) / 2:=by omega
   generalize (lo+hi) / 2=mid at hm hm2
   have hs:mid < xs.size:=by omega
   have hg:xs[mid]? = some xs[mid]:=by simp [hs]
   have hd:xs.getD mid j=xs[mid]:=by simp [Array.getD,hs]
   rw [hd]
   by_cases hc:xs[mid] < j
   ·rw [if_pos hc]
    refine ih (mid+1) hi (by omega) (by omega) h3 (fun i a hi' he=>?_) h5
    by_cases e:i=mid
    ·subst e;rw [hg] at he;cases he;exact hc
    ·have:=up i mid a _ (by omega) he hg;omega
   ·rw [if_neg hc]
    refine ih lo mid (by omega) hm2 (by omega) h4 (fun i a hi' he=>?_)
    by_cases e:i=mid
    ·subst e;rw [hg] at he;cases he;omega
    ·have:=up mid i _ a (by omega) hg he;omega
  ·rw [if_neg hl]
   have e:lo=hi:=by omega
   subst e
   exact⟨h4,h5,h3⟩
theorem mY {xs:Array Nat} {j:Nat} (up:Up xs) :
    (∀ i a,i < SetTable.below xs j->xs[i]? = some a->a < j)/\(∀ i a,SetTable.below xs j<=i->xs[i]? = some a->j<=a)/\SetTable.below xs j<=xs.size :=
  yB up xs.size 0 xs.size (by omega) (Nat.zero_le _) (Nat.le_refl _) (fun _ _ h=>absurd h (Nat.not_lt_zero _)) (fun i a h e=>by
    have:xs[i]? = none:=by simp;omega
    rw [this] at e;cases e)
theorem sd {α : Type} {xs:Array α} {p:Nat} {x:α} (hp:p<=xs.size) (i:Nat) :
  (SetTable.insertAt xs p x)[i]? = if i < p then xs[i]? else if i=p then some x else xs[i - 1]?:=by
 unfold SetTable.insertAt
 have h1:(xs.extract 0 p).size=p:=by simp;omega
 rw [Array.getElem?_append]
 have h2:((xs.extract 0 p).push x).size=p+1:=by simp;omega
 rw [h2]
 by_cases a:i < p
 ·rw [if_pos (by omega),if_pos a,Array.getElem?_push,h1,if_neg (by omega)]
  rw [Array.getElem?_extract]
  simp;omega
 ·rw [if_neg a]
  by_cases b:i=p
  ·subst b
   rw [if_pos (by omega),if_pos rfl,Array.getElem?_push,h1,if_pos rfl]
  ·rw [if_neg (by omega),if_neg b]
   rw [Array.getElem?_extract]
   have:p+(i - (p+1))=i - 1:=by omega
   rw [this]
   by_cases c:i - 1 < xs.size
   ·simp;omega
   ·have:xs[i - 1]? = none:=by simp;omega
    rw [this];simp
theorem Up.insert {xs:Array Nat} {j:Nat} (up:Up xs) (hn:xs[SetTable.below xs j]? ≠ some j):Up (SetTable.insertAt xs (SetTable.below xs j) j):=by
 obtain⟨h1,h2,h3⟩:=mY (j:=j) up
 generalize SetTable.below xs j=p at h1 h2 h3 hn
 have h2':∀ i a,p<=i->xs[i]? = some a->j < a:=fun i a hi e=>by
  have q:=h2 i a hi e
  by_cases z:i=p
  ·subst z
   rcases Nat.lt_or_ge j a with c | c
   ·exact c
   ·have:a=j:=by omega
    subst this;exact absurd e hn
  ·have hps:p < xs.size:=by
    have:i < xs.size:=by
     rcases Nat.lt_or_ge i xs.size with c | c
     ·exact c
     ·have:xs[i]? = none:=by simp;omega
      rw [this] at e;cases e
    omega
   have e1:xs[p]? = some xs[p]:=by simp [hps]
   have q1:=h2 p _ (Nat.le_refl _) e1
   have q2:=up p i _ _ (by omega) e1 e
   omega
 intro a b x y hab ha hb
 rw [sd h3] at ha hb
 by_cases c1:a < p
 ·rw [if_pos c1] at ha
  by_cases d1:b < p
  ·rw [if_pos d1] at hb;exact up a b _ _ hab ha hb
  ·rw [if_neg d1] at hb
   by_cases d2:b=p
   ·rw [if_pos d2] at hb;cases hb;exact h1 a _ c1 ha
   ·rw [if_neg d2] at hb
    exact Nat.lt_trans (h1 a _ c1 ha) (h2' (b - 1) _ (by omega) hb)
 ·rw [if_neg c1] at ha
  by_cases c2:a=p
  ·rw [if_pos c2] at ha;cases ha
   rw [if_neg (by omega),if_neg (by omega)] at hb
   exact h2' (b - 1) _ (by omega) hb
  ·rw [if_neg c2] at ha
   rw [if_neg (by omega),if_neg (by omega)] at hb
   exact up (a - 1) (b - 1) _ _ (by omega) ha hb
def Rp (t:SetTable):Prop:=t.plain=true->Up t.place
theorem yC {t:SetTable} {f:Nat->Int} {h:Int}:∀ (fuel:Nat) (p:SetTable.Probe) (j:Nat) (d:Option Nat),(∀ x,p.dummy=some x->t.place[SetTable.below t.place x]? ≠ some x) ->
  SetTable.probe.go t f h fuel p=some (.empty j d)->t.place[SetTable.below t.place (d.getD j)]? ≠ some (d.getD j):=by
 intro fuel
 induction fuel with
 | zero=>intro p j d _ e;unfold SetTable.probe.go at e;cases e
 | succ n ih =>
  intro p j d hd e
  unfold SetTable.probe.go at e
  have adv:∀ q:SetTable.Probe,(t.advance q).dummy=q.dummy:=fun q=>by unfold SetTable.advance;split <;> rfl
  cases hs:t.slot p.j with
  | empty =>
   rw [hs] at e
   dsimp only at e
   injection e with e
   injection e with e1 e2
   subst e1;subst e2
   unfold SetTable.slot at hs
   dsimp only at hs
   split at hs
   ·cases hs
   ·rename_i hne
    cases hdm:p.dummy with
    | none=>intro z;exact hne (by rw [show (none:Option Nat).getD p.j=p.j from rfl] at z;simpa using z)
    | some x=>exact hd x hdm
  | dummy =>
   rw [hs] at e
   dsimp only at e
   refine ih _ j d (fun x hx=>?_) e
   rw [adv] at hx
   injection hx with hx
   subst hx
   unfold SetTable.slot at hs
   dsimp only at hs
   split at hs
   ·cases hs
   ·rename_i hne
    intro z;exact hne (by simpa using z)
  | live i =>
   rw [hs] at e
   dsimp only at e
   split at e
   ·cases e
   ·exact ih _ j d (fun x hx=>hd x (by rw [adv] at hx;exact hx)) e
theorem se {t:SetTable} {h:Int} {j:Nat} {b:Bool} (e:t.freeSlot h=some (j,b)):t.place[SetTable.below t.place j]? ≠ some j:=by
 unfold SetTable.freeSlot at e
 split at e
 ·rename_i j' d hp
  injection e with e
  injection e with e1 e2
  subst e1
  unfold SetTable.probe at hp
  exact yC _ _ _ _ (fun x hx=>by cases hx) hp
 ·cases e
theorem Rp.standIn (t:SetTable) (n:Nat):Rp (t.standIn n):=fun h=>by cases h
theorem Rp.layNew {t:SetTable} (r:Rp t) (es:Array (Int × Value)) (h:Int) (x:Value):Rp (layNew t es h x).2.1/\(layNew t es h x).2.1.led=t.led:=by
 unfold PySem.layNew
 split
 ·rename_i j b e
  dsimp only
  unfold SetTable.orStandIn
  split
  ·refine⟨fun hp=>?_,rfl⟩
   exact (r hp).insert (se e)
  ·exact⟨Rp.standIn _ _,rfl⟩
 ·exact⟨Rp.standIn _ _,rfl⟩
theorem yD (n:Nat) (f:Nat->Option Nat):Up (((List.range n).filterMap fun j=>(f j).map fun k=>(j,k)).map (·.1)).toArray:=by
 have hs:List.Pairwise (· < ·) (((List.range n).filterMap fun j=>(f j).map fun k=>(j,k)).map (·.1)):=by
  have hl:List.Sublist (((List.range n).filterMap fun j=>(f j).map fun k=>(j,k)).map (·.1)) (List.range n):=by
   generalize List.range n=l
   induction l with
   | nil=>exact List.Sublist.refl _
   | cons a l ih =>
    rw [List.filterMap_cons]
    cases e:f a with
    | none=>exact ih.cons a
    | some k=>exact ih.cons₂ a
  exact List.Pairwise.sublist hl List.pairwise_lt_range
 intro i j a b hij ha hb
 rw [List.getElem?_toArray] at ha hb
 have hi:i < _:=(List.getElem?_eq_some_iff.mp ha).1
 have hj:j < _:=(List.getElem?_eq_some_iff.mp hb).1
 have:=List.pairwise_iff_getElem.mp hs i j hi hj hij
 rw [(List.getElem?_eq_some_iff.mp ha).2,(List.getElem?_eq_some_iff.mp hb).2] at this
 exact this
theorem Rp.relayAll (t:SetTable) (es:Array (Int × Value)) (n:Nat):Rp (relayAll t es n).2.1/\(relayAll t es n).2.1.led=t.led:=by
 unfold PySem.relayAll
 split
 ·rename_i t' order e
  dsimp only
  split
  ·unfold SetTable.relaid SetTable.laid at e
   simp only [bind,Option.bind] at e
   split at e
   ·cases e
   ·rename_i owner _
    injection e with e
    injection e with e1 _
    subst e1
    exact⟨fun _=>yD _ _,rfl⟩
  ·exact⟨Rp.standIn _ _,rfl⟩
 ·exact⟨Rp.standIn _ _,rfl⟩
theorem vq {xs:Array Nat} (up:Up xs) {i a:Nat} (e:xs[i]? = some a):SetTable.below xs (a+1)=i+1:=by
 obtain⟨h1,h2,h3⟩:=mY (j:=a+1) up
 have hi:i < xs.size:=(Array.getElem?_eq_some_iff.mp e).1
 rcases Nat.lt_trichotomy (SetTable.below xs (a+1)) (i+1) with c | c | c
 ·have:=h2 i a (by omega) e;omega
 ·exact c
 ·have hs:i+1 < xs.size:=by omega
  have e':xs[i+1]? = some xs[i+1]:=by simp [hs]
  have q1:=h1 (i+1) _ c e'
  have q2:=up i (i+1) _ _ (by omega) e e'
  omega
theorem vt {xs:Array Nat} (up:Up xs):SetTable.below xs 0=0:=by
 obtain⟨h1,h2,h3⟩:=mY (j:=0) up
 rcases Nat.eq_zero_or_pos (SetTable.below xs 0) with c | c
 ·exact c
 ·have e':xs[0]? = some xs[0]:=by simp
  have:=h1 0 _ c e';omega
theorem Up.bO {xs:Array Nat} (h:xs.size<=1):Up xs:=fun i j a b hij ha hb=>by
 have:=(Array.getElem?_eq_some_iff.mp hb).1;omega
open PySem.Spec PyProof.Rows
section
variable {prog:Program} {w:World} {K:Type} [DecidableEq K] {knd:KeyKind prog w K}
variable {A:Around} {E:Value->Shared->Prop} {s:Shared}
def Ent (knd:KeyKind prog w K) (e:Int × Value) (k:K):Prop:=knd.is k e.2=true/\e.1=knd.hash k/\e.2.scannable=true
structure dB (knd:KeyKind prog w K) (h:Heap) (a:Addr) (ks:List K) (o:Obj) (es:Array (Int × Value)) (ep:Nat) (t:SetTable):Prop where
 at_:h.get? a=some o
 ex:o.ExactSet
 data:o.data=.set es ep t
 ents:∃ ls:List K,ls.Perm ks/\Paired (Ent knd) es.toList ls
 nd:ks.Nodup
 bO:es.size < scanBound
 fits:t.fits es.size=true
 led:t.led = !(w.params.followText "set-order")
 up:Rp t
def fF (knd:KeyKind prog w K) (h:Heap) (a:Addr) (ks:List K):Prop:=∃ o es ep t,dB knd h a ks o es ep t
theorem jl {α β : Type} {F:α->β->Prop}:∀ {l l':List α},l.Perm l'->∀ {m':List β},Paired F l' m'->∃ m,m.Perm m'/\Paired F l m:=by
 intro l l' p
 induction p with
 | nil=>intro m' h;exact⟨m',.refl _,h⟩
 | cons x p ih =>
  intro m' h
  cases h with
  | cons r t=>obtain⟨m,q,e⟩:=ih t;exact⟨_,q.cons _,.cons r e⟩
 | swap x y l =>
  intro m' h
  cases h with
  | cons r t=>cases t with
   | cons r' t'=>exact⟨_,.swap _ _ _,.cons r' (.cons r t')⟩
 | trans p q ih1 ih2 =>
  intro m' h
  obtain⟨m1,a1,b1⟩:=ih2 h
  obtain⟨m2,a2,b2⟩:=ih1 b1
  exact⟨m2,a2.trans a1,b2⟩
theorem iC {α β : Type} {F:α->β->Prop}:∀ {l:List α} {m:List β},Paired F l m->(∀ x ∈ l,∃ y ∈ m,F x y)/\(∀ y ∈ m,∃ x ∈ l,F x y)
 | _,_,.nil=>⟨(fun _ h=>nomatch h),(fun _ h=>nomatch h)⟩
 | _,_,.cons r t=>by
  obtain⟨h1,h2⟩:=iC t
  refine⟨fun x hx=>?_,fun y hy=>?_⟩
  ·rcases List.mem_cons.mp hx with rfl | hx
   ·exact⟨_,List.mem_cons_self ..,r⟩
   ·obtain⟨y,hy,f⟩:=h1 x hx;exact⟨y,List.mem_cons_of_mem _ hy,f⟩
  ·rcases List.mem_cons.mp hy with rfl | hy
   ·exact⟨_,List.mem_cons_self ..,r⟩
   ·obtain⟨x,hx,f⟩:=h2 y hy;exact⟨x,List.mem_cons_of_mem _ hx,f⟩
theorem jm {α β : Type} {F:α->β->Prop} {x:α} {y:β} (f:F x y):∀ {l:List α} {m:List β},Paired F l m->Paired F (l ++ [x]) (m ++ [y])
 | _,_,.nil=>.cons f .nil
 | _,_,.cons r t=>.cons r (jm f t)
variable {a:Addr} {ks:List K} {o:Obj} {es:Array (Int × Value)} {ep:Nat} {t:SetTable} {h h':Heap}
theorem dB.elems (S:dB knd h a ks o es ep t):ElemsOf knd es.toList:=fun e he=>by
 obtain⟨ls,_,p⟩:=S.ents
 obtain⟨k,_,f⟩:=(iC p).1 e he
 exact⟨⟨k,f.1,f.2.1⟩,f.2.2⟩
theorem dB.len (S:dB knd h a ks o es ep t):es.size=ks.length:=by
 obtain⟨ls,q,p⟩:=S.ents
 rw [<-Array.length_toList,p.length,q.length_eq]
theorem dB.mem (S:dB knd h a ks o es ep t) (k:K):k ∈ ks ↔ ∃ e ∈ es.toList,knd.is k e.2=true:=by
 obtain⟨ls,q,p⟩:=S.ents
 rw [<-q.mem_iff]
 constructor
 ·intro hk
  obtain⟨e,he,f⟩:=(iC p).2 k hk
  exact⟨e,he,f.1⟩
 ·rintro⟨e,he,f⟩
  obtain⟨k',hk',f'⟩:=(iC p).1 e he
  rw [knd.inj e.2 k k' f f'.1];exact hk'
theorem dB.keep (S:dB knd h a ks o es ep t) (k:∀ o,h.get? a=some o->h'.get? a=some o):dB knd h' a ks o es ep t:={ S with at_:=k _ S.at_ }
theorem fF.keep (S:fF knd h a ks) (k:∀ o,h.get? a=some o->h'.get? a=some o):fF knd h' a ks:=let ⟨o,es,ep,t,S⟩:=S;⟨o,es,ep,t,S.keep k⟩
theorem sf {o:Obj} {es es':Array (Int × Value)} {ep:Nat} {t t':SetTable} (hd:o.data=.set es ep t):Obj.putSet es' t' o = { o with data:=.set es' (ep+1) t' }:=putSet_of es' t' hd
theorem dB.store {es':Array (Int × Value)} {t':SetTable} {ks':List K} (S:dB knd h a ks o es ep t) (he:∃ ls:List K,ls.Perm ks'/\Paired (Ent knd) es'.toList ls) (nd:ks'.Nodup) (bO:es'.size < scanBound)
  (fits:t'.fits es'.size=true) (led:t'.led=t.led) (up:Rp t'):dB knd (h.update a (Obj.putSet es' t')) a ks' { o with data:=.set es' (ep+1) t' } es' (ep+1) t' where
 at_:=by
  have q:=Heap.get?_update_self (Obj.putSet es' t') S.at_ (by rw [sf S.data];rfl)
  rw [sf S.data] at q
  exact q
 ex:=S.ex
 data:=rfl
 ents:=he
 nd:=nd
 bO:=bO
 fits:=fits
 led:=led.trans S.led
 up:=up
theorem mZ {g:Bool->Sem Unit} (hg:∀ (b:Bool) (s₁ : Shared) (Q':Unit->Shared->Prop),Q' () s₁->wpAny (model prog w) A (g b) Q' E s₁) {es1:Array (Int × Value)} {t2:SetTable} {ks':List K}
  (S:dB knd s.heap a ks o es ep t) (he:∃ ls:List K,ls.Perm ks'/\Paired (Ent knd) es1.toList ls) (nd:ks'.Nodup) (bO:es1.size < scanBound) (fits:t2.fits es1.size=true) (led:t2.led=t.led) (up:Rp t2) {wd:Bool}
  {R:Option Bool->Shared->Prop} (q:∀ h',Heap.SameBut a s.heap h'->fF knd h' a ks'->R (some true) { s with heap:=h' }) :
  wpAny (model prog w) A (storeSet a es1 t2 >>= fun _=>if (!wd && t2.tooFull)=true then g (relayAll t2 es1 (SetTable.grown es1.size)).2.2 >>= fun _ =>
   storeSet a (relayAll t2 es1 (SetTable.grown es1.size)).1 (relayAll t2 es1 (SetTable.grown es1.size)).2.1 >>= fun _=>pure (some true) else pure (some true)) R E s:=by
 refine wpAny_bind (wpAny_storeSet_of S.at_ S.data ?_ (fits_of_scanBound bO))
 have S1:=S.store he nd bO fits led up
 have b1:=Heap.SameBut.update s.heap a (Obj.putSet es1 t2)
 by_cases hc:(!wd && t2.tooFull)=true
 ·rw [if_pos hc]
  have p1:=relayAll_perm t2 es1 (SetTable.grown es1.size)
  have p2:=relayAll_fits t2 es1 (SetTable.grown es1.size)
  have p3:=Rp.relayAll t2 es1 (SetTable.grown es1.size)
  generalize relayAll t2 es1 (SetTable.grown es1.size)=R3 at p1 p2 p3
  obtain⟨es3,t3,gv⟩:=R3
  obtain⟨ls,l1,l2⟩:=he
  obtain⟨ls3,l3,l4⟩:=jl p1 l2
  have z:es3.size=es1.size:=by rw [<-Array.length_toList,p1.length_eq,Array.length_toList]
  have few3:es3.size < scanBound:=by rw [z];exact bO
  refine wpAny_bind (hg _ _ _ ?_)
  refine wpAny_bind (wpAny_storeSet_of S1.at_ S1.data ?_ (fits_of_scanBound few3))
  exact wpAny_pure (q _ (b1.trans (Heap.SameBut.update _ a _)) ⟨_,_,_,_,S1.store ⟨ls3,l3.trans l1,l4⟩ nd few3 p2 p3.2 p3.1⟩)
 ·rw [if_neg hc]
  exact wpAny_pure (q _ b1 ⟨_,_,_,_,S1⟩)
theorem vw {k:K} {x:Value} {Q:Bool->Shared->Prop} (hk:knd.is k x=true) (hsc:x.scannable=true) (S:fF knd s.heap a ks) (room:ks.length+1 < scanBound)
  (q:∀ h',Heap.SameBut a s.heap h'->fF knd h' a (if k ∈ ks then ks else ks ++ [k])->Q (!decide (k ∈ ks)) { s with heap:=h' }) :
  wpAny (model prog w) A (setAddHashed a x (knd.hash k)) Q E s:=by
 obtain⟨o,es,ep,t,S⟩:=S
 have few1:es.size+1 < scanBound:=by rw [S.len];exact room
 unfold setAddHashed setAddHashedIn
 refine wpAny_holding (wpAny_bind (wpAny_setState_of S.at_ S.data S.fits ?_))
 dsimp only
 rw [byScan_of hsc S.bO S.elems]
 simp only [↓reduceIte]
 unfold setAddByScan
 refine wpAny_bind (wpAny_bind (wpAny_rule ?_))
 refine wpAny_bind (wpAny_setScan_of hk S.at_ S.data S.fits S.elems ?_)
 cases hr:List.findIdx? (fun e=>knd.is k e.2) es.toList with
 | some j =>
  obtain⟨hj,hpj,_⟩:=List.findIdx?_eq_some_iff_getElem.mp hr
  have hin:k ∈ ks:=(S.mem k).mpr ⟨es.toList[j],List.getElem_mem hj,hpj⟩
  refine wpAny_pure (wpAny_pure ?_)
  have:=q s.heap (Heap.SameBut.refl a s.heap) (by rw [if_pos hin];exact⟨o,es,ep,t,S⟩)
  rw [decide_eq_true hin] at this
  exact this
 | none =>
  have hin:¬ k ∈ ks:=fun z=>by
   obtain⟨e,he,hp⟩:=(S.mem k).mp z
   have:=List.findIdx?_eq_none_iff.mp hr e he
   rw [hp] at this;exact Bool.noConfusion this
  rw [if_neg hin,decide_eq_false hin] at q
  have p1:=layNew_perm t es (knd.hash k) x
  have p2:=layNew_fits t es (knd.hash k) x
  have p3:=S.up.layNew es (knd.hash k) x
  dsimp only
  generalize layNew t es (knd.hash k) x=L at p1 p2 p3 ⊢
  obtain⟨es1,t1,wd,gv⟩:=L
  dsimp only at p1 p2 p3 ⊢
  rw [Array.toList_push] at p1
  have hE:∃ ls:List K,ls.Perm (ks ++ [k])/\Paired (Ent knd) es1.toList ls:=by
   obtain⟨ls,l1,l2⟩:=S.ents
   obtain⟨m,m1,m2⟩:=jl p1 (jm (F:=Ent knd) (x:=(knd.hash k,x)) (y:=k) ⟨hk,rfl,hsc⟩ l2)
   exact⟨m,m1.trans (l1.append_right _),m2⟩
  have nd1:(ks ++ [k]).Nodup:=by
   rw [List.nodup_append]
   exact⟨S.nd,by simp,fun y hy z hz e=>hin (by rw [List.mem_singleton] at hz;rw [<-hz,<-e];exact hy)⟩
  have few2:es1.size < scanBound:=by rw [<-Array.length_toList,p1.length_eq,List.length_append,Array.length_toList];simpa using few1
  have gw:∀ (b:Bool) (s₁ : Shared) (Q':Unit->Shared->Prop),Q' () s₁->wpAny (model prog w) A (match b with | true=>rule "set.scan.the-table-gave-way" | false=>pure ()) Q' E s₁:=fun b s₁ Q' hq=>by
   cases b
   ·exact wpAny_pure hq
   ·exact wpAny_rule hq
  refine wpAny_bind (gw _ _ _ ?_)
  by_cases hp:t1.plain=true
  ·rw [if_pos hp]
   refine wpAny_bind ?_
   rw [hashByValue_scannable 8 hsc]
   refine wpAny_pure ?_
   by_cases hv:plainKind x=true
   ·rw [if_pos hv]
    exact mZ gw S hE nd1 few2 p2 p3.2 p3.1 fun h' b Sk=>wpAny_pure (q h' b Sk)
   ·rw [if_neg hv]
    exact mZ gw S hE nd1 few2 (SetTable.fits_plain_off p2) p3.2 (fun z=>by cases z) fun h' b Sk=>wpAny_pure (q h' b Sk)
  ·rw [if_neg hp]
   refine wpAny_bind (wpAny_pure ?_)
   rw [if_pos rfl]
   exact mZ gw S hE nd1 few2 p2 p3.2 p3.1 fun h' b Sk=>wpAny_pure (q h' b Sk)
theorem w4 {led:Bool} (hl:led = !(w.params.followText "set-order")) (at_:h.get? a=some { cls:=.type "set",dict:=none,data:=.set #[] 0 (.fresh 0 0 led) }):fF knd h a [] :=
 ⟨_,#[],0,_,at_,⟨rfl,rfl,rfl⟩,rfl,⟨[],.refl _,.nil⟩,List.nodup_nil,by decide,by rfl,hl,fun _=>Up.bO (Nat.zero_le _)⟩
end
theorem j3 {α : Type}:∀ (l:List α) (i:Nat) (h:i < l.length),(l[i] :: l.eraseIdx i).Perm l
 | x :: l,0,_=>.refl _
 | x :: l,i+1,h=>by
  have hi:i < l.length:=by simpa using h
  have ih:=j3 l i hi
  show (l[i] :: x :: l.eraseIdx i).Perm (x :: l)
  exact (List.Perm.swap x _ _).trans (ih.cons x)
theorem w5 {α : Type} (f:Nat->Nat):∀ (n k:Nat) (l:List α) (out:Array α),l.length=n->(pickOrder.go f n k l out).toList.Perm (out.toList++l):=by
 intro n
 induction n with
 | zero =>
  intro k l out hl
  have:l = []:=List.length_eq_zero_iff.mp hl
  subst this
  unfold pickOrder.go
  simp
 | succ n ih =>
  intro k l out hl
  unfold pickOrder.go
  have hlt:f k % l.length < l.length:=Nat.mod_lt _ (by omega)
  rw [List.getElem?_eq_getElem hlt]
  dsimp only
  refine (ih _ _ _ (by rw [List.length_eraseIdx_of_lt hlt];omega)).trans ?_
  rw [Array.toList_push,List.append_assoc]
  refine List.Perm.append_left _ ?_
  exact j3 _ _ hlt
theorem gK {α : Type} (f:Nat->Nat) (xs:Array α):(pickOrder f xs).toList.Perm xs.toList:=by
 unfold pickOrder
 have:=w5 f xs.size 0 xs.toList #[] (by simp)
 simpa using this
section
variable {prog:Program} {w:World} {A:Around} {E:Value->Shared->Prop} {s:Shared}
theorem mi {Q:Bool->Shared->Prop} (q:Q (w.params.followText "set-order") s):wpAny (model prog w) A setsByText Q E s:=by
 unfold setsByText
 exact wpAny_bind (wpAny_askSetting (wpAny_pure q))
theorem Ad {src:Source} {n:Nat} {Q:Nat->Shared->Prop} (hn:n ≠ 0) (q:∀ (i:Nat) (d:_),i < n->Q i { s with drawn:=d }):wpAny (model prog w) A (choose src n) Q E s:=by
 intro Γ p hΓ
 show Sem.wp _ _ (.choose src n .pure) _ _ _ _
 rw [Sem.wp_choose]
 exact⟨hn,q _ _ (Nat.mod_lt _ (Nat.pos_of_ne_zero hn))⟩
theorem Cd:∀ (n:Nat) (xs:List Nat) (s:Shared) {Q:List Nat->Shared->Prop},xs.length=n->(∀ (ys:List Nat) (d:_),ys.Perm xs->Q ys { s with drawn:=d })->wpAny (model prog w) A (drawOrder n xs) Q E s:=by
 intro n
 induction n with
 | zero =>
  intro xs s Q hl q
  have:xs = []:=List.length_eq_zero_iff.mp hl
  subst this
  unfold drawOrder
  exact wpAny_pure (q [] s.drawn (.refl _))
 | succ n ih =>
  intro xs s Q hl q
  cases xs with
  | nil=>cases hl
  | cons x0 xs =>
   unfold drawOrder
   refine wpAny_bind (Ad (by simp) fun i d hi=>?_)
   rw [List.getElem?_eq_getElem hi]
   dsimp only
   refine wpAny_bind (ih _ _ (by rw [List.length_eraseIdx_of_lt hi];omega) fun ys d' hp=>?_)
   refine wpAny_pure (q _ d' ?_)
   exact (hp.cons _).trans (j3 _ _ hi)
end
section
variable {prog:Program} {w:World} {K:Type} [DecidableEq K] {knd:KeyKind prog w K}
variable {A:Around} {E:Value->Shared->Prop} {s:Shared} {a:Addr} {ks:List K} {o:Obj} {es:Array (Int × Value)} {ep:Nat} {t:SetTable}
theorem w6 {slot i:Nat} {Q:Option (Value × Nat)->Shared->Prop} (S:dB knd s.heap a ks o es ep t) (hb:w.params.followText "set-order" = true)
  (q:Q (((pickOrder (w.params.setOrder a ep) es)[i]?).map fun e=>(e.2,slot)) s):wpAny (model prog w) A (setNext a slot i ep) Q E s:=by
 unfold setNext
 refine wpAny_bind (wpAny_setState_of S.at_ S.data S.fits ?_)
 dsimp only
 refine wpAny_bind (mi ?_)
 rw [hb,if_pos rfl]
 rw [if_neg (by simp)]
 unfold setWalk
 refine wpAny_bind (wpAny_bind (wpAny_setState_of S.at_ S.data S.fits ?_))
 dsimp only
 refine wpAny_bind (mi ?_)
 rw [hb,if_pos rfl]
 exact wpAny_bind (wpAny_askSetting (wpAny_pure (wpAny_pure q)))
theorem w9 {slot i:Nat} {Q:Option (Value × Nat)->Shared->Prop} (S:dB knd s.heap a ks o es ep t) (hb:w.params.followText "set-order" = false) (hd:t.plain=true\/es.size<=1) (hs:SetTable.below t.place slot=i)
  (q:Q (match es[i]?,t.place[i]? with | some (_,x),some j=>some (x,j+1) | _,_=>none) s):wpAny (model prog w) A (setNext a slot i ep) Q E s:=by
 unfold setNext
 refine wpAny_bind (wpAny_setState_of S.at_ S.data S.fits ?_)
 dsimp only
 refine wpAny_bind (mi ?_)
 rw [hb,if_neg Bool.false_ne_true]
 refine wpAny_ite_split (fun h=>absurd (show (!t.plain && decide (es.size > 1))=true from h) ?_) (fun _=>?_)
 ·rcases hd with h | h
  ·rw [h];simp
  ·rw [show decide (es.size > 1)=false by simp;omega];simp
 have hl:t.led=true:=by rw [S.led,hb];rfl
 refine wpAny_bind ?_
 show wpAny _ _ (if (!t.led && !es.isEmpty)=true then unsupported "set:maker-not-led" else pure ()) _ _ s
 rw [hl,if_neg (by simp)]
 refine wpAny_pure ?_
 rw [hs]
 exact wpAny_pure q
theorem Bg {i:Nat} {e:Int × Value} {Q:Value->Shared->Prop} (S:dB knd s.heap a ks o es ep t) (he:es[i]? = some e) (q:Q e.2 s):wpAny (model prog w) A (setNextDrawn a i ep) Q E s:=by
 unfold setNextDrawn
 refine wpAny_bind (wpAny_setState_of S.at_ S.data S.fits ?_)
 dsimp only
 rw [if_neg (by simp)]
 rw [he]
 exact wpAny_pure q
theorem slot_next:Slot "set_iterator" "__next__" "set_iterator.__next__" :=
  Slot.of (owner := "set_iterator") (n := "__next__")
    (by rw [typeLookup_type,builtinLookup_eq_fast]
        kernel_rfl)
    (by decide +kernel)
    (by decide +kernel)
    (by decide +kernel)
    (by first
      | exact .inl (by decide +kernel)
      | exact .inr (by decide +kernel))
    (by rw [isSubtype_type]
        kernel_rfl)
theorem entry_next:entryFor table "set_iterator.__next__" = some Builtin.«set_iterator.__next__» :=
 entryFor_of_tree (by kernel_rfl)
theorem pT:Manifest.owners.lookup (String.ofList ['r','o','t','a','r','e','t','i','_','t','e','s'].reverse)=some Manifest.sig_set_iterator:=by
 kernel_rfl
theorem args_next (v:Value):argsOk "set_iterator.__next__" ⟨[v],[]⟩:=by
 unfold argsOk
 rw [signature?_of (id := "set_iterator.__next__") (n:=['_','_','t','x','e','n','_','_']) (o:=['r','o','t','a','r','e','t','i','_','t','e','s'])
  (by kernel_rfl) pT]
 kernel_rfl
end
def eV (h:Heap) (I:Addr) (first:Value) (i:Nat) (a:Addr) (n ep:Nat):Prop :=
 ∃ oI,h.get? I=some oI/\oI.cls=.type "set_iterator" /\ oI.data=.fields #[first,.int i 0,.ref a,.int n 0,.int ep 0]
theorem eV.type {s:Shared} {I:Addr} {first:Value} {i:Nat} {a:Addr} {n ep:Nat} (h:eV s.heap I first i a n ep):s.TypeIs (.ref I) "set_iterator" := let ⟨o,e,c,_⟩:=h;⟨o,e,c⟩
theorem eV.keep {h h':Heap} {I:Addr} {first:Value} {i:Nat} {a:Addr} {n ep:Nat} (x:eV h I first i a n ep) (k:∀ o,h.get? I=some o->h'.get? I=some o):eV h' I first i a n ep :=
 let ⟨o,e,c⟩:=x;⟨o,k _ e,c⟩
section
variable {prog:Program} {w:World} {K:Type} [DecidableEq K] {knd:KeyKind prog w K}
variable {A:Around} {E:Value->Shared->Prop} {s:Shared} {a I:Addr} {ks:List K} {o:Obj} {es:Array (Int × Value)} {ep:Nat} {t:SetTable}
theorem sg {slot nx i:Nat} {x:Value} {Q:Option Value->Shared->Prop} (hit:eV s.heap I (.int slot 0) i a es.size ep) (S:dB knd s.heap a ks o es ep t)
  (hn:∀ (A:Around) (E:Value->Shared->Prop) (Q:Option (Value × Nat)->Shared->Prop),Q (some (x,nx)) s->wpAny (model prog w) A (setNext a slot i ep) Q E s)
  (q:∀ h',eV h' I (.int nx 0) (i+1) a es.size ep->Heap.SameBut I s.heap h'->Q (some x) { s with heap:=h' }):wpAny (model prog w) A (pyNext (.ref I)) Q E s:=by
 obtain⟨oI,ho,hc,hd⟩:=id hit
 unfold pyNext
 refine wpAny_bind (wpAny_attempt (wpAny_callSpecial?_slot (name:=Str.ofString "__next__") hit.type slot_next (wpAny_call_entry slot_next hit.type entry_next ?_ (args_next _))))
 unfold Builtin.«set_iterator.__next__»
 refine wpAny_bind (wpAny_pure ?_)
 refine wpAny_bind (wpAny_fieldsOf ho hd ?_)
 dsimp only
 refine wpAny_bind (wpAny_setEntries_of S.at_ S.data S.fits ?_)
 rw [if_neg (by simp)]
 simp only [Int.toNat_natCast]
 refine wpAny_bind (hn _ _ _ ?_)
 dsimp only
 refine wpAny_bind (wpAny_setField ho hd (by simp) ?_)
 have d1:(Obj.mapFields (·.setIfInBounds 0 (rawInt (nx:Int))) oI).data=.fields #[.int nx 0,.int i 0,.ref a,.int es.size 0,.int ep 0]:=by rw [Obj.data_mapFields hd];simp [rawInt]
 have g1:=Heap.get?_update_self (Obj.mapFields (·.setIfInBounds 0 (rawInt (nx:Int)))) ho (Obj.isFreed_of_fields (Obj.data_mapFields hd _))
 refine wpAny_bind (wpAny_setField g1 d1 (by simp) ?_)
 refine wpAny_pure ⟨_,rfl,wpAny_pure (q _ ⟨_,Heap.get?_update_self _ g1 (Obj.isFreed_of_fields (Obj.data_mapFields d1 _)),?_,?_⟩ ((Heap.SameBut.update ..).trans (Heap.SameBut.update ..)))⟩
 ·exact (Obj.cls_mapFields ..).trans ((Obj.cls_mapFields ..).trans hc)
 ·rw [Obj.data_mapFields d1];simp [rawInt]
theorem mL {Q:Option Value->Shared->Prop} {s0:Shared} (hh:A.handled=none) (hk:∀ b o,b ≠ I->s0.heap.get? b=some o->s.heap.get? b=some o)
  (q:∀ h',(∀ b o,b ≠ I->s0.heap.get? b=some o->h'.get? b=some o)->Q none { s with heap:=h' }) :
  wpAny (model prog w) A.in1 (newExc (.type "StopIteration") [] >>= fun e=>(raiseNew e:Sem Fin)) (fun _ _=>False)
   (fun e s'=>wpAny (model prog w) A (isInstance e (.type "StopIteration") >>= fun b=>if b=true then pure none else throw e) Q E s') s:=by
 refine wpAny_bind ?_
 simp only [newExc,newTuple]
 refine wpAny_bind (wpAny_newObj_type ?_ (by size_fits))
 refine wpAny_bind (m:=firstArgMember _ _) (wpAny_of_eq (a:=Value.none) (by first | rfl | (simp only [firstArgMember];rfl)) ?_)
 refine wpAny_newObj_type ?_ (by size_fits)
 simp only [raiseNew]
 refine wpAny_bind (wpAny_handled ?_)
 rw [show A.in1.handled=none from hh]
 refine wpAny_bind (wpAny_pure (wpAny_throw ?_))
 refine wpAny_bind (wpAny_isInstance (T := "StopIteration") (b:=true) ⟨_,Heap.get?_push_size _ rfl,rfl⟩ isSubtype_stop ?_)
 exact wpAny_pure (q _ fun b o hb e=>Heap.get?_push_of_some _ (Heap.get?_push_of_some _ (hk b o hb e)))
theorem uI {slot i:Nat} {Q:Option Value->Shared->Prop} (hh:A.handled=none) (hit:eV s.heap I (.int slot 0) i a es.size ep) (S:dB knd s.heap a ks o es ep t)
  (hn:∀ (A:Around) (E:Value->Shared->Prop) (Q:Option (Value × Nat)->Shared->Prop),Q none s->wpAny (model prog w) A (setNext a slot i ep) Q E s)
  (q:∀ h',(∀ b o,b ≠ I->s.heap.get? b=some o->h'.get? b=some o)->Q none { s with heap:=h' }):wpAny (model prog w) A (pyNext (.ref I)) Q E s:=by
 obtain⟨oI,ho,hc,hd⟩:=id hit
 unfold pyNext
 refine wpAny_bind (wpAny_attempt (wpAny_callSpecial?_slot (name:=Str.ofString "__next__") hit.type slot_next (wpAny_call_entry slot_next hit.type entry_next ?_ (args_next _))))
 unfold Builtin.«set_iterator.__next__»
 refine wpAny_bind (wpAny_pure ?_)
 refine wpAny_bind (wpAny_fieldsOf ho hd ?_)
 dsimp only
 refine wpAny_bind (wpAny_setEntries_of S.at_ S.data S.fits ?_)
 rw [if_neg (by simp)]
 simp only [Int.toNat_natCast]
 refine wpAny_bind (hn _ _ _ ?_)
 dsimp only
 refine wpAny_bind (wpAny_setField ho hd (by simp) ?_)
 refine wpAny_mono (mL (I:=I) (s0:=s) (E:=E) (Q:=Q) hh (fun b o hb e=>(Heap.get?_update_other _ _ (Ne.symm hb)).trans e) fun h' k=>q h' k) (fun _ _ z=>z.elim) fun e s' z=>z
theorem yE {T:Addr} {i k:Nat} {oT:Obj} {its:Array Value} {c:Nat} {x:Int × Value} {Q:Option Value->Shared->Prop} (hit:eV s.heap I (.ref T) i a es.size ep) (S:dB knd s.heap a ks o es ep t)
  (hT:s.heap.get? T=some oT) (dT:oT.data=.seq its c) (hk:its[i]? = some (.int k 0)) (hx:es[k]? = some x)
  (q:∀ h',eV h' I (.ref T) (i+1) a es.size ep->Heap.SameBut I s.heap h'->Q (some x.2) { s with heap:=h' }):wpAny (model prog w) A (pyNext (.ref I)) Q E s:=by
 obtain⟨oI,ho,hc,hd⟩:=id hit
 unfold pyNext
 refine wpAny_bind (wpAny_attempt (wpAny_callSpecial?_slot (name:=Str.ofString "__next__") hit.type slot_next (wpAny_call_entry slot_next hit.type entry_next ?_ (args_next _))))
 unfold Builtin.«set_iterator.__next__»
 refine wpAny_bind (wpAny_pure ?_)
 refine wpAny_bind (wpAny_fieldsOf ho hd ?_)
 dsimp only
 refine wpAny_bind (wpAny_setEntries_of S.at_ S.data S.fits ?_)
 rw [if_neg (by simp)]
 refine wpAny_bind (wpAny_seqItems hT dT ?_)
 dsimp only
 simp only [Int.toNat_natCast]
 rw [hk]
 dsimp only
 simp only [Int.toNat_natCast]
 refine wpAny_bind (Bg S hx ?_)
 refine wpAny_bind (wpAny_setField ho hd (by simp) ?_)
 refine wpAny_pure ⟨_,rfl,wpAny_pure (q _ ⟨_,Heap.get?_update_self _ ho (Obj.isFreed_of_fields (Obj.data_mapFields hd _)),?_,?_⟩ (Heap.SameBut.update ..))⟩
 ·exact (Obj.cls_mapFields ..).trans hc
 ·rw [Obj.data_mapFields hd];simp [rawInt]
theorem Ae {T:Addr} {i:Nat} {oT:Obj} {its:Array Value} {c:Nat} {Q:Option Value->Shared->Prop} (hh:A.handled=none) (hit:eV s.heap I (.ref T) i a es.size ep) (S:dB knd s.heap a ks o es ep t)
  (hT:s.heap.get? T=some oT) (dT:oT.data=.seq its c) (hk:its[i]? = none)
  (q:∀ h',(∀ b o,b ≠ I->s.heap.get? b=some o->h'.get? b=some o)->Q none { s with heap:=h' }):wpAny (model prog w) A (pyNext (.ref I)) Q E s:=by
 obtain⟨oI,ho,hc,hd⟩:=id hit
 unfold pyNext
 refine wpAny_bind (wpAny_attempt (wpAny_callSpecial?_slot (name:=Str.ofString "__next__") hit.type slot_next (wpAny_call_entry slot_next hit.type entry_next ?_ (args_next _))))
 unfold Builtin.«set_iterator.__next__»
 refine wpAny_bind (wpAny_pure ?_)
 refine wpAny_bind (wpAny_fieldsOf ho hd ?_)
 dsimp only
 refine wpAny_bind (wpAny_setEntries_of S.at_ S.data S.fits ?_)
 rw [if_neg (by simp)]
 refine wpAny_bind (wpAny_seqItems hT dT ?_)
 dsimp only
 simp only [Int.toNat_natCast]
 rw [hk]
 dsimp only
 refine wpAny_bind (wpAny_setField ho hd (by simp) ?_)
 have d1:(Obj.mapFields (·.setIfInBounds 0 (rawInt 0)) oI).data=.fields #[.int 0 0,.int i 0,.ref a,.int es.size 0,.int ep 0]:=by rw [Obj.data_mapFields hd];simp [rawInt]
 have g1:=Heap.get?_update_self (Obj.mapFields (·.setIfInBounds 0 (rawInt 0))) ho (Obj.isFreed_of_fields (Obj.data_mapFields hd _))
 refine wpAny_bind (wpAny_setField g1 d1 (by simp) ?_)
 refine wpAny_mono (mL (I:=I) (s0:=s) (E:=E) (Q:=Q) hh (fun b o hb e=>(Heap.get?_update_other _ _ (Ne.symm hb)).trans ((Heap.get?_update_other _ _ (Ne.symm hb)).trans e)) fun h' k=>q h' k) (fun _ _ z=>z.elim) fun e s' z=>z
theorem nS:Slot "set_iterator" "__iter__" "set_iterator.__iter__" :=
  Slot.of (owner := "set_iterator") (n := "__iter__")
    (by rw [typeLookup_type,builtinLookup_eq_fast]
        kernel_rfl)
    (by decide +kernel)
    (by decide +kernel)
    (by decide +kernel)
    (by first
      | exact .inl (by decide +kernel)
      | exact .inr (by decide +kernel))
    (by rw [isSubtype_type]
        kernel_rfl)
theorem tL:entryFor table "set_iterator.__iter__" = some Builtin.«dict_keyiterator.__iter__» :=
 entryFor_alias (id' := "dict_keyiterator.__iter__")
  (by kernel_rfl) rfl
  (by decide +kernel)
  (by kernel_rfl)
theorem vy (v:Value):argsOk "set_iterator.__iter__" ⟨[v],[]⟩:=by
 unfold argsOk
 rw [signature?_of (id := "set_iterator.__iter__") (n:=['_','_','r','e','t','i','_','_']) (o:=['r','o','t','a','r','e','t','i','_','t','e','s'])
  (by kernel_rfl) pT]
 kernel_rfl
theorem lg {first:Value} {i:Nat} {Q:Value->Shared->Prop} {n:Nat} (hit:eV s.heap I first i a n ep) (q:Q (.ref I) s):wpAny (model prog w) A (pyIter (.ref I)) Q E s:=by
 refine wpAny_pyIter_slot hit.type nS (wpAny_call_entry nS hit.type tL ?_ (vy _))
 show wpAny _ _ (ret (.ref I)) _ _ s
 exact wpAny_pure ⟨_,rfl, "set_iterator",_,hit.type,slot_next.lookup,q⟩
theorem Bh (hh:A.handled=none) (hI:a ≠ I) (hb:w.params.followText "set-order" = true) (nd:True) :
  Walks prog w A I [I,a] [I] es.size (fun i v=>∃ e,(pickOrder (w.params.setOrder a ep) es)[i]? = some e/\e.2=v) (fun i h=>eV h I (.int 0 0) i a es.size ep/\dB knd h a ks o es ep t) where
 sub:=fun b hb=>by simp at hb;simp [hb]
 frame:=fun _ _ _ st k=>⟨st.1.keep fun o e=>k I (by simp) o e,st.2.keep fun o e=>k a (by simp) o e⟩
 item:=fun i s Q E hi st q=>by
  have z:(pickOrder (w.params.setOrder a ep) es).size=es.size:=by have:=(gK (w.params.setOrder a ep) es).length_eq;simpa using this
  have g:(pickOrder (w.params.setOrder a ep) es)[i]? = some ((pickOrder (w.params.setOrder a ep) es)[i]'(by omega)):=by simp
  refine sg (slot:=0) (nx:=0) st.1 st.2 (fun A E Q h=>w6 st.2 hb (by rw [g];exact h)) fun h' hit' sb=>?_
  exact q _ h' s.toks ⟨_,g,rfl⟩ ⟨hit',st.2.keep fun o e=>sb.extBut a o hI e⟩ fun b o hb e=>sb.extBut b o (fun z=>hb (by simp [z])) e
 done:=fun s Q E st q=>by
  have z:(pickOrder (w.params.setOrder a ep) es).size=es.size:=by have:=(gK (w.params.setOrder a ep) es).length_eq;simpa using this
  refine uI (slot:=0) hh st.1 st.2 (fun A E Q h=>w6 st.2 hb (by rw [Array.getElem?_eq_none (by omega)];exact h)) fun h' k=>?_
  exact q h' s.toks fun b o hb e=>k b o (fun z=>hb (by simp [z])) e
 self:=fun _ _ _ _ st q=>lg st.1 q
theorem m6 {α : Type} {es:Array α}:∀ {ys:List Nat},(∀ k ∈ ys,k < es.size)->∀ i:Nat,(ys.filterMap fun k=>es[k]?)[i]? = (ys[i]?).bind fun k=>es[k]?
 | [],_,i=>by simp
 | y :: ys,h,i=>by
  have hy:es[y]? = some (es[y]'(h y (List.mem_cons_self ..))):=by simp
  rw [List.filterMap_cons,hy]
  cases i with
  | zero=>simp
  | succ i =>
   have:=m6 (ys:=ys) (fun k hk=>h k (List.mem_cons_of_mem _ hk)) i
   simpa using this
def nT (t:SetTable):Nat->Nat
 | 0=>0
 | i+1=>t.place.getD i 0+1
theorem nU {t:SetTable} (up:Up t.place) {i:Nat} (h:i<=t.place.size):SetTable.below t.place (nT t i)=i:=by
 cases i with
 | zero=>exact vt up
 | succ i =>
  have hi:i < t.place.size:=by omega
  have e:t.place[i]? = some (t.place.getD i 0):=by simp [Array.getD,hi]
  exact vq up e
theorem Bi (hh:A.handled=none) (hI:a ≠ I) (hb:w.params.followText "set-order" = false) (hd:t.plain=true\/es.size<=1) (hf:t.fits es.size=true) (hr:Rp t) :
  Walks prog w A I [I,a] [I] es.size (fun i v=>∃ e,es[i]? = some e/\e.2=v) (fun i h=>eV h I (.int (nT t i) 0) i a es.size ep/\dB knd h a ks o es ep t) where
 sub:=fun b hb=>by simp at hb;simp [hb]
 frame:=fun _ _ _ st k=>⟨st.1.keep fun o e=>k I (by simp) o e,st.2.keep fun o e=>k a (by simp) o e⟩
 item:=fun i s Q E hi st q=>by
  have z:t.place.size=es.size:=by simp only [SetTable.fits,Bool.and_eq_true,beq_iff_eq] at hf;exact hf.1
  have up:Up t.place:=by
   rcases hd with c | c
   ·exact hr c
   ·exact Up.bO (by omega)
  have g:es[i]? = some es[i]:=by simp [hi]
  have gp:t.place[i]? = some (t.place.getD i 0):=by simp [Array.getD,z,hi]
  refine sg (slot:=nT t i) (nx:=nT t (i+1)) (x:=es[i].2) st.1 st.2 (fun A E Q h=>w9 st.2 hb hd (nU up (by omega)) (by rw [g,gp];exact h)) fun h' hit' sb=>?_
  exact q _ h' s.toks ⟨_,g,rfl⟩ ⟨hit',st.2.keep fun o e=>sb.extBut a o hI e⟩ fun b o hb e=>sb.extBut b o (fun z=>hb (by simp [z])) e
 done:=fun s Q E st q=>by
  have z:t.place.size=es.size:=by simp only [SetTable.fits,Bool.and_eq_true,beq_iff_eq] at hf;exact hf.1
  have up:Up t.place:=by
   rcases hd with c | c
   ·exact hr c
   ·exact Up.bO (by omega)
  refine uI (slot:=nT t es.size) hh st.1 st.2 (fun A E Q h=>w9 st.2 hb hd (nU up (by omega)) (by rw [Array.getElem?_eq_none (Nat.le_refl _)];exact h)) fun h' k=>?_
  exact q h' s.toks fun b o hb e=>k b o (fun z=>hb (by simp [z])) e
 self:=fun _ _ _ _ st q=>lg st.1 q
theorem Bj {T:Addr} {oT:Obj} {ys:List Nat} (hh:A.handled=none) (hI:a ≠ I) (hT:T ≠ I) (dT:oT.data=.seq (ys.map fun (i:Nat)=>rawInt i).toArray 0) (hp:ys.Perm (List.range es.size)) :
  Walks prog w A I [I,a,T] [I] es.size (fun i v=>∃ e,((ys.filterMap fun k=>es[k]?))[i]? = some e/\e.2=v) (fun i h=>eV h I (.ref T) i a es.size ep/\dB knd h a ks o es ep t/\h.get? T=some oT) where
 sub:=fun b hb=>by simp at hb;simp [hb]
 frame:=fun _ _ _ st k=>⟨st.1.keep fun o e=>k I (by simp) o e,st.2.1.keep fun o e=>k a (by simp) o e,k T (by simp) _ st.2.2⟩
 item:=fun i s Q E hi st q=>by
  have hl:ys.length=es.size:=by rw [hp.length_eq,List.length_range]
  have hin:∀ k ∈ ys,k < es.size:=fun k hk=>List.mem_range.mp (hp.mem_iff.mp hk)
  have h1:ys[i]? = some (ys[i]'(by omega)):=by simp
  have hk:ys[i]'(by omega) < es.size:=hin _ (List.getElem_mem _)
  generalize ys[i]'(by omega)=k at h1 hk
  have hx:es[k]? = some es[k]:=by simp [hk]
  have hv:(ys.filterMap fun k=>es[k]?)[i]? = some es[k]:=by
   rw [m6 hin,h1]
   exact hx
  refine yE (k:=k) (x:=es[k]) st.1 st.2.1 st.2.2 dT (by simp [h1,rawInt]) hx fun h' hit' sb=>?_
  exact q _ h' s.toks ⟨_,hv,rfl⟩ ⟨hit',st.2.1.keep fun o e=>sb.extBut a o hI e,sb.extBut T _ hT st.2.2⟩ fun b o hb e=>sb.extBut b o (fun z=>hb (by simp [z])) e
 done:=fun s Q E st q=>by
  have hl:ys.length=es.size:=by rw [hp.length_eq,List.length_range]
  refine Ae hh st.1 st.2.1 st.2.2 dT (by simp [hl]) fun h' k=>?_
  exact q h' s.toks fun b o hb e=>k b o (fun z=>hb (by simp [z])) e
 self:=fun _ _ _ _ st q=>lg st.1 q
theorem lh {b x y:Addr} (h:b ∈ [x,y]):b=x\/b=y:=by simpa using h
theorem yF {b x y z:Addr} (h:b ∈ [x,y,z]):b=x\/b=y\/b=z:=by simpa using h
theorem vz:entryFor table "set.__iter__" = some Builtin.«frozenset.__iter__» :=
 entryFor_alias (id' := "frozenset.__iter__")
  (by kernel_rfl) rfl
  (by decide +kernel)
  (by kernel_rfl)
theorem dB.typeIs (S:dB knd s.heap a ks o es ep t):s.TypeIs (.ref a) "set" := ⟨o,S.at_,S.ex.1⟩
theorem tM {Q:Bool->Shared->Prop} (S:dB knd s.heap a ks o es ep t) (q:Q (!(w.params.followText "set-order") && (!t.plain && decide (es.size > 1))) s):wpAny (model prog w) A (setDrawn a) Q E s:=by
 unfold setDrawn
 refine wpAny_bind (wpAny_setState_of S.at_ S.data S.fits ?_)
 dsimp only
 exact wpAny_bind (mi (wpAny_pure q))
def Comes (es:Array (Int × Value)) (P:Nat->Value->Prop):Prop:=∃ l:List (Int × Value),l.Perm es.toList/\P=fun i v=>∃ e,l[i]? = some e/\e.2=v
theorem yG {Q:Value->Shared->Prop} (hh:A.handled=none) (S:dB knd s.heap a ks o es ep t)
  (q:∀ (I:Addr) (h':Heap) (d:_) (fp:List Addr) (P:Nat->Value->Prop) (St:Nat->Heap->Prop),(∀ b o,s.heap.get? b=some o->h'.get? b=some o)->s.heap.objs.size<=I->(∀ b ∈ fp,b < h'.objs.size)->(∀ b,h'.objs.size<=b->b ∉ fp) ->
   (∀ b ∈ fp,b=a\/s.heap.objs.size<=b)->Comes es P->(∀ A:Around,A.handled=none->Walks prog w A I fp [I] es.size P St)->St 0 h'->Q (.ref I) { s with heap:=h',drawn:=d }) :
  wpAny (model prog w) A (pyIter (.ref a)) Q E s:=by
 have la:a < s.heap.objs.size:=Heap.lt_size S.at_
 refine wpAny_pyIter_slot S.typeIs PySem.F.slot_set_iter (wpAny_call_entry PySem.F.slot_set_iter S.typeIs vz ?_ (PySem.F.args_set_iter_1 _))
 unfold Builtin.«frozenset.__iter__»
 refine wpAny_bind ?_
 unfold Builtin.Frozenset.slot0
 refine wpAny_bind (wpAny_pure ?_)
 refine wpAny_pure ?_
 refine wpAny_bind ?_
 unfold Builtin.Frozenset.sizeOf
 refine wpAny_bind (wpAny_setEntries_of S.at_ S.data S.fits (wpAny_pure ?_))
 refine wpAny_bind (tM S ?_)
 cases hb:w.params.followText "set-order" with
 | true =>
  rw [Bool.not_true,Bool.false_and,if_neg Bool.false_ne_true]
  refine wpAny_bind (wpAny_pure ?_)
  refine wpAny_bind (wpAny_setEpoch_of S.at_ S.data S.fits ?_)
  refine wpAny_bind ?_
  simp only [newFields]
  refine wpAny_newObj_type (wpAny_pure ⟨_,rfl, "set_iterator",_,⟨_,Heap.get?_push_size _ rfl,rfl⟩,slot_next.lookup,?_⟩) (by size_fits)
  refine q _ _ s.drawn [s.heap.objs.size,a] _ _ (fun b o e=>Heap.get?_push_of_some _ e) (Nat.le_refl _) (fun b hb=>?_) (fun b hb hm=>?_) (fun b hb=>?_) ⟨_,gK (w.params.setOrder a ep) es,?_⟩ (fun A hh=>Bh (knd:=knd) (ks:=ks) (o:=o) (t:=t) hh (Nat.ne_of_lt la) hb trivial) ⟨⟨_,Heap.get?_push_size _ rfl,rfl,rfl⟩,S.keep fun o e=>Heap.get?_push_of_some _ e⟩
  ·rw [Heap.size_push]
   rcases lh hb with e | e
   ·rw [e];exact Nat.lt_succ_self _
   ·rw [e];exact Nat.lt_succ_of_lt la
  ·rw [Heap.size_push] at hb
   rcases lh hm with e | e
   ·rw [e] at hb;exact Nat.not_succ_le_self _ hb
   ·rw [e] at hb;exact Nat.lt_irrefl _ (Nat.lt_of_lt_of_le la (Nat.le_of_succ_le hb))
  ·rcases lh hb with e | e
   ·exact .inr (by rw [e];exact Nat.le_refl _)
   ·exact .inl e
  ·funext i v;simp
 | false =>
  rw [Bool.not_false,Bool.true_and]
  by_cases hd:(!t.plain && decide (es.size > 1))=true
  ·rw [hd,if_pos rfl]
   refine wpAny_bind (Cd es.size (List.range es.size) s (by simp) fun ys d hp=>?_)
   have hz:(ys.map fun (i:Nat)=>rawInt i).length<=sizeLine:=by rw [List.length_map,hp.length_eq,List.length_range];exact fits_of_scanBound S.bO
   refine wpAny_bind (wpAny_newTuple ?_ hz)
   have S1:dB knd (s.heap.push { cls:=.type "tuple",data:=.seq (ys.map fun (i:Nat)=>rawInt i).toArray }) a ks o es ep t:=S.keep fun o e=>Heap.get?_push_of_some _ e
   refine wpAny_bind (wpAny_setEpoch_of S1.at_ S1.data S1.fits ?_)
   refine wpAny_bind ?_
   simp only [newFields]
   refine wpAny_newObj_type (wpAny_pure ⟨_,rfl, "set_iterator",_,⟨_,Heap.get?_push_size _ rfl,rfl⟩,slot_next.lookup,?_⟩) (by size_fits)
   refine q _ _ d [(s.heap.push { cls:=.type "tuple",data:=.seq (ys.map fun (i:Nat)=>rawInt i).toArray }).objs.size,a,s.heap.objs.size] _ _ (fun b o e=>Heap.get?_push_of_some _ (Heap.get?_push_of_some _ e)) (by rw [Heap.size_push];exact Nat.le_succ _) (fun b hb=>?_) (fun b hb hm=>?_) (fun b hb=>?_) ⟨ys.filterMap fun k=>es[k]?,?_,rfl⟩
    (fun A hh=>Bj (knd:=knd) (ks:=ks) (o:=o) (t:=t) (oT:={ cls:=.type "tuple",data:=.seq (ys.map fun (i:Nat)=>rawInt i).toArray }) hh (by rw [Heap.size_push];exact Nat.ne_of_lt (Nat.lt_succ_of_lt la)) (by rw [Heap.size_push];exact Nat.ne_of_lt (Nat.lt_succ_self _)) rfl hp) ⟨⟨_,Heap.get?_push_size _ rfl,rfl,rfl⟩,S1.keep fun o e=>Heap.get?_push_of_some _ e,Heap.get?_push_of_some _ (Heap.get?_push_size _ rfl)⟩
   ·rw [Heap.size_push,Heap.size_push]
    rcases yF hb with e | e | e
    ·rw [e,Heap.size_push];exact Nat.lt_succ_self _
    ·rw [e];exact Nat.lt_succ_of_lt (Nat.lt_succ_of_lt la)
    ·rw [e];exact Nat.lt_succ_of_lt (Nat.lt_succ_self _)
   ·rw [Heap.size_push,Heap.size_push] at hb
    rcases yF hm with e | e | e
    ·rw [e,Heap.size_push] at hb;exact Nat.not_succ_le_self _ hb
    ·rw [e] at hb;exact Nat.lt_irrefl _ (Nat.lt_of_lt_of_le la (Nat.le_of_succ_le (Nat.le_of_succ_le hb)))
    ·rw [e] at hb;exact Nat.not_succ_le_self _ (Nat.le_of_succ_le hb)
   ·rcases yF hb with e | e | e
    ·exact .inr (by rw [e,Heap.size_push];exact Nat.le_succ _)
    ·exact .inl e
    ·exact .inr (by rw [e];exact Nat.le_refl _)
   ·refine (hp.filterMap _).trans ?_
    have:((List.range es.size).filterMap fun k=>es[k]?)=es.toList:=by
     refine List.ext_getElem? fun i=>?_
     rw [m6 (fun k hk=>List.mem_range.mp hk)]
     by_cases hi:i < es.size
     ·rw [List.getElem?_range hi];simp
     ·rw [List.getElem?_eq_none (by simp;omega),List.getElem?_eq_none (by simp;omega)];rfl
    rw [this]
  ·rw [if_neg hd]
   refine wpAny_bind (wpAny_pure ?_)
   refine wpAny_bind (wpAny_setEpoch_of S.at_ S.data S.fits ?_)
   refine wpAny_bind ?_
   simp only [newFields]
   refine wpAny_newObj_type (wpAny_pure ⟨_,rfl, "set_iterator",_,⟨_,Heap.get?_push_size _ rfl,rfl⟩,slot_next.lookup,?_⟩) (by size_fits)
   have hd':t.plain=true\/es.size<=1:=by
    cases hp:t.plain with
    | true=>exact .inl rfl
    | false=>right;rw [hp] at hd;simp at hd;exact hd
   refine q _ _ s.drawn [s.heap.objs.size,a] _ _ (fun b o e=>Heap.get?_push_of_some _ e) (Nat.le_refl _) (fun b hb=>?_) (fun b hb hm=>?_) (fun b hb=>?_) ⟨es.toList,.refl _,?_⟩ (fun A hh=>Bi (knd:=knd) (ks:=ks) (o:=o) (t:=t) hh (Nat.ne_of_lt la) hb hd' S.fits S.up) ⟨⟨_,Heap.get?_push_size _ rfl,rfl,rfl⟩,S.keep fun o e=>Heap.get?_push_of_some _ e⟩
   ·rw [Heap.size_push]
    rcases lh hb with e | e
    ·rw [e];exact Nat.lt_succ_self _
    ·rw [e];exact Nat.lt_succ_of_lt la
   ·rw [Heap.size_push] at hb
    rcases lh hm with e | e
    ·rw [e] at hb;exact Nat.not_succ_le_self _ hb
    ·rw [e] at hb;exact Nat.lt_irrefl _ (Nat.lt_of_lt_of_le la (Nat.le_of_succ_le hb))
   ·rcases lh hb with e | e
    ·exact .inr (by rw [e];exact Nat.le_refl _)
    ·exact .inl e
   ·funext i v;simp
theorem yH {Q:Bool->Shared->Prop} (hT:s.TypeIs (.ref a) "set") (q:Q false s):wpAny (model prog w) A (Builtin.List.listLengthHint (.ref a)) Q E s:=by
 unfold Builtin.List.listLengthHint
 refine wpAny_bind (wpAny_specialOf hT PySem.F.slot_set_len.lookup ?_)
 generalize hid:("set.__len__" : String)=id0
 wp_delta
 rw [show splitId id0=some ("set", "__len__") from by subst hid;decide +kernel]
 subst hid
 refine wpAny_bind (wpAny_isInstance (T := "set") (b:=true) hT sub_set_self ?_)
 refine wpAny_ite_split (fun hab=>absurd hab (by decide)) (fun _=>?_)
 refine wpAny_ite_split (fun _=>?_) (fun hab=>absurd (by decide +kernel) hab)
 refine wpAny_bind (wpAny_typeOf hT ?_)
 exact wpAny_pure q
end
open PySem.Calls PySem.W
section
variable {prog:Program} {w:World} {K:Type} [DecidableEq K] {knd:KeyKind prog w K}
variable {A:Around} {E:Value->Shared->Prop} {s:Shared} {a:Addr} {ks:List K} {o:Obj} {es:Array (Int × Value)} {ep:Nat} {t:SetTable}
theorem tN {P:Nat->Value->Prop} {got:Array Value} (hc:Comes es P) (hi:ItemsOf P got es.size):∃ l:List (Int × Value),l.Perm es.toList/\got.toList=l.map (·.2):=by
 obtain⟨l,hp,rfl⟩:=hc
 refine⟨l,hp,?_⟩
 have hl:l.length=es.size:=by rw [hp.length_eq,Array.length_toList]
 refine List.ext_getElem? fun i=>?_
 rw [List.getElem?_map]
 by_cases h:i < es.size
 ·have e1:got.toList[i]? = some (got[i]'(by rw [hi.1];exact h)):=by simp [hi.1,h]
  obtain⟨e,he,hv⟩:=hi.2 i _ (by rw [<-Array.getElem?_toList];exact e1)
  rw [e1,he,<-hv];rfl
 ·rw [List.getElem?_eq_none (by rw [Array.length_toList,hi.1];omega),List.getElem?_eq_none (by omega)];rfl
theorem vA {R:Result->Shared->Prop} (hh:A.handled=none) (S:dB knd s.heap a ks o es ep t) (L:Addr) (hLa:L ≠ a) (hL:s.heap.get? L=some { cls:=.type "list",data:=.seq #[] 0 }) (res:Value)
  (fin:∀ (g:Heap) (tk:Nat) (d:_) (got:Array Value) (c:Nat),(∀ b o,b ≠ L->s.heap.get? b=some o->g.get? b=some o)->g.get? L=some { cls:=.type "list",dict:=none,data:=.seq got c,slots:=#[] } ->
   (∃ l:List (Int × Value),l.Perm es.toList/\got.toList=l.map (·.2))->R (.ok (.ret res)) { s with heap:=g,toks:=tk,drawn:=d }) :
  wpAny (model prog w) A.in1 (Builtin.List.listExtendWith (.ref L) (.ref a) res)
   (fun fin s'=>match fin with | .done f=>R (.ok f) s' | .again c'=>c'.quiet=true/\codeAny (model prog w) A c' R s') (fun e s'=>R (.error e) s') s:=by
 have hz:es.size<=sizeLine:=fits_of_scanBound S.bO
 unfold Builtin.List.listExtendWith
 refine wpAny_bind (wpAny_typeOf S.typeIs ?_)
 have h1:Builtin.List.listSameRef (.ref L) (.ref a)=false:=by simp [Builtin.List.listSameRef,hLa]
 rw [h1]
 have h2:(Value.type "set" == Value.type "list")=false:=by decide
 have h3:(Value.type "set" == Value.type "tuple")=false:=by decide
 rw [h2,h3]
 rw [if_neg (by decide)]
 refine wpAny_bind (yG (A:=A.in1) hh S fun I h1 d fp P St keep hI hfp hnew hof hc W st=>?_)
 have hLlt:L < s.heap.objs.size:=Heap.lt_size hL
 have hLf:L ∉ fp:=fun hm=>by
  rcases hof L hm with e | e
  ·exact hLa e
  ·exact Nat.lt_irrefl _ (Nat.lt_of_lt_of_le hLlt e)
 have hLI:L ≠ I:=fun e=>Nat.lt_irrefl _ (Nat.lt_of_lt_of_le hLlt (e ▸ hI))
 have Wk:=W A.in1 hh
 have loop:∀ (g:Heap) (c tk:Nat),St 0 g->(∀ b o,b ≠ L->s.heap.get? b=some o->g.get? b=some o)->g.get? L=some { cls:=.type "list",data:=.seq #[] c } ->
   codeAny (model prog w) A (.builtin "list.extend.loop" ⟨[.ref L,.ref I,res],[]⟩) R { s with heap:=g,toks:=tk,drawn:=d }:=by
  intro g c tk st' kp gL
  refine codeAny_extend_loopS Wk.toS hz L hLf res es.size 0 _ #[] c rfl (Nat.zero_le _) st' gL (ItemsOf.nil _) fun s' got c' mv gL' its=>?_
  have e:=Moved.eq_with mv
  rw [e]
  refine fin s'.heap s'.toks d got c' (fun b o hb e=>mv.heap b o (fun hm=>?_) (kp b o hb e)) gL' (tN hc its)
  rcases List.mem_cons.mp hm with e' | hm
  ·exact hb e'
  ·rw [List.mem_singleton] at hm
   subst hm
   exact Nat.lt_irrefl _ (Nat.lt_of_lt_of_le (Heap.lt_size e) hI)
 have gL1:=keep _ _ hL
 refine wpAny_bind (wpAny_holding (yH ⟨o,keep _ _ S.at_,S.ex.1⟩ ?_))
 refine wpAny_ite_split (fun _=>?_) (fun _=>wpAny_pure ⟨plainId_quiet PySem.F.plain_extend_loop _,loop _ 0 _ st (fun b o _ e=>keep b o e) gL1⟩)
 refine wpAny_bind (wpAny_rule ?_)
 refine wpAny_bind ?_
 show wpAny _ _ (updateSeq L (·.push .none) >>= fun _=>updateSeq L (·.pop)) _ _ _
 refine wpAny_bind (wpAny_updateSeq gL1 rfl ?_)
 have gL2:=Heap.get?_update_self (Obj.mapSeq (·.push Value.none)) gL1 rfl
 refine wpAny_updateSeq (hz:=by seq_fits) gL2 rfl ?_
 have gL3:=Heap.get?_update_self (Obj.mapSeq (·.pop)) gL2 rfl
 refine wpAny_pure ⟨plainId_quiet PySem.F.plain_extend_loop _,loop _ _ _ ?_ (fun b o hb e=>?_) gL3⟩
 ·refine Wk.frame 0 _ _ st fun b hb o e=>?_
  have hbL:b ≠ L:=fun h=>hLf (h ▸ hb)
  exact (Heap.get?_update_other _ _ (Ne.symm hbL)).trans ((Heap.get?_update_other _ _ (Ne.symm hbL)).trans e)
 ·exact (Heap.get?_update_other _ _ (Ne.symm hb)).trans ((Heap.get?_update_other _ _ (Ne.symm hb)).trans (keep b o e))
theorem vB {G:List Value->Shared->Prop} (calm:A.handled=none) (S:dB knd s.heap a ks o es ep t)
  (fin:∀ (g:Heap) (tk:Nat) (d:_) (got:Array Value),(∀ b o,s.heap.get? b=some o->g.get? b=some o)->(∃ l:List (Int × Value),l.Perm es.toList/\got.toList=l.map (·.2))->s.heap.objs.size<=g.objs.size->G got.toList { s with heap:=g,toks:=tk,drawn:=d }) :
  wpAny (model prog w) A (collect (.ref a)) G E s:=by
 have la:a < s.heap.objs.size:=Heap.lt_size S.at_
 unfold collect
 refine wpAny_bind (wpAny_runValue (codeAny_builtin entry_proto_collect' ?_))
 rw [Around.under_plainId PySem.F.plain_proto_collect _]
 show wpAny _ A.in1 (newList [] >>= fun z=>again (.builtin "list.__iadd__" ⟨[z,.ref a],[]⟩)) _ _ s
 refine wpAny_bind (wpAny_newObj_type (wpAny_pure ⟨plainId_quiet PySem.F.plain_list_iadd _,codeAny_builtin entry_list_iadd' ?_⟩))
 rw [Around.under_plainId PySem.F.plain_list_iadd _]
 show wpAny _ A.in1 (Builtin.List.listExtendWith (.ref s.heap.objs.size) (.ref a) (.ref s.heap.objs.size)) _ _ _
 have made:(s.heap.push { cls:=.type "list",data:=.seq ([]:List Value).toArray }).get? s.heap.objs.size=some { cls:=.type "list",data:=.seq #[] 0 }:=Heap.get?_push_size _ rfl
 have run:=vA (A:=A) (s:={ s with heap:=s.heap.push { cls:=.type "list",data:=.seq ([]:List Value).toArray } })
  (R:=fun (z:Result) (t:Shared)=>∃ (g:Heap) (tk:Nat) (d:_) (got:Array Value) (c:Nat),z=.ok (.ret (.ref s.heap.objs.size))/\t = { s with heap:=g,toks:=tk,drawn:=d } /\
   (∀ b o,s.heap.get? b=some o->g.get? b=some o)/\g.get? s.heap.objs.size=some { cls:=.type "list",dict:=none,data:=.seq got c,slots:=#[] }/\∃ l:List (Int × Value),l.Perm es.toList/\got.toList=l.map (·.2))
  calm (S.keep fun o e=>Heap.get?_push_of_some _ e) s.heap.objs.size (Nat.ne_of_gt la) made (.ref s.heap.objs.size)
  (fun g tk d got c kept at_ its=>⟨g,tk,d,got,c,rfl,rfl,fun b o e=>kept b o (Nat.ne_of_lt (Heap.lt_size e)) (Heap.get?_push_of_some _ e),at_,its⟩)
 refine wpAny_mono run (fun z t x=>?_) fun z t ⟨_,_,_,_,_,bad,_⟩=>by cases bad
 cases z with
 | done f =>
  obtain⟨g,tk,d,got,c,e,rfl,kept,at_,its⟩:=x
  cases e
  show wpAny _ A (load s.heap.objs.size >>= _) _ _ _
  exact wpAny_bind (wpAny_load at_ (wpAny_pure (fin g tk d got kept its (Nat.le_of_lt (Heap.lt_size at_)))))
 | again more =>
  refine⟨x.1,codeAny_mono x.2 fun z' t' ⟨g,tk,d,got,c,e1,e2,kept,at_,its⟩=>?_⟩
  subst e1 e2
  show wpAny _ A (load s.heap.objs.size >>= _) _ _ _
  exact wpAny_bind (wpAny_load at_ (wpAny_pure (fin g tk d got kept its (Nat.le_of_lt (Heap.lt_size at_)))))
end
end LS
namespace L2
open PySem PySem.Spec PyProof.Rows LS
def nV (m:List Key):List Str:=m.filterMap fun k=>match k with | .inr x=>some x | .inl _=>none
theorem xa (ss:List Str):nV (ss.map Sum.inr)=ss:=by
 induction ss with
 | nil=>rfl
 | cons x ss ih=>show x :: nV (ss.map Sum.inr)=x :: ss;rw [ih]
theorem yI {m:List Key} {ss:List Str} (p:m.Perm (ss.map Sum.inr)):m=(nV m).map Sum.inr/\(nV m).Perm ss:=by
 refine⟨?_,by have:=p.filterMap (fun k:Key=>match k with | .inr x=>some x | .inl _=>none);rw [show List.filterMap _ (ss.map Sum.inr)=ss from xa ss] at this;exact this⟩
 have hall:∀ k ∈ m,∃ x,k=Sum.inr x:=fun k hk=>by
  obtain⟨x,_,rfl⟩:=List.mem_map.mp (p.mem_iff.mp hk)
  exact⟨x,rfl⟩
 clear p
 induction m with
 | nil=>rfl
 | cons k m ih =>
  obtain⟨x,rfl⟩:=hall k (List.mem_cons_self ..)
  have:=ih fun k hk=>hall k (List.mem_cons_of_mem _ hk)
  show Sum.inr x :: m=Sum.inr x :: (nV m).map Sum.inr
  rw [<-this]
section
variable {prog:Program} {w:World} {A:Around} {E:Value->Shared->Prop} {s:Shared} {a:Addr} {ks:List Key} {o:Obj} {es:Array (Int × Value)} {ep:Nat} {t:SetTable}
theorem yJ {got:List Value} (S:LS.dB (aT prog w) s.heap a ks o es ep t) (h:∃ l:List (Int × Value),l.Perm es.toList/\got=l.map (·.2)):∃ m:List Key,m.Perm ks/\Paired (fun v k=>(aT prog w).is k v=true) got m:=by
 obtain⟨l,hp,rfl⟩:=h
 obtain⟨ls,q1,q2⟩:=S.ents
 obtain⟨m,m1,m2⟩:=jl hp q2
 refine⟨m,m1.trans q1,?_⟩
 clear hp q2 m1
 induction m2 with
 | nil=>exact .nil
 | cons r _ ih=>exact .cons r.1 ih
theorem lj:∀ {got:List Value} {ss:List Str},Paired (fun v k=>(aT prog w).is k v=true) got (ss.map Sum.inr)->StrsAre got ss
 | _,[],.nil=>.nil
 | _,x :: ss,.cons r t=>by
  obtain⟨t',rfl⟩:=jj r
  exact .cons x t' (lj t)
theorem tO {ss:List Str} {Q:Value->Shared->Prop} (hh:A.handled=none) (S:LS.dB (aT prog w) s.heap a (ss.map Sum.inr) o es ep t) (h64:ss.length < 64)
  (q:∀ (h':Heap) (tk:Nat) (d:_) (D:Addr) (out:Array Value) (ss':List Str) (e:Nat),(∀ b o,s.heap.get? b=some o->h'.get? b=some o)->s.heap.objs.size<=D->h'.get? D=some { cls:=.type "list",data:=.seq out e } ->
   StrsAre out.toList ss'->ss'.Perm ss->sortedS ss' = true->Q (.ref D) { s with heap:=h',toks:=tk,drawn:=d }) :
  wpAny (model prog w) A (call (.builtin "sorted") [.ref a]) Q E s:=by
 refine Calls.call_function_entry kind_sorted plain_sorted entry_sorted (args_sorted1 _) ?_
 unfold Builtin.«sorted»
 refine wpAny_bind (m:=checkCount "sorted" 1 1 _) (wpAny_pure ?_)
 refine wpAny_bind (vB (A:=A.in1) hh S fun h' tk d acc hkeep hacc hsz=>?_)
 obtain⟨m,m1,m2⟩:=yJ S hacc
 obtain⟨e1,p1⟩:=yI m1
 rw [e1] at m2
 have hS:=lj m2
 have hl:acc.toList.length < 64:=by rw [m2.length,List.length_map,p1.length_eq];exact h64
 refine wpAny_bind (wpAny_newList ?_ (Nat.le_trans (Nat.le_of_lt hl) (by decide)))
 have hoL:(h'.push (seqObj "list" acc.toList.toArray 0)).get? h'.objs.size=some (seqObj "list" acc.toList.toArray 0):=Heap.get?_push_size _ rfl
 refine wpAny_bind (wpAny_holding (wpAny_call_entry slot_list_sort ⟨_,hoL,rfl⟩ entry_list_sort (list_sort_treeK strKind_oneLt hoL hS.keysOf (fun v₁ v₂ rest e=>keyKind_strs (by rw [<-e];exact hS)) hl fun st' a1 a2=>⟨_,rfl,?_⟩) (args_list_sort _)))
 obtain⟨ss',b1,b2,b3⟩:=sorted_out_str hS a1 a2
 obtain⟨e,he⟩:=sortedHeap_at (out:=(arrOf st').map (·.2)) hoL
 refine wpAny_pure ⟨_,rfl,q _ tk d _ _ ss' e (fun b o ho=>?_) hsz he b1 (b2.trans p1) b3⟩
 have h1:=hkeep b o ho
 have hlt:=Heap.lt_size h1
 rw [sortedHeap_old (Nat.ne_of_lt hlt) (by rw [size_push'];exact Nat.lt_succ_of_lt hlt)]
 exact Heap.get?_push_of_some _ h1
end
def si (P:Program) (w:World) (a:Addr) (ks:List Key):HO:=.ext fun h=>fF (aT P w) h a ks
theorem Af {P:Program} {w:World} {H:Hp} {h:Heap} {a:Addr} {ks:List Key} (S:fF (aT P w) h a ks):bP P w H h a (si P w a ks) :=
 ⟨S,let ⟨o,_,_,_,S⟩:=S;⟨o,S.at_⟩,fun h1 h2 S k=>S.keep k⟩
section
variable {X:Cx} {pins:List (Addr × Obj)} {σ : List (Option V)} {H:Hp} {s:Shared}
theorem Inv.C6 {a:Addr} {ks:List Key} (I:Inv X pins σ H s) (h:H a=some (si X.prog X.w a ks)):fF (aT X.prog X.w) s.heap a ks:=(I.aN a _ h).1
theorem Inv.Ag {d:_} (I:Inv X pins σ H s):Inv X pins σ H { s with drawn:=d }:=⟨I.ok,I.os,I.bare,I.base,I.loc,I.cell,I.free,I.en,I.pin,I.aN,I.len⟩
theorem qt (hc:X.calm=true):eR X (.builtin "sorted") (fun vs H Q=>∃ (a:Addr) (ss:List Str),vs = [.ref a]/\H a=some (si X.prog X.w a (ss.map Sum.inr))/\ss.length < 64 /\
  ∀ (l:Addr) (ss':List Str),ss'.Perm ss->sortedS ss' = true->H l=none->Q (.ref l) (upd H l (.lst (ss'.map V.str)))):=by
 intro pins s σ H xs us Q I r h
 obtain⟨a,ss,rfl,ha,h64,q⟩:=h
 obtain⟨u,rfl,ru⟩:=vals1 r
 cases (show u=Value.ref a from ru)
 obtain⟨o,es,ep,t,S⟩:=I.C6 ha
 refine tO (I.ok.hd hc) S h64 fun h' tk d D out ss' e hkeep hD he hS hp hs=>?_
 have hv:Vals (ss'.map V.str) out.toList:=oQ hS
 refine⟨.ref D,_,(I.Ag (d:=d)).laid (t':=tk) (o:=.lst (ss'.map V.str)) hkeep hD (show bP X.prog X.w _ h' _ (.lst (ss'.map V.str)) from ⟨?_,out.toList,e,hv,by simpa using he⟩),rfl,q D ss' hp hs (I.aN.fresh hD)⟩
 rw [List.length_map,hp.length_eq]
 exact Nat.le_trans (Nat.le_of_lt h64) (by decide)
end
end L2
namespace LS
open PySem PySem.Spec PyProof.Rows L2
section
variable {K:Type} [DecidableEq K]
def putIn (acc:List K) (k:K):List K:=if k ∈ acc then acc else acc ++ [k]
def dC (ms:List K):List K:=ms.foldl putIn []
theorem xb {acc:List K} {k x:K}:x ∈ putIn acc k ↔ x ∈ acc\/x=k:=by
 unfold putIn
 split
 ·rename_i h
  exact⟨.inl,fun z=>z.elim id (fun e=>e ▸ h)⟩
 ·simp
theorem xc (acc:List K) (k:K):(putIn acc k).length<=acc.length+1:=by unfold putIn;split <;> simp
theorem sj:∀ (ms acc:List K) (x:K),x ∈ ms.foldl putIn acc ↔ x ∈ acc\/x ∈ ms
 | [],acc,x=>by simp
 | k :: ms,acc,x=>by
  rw [List.foldl_cons,sj ms,xb]
  simp [or_assoc]
theorem pU {ms:List K} {x:K}:x ∈ dC ms ↔ x ∈ ms:=by unfold dC;rw [sj];simp
theorem sk:∀ (ms acc:List K),(ms.foldl putIn acc).length<=acc.length+ms.length
 | [],acc=>by simp
 | k :: ms,acc=>by
  rw [List.foldl_cons]
  have:=sk ms (putIn acc k)
  have:=xc acc k
  simp only [List.length_cons];omega
theorem uJ:∀ (ms acc:List K),acc.Nodup->(ms.foldl putIn acc).Nodup
 | [],acc,h=>h
 | k :: ms,acc,h=>by
  rw [List.foldl_cons]
  refine uJ ms _ ?_
  unfold putIn
  split
  ·exact h
  ·rename_i hn
   rw [List.nodup_append]
   exact⟨h,by simp,fun a ha b hb e=>hn (by rw [List.mem_singleton] at hb;rw [<-hb,<-e];exact ha)⟩
theorem sr (ms:List K):(dC ms).Nodup:=uJ ms [] List.nodup_nil
end
section
variable {prog:Program} {w:World} {A:Around} {E:Value->Shared->Prop} {s:Shared}
theorem yK {k:Key} {v:Value} (h:(aT prog w).is k v=true):v.scannable=true:=by
 rcases cM (show iy k v=true from h) with ⟨j,t,_,rfl⟩ | ⟨x,t,_,rfl⟩ <;> rfl
theorem Ah {a:Addr} {ks:List Key} {k:Key} {v:Value} {Q:Bool->Shared->Prop} (hk:(aT prog w).is k v=true) (S:fF (aT prog w) s.heap a ks) (room:ks.length+1 < scanBound)
  (q:∀ h',Heap.SameBut a s.heap h'->fF (aT prog w) h' a (putIn ks k)->∀ c:Bool,Q c { s with heap:=h',toks:=s.toks+1 }):wpAny (model prog w) A (setAdd a v) Q E s:=by
 unfold setAdd
 refine wpAny_holding ?_
 refine wpAny_bind ((aT prog w).pyHash hk ?_)
 exact vw (s:={ s with toks:=s.toks+1 }) hk (yK hk) S room fun h' b S'=>q h' b S' _
theorem xf {I L:Addr} {fp wr:List Addr} {G:Array GenState->Array GenState->Prop} {n:Nat} {P:Nat->Value->Prop} {St:Nat->Shared->Prop} {R:Result->Shared->Prop} (W:WalksS prog w A.in1 I fp wr G n P St) (hLf:L ∉ fp)
  (ms:List Key) (hl:ms.length=n) (hm:∀ i v,P i v->∃ k,ms[i]? = some k/\(aT prog w).is k v=true) (hb:n+1 < scanBound) :
  ∀ (k i:Nat) (s:Shared),n - i=k->i<=n->St i s->fF (aT prog w) s.heap L (dC (ms.take i)) ->
   (∀ s',Moved (L :: wr) G s s'->fF (aT prog w) s'.heap L (dC ms)->R (.ok (.ret .none)) s') ->
   codeAny (model prog w) A (.builtin "set.update.loop" ⟨[.ref L,.ref I],[]⟩) R s:=by
 have hLw:L ∉ wr:=fun h=>hLf (W.sub _ h)
 intro k
 induction k with
 | zero =>
  intro i s hk hi st S q
  have e:i=n:=by omega
  subst e
  refine codeAny_builtin PyProof.Rows.F.entry_set_update_loop ?_
  rw [Around.under_plainId PyProof.Rows.F.plain_set_update_loop _]
  show wpAny _ A.in1 (pyNext (.ref I) >>= _) _ _ s
  refine wpAny_bind (W.done s _ _ st fun s' mv=>?_)
  refine wpAny_pure (q s' (mv.mono fun b hb=>List.mem_cons_of_mem _ hb) ?_)
  rw [List.take_of_length_le (by omega)] at S
  exact S.keep fun o e=>mv.heap L _ hLw e
 | succ k ih =>
  intro i s hk hi st S q
  have hlt:i < n:=by omega
  refine codeAny_builtin PyProof.Rows.F.entry_set_update_loop ?_
  rw [Around.under_plainId PyProof.Rows.F.plain_set_update_loop _]
  show wpAny _ A.in1 (pyNext (.ref I) >>= _) _ _ s
  refine wpAny_bind (W.item i s _ _ hlt st fun v s' hP st' mv=>?_)
  obtain⟨key,hkey,his⟩:=hm i v hP
  have S':fF (aT prog w) s'.heap L (dC (ms.take i)):=S.keep fun o e=>mv.heap L _ hLw e
  refine wpAny_bind (wpAny_holding (Ah his S' ?_ fun h' sb S2 _=>?_))
  ·have h1:=sk (ms.take i) []
   have h2:(ms.take i).length<=i:=by rw [List.length_take];omega
   have h3:(dC (ms.take i)).length<=0+(ms.take i).length:=h1
   omega
  ·have e1:putIn (dC (ms.take i)) key=dC (ms.take (i+1)):=by
    unfold dC
    rw [List.take_add_one,hkey,List.foldl_append];rfl
   rw [e1] at S2
   refine wpAny_pure ⟨plainId_quiet PyProof.Rows.F.plain_set_update_loop _,ih (i+1) _ (by omega) hlt (W.frame _ s' _ _ st' (Nat.le_succ _) fun b hb o e=>?_) S2 fun s'' mv2 S3=>?_⟩
   ·rw [sb.2 b (fun h:b=L=>hLf (by rw [<-h];exact hb))];exact e
   ·refine q s'' (Moved.trans W.gtrans ((mv.mono fun b hb=>List.mem_cons_of_mem _ hb).then_heap (Nat.le_succ _) fun b o hb e=>?_) mv2) S3
    rw [sb.2 b (fun h:b=L=>hb (by rw [h];exact List.mem_cons_self))];exact e
end
theorem j4 {α β : Type} {F:α->β->Prop}:∀ {l:List α} {m:List β},Paired F l m->∀ {i:Nat} {x:α},l[i]? = some x->∃ y,m[i]? = some y/\F x y
 | _,_,.nil,i,x,e=>by simp at e
 | _,_,.cons r _,0,x,e=>by simp at e;subst e;exact⟨_,rfl,r⟩
 | _,_,.cons _ t,i+1,x,e=>by simpa using j4 t (i:=i) (x:=x) (by simpa using e)
def eI (w:World):Obj:={ cls:=.type "set",dict:=none,data:=.set #[] 0 (.fresh 0 0 (!(w.params.followText "set-order"))) }
section
variable {prog:Program} {w:World} {A:Around} {E:Value->Shared->Prop} {s:Shared}
theorem xg (rest:List Value) (hc:checkBuiltinCall "set.__new__" ⟨.type "set" :: rest,[]⟩=pure ()) {Q:Value->Shared->Prop} (q:Q (.ref s.heap.objs.size) { s with heap:=s.heap.push (eI w) }) :
  codeAny (model prog w) A (.call (.builtin "set.__new__") ⟨.type "set" :: rest,[]⟩) (wants Q E) s:=by
 refine codeAny_of_tree ?_
 show wpAny _ A.in1 (checkBuiltinCall "set.__new__" ⟨.type "set" :: rest,[]⟩ >>= fun _=>again (.builtin "set.__new__" ⟨.type "set" :: rest,[]⟩)) _ _ s
 refine wpAny_bind (wpAny_of_eq hc (wpAny_pure ⟨plainId_quiet PySem.F.plain_set_new _,codeAny_builtin PySem.F.entry_set_new ?_⟩))
 rw [Around.under_plainId PySem.F.plain_set_new _]
 unfold Builtin.«set.__new__» Builtin.Frozenset.newClass
 have hsub:=sub_set_self
 obtain⟨hp,g,d,tk,os⟩:=s
 dsimp only
 wp_walk
 refine wpAny_askSetting (wpAny_pure ?_)
 dsimp only
 simp only [newObj]
 refine wpAny_bind (wpAny_alloc (wpAny_pure ?_))
 exact wpAny_pure q
theorem yM {rest:List Value} {Q:Value->Shared->Prop} (hct:checkTypeCall "set" ⟨rest,[]⟩=pure ()) (hcn:checkBuiltinCall "set.__new__" ⟨.type "set" :: rest,[]⟩=pure ())
  (hci:∀ (M:Model) (A:Around) (E:Value->Shared->Prop) (s':Shared) (Q':Unit->Shared->Prop),s'.TypeIs (.ref s.heap.objs.size) "set" -> Q' () s'->wpAny M A (checkBuiltinCall "set.__init__" ⟨.ref s.heap.objs.size :: rest,[]⟩) Q' E s')
  (init:∀ (R:Result->Shared->Prop),(∀ h' tk,(∀ b o,s.heap.get? b=some o->h'.get? b=some o)->Q (.ref s.heap.objs.size) { s with heap:=h',toks:=tk }->R (.ok (.ret .none)) { s with heap:=h',toks:=tk }) ->
   wpAny (model prog w) A.in1.in1 (Builtin.«set.__init__» ⟨.ref s.heap.objs.size :: rest,[]⟩) (fun fin s'=>match fin with | .done f=>R (.ok f) s' | .again c'=>c'.quiet=true/\codeAny (model prog w) A.in1 c' R s') (fun e s'=>R (.error e) s')
    { s with heap:=s.heap.push (eI w) }) :
  wpAny (model prog w) A (call (.type "set") rest) Q E s:=by
 obtain⟨c,tl,hmro⟩:=PySem.F.called_set.mro
 have hmade:=PySem.F.called_set.made
 have hsub:=PySem.F.called_set.sub
 refine wpAny_call (codeAny_of_tree ?_)
 show wpAny _ _ (callAny (.type "set") _) _ _ _
 refine wpAny_pure ⟨Code.quiet_builtin _ (by decide +kernel),codeAny_builtin PySem.F.entry_type_call ?_⟩
 rw [Around.under_plain (weight_type_call_type "set" rest []) rfl]
 have h1:=PySem.F.called_set.notType
 have h2:=PySem.F.called_set.canCreate
 repeat (any_goals (first | assumption | wp_step))
 refine codeAny_mono (xg (w:=w) rest hcn (E:=E) (Q:=fun obj s₁=>obj=.ref s.heap.objs.size/\s₁ = { s with heap:=s.heap.push (eI w) }) ⟨rfl,rfl⟩) fun r s₁ hr=>?_
 cases r with
 | error e=>exact hr
 | ok fl =>
  cases fl with
  | ret obj =>
   obtain⟨rfl,rfl⟩:=hr
   have hS:(s.heap.push (eI w)).get? s.heap.objs.size=some (eI w):=Heap.get?_push_size _ rfl
   have hT:Shared.TypeIs { s with heap:=s.heap.push (eI w) } (.ref s.heap.objs.size) "set" := ⟨_,hS,rfl⟩
   have hli:=PySem.F.called_set.init.lookup
   have hbi:=PySem.F.called_set.init.bind (.ref s.heap.objs.size)
   repeat (any_goals (first | assumption | wp_step))
   refine codeAny_mono (codeAny_call_builtin (R:=wants (fun r s₂=>r=.none/\Q (.ref s.heap.objs.size) s₂) E) PySem.F.called_set.init.plain PySem.F.entry_set_init (hci _ _ _ _ _ hT (init _ fun h' tk _ q=>⟨rfl,q⟩))) fun r₂ s₂ hr₂=>?_
   cases r₂ with
   | error e=>exact hr₂
   | ok fl₂ =>
    cases fl₂ with
    | ret r =>
     obtain⟨rfl,hq⟩:=hr₂
     repeat (any_goals (first | assumption | wp_step))
    | _=>exact hr₂.elim
  | _=>exact hr.elim
theorem set_list {l:Addr} {items:Array Value} {ms:List Key} {Q:Value->Shared->Prop} (hh:A.handled=none) (hl:s.heap.IsList l items) (hm:Paired (fun v k=>(aT prog w).is k v=true) items.toList ms) (hb:items.size+1 < scanBound)
  (q:∀ h' tk,fF (aT prog w) h' s.heap.objs.size (dC ms)->(∀ b o,s.heap.get? b=some o->h'.get? b=some o)->Q (.ref s.heap.objs.size) { s with heap:=h',toks:=tk }):wpAny (model prog w) A (call (.type "set") [.ref l]) Q E s:=by
 refine yM (PySem.F.typeCall_set_1 _) (PySem.F.newCall_set_1 _) (fun M A E s' Q' hT q'=>check_set_init_1 hT q') fun R fin=>?_
 have hS:(s.heap.push (eI w)).get? s.heap.objs.size=some (eI w):=Heap.get?_push_size _ rfl
 have hT:Shared.TypeIs { s with heap:=s.heap.push (eI w) } (.ref s.heap.objs.size) "set" := ⟨_,hS,rfl⟩
 have hz:(s.heap.push (eI w)).objs.size=s.heap.objs.size+1:=Heap.size_push _ _
 obtain⟨ol,hol,hcl,nl,hdl⟩:=id hl
 obtain⟨ocls,odict,odata,oslots⟩:=ol
 simp only at hcl hdl
 subst hcl
 subst hdl
 have hol':(s.heap.push (eI w)).get? l=some { cls:=.type "list",dict:=odict,data:=.seq items nl,slots:=oslots }:=Heap.get?_push_of_some _ hol
 have hsls:=PySem.F.sub_list_set
 have hslf:=PySem.F.sub_list_frozenset
 have hne:(Value.type "list" == Value.type "dict")=false:=by decide
 have hl1:(s.heap.push (eI w)).IsList l items:=⟨_,hol',rfl,nl,rfl⟩
 have hlS:l < s.heap.objs.size:=Heap.lt_size hol
 unfold eI at hS hT hz hol' hl1 ⊢
 unfold Builtin.«set.__init__» noKeywords Builtin.Frozenset.updateFrom
 generalize hPI:pyIter=PI
 wp_walk
 subst hPI
 refine wpAny_pyIter_list hl1 ?_
 refine wpAny_bind (wpAny_runValue ?_)
 have hh3:A.in1.in1.in1.handled=none:=by simp [hh]
 refine xf (L:=s.heap.objs.size) ((Walks.list hh3 _ l ?_ items).toS) ?_ ms ?_ (fun i v hv=>?_) hb (items.size - 0) 0 _ (by omega) (Nat.zero_le _) ⟨⟨_,Heap.get?_push_size _ rfl,rfl,rfl⟩,(hl1.push _)⟩ ?_ fun s' mv S'=>?_
 ·rw [hz];exact Nat.ne_of_lt (Nat.lt_succ_of_lt hlS)
 ·rw [hz]
  intro hmem
  rcases lh hmem with e | e
  ·exact absurd e (Nat.ne_of_lt (Nat.lt_succ_self _))
  ·exact absurd e (Nat.ne_of_gt hlS)
 ·rw [<-hm.length,Array.length_toList]
 ·have hv':items.toList[i]? = some v:=by rw [Array.getElem?_toList];exact hv
  exact j4 hm hv'
 ·exact w4 rfl (Heap.get?_push_of_some _ hS)
 ·obtain⟨h',g',d',tk',os'⟩:=s'
  have eg:g' = s.gens:=mv.gens
  have ed:d' = s.drawn:=mv.drawn
  have eo:os' = s.os:=mv.os
  subst eg;subst ed;subst eo
  have kp:∀ b o,s.heap.get? b=some o->h'.get? b=some o:=fun b o e=>mv.heap b o (fun hm=>by
   rcases lh hm with e' | e'
   ·exact absurd e' (Nat.ne_of_lt (Heap.lt_size e))
   ·rw [hz] at e';exact absurd e' (Nat.ne_of_lt (Nat.lt_succ_of_lt (Heap.lt_size e)))) (Heap.get?_push_of_some _ (Heap.get?_push_of_some _ e))
  show wpAny _ _ _ _ _ _
  refine wpAny_pure ?_
  exact wpAny_pure (fin h' tk' kp (q h' tk' S' kp))
end
end LS
namespace L2
open PySem PySem.Spec PyProof.Rows LS
theorem Bk:bootBuiltins "set" = some (.type "set"):=by decide +kernel
theorem Ai {P:Program} {w:World} {k:Key} {v:Value} (r:RelV (kV k) v):(aT P w).is k v=true:=by
 cases k with
 | inl i=>obtain⟨t,rfl⟩:=r;exact mI P w i t
 | inr x=>obtain⟨t,rfl⟩:=r;exact mJ P w x t
theorem mM {P:Program} {w:World}:∀ {ks:List Key} {us:List Value},Vals (ks.map kV) us->Paired (fun v k=>(aT P w).is k v=true) us ks
 | [],_,.nil=>.nil
 | k :: ks,_,.cons r t=>.cons (Ai r) (mM t)
section
variable {X:Cx}
theorem Inv.Bm {pins:List (Addr × Obj)} {σ : List (Option V)} {H:Hp} {s:Shared} {n:Nat} (I:Inv X pins σ H s):Inv X pins σ H { s with toks:=n }:=⟨I.ok,I.os,I.bare,I.base,I.loc,I.cell,I.free,I.en,I.pin,I.aN,I.len⟩
theorem xh (hc:X.calm=true):eR X (.type "set") (fun vs H Q=>∃ (p:Addr) (ks:List Key),vs = [.ref p]/\aP X.K H p (ks.map kV)/\ks.length+1 < scanBound/\∀ l,H l=none->Q (.ref l) (upd H l (si X.prog X.w l (dC ks)))):=by
 intro pins s σ H xs us Q I r h
 obtain⟨p,ks,rfl,hp,hz,q⟩:=h
 obtain⟨u,rfl,ru⟩:=vals1 r
 cases (show u=Value.ref p from ru)
 obtain⟨its,hv,pl,_⟩:=I.list hp
 have hm:=mM (P:=X.prog) (w:=X.w) hv
 refine LS.set_list (I.ok.hd hc) pl.isList (by simpa using hm) (by have:=hm.length;simp at this ⊢;omega) fun h' tk S kp=>?_
 exact⟨.ref s.heap.objs.size,_,I.laid (t':=tk) kp (Nat.le_refl _) (Af S),rfl,q _ I.fresh⟩
variable {o e:Expr} {es:List Expr} {to:TE} {t:TA} {name:Str} {apos cpos:Pos} {id:String} {r:V->List V->Hp->VK->Prop}
end
structure qP (K:PySem.W.Frag) (mg:Str->Option Value) (aD d0 d1 d2 d3 d4:Addr):Prop where
 tab:yy K mg "DEED_PARTS" aD [("put",d0),("copy",d1),("add",d2),("read",d3),("tell",d4)]
 q0:KTup K d0 ["name", "number"]
 q1:KTup K d1 ["name", "name"]
 q2:KTup K d2 ["name", "number"]
 q3:KTup K d3 ["name"]
 q4:KTup K d4 ["name"]
def dE:cK->List Str
 | .put x _=>[x]
 | .copy x y=>[x,y]
 | .add x _=>[x]
 | .read x=>[x]
 | .tell x=>[x]
def iV:End->List Str
 | .dA _ x _ _ _=>[x]
 | _=>[]
def pNames (p:Piece):List Str:=p.1.flatMap dE++iV p.2
def bM (ps:List Piece):List Str:=ps.flatMap pNames
def kD:cK->List Str
 | .put ..=>["name", "number"]
 | .copy ..=>["name", "name"]
 | .add ..=>["name", "number"]
 | .read ..=>["name"]
 | .tell ..=>["name"]
def wD:cK->Str
 | .put .. => "put"
 | .copy .. => "copy"
 | .add .. => "add"
 | .read .. => "read"
 | .tell .. => "tell"
theorem vC (d:cK):∃ xs,qO d=.str (wD d) :: xs/\xs.length<=1000/\pick "name" xs (kD d)=(dE d).map V.str:=by
 have h2:¬ ("number" : Str) = "name" := by decide +kernel
 cases d with
 | put x n=>exact⟨_,rfl,by show 2<=1000;decide,by simp [pick,kD,dE,h2]⟩
 | copy x y=>exact⟨_,rfl,by show 2<=1000;decide,by simp [pick,kD,dE]⟩
 | add x n=>exact⟨_,rfl,by show 2<=1000;decide,by simp [pick,kD,dE,h2]⟩
 | read x=>exact⟨_,rfl,by show 1<=1000;decide,by simp [pick,kD,dE]⟩
 | tell x=>exact⟨_,rfl,by show 1<=1000;decide,by simp [pick,kD,dE]⟩
theorem vD (e:End):∃ xs,gI e=.str (wE e) :: xs/\xs.length<=1000/\pick "name" xs (kE e)=(iV e).map V.str:=by
 have h1:¬ ("piece" : Str) = "name" := by decide +kernel
 have h2:¬ ("number" : Str) = "name" := by decide +kernel
 cases e with
 | stop=>exact⟨[],rfl,by decide,rfl⟩
 | go p=>exact⟨_,rfl,by show 1<=1000;decide,by simp [pick,kE,iV,h1]⟩
 | dA b x n p q=>exact⟨_,rfl,by show 4<=1000;decide,by simp [pick,kE,iV,h1,h2]⟩
theorem jM {k:Str} {d:Addr} {D:List (Str × Addr)}:KTD.datumAt k ((k,d) :: D)=some d:=by
 show (if decide (k=k)=true then some d else KTD.datumAt k D)=some d
 rw [if_pos (decide_eq_true rfl)]
theorem ef {k x:Str} {d:Addr} {D:List (Str × Addr)} {o:Option Addr} (h:¬ k=x) (e:KTD.datumAt k D=o):KTD.datumAt k ((x,d) :: D)=o:=by
 show (if decide (k=x)=true then some d else KTD.datumAt k D)=o
 rw [if_neg (by rw [decide_eq_false h];decide)]
 exact e
theorem qP.at_ {K:PySem.W.Frag} {mg:Str->Option Value} {aD d0 d1 d2 d3 d4:Addr} (G:qP K mg aD d0 d1 d2 d3 d4) (d:cK) :
  ∃ s,KTD.datumAt (wD d) [(("put" : Str),d0),("copy",d1),("add",d2),("read",d3),("tell",d4)] = some s/\KTup K s (kD d):=by
 cases d with
 | put x n=>exact⟨d0,jM,G.q0⟩
 | copy x y=>exact⟨d1,ef (show ¬ (("copy" : Str) = "put") by decide +kernel) jM,G.q1⟩
 | add x n=>exact⟨d2,ef (show ¬ (("add" : Str) = "put") by decide +kernel) (ef (show ¬ (("add" : Str) = "copy") by decide +kernel) jM),G.q2⟩
 | read x=>exact⟨d3,ef (show ¬ (("read" : Str) = "put") by decide +kernel) (ef (show ¬ (("read" : Str) = "copy") by decide +kernel) (ef (show ¬ (("read" : Str) = "add") by decide +kernel) jM)),G.q3⟩
 | tell x=>exact⟨d4,ef (show ¬ (("tell" : Str) = "put") by decide +kernel) (ef (show ¬ (("tell" : Str) = "copy") by decide +kernel) (ef (show ¬ (("tell" : Str) = "add") by decide +kernel) (ef (show ¬ (("tell" : Str) = "read") by decide +kernel) jM))),G.q4⟩
theorem yN (acc ys:List Str):(ys.map (Sum.inr:Str->Key)).foldl LS.putIn (acc.map Sum.inr)=(ys.foldl LS.putIn acc).map Sum.inr:=by
 induction ys generalizing acc with
 | nil=>rfl
 | cons y ys ih =>
  rw [List.map_cons,List.foldl_cons,List.foldl_cons,<-ih]
  congr 1
  unfold LS.putIn
  by_cases h:y ∈ acc
  ·rw [if_pos h,if_pos (List.mem_map.mpr ⟨y,h,rfl⟩)]
  ·rw [if_neg h,if_neg (fun z=>by obtain⟨x,hx,e⟩:=List.mem_map.mp z;cases e;exact h hx),List.map_append];rfl
theorem vE (ys:List Str):dC (ys.map (Sum.inr:Str->Key))=(dC ys).map Sum.inr:=yN [] ys
theorem Aj (ys:List Str):(ys.map (Sum.inr:Str->Key)).map kV=ys.map V.str:=by rw [List.map_map];rfl
theorem pV {xs:List Str} {m:Nat} {ps:List Piece} (ok:cR xs m ps):∀ x ∈ bM ps,x ∈ xs:=fun x hx=>by
 obtain⟨p,hp,hx⟩:=List.mem_flatMap.mp hx
 rcases List.mem_append.mp hx with h | h
 ·obtain⟨d,hd,h⟩:=List.mem_flatMap.mp h
  have dk:=(ok.gS p hp).2 d hd
  cases d with
  | put a n=>rw [List.mem_singleton.mp h];exact dk.1
  | copy a b =>
   rcases List.mem_cons.mp h with rfl | h
   ·exact dk.1
   ·rw [List.mem_singleton.mp h];exact dk.2
  | add a n=>rw [List.mem_singleton.mp h];exact dk.1
  | read a=>rw [List.mem_singleton.mp h];exact dk
  | tell a=>rw [List.mem_singleton.mp h];exact dk
 ·have ek:=ok.ends p hp
  obtain⟨ds,e⟩:=p
  cases e with
  | stop=>cases h
  | go q=>cases h
  | dA b a n q r=>rw [List.mem_singleton.mp h];exact ek.1
theorem pW {α β : Type} {l:List α} {f:α->List β} {i:Nat} {x:α} (h:l[i]? = some x):(l.take (i+1)).flatMap f=(l.take i).flatMap f++f x:=by
 rw [List.take_add_one,h,List.flatMap_append];simp
theorem kB {α β : Type} {l:List α} {f:α->List β} (i:Nat):((l.take i).flatMap f).length<=(l.flatMap f).length:=by
 conv=>rhs;rw [<-List.take_append_drop i l,List.flatMap_append,List.length_append]
 exact Nat.le_add_right _ _
inductive pX  (vs:List V) (H:Hp) (Q:VK) (_:XK):Prop
 | mk (plv:V) (ps:List Piece) (xs:List Str) (m:Nat) (_:vs = [plv]) (_:bE H plv (fW ps)) (_:cR xs m ps) (_:xs.length < 64) (_:(bM ps).length<=4000) (_:∀ (t:Addr) (ss:List Str) (H':Hp),H' t=some (.tup (ss.map V.str))->ss.Perm (dC (bM ps))->sortedS ss=true->ss.length < 64->ae H H'->Q (.ref t) H')
theorem yO {xs:List Str} {m:Nat} {ps:List Piece} (ok:cR xs m ps):(dC (bM ps)).length<=xs.length :=
 sub_len (sr _) fun x hx=>pV ok x (pU.mp hx)
end L2
namespace PySem
theorem qu:typeLookup (.type "tuple") "keys" = pure none:=by rw [typeLookup_type,builtinLookup_eq_fast];kernel_rfl
section
variable {prog:Program} {w:World} {A:Around} {E:Value->Shared->Prop} {s:Shared}
theorem qw {a:Addr} {xs:Array Value} {k:Nat} {sl:Array (Option Value)} {name:Str} {u:Tok} {Q:Value->Shared->Prop} (hx:s.heap.get? a=some { cls:=.type "tuple",dict:=none,data:=.seq xs k,slots:=sl })
  (miss:typeLookup (.type "tuple") name=pure none) (plain:(["__module__", "__name__", "__qualname__", "__doc__", "__annotations__"]:List Str).contains name=false) (calm:A.handled=none) (fits:name.length+100<=sizeLine)
  (fin:∀ g tk e,Heap.NewExcOf s.heap g e "AttributeError" -> E (.ref e) { s with heap:=g,toks:=tk }):wpAny (model prog w) A (getAttrBy (.ref a) (.str name u) false) Q E s:=by
 obtain⟨hp,gs,dr,tk,os⟩:=s
 have hT:∀ tk',(⟨hp,gs,dr,tk',os⟩:Shared).TypeIs (.ref a) "tuple" := fun _=>⟨_,hx,rfl⟩
 have f1:=sub_AttributeError
 have f3:=F.slot_tuple_getattribute.lookup
 have f4:=F.slot_tuple_getattribute.bind (.ref a)
 have f5:=am_tuple_getattr_none
 unfold getAttrBy
 repeat (any_goals (first | exact hT _ | assumption | ((with_reducible show wpAny _ _ (call (Value.builtin "tuple.__getattribute__") _ _) _ _ _);refine call_meets F.slot_tuple_getattribute (hT _) am_entry_tuple_getattribute (F.args_tuple_getattribute_2 _ _) (meets_getattribute_miss_tuple a xs k sl name _ miss plain fits) ⟨hx,calm,fun g t e ne=>?_⟩) | wp_step))
 obtain⟨t',u',there⟩:=ne.there
 show wpAny _ _ (getattributeRaised _ _ _ _ _ _ _) _ _ _
 unfold getattributeRaised
 repeat (any_goals (first | wp_step | assumption))
 exact fin g _ e ne.of
theorem nW {a:Addr} {xs:Array Value} {k:Nat} {sl:Array (Option Value)} {Q:Option Value->Shared->Prop} (hx:s.heap.get? a=some { cls:=.type "tuple",dict:=none,data:=.seq xs k,slots:=sl }) (calm:A.handled=none)
  (fin:∀ g tk,(∀ b o,s.heap.get? b=some o->g.get? b=some o)->Q none { s with heap:=g,toks:=tk }):wpAny (model prog w) A (getAttr? (.ref a) "keys") Q E s:=by
 unfold getAttr? getAttrBy?
 refine wpAny_bind (wpAny_mkText ?_)
 refine wpAny_bind (wpAny_attempt ?_)
 refine qw (s:={ s with toks:=s.toks+1 }) hx qu (by decide +kernel) calm (by decide +kernel) fun g tk e ne=>?_
 obtain⟨ob,vs,he,hc,_⟩:=ne.there
 have hT:({ s with heap:=g,toks:=tk }:Shared).TypeIs (.ref e) "AttributeError" := ⟨ob,he,hc⟩
 refine wpAny_bind (wpAny_isInstance hT sub_AttributeError ?_)
 exact wpAny_pure (fin g tk ne.keeps)
end
end PySem
namespace PySem
theorem jN:entryFor table "dict.update.loop" = some Builtin.«dict.update.loop»:=entryFor_of_tree (by kernel_rfl)
theorem fD:plainId "dict.update.loop" = true:=by decide +kernel
section
variable {prog:Program} {w:World} {K:Type} [DecidableEq K] {knd:KeyKind prog w K} {A:Around} {s:Shared}
def sy (knd:KeyKind prog w K) (h:Heap) (q:Addr) (p:K × Value):Prop:=∃ key n sl,h.get? q=some { cls:=.type "tuple",dict:=none,data:=.seq #[key,p.2] n,slots:=sl }/\knd.is p.1 key=true
theorem qx {E:Value->Shared->Prop} {q:Addr} {x y:Value} {n:Nat} {sl:Array (Option Value)} {Q:List Value->Shared->Prop} (hq:s.heap.get? q=some { cls:=.type "tuple",dict:=none,data:=.seq #[x,y] n,slots:=sl })
  (fin:Q [x,y] s):wpAny (model prog w) A (Builtin.Dict.pairItems (.ref q)) Q E s:=by
 have hT:s.TypeIs (.ref q) "tuple" := ⟨_,hq,rfl⟩
 unfold Builtin.Dict.pairItems
 refine wpAny_bind (wpAny_typeOf hT ?_)
 rw [if_pos (by decide)]
 unfold seqItems?
 obtain⟨hp,gs,dr,tk,os⟩:=s
 repeat (any_goals (first | wp_step | assumption))
theorem vF {E:Value->Shared->Prop} {d I ax:Addr} {items:Array Value} {rs:List (K × Value)} {R:Result->Shared->Prop} {h0:Heap} (calm:A.handled=none) (ndI:d ≠ I) (nda:d ≠ ax) (nax:ax ≠ I) (len:rs.length=items.size) (bO:rs.length<=sizeLine)
  (pairs:∀ (i:Nat) (p:K × Value),rs[i]? = some p->∃ q,items[i]? = some (.ref q)/\q ≠ d/\q ≠ I/\sy knd h0 q p)
  (fin:∀ (g:Heap) (tk:Nat),g.DictOf knd d (merged [] rs)->(∀ b o,b ≠ d->b ≠ I->h0.get? b=some o->g.get? b=some o)->R (.ok (.ret .none)) { s with heap:=g,toks:=tk }) :
  ∀ (m i:Nat) (h:Heap) (tk:Nat) (t:Tok),rs.length - i=m->i<=rs.length->h.IsTupleIter I ax i->h.IsTuple ax items->h.DictOf knd d (merged [] (rs.take i))->(∀ b o,b ≠ d->b ≠ I->h0.get? b=some o->h.get? b=some o) ->
   codeAny (model prog w) A (.builtin "dict.update.loop" ⟨[.ref d,.ref I,.int i t,.none],[]⟩) R { s with heap:=h,toks:=tk }:=by
 have W:=Walks.tuple (prog:=prog) (w:=w) (A:=A.in1) calm I ax nax items
 intro m
 induction m with
 | zero =>
  intro i h tk t em hi it ta dd kp
  have ei:i=rs.length:=by omega
  subst ei
  refine codeAny_builtin jN ?_
  rw [Around.under_plainId fD _]
  show wpAny _ A.in1 (pyNext (.ref I) >>= _) _ _ _
  refine wpAny_bind (W.done { s with heap:=h,toks:=tk } _ _ ⟨by rw [<-len];exact it,ta⟩ fun g tk' kg=>?_)
  show wpAny _ A.in1 (Builtin.Dict.addKeywords d [] >>= fun _=>ret Value.none) _ _ _
  refine wpAny_bind (wpAny_pure ?_)
  refine wpAny_pure (fin g tk' ?_ fun b o n1 n2 e=>kg b o (by simpa using n2) (kp b o n1 n2 e))
  rw [List.take_length] at dd
  obtain⟨ob,es,ep,ho,rest⟩:=dd
  exact⟨ob,es,ep,kg d ob (by simpa using ndI) ho,rest⟩
 | succ m ih =>
  intro i h tk t em hi it ta dd kp
  have hlt:i < rs.length:=by omega
  have hp:rs[i]? = some rs[i]:=by simp [hlt]
  generalize rs[i] = p at hp
  obtain⟨q,hq,nqd,nqI,key,n,sl,hqo,hkey⟩:=pairs i p hp
  refine codeAny_builtin jN ?_
  rw [Around.under_plainId fD _]
  show wpAny _ A.in1 (pyNext (.ref I) >>= _) _ _ _
  refine wpAny_bind (W.item i { s with heap:=h,toks:=tk } _ _ (by omega) ⟨it,ta⟩ fun v g tk' hv st kg=>?_)
  rw [hq] at hv
  cases hv
  have kp':∀ b o,b ≠ d->b ≠ I->h0.get? b=some o->g.get? b=some o:=fun b o n1 n2 e=>kg b o (by simpa using n2) (kp b o n1 n2 e)
  refine wpAny_bind (wpAny_holding (wpAny_bind (wpAny_tryCatch (qx (kp' q _ nqd nqI hqo) ?_))))
  have dd':g.DictOf knd d (merged [] (rs.take i)):=by
   obtain⟨ob,es,ep,ho,rest⟩:=dd
   exact⟨ob,es,ep,kg d ob (by simpa using ndI) ho,rest⟩
  refine wpAny_holding (wpAny_dictSet_pairs hkey dd' (fun g2 dd2 same=>?_) ?_)
  ·refine wpAny_pure ⟨plainId_quiet fD _,?_⟩
   rw [<-merged_take_succ [] rs i p hp] at dd2
   have k2:∀ b o,b ≠ d->g.get? b=some o->g2.get? b=some o:=fun b o nb e=>(same.2 b nb).trans e
   refine ih (i+1) g2 _ _ (by omega) hlt ?_ ?_ dd2 fun b o n1 n2 e=>k2 b o n1 (kp' b o n1 n2 e)
   ·exact st.1.at fun o e=>k2 I o ndI.symm e
   ·exact st.2.at fun o e=>k2 ax o nda.symm e
  ·have e:=merged_length_le ([]:List (K × Value)) (rs.take i)
   rw [List.length_take] at e
   simp only [List.length_nil] at e
   omega
open PySem.Calls in
theorem qy {E:Value->Shared->Prop} {ax:Addr} {items:Array Value} {na:Nat} {sa:Array (Option Value)} {rs:List (K × Value)} {Q:Value->Shared->Prop} (calm:A.handled=none)
  (hx:s.heap.get? ax=some { cls:=.type "tuple",dict:=none,data:=.seq items na,slots:=sa }) (len:rs.length=items.size) (bO:rs.length<=sizeLine)
  (pairs:∀ (i:Nat) (p:K × Value),rs[i]? = some p->∃ q,items[i]? = some (.ref q)/\sy knd s.heap q p)
  (fin:∀ (g:Heap) (tk:Nat),g.DictOf knd s.heap.objs.size (merged [] rs)->(∀ b o,s.heap.get? b=some o->g.get? b=some o)->Q (.ref s.heap.objs.size) { s with heap:=g,toks:=tk }) :
  wpAny (model prog w) A (call (.type "dict") [.ref ax]) Q E s:=by
 refine callType_codes (Q₁:=fun ob s1=>ob=.ref s.heap.objs.size/\s1 = { s with heap:=s.heap.push { cls:=.type "dict",data:=.dict #[] } }) F.kt_called_dict (F.kt_typeCall_dict_1 _) F.entry_dict_init (kt_code_dict_new _ ⟨rfl,rfl⟩) fun ob s1 e1=>?_
 obtain⟨rfl,rfl⟩:=e1
 have fresh:(s.heap.push { cls:=.type "dict",data:=.dict #[] }).DictOf knd s.heap.objs.size []:=Heap.DictOf.new s.heap
 have hx1:=Heap.get?_push_of_some { cls:=.type "dict",data:=.dict #[] } hx
 refine⟨fresh.typeIs,F.args_dict_init_2 _ _,?_⟩
 have hT:({ s with heap:=s.heap.push { cls:=.type "dict",data:=.dict #[] } }:Shared).TypeIs (.ref ax) "tuple" := ⟨_,hx1,rfl⟩
 unfold Builtin.«dict.__init__»
 refine wpAny_bind ?_
 unfold Builtin.Dict.selfAndRest
 refine wpAny_bind (wpAny_notOrdered_dict fresh.typeIs (wpAny_pure ?_))
 show wpAny _ _ (Builtin.Dict.updateFrom "dict.__init__" s.heap.objs.size (.ref ax) [] .none) _ _ _
 unfold Builtin.Dict.updateFrom
 refine wpAny_bind (wpAny_typeOf hT ?_)
 rw [if_pos (by decide)]
 refine wpAny_bind (nW hx1 calm fun g tk kg=>?_)
 rw [if_pos (show (none:Option Value).isNone=true from rfl)]
 refine wpAny_bind (wpAny_rule ?_)
 have hxg:=kg _ _ hx1
 have hta:g.IsTuple ax items:=⟨_,hxg,rfl,na,rfl⟩
 refine wpAny_bind (wpAny_pyIter_tuple hta ?_)
 have dg:g.DictOf knd s.heap.objs.size []:=by
  obtain⟨ob,es,ep,ho,rest⟩:=fresh
  exact⟨ob,es,ep,kg _ _ ho,rest⟩
 have ltd:s.heap.objs.size < g.objs.size:=by
  obtain⟨ob,es,ep,ho,rest⟩:=dg
  exact Heap.lt_size ho
 have lta:ax < g.objs.size:=Heap.lt_size hxg
 have ltx:ax < s.heap.objs.size:=Heap.lt_size hx
 have kg':∀ b o,s.heap.get? b=some o->(g.push { cls:=.type "tuple_iterator",data:=.fields #[.ref ax,.int 0 0] }).get? b=some o:=fun b o e=>Heap.get?_push_of_some _ (kg b o (Heap.get?_push_of_some _ e))
 refine wpAny_pure ⟨plainId_quiet fD _,?_⟩
 refine vF (E:=E) (knd:=knd) (s:=s) (A:=A.in1) (items:=items) (rs:=rs) (h0:=g.push { cls:=.type "tuple_iterator",data:=.fields #[.ref ax,.int 0 0] }) calm (Nat.ne_of_lt ltd) (Nat.ne_of_gt ltx) (Nat.ne_of_lt lta) len bO (fun i p hp=>?_) (fun g2 tk2 dd2 k2=>⟨rfl,fin g2 tk2 dd2 fun b o e=>k2 b o (Nat.ne_of_lt (Heap.lt_size e)) (Nat.ne_of_lt (Nat.lt_trans (Heap.lt_size e) ltd)) (kg' b o e)⟩) rs.length 0 _ _ _ (Nat.sub_zero _) (Nat.zero_le _) ⟨_,Heap.get?_push_size _ rfl,rfl,rfl⟩ (hta.push _) (dg.push _) fun b o _ _ e=>e
 obtain⟨q,hq,key,n,sl,hqo,hkey⟩:=pairs i p hp
 have hql:=Heap.lt_size hqo
 exact⟨q,hq,Nat.ne_of_lt hql,Nat.ne_of_lt (Nat.lt_trans hql ltd),key,n,sl,kg' q _ hqo,hkey⟩
end
end PySem
namespace L2
open PySem PySem.Spec PyProof.Rows
theorem zJ:∀ (kvs:List (Key × V)) (P:Nat->Key × Value->Prop),(∀ (i:Nat) (k:Key) (v:V),kvs[i]? = some (k,v)->∃ u,RelV v u/\P i (k,u))->∃ rs:List (Key × Value),KV kvs rs/\∀ (i:Nat) (p:Key × Value),rs[i]? = some p->P i p
 | [],_,_=>⟨[],.nil,fun i p h=>by simp at h⟩
 | (k,v) :: r,P,h=>by
  obtain⟨u,ru,hu⟩:=h 0 k v rfl
  obtain⟨rs,kr,hr⟩:=zJ r (fun i=>P (i+1)) fun i k' v' e=>h (i+1) k' v' (by simpa using e)
  refine⟨(k,u) :: rs,.cons ⟨rfl,ru⟩ kr,fun i p e=>?_⟩
  cases i with
  | zero=>cases (Option.some.inj e);exact hu
  | succ i=>exact hr i p (by simpa using e)
theorem m7:∀ {xs:List V} {us:List Value} {j:Nat} {x:V},Vals xs us->xs[j]? = some x->∃ u,us[j]? = some u/\RelV x u
 | _,_,_,_,.nil,e=>by simp at e
 | _,_,0,_,.cons r _,e=>by
  cases (Option.some.inj e)
  exact⟨_,rfl,r⟩
 | _,_,j+1,x,.cons _ t,e=>by
  obtain⟨u,h1,h2⟩:=m7 (j:=j) (x:=x) t (by simpa using e)
  exact⟨u,by simpa using h1,h2⟩
section
variable {X:Cx}
theorem d8 (hc:X.calm=true):eR X (.type "dict") (fun vs H Q=>∃ (a:Addr) (xs:List V) (kvs:List (Key × V)),vs = [.ref a]/\H a=some (.tup xs)/\xs.length=kvs.length /\
  (∀ (i:Nat) (k:Key) (v:V),kvs[i]? = some (k,v)->∃ q,xs[i]? = some (.ref q)/\H q=some (.tup [kV k,v]))/\(kvs.map (·.1)).Nodup/\∀ d,H d=none->Q (.ref d) (upd H d (.dK kvs))):=by
 intro pins s σ H vs us Q I r h
 obtain⟨a,xs,kvs,rfl,ha,hl,hp,nd,q⟩:=h
 obtain⟨u,rfl,ru⟩:=vals1 r
 cases (show u=Value.ref a from ru)
 obtain⟨hz,its,rv,⟨c,dct,dat,sl⟩,h1,h2,n,h3,h4⟩:=(show bP X.prog X.w H s.heap a (.tup xs) from I.aN a _ ha)
 dsimp only at h2 h3 h4
 subst h2 h3 h4
 have hil:its.length=kvs.length:=by rw [<-rv.length];exact hl
 obtain⟨rs,rel,h9⟩:=zJ kvs (fun i p=>∃ q,its.toArray[i]? = some (.ref q)/\sy (aT X.prog X.w) s.heap q p) fun i k v e=>by
  obtain⟨q,e1,e2⟩:=hp i k v e
  obtain⟨_,its2,rv2,⟨c2,dct2,dat2,sl2⟩,g1,g2,n2,g3,g4⟩:=(show bP X.prog X.w H s.heap q (.tup [kV k,v]) from I.aN q _ e2)
  dsimp only at g2 g3 g4
  subst g2 g3 g4
  obtain⟨key,u2,rfl,rk,ru2⟩:=vals2 rv2
  refine⟨u2,ru2,q,?_,key,n2,sl2,g1,ja rk⟩
  obtain⟨w',hw,rw'⟩:=m7 rv e1
  cases (show w' = Value.ref q from rw')
  simpa using hw
 have hkl:kvs.length<=sizeLine:=by rw [<-hl];exact hz
 have ndr:(rs.map (·.1)).Nodup:=by rw [<-rel.keys];exact nd
 refine qy (knd:=aT X.prog X.w) (rs:=rs) (I.ok.hd hc) h1 (by rw [<-rel.length,<-hil];simp) (by rw [<-rel.length];exact hkl) h9 fun g tk dd kg=>?_
 rw [merged_nil_of_nodup rs ndr] at dd
 exact⟨.ref s.heap.objs.size,_,I.laid (a:=s.heap.objs.size) (o:=.dK kvs) (t':=tk) kg (Nat.le_refl _) (iR hkl (beq_eq_false_iff_ne.mpr (Ne.symm (Nat.ne_of_lt I.big))) rel dd),rfl,q _ (I.aN.fresh (Nat.le_refl _))⟩
theorem all_range (bs:List Bool):((List.range bs.length).all fun i=>(bs[i]?).getD true)=bs.all id:=by
 rw [Bool.eq_iff_iff]
 simp only [List.all_eq_true,List.mem_range]
 constructor
 ·intro h b hb
  obtain⟨i,hi,rfl⟩:=List.getElem_of_mem hb
  have:=h i hi
  simpa [hi] using this
 ·intro h i hi
  have:=h bs[i] (List.getElem_mem hi)
  simpa [hi] using this
theorem jd (hc:X.calm=true):eR X (.builtin "all") (fun vs H Q=>∃ (p:Addr) (bs:List Bool),vs = [.ref p]/\aP X.K H p (bs.map V.bl)/\Q (.bl (bs.all id)) H):=by
 intro pins s σ H vs us Q I r h
 obtain⟨p,bs,rfl,hS,q⟩:=h
 obtain⟨u,rfl,ru⟩:=vals1 r
 cases (show u=Value.ref p from ru)
 obtain⟨its,rv,pl,hz⟩:=I.list hS
 have hl:=pl.isList
 have hlt:p < s.heap.objs.size:=by
  obtain⟨_,e,_⟩:=hl
  exact Heap.lt_size e
 have hsz:its.toArray.size=bs.length:=by
  have:=rv.length
  simp at this
  simp [this]
 refine call_all_walk (wpAny_pyIter_list hl ?_)
 refine⟨s.heap.objs.size,[s.heap.objs.size,p],[s.heap.objs.size],its.toArray.size,_,_,fun j=>(bs[j]?).getD true,rfl,Walks.list (A:=X.A.in1) (I.ok.hd hc) _ p (Nat.ne_of_lt hlt) its.toArray,
  ⟨⟨_,Heap.get?_push_size _ rfl,rfl,rfl⟩,hl.push _⟩,fun j v t Q' E' hP hQ=>?_,fun g tk hk=>?_⟩
 ·have hj:its[j]? = some v:=by simpa using hP
  have hjl:j < bs.length:=by
   have:=(List.getElem?_eq_some_iff.mp hj).1
   rw [<-rv.length,List.length_map] at this
   exact this
  have hb:bs[j]? = some bs[j]:=by simp [hjl]
  obtain⟨w',hw,rw'⟩:=m7 (j:=j) (x:=V.bl bs[j]) rv (by rw [List.getElem?_map,hb];rfl)
  rw [hj] at hw
  cases hw
  cases (show v=Value.bool bs[j] from rw')
  have hQ':Q' ((bs[j]?).getD true) t:=hQ
  rw [hb] at hQ'
  exact wpAny_truthy_bool hQ'
 ·refine⟨.bl (bs.all id),H,?_,?_,q⟩
  ·refine I.kept (t':=tk) fun b o e=>hk b o (fun hm=>?_) (Heap.get?_push_of_some _ e)
   rw [List.mem_singleton.mp hm] at e
   exact Nat.lt_irrefl _ (Heap.lt_size e)
  ·show _=Value.bool (bs.all id)
   rw [hsz,all_range]
end
def sA (a b:Str):Prop:=a.cps.toList<=b.cps.toList
theorem xi {a b c:Str} (h:sA a b) (g:sA b c):sA a c:=List.le_trans h g
theorem pY:∀ (l:List Str) (p:Str),risingS p l=true->(p :: l).Pairwise sA
 | [],p,_=>by simp
 | x :: r,p,h=>by
  have h':(!ltCps x.cps.toList p.cps.toList && risingS x r)=true:=h
  rw [Bool.and_eq_true,Bool.not_eq_true'] at h'
  have h1:sA p x:=by
   have:=h'.1
   rw [ltCps_eq] at this
   exact of_decide_eq_false this
  have ih:=pY r x h'.2
  refine List.Pairwise.cons (fun y hy=>?_) ih
  rcases List.mem_cons.mp hy with e | hy
  ·rw [e];exact h1
  ·exact xi h1 ((List.pairwise_cons.mp ih).1 y hy)
theorem ll {l:List Str} (h:sortedS l=true):l.Pairwise sA:=by
 cases l with
 | nil=>exact List.Pairwise.nil
 | cons x r=>exact pY r x h
structure cI (ss:List Str):Prop where
 pw:ss.Pairwise sA
 nd:ss.Nodup
theorem cI.filter {l:List Str} (h:cI l) (p:Str->Bool):cI (l.filter p):=⟨h.pw.filter p,h.nd.filter p⟩
abbrev Sx:=Option Int × Option Int
def bN:Sx:=(none,none)
structure gc (K:PySem.W.Frag) (mg:Str->Option Value) (aA:Addr):Prop where
 mK:mg "ALL" = some (.ref aA)
 at_:∃ dc n sl,K.lookup aA=some ⟨.type "tuple",dc,.seq #[.none,.none] n,sl⟩
theorem gc.sq {K:PySem.W.Frag} {mg:Str->Option Value} {aA:Addr} (h:gc K mg aA) (H:Hp):ar K H aA [.aC,.aC]:=by
 obtain⟨dc,n,sl,e⟩:=h.at_
 exact .inr ⟨_,#[.none,.none],n,e,rfl,rfl,by decide,.cons rfl (.cons rfl .nil)⟩
def SH (H:Hp) (v:V) (s:Sx):Prop:=∃ q,v=.ref q/\H q=some (.tup [vO s.1,vO s.2])
def SV (aA:Addr) (H:Hp) (v:V) (s:Sx):Prop:=SH H v s\/(v=.ref aA/\s=bN)
def dS (s:Sx):PyData:=.tuple [dO s.1,dO s.2]
theorem SH.rd {H:Hp} {v:V} {s:Sx} (h:SH H v s):bE H v (dS s):=by
 obtain⟨q,rfl,e⟩:=h
 exact .tup e (.cons (Bb _) (.cons (Bb _) .nil))
theorem SH.aI {H H':Hp} {v:V} {s:Sx} (h:SH H v s) (k:∀ p xs,H p=some (.tup xs)->H' p=some (.tup xs)):SH H' v s:=by
 obtain⟨q,e,h⟩:=h
 exact⟨q,e,k _ _ h⟩
theorem SV.aI {aA:Addr} {H H':Hp} {v:V} {s:Sx} (h:SV aA H v s) (k:∀ p xs,H p=some (.tup xs)->H' p=some (.tup xs)):SV aA H' v s:=h.elim (fun h=>.inl (h.aI k)) .inr
theorem SV.sq {K:PySem.W.Frag} {mg:Str->Option Value} {aA:Addr} {H:Hp} {v:V} {s:Sx} (g:gc K mg aA) (h:SV aA H v s):∃ q,v=.ref q/\ar K H q [vO s.1,vO s.2]:=by
 rcases h with ⟨q,e,h⟩ | ⟨e,rfl⟩
 ·exact⟨q,e,ar.of h⟩
 ·exact⟨aA,e,g.sq H⟩
theorem mj {H:Hp} {v:V} {o:Option Int} (h:bE H v (dO o)):v=vO o:=by
 cases o with
 | none=>cases h;rfl
 | some i=>exact h.int_inv
structure Tb (aA:Addr) (H:Hp) (kvs:List (Key × V)) (ks:List Str) (T:Str->Sx):Prop where
 keys:kvs.map (·.1)=ks.map Sum.inr
 nd:ks.Nodup
 val:∀ x:Str,(bS kvs (Sum.inr x)=none/\T x=bN/\¬ x ∈ ks)\/(∃ v,bS kvs (Sum.inr x)=some v/\SV aA H v (T x)/\x ∈ ks)
def cg (T:Str->Sx) (x:Str) (s:Sx):Str->Sx:=fun y=>if y=x then s else T y
theorem Tb.aI {aA:Addr} {H H':Hp} {kvs:List (Key × V)} {ks:List Str} {T:Str->Sx} (h:Tb aA H kvs ks T) (k:∀ p xs,H p=some (.tup xs)->H' p=some (.tup xs)):Tb aA H' kvs ks T :=
 ⟨h.keys,h.nd,fun x=>(h.val x).elim .inl fun ⟨v,e,s,m⟩=>.inr ⟨v,e,s.aI k,m⟩⟩
theorem Tb.put {aA:Addr} {H:Hp} {kvs:List (Key × V)} {ks:List Str} {T:Str->Sx} (h:Tb aA H kvs ks T) {v:V} {s:Sx} (x:Str) (hv:SV aA H v s) :
  ∃ ks',Tb aA H (putK kvs (Sum.inr x) v) ks' (cg T x s)/\ks'.length<=ks.length+1/\∀ y,y ∈ ks' ↔ y ∈ ks\/y=x:=by
 have vals:∀ (ks':List Str),(∀ y,y ∈ ks' ↔ y ∈ ks\/y=x)->∀ y:Str,(bS (putK kvs (Sum.inr x) v) (Sum.inr y)=none/\cg T x s y=bN/\¬ y ∈ ks')\/(∃ u,bS (putK kvs (Sum.inr x) v) (Sum.inr y)=some u/\SV aA H u (cg T x s y)/\y ∈ ks'):=by
  intro ks' hk y
  rw [yk]
  unfold cg
  by_cases e:y=x
  ·subst e
   rw [if_pos rfl,if_pos rfl]
   exact .inr ⟨v,rfl,hv,(hk y).mpr (.inr rfl)⟩
  ·rw [if_neg (fun z=>e (Sum.inr.inj z)),if_neg e]
   rcases h.val y with ⟨a,b,c⟩ | ⟨u,a,b,c⟩
   ·exact .inl ⟨a,b,fun z=>((hk y).mp z).elim c e⟩
   ·exact .inr ⟨u,a,b,(hk y).mpr (.inl c)⟩
 rcases wV (kvs:=kvs) (k:=(Sum.inr x:Key)) (v:=v) with ⟨e1,hm⟩ | ⟨e1,hn⟩
 ·have hx:x ∈ ks:=by
   rw [h.keys] at hm
   obtain⟨y,hy,e⟩:=List.mem_map.mp hm
   cases e
   exact hy
  have hk:∀ y,y ∈ ks ↔ y ∈ ks\/y=x:=fun y=>⟨.inl,fun z=>z.elim id fun e=>by rw [e];exact hx⟩
  exact⟨ks,⟨by rw [e1];exact h.keys,h.nd,vals ks hk⟩,Nat.le_succ _,hk⟩
 ·have hx:¬ x ∈ ks:=fun z=>hn (by rw [h.keys];exact List.mem_map.mpr ⟨x,z,rfl⟩)
  have hk:∀ y,y ∈ ks ++ [x] ↔ y ∈ ks\/y=x:=fun y=>by simp
  refine⟨ks ++ [x],⟨by rw [e1,h.keys,List.map_append];rfl,?_,vals _ hk⟩,by simp,hk⟩
  rw [List.nodup_append]
  refine⟨h.nd,by simp,fun a ha b hb=>?_⟩
  rw [List.mem_singleton] at hb
  subst hb
  exact fun z=>hx (by rw [<-z];exact ha)
def dF (T:Str->Sx) (x:Str):PyData:=.tuple [.str x,dS (T x)]
def FV (H:Hp) (v:V) (T:Str->Sx):Prop:=∃ (p:Addr) (xs:List V) (ss:List Str),v=.ref p/\H p=some (.tup xs)/\cI ss/\(∀ x,x ∈ ss ↔ T x ≠ bN)/\bu H xs (ss.map (dF T))
def xj (T:Str->Sx) (ss:List Str):PyData:=.tuple (ss.map (dF T))
theorem gd (T:Str->Sx):∀ ss:List Str,cH (ss.map (dF T))=true
 | []=>rfl
 | x :: ss=>by
  show (d7 (dF T x) && cH (ss.map (dF T)))=true
  rw [gd T ss]
  show ((true && ((d7 (dO (T x).1) && (d7 (dO (T x).2) && true)) && true)) && true)=true
  cases (T x).1 <;> cases (T x).2 <;> rfl
theorem FV.aI {H H':Hp} {v:V} {T:Str->Sx} (h:FV H v T) (k:∀ p xs,H p=some (.tup xs)->H' p=some (.tup xs)):FV H' v T:=by
 obtain⟨p,xs,ss,e,hp,hs,hm,r⟩:=h
 exact⟨p,xs,ss,e,k _ _ hp,hs,hm,r.aI k (gd T ss)⟩
theorem FV.same {H H':Hp} {v:V} {T:Str->Sx} (h:FV H v T) (s:ae H H'):FV H' v T:=h.aI fun p xs e=>s _ _ e
theorem FV.tb {H:Hp} {xs:List V} {T:Str->Sx} {ss:List Str} (aA:Addr) (hs:cI ss) (hm:∀ x,x ∈ ss ↔ T x ≠ bN) (r:bu H xs (ss.map (dF T))) :
  ∃ kvs:List (Key × V),xs.length=kvs.length/\(∀ (i:Nat) (k:Key) (v:V),kvs[i]? = some (k,v)->∃ q,xs[i]? = some (.ref q)/\H q=some (.tup [kV k,v]))/\(kvs.map (·.1)).Nodup/\Tb aA H kvs ss T:=by
 have go:∀ (ss:List Str) (xs:List V),bu H xs (ss.map (dF T))->∃ kvs:List (Key × V),xs.length=kvs.length/\(∀ (i:Nat) (k:Key) (v:V),kvs[i]? = some (k,v)->∃ q,xs[i]? = some (.ref q)/\H q=some (.tup [kV k,v])) /\
   kvs.map (·.1)=ss.map Sum.inr/\∀ x:Str,(bS kvs (Sum.inr x)=none/\¬ x ∈ ss)\/(∃ v,bS kvs (Sum.inr x)=some v/\SH H v (T x)/\x ∈ ss):=by
  intro ss
  induction ss with
  | nil =>
   intro xs r
   have z:=bu.nil_inv r
   subst z
   exact⟨[],rfl,fun i k v e=>by simp at e,rfl,fun x=>.inl ⟨rfl,by simp⟩⟩
  | cons y ss ih =>
   intro xs r
   obtain⟨x1,t1,rfl,h1,r⟩:=bu.cons_inv r
   obtain⟨kvs,l1,l2,l3,l4⟩:=ih t1 r
   obtain⟨q,zs,rfl,hq,rz⟩:=bE.cB h1
   obtain⟨z1,t2,rfl,g1,rz⟩:=rz.cons_inv
   obtain⟨z2,t3,rfl,g2,rz⟩:=rz.cons_inv
   have z:=rz.nil_inv
   subst z
   obtain⟨q2,ws,rfl,hq2,rw2⟩:=bE.cB g2
   obtain⟨w1,t4,rfl,f1,rw2⟩:=rw2.cons_inv
   obtain⟨w2,t5,rfl,f2,rw2⟩:=rw2.cons_inv
   have z:=rw2.nil_inv
   subst z
   have e1:w1=vO (T y).1:=mj f1
   have e2:w2=vO (T y).2:=mj f2
   subst e1 e2
   rw [g1.str_inv] at hq
   refine⟨(Sum.inr y,.ref q2) :: kvs,by simp [l1],fun i k v e=>?_,by simp [l3],fun x=>?_⟩
   ·cases i with
    | zero=>cases (Option.some.inj e);exact⟨q,rfl,hq⟩
    | succ i =>
     obtain⟨q',a,b⟩:=l2 i k v (by simpa using e)
     exact⟨q',by simpa using a,b⟩
   ·by_cases e:x=y
    ·subst e
     exact .inr ⟨_,cS rfl,⟨q2,rfl,hq2⟩,List.mem_cons_self ..⟩
    ·rw [cL (fun z=>e (Sum.inr.inj z).symm)]
     rcases l4 x with ⟨a,b⟩ | ⟨v,a,b,c⟩
     ·exact .inl ⟨a,fun z=>(List.mem_cons.mp z).elim e b⟩
     ·exact .inr ⟨v,a,b,List.mem_cons_of_mem _ c⟩
 obtain⟨kvs,l1,l2,l3,l4⟩:=go ss xs r
 refine⟨kvs,l1,l2,?_,⟨l3,hs.nd,fun x=>?_⟩⟩
 ·rw [l3]
  exact List.Pairwise.map _ (fun a b n z=>n (Sum.inr.inj z)) hs.nd
 ·rcases l4 x with ⟨a,b⟩ | ⟨v,a,b,c⟩
  ·refine .inl ⟨a,?_,b⟩
   exact Classical.byContradiction fun z=>b ((hm x).mpr z)
  ·exact .inr ⟨v,a,.inl b,c⟩
theorem oV (s:Sx):PyData.eqv (dS s) (.tuple [.none,.none])=decide (s=bN):=by
 obtain⟨a,b⟩:=s
 cases a <;> cases b <;> rfl
theorem zK (s:Sx):(dS s).canLay0=true:=by
 obtain⟨a,b⟩:=s
 cases a <;> cases b <;> rfl
theorem zL (s:Sx):(dS s).depth<=60:=by
 obtain⟨a,b⟩:=s
 cases a <;> cases b <;> (show (1:Nat)<=60;decide)
section
variable {X:Cx}
theorem xk {pins:List (Addr × Obj)} {σ : St} {H:Hp} {s:Shared} {aA:Addr} (I:Inv X pins σ H s) (g:gc X.K X.mg aA):∃ as,Reads s.heap (.ref aA) (.tuple [.none,.none]) as:=by
 obtain⟨dc,n,sl,e⟩:=g.at_
 exact⟨_,.tuple (I.fS aA _ e) rfl rfl (.cons .none (.cons .none .nil))⟩
theorem Bn {aA:Addr} (hu:X.A.units+64 < cLine) (g:gc X.K X.mg aA):dU X (compareOp .NotEq) (fun x y H Q=>∃ s,SV aA H x s/\y=.ref aA/\Q (.bl (!decide (s=bN))) H):=by
 intro pins sh σ H x y v u Q I rx ry h
 obtain⟨s,hs,rfl,q⟩:=h
 cases (show u=Value.ref aA from ry)
 obtain⟨bs,rb⟩:=xk I g
 rcases hs with hs | ⟨rfl,rfl⟩
 ·obtain⟨as,ra⟩:=hs.rd.reads I.aN rx
  refine PySem.SeqAt.neOverData X.prog X.w X.A X.xe sh v _ _ _ as bs _ ra rb (zK s) rfl (by have:=zL s;omega) ⟨.bl _,H,I,?_,q⟩
  show _=Value.bool (!decide (s=bN))
  rw [oV]
 ·cases (show v=Value.ref aA from rx)
  exact PySem.SeqAt.neOverData X.prog X.w X.A X.xe sh _ _ _ _ bs bs _ rb rb rfl rfl (by show X.A.units+1 < cLine;omega) ⟨.bl _,H,I,rfl,q⟩
end
inductive je (aA:Addr) (vs:List V) (H:Hp) (Q:VK) (_:XK):Prop
 | mk (d:Addr) (kvs:List (Key × V)) (ks:List Str) (T:Str->Sx) (_:vs = [.ref d]) (_:H d=some (.dK kvs)) (_:Tb aA H kvs ks T) (_:ks.length < 64) (_:∀ v H',FV H' v T->ae H H'->Q v H')
def iW (o:Option Int) (n:Int):Option Int:=o.map (· + n)
def Cw (s:Sx) (n:Int):Sx:=(iW s.1 n,iW s.2 n)
def m8 (T:Str->Sx):cK->Sx
 | .put _ n=>(some n,some n)
 | .copy _ y=>T y
 | .add x n=>Cw (T x) n
 | .read _=>bN
 | .tell x=>T x
def vG (T:Str->Sx) (d:cK):Str->Sx:=cg T (mh d) (m8 T d)
def bB (T:Str->Sx):List cK->(Str->Sx):=fun ds=>ds.foldl vG T
inductive uK (K:PySem.W.Frag) (vs:List V) (H:Hp) (Q:VK) (_:XK):Prop
 | mk (q:Addr) (s:Sx) (n:Int) (_:vs = [.ref q,.int n]) (_:ar K H q [vO s.1,vO s.2]) (_:∀ v H',SH H' v (Cw s n)->ae H H'->Q v H')
inductive nX (aA:Addr) (vs:List V) (H:Hp) (Q:VK) (_:XK):Prop
 | mk (d q:Addr) (kvs:List (Key × V)) (ks:List Str) (T:Str->Sx) (dd:cK) (_:vs = [.ref d,.ref q]) (_:H d=some (.dK kvs)) (_:Tb aA H kvs ks T) (_:H q=some (.tup (qO dd))) (_:∀ v H',SV aA H' v (m8 T dd)->ae H H'->Q v H')
theorem nY:bootBuiltins "all" = some (.builtin "all"):=by decide +kernel
theorem Tb.getD {aA:Addr} {H:Hp} {kvs:List (Key × V)} {ks:List Str} {T:Str->Sx} (h:Tb aA H kvs ks T) (x:Str):∃ v,(bS kvs (Sum.inr x)).getD (.ref aA)=v/\SV aA H v (T x):=by
 rcases h.val x with ⟨a,b,_⟩ | ⟨v,a,b,_⟩
 ·exact⟨_,by rw [a];rfl,.inr ⟨rfl,b⟩⟩
 ·exact⟨v,by rw [a];rfl,b⟩
theorem nZ {H:Hp} {v:V} {T:Str->Sx} {y:Str} (h:bE H v (dF T y)):∃ t q,v=.ref t/\H t=some (.tup [.str y,.ref q])/\H q=some (.tup [vO (T y).1,vO (T y).2]):=by
 obtain⟨t,zs,rfl,ht,rz⟩:=bE.cB h
 obtain⟨z1,t2,rfl,g1,rz⟩:=rz.cons_inv
 obtain⟨z2,t3,rfl,g2,rz⟩:=rz.cons_inv
 have z:=rz.nil_inv
 subst z
 obtain⟨q2,ws,rfl,hq2,rw2⟩:=bE.cB g2
 obtain⟨w1,t4,rfl,f1,rw2⟩:=rw2.cons_inv
 obtain⟨w2,t5,rfl,f2,rw2⟩:=rw2.cons_inv
 have z:=rw2.nil_inv
 subst z
 rw [g1.str_inv] at ht
 rw [mj f1,mj f2] at hq2
 exact⟨t,q2,rfl,ht,hq2⟩
section
variable {C D:Addr} {H0 H H1:Hp} {w0 w1:WA} {plv:V} {x0 x1 x':Bc}
end
theorem xl {xs:List Str} {m:Nat} {ps:List Piece} (ok:cR xs m ps):(bM ps).length<=ps.length * (2 * m+1):=by
 unfold bM
 have h:∀ p ∈ ps,(pNames p).length<=2 * m+1:=fun p hp=>by
  have h1:=(ok.gS p hp).1
  unfold pNames
  rw [List.length_append]
  have h2:(p.1.flatMap dE).length<=2 * p.1.length:=by
   induction p.1 with
   | nil=>simp
   | cons d ds ih =>
    rw [List.flatMap_cons,List.length_append,List.length_cons]
    have:(dE d).length<=2:=by cases d <;> simp [dE]
    omega
  have h3:(iV p.2).length<=1:=by cases p.2 <;> simp [iV]
  omega
 clear ok
 induction ps with
 | nil=>simp
 | cons p ps ih =>
  rw [List.flatMap_cons,List.length_append,List.length_cons]
  have h1:=h p (List.mem_cons_self ..)
  have h2:=ih fun q hq=>h q (List.mem_cons_of_mem _ hq)
  rw [Nat.add_mul]
  omega
section
variable {prog:Program} {w:World} {E:Value->Shared->Prop}
end
abbrev KX (kvs:List (PyData × Addr × V)) (xs:List (PyData × Addr × Value)):Prop:=Paired (fun (p:PyData × Addr × V) (q:PyData × Addr × Value)=>p.1=q.1/\p.2.1=q.2.1/\RelV p.2.2 q.2.2) kvs xs
section
variable {X:Cx} {pins:List (Addr × Obj)} {σ : St} {H:Hp} {s:Shared} {a k:Addr} {kvs:List (PyData × Addr × V)} {d:PyData}
end
open LS
section
variable {X:Cx}
end
section
variable {a0 a1 z:V}
end
abbrev vN (ms:List Nat):List V:=ms.map fun k=>V.int (k:Nat)
section
variable {C r m d:Addr} {H H':Hp} {ms:List Nat}
end
section
variable (C:Addr)
end
theorem pZ {l:List Nat} {n:Nat} (nd:l.Nodup) (h:∀ x ∈ l,x < n):l.length<=n:=by
 have:=sub_len nd (m:=List.range n) fun x hx=>List.mem_range.mpr (h x hx)
 simpa using this
theorem yP {X:Cx} {K:PySem.W.Frag} (h:X.K=K):rl X (rm K):=by subst h;exact bL
theorem oW (k:Nat):∀ ms:List Nat,jF (.int (k:Nat)) (vN ms)=decide (k ∈ ms)
 | []=>rfl
 | m :: ms=>by
  have ih:=oW k ms
  show ((((m:Nat):Int) == ((k:Nat):Int)) || jF (.int (k:Nat)) (vN ms))=_
  rw [ih]
  by_cases e:m=k
  ·subst e;simp
  ·have e':¬ (m:Int)=(k:Int):=by omega
   rw [beq_false_of_ne e',Bool.false_or]
   have:k ∈ m :: ms ↔ k ∈ ms:=by rw [List.mem_cons];exact⟨fun h=>h.resolve_left fun z=>e z.symm,.inr⟩
   simp only [this]
theorem uL (ms:List Nat):(vN ms).all fC=true:=by rw [List.all_eq_true];intro v hv;obtain⟨k,_,rfl⟩:=List.mem_map.mp hv;rfl
theorem xm (ms:List Nat):vN ms=(ms.map fun k:Nat=>(k:Int)).map V.int:=by rw [List.map_map];rfl
structure NF (X:Cx) (a:Addr):Prop where
 none_:∀ o,X.dG.heap.get? a=some o->X.jS a=none->a ∉ X.ex->False
 tup:∀ xs,X.jS a ≠ some (.tup xs)
 dq:∀ o u,X.jS a ≠ some (.dq o u)
 kN:∀ ps,X.jS a ≠ some (.kN ps)
section
variable {X:Cx} {pins:List (Addr × Obj)} {σ : L2.St} {H:Hp} {s:Shared} {a:Addr}
theorem Inv.nf {kvs:List (Key × V)} (I:Inv X pins σ H s) (e:H a=some (.dK kvs)):NF X a where
 none_:=fun o h1 h2 h3=>by
  have:=I.base.free a o h1 h2 h3
  rw [e] at this
  cases this
 tup:=fun xs h=>by
  have:=I.base.aI a xs h
  rw [e] at this
  cases this
 dq:=fun o u h=>by
  have:=I.base.ig a o u h
  rw [e] at this
  cases this
 kN:=fun ps h=>by
  obtain⟨more,this⟩:=I.base.iI a ps h
  rw [e] at this
  cases this
theorem Inv.swap {u u':HO} (I:Inv X pins σ H s) (nf:NF X a) (e:H a=some u) (no:∀ y,u ≠ .own y) (nt:∀ xs,u ≠ .tup xs) (new:bP X.prog X.w (upd H a u') s.heap a u'):Inv X pins σ (upd H a u') s where
 ok:=I.ok
 os:=I.os
 bare:=I.bare
 base:={
  keep:=I.base.keep
  slot:=I.base.slot
  free:=fun b o h1 h2 h3=>by
   by_cases z:b=a
   ·subst z;exact absurd (nf.none_ o h1 h2 h3) id
   ·rw [ao z];exact I.base.free b o h1 h2 h3
  there:=I.base.there
  aI:=fun b xs h=>by
   have z:b ≠ a:=fun z=>by subst z;exact nf.tup xs h
   rw [ao z];exact I.base.aI b xs h
  ig:=fun b o v h=>by
   have z:b ≠ a:=fun z=>by subst z;exact nf.dq o v h
   rw [ao z];exact I.base.ig b o v h
  iI:=fun b ps h=>by
   have z:b ≠ a:=fun z=>by subst z;exact nf.kN ps h
   rw [ao z];exact I.base.iI b ps h }
 loc:=I.loc
 cell:=I.cell
 free:=by rw [ao (fun z=>by have:=I.free;rw [z,e] at this;cases this)];exact I.free
 en:=fun x c h=>by rw [ao (fun z=>by have:=I.en x c h;rw [z,e] at this;cases this)];exact I.en x c h
 pin:=fun p hp=>by
  obtain⟨h1,h2,h3⟩:=I.pin p hp
  exact⟨h1,by rw [ao (fun z=>by rw [z,e] at h2;cases h2)];exact h2,h3⟩
 aN:=fun b o h=>by
  by_cases z:b=a
  ·subst z
   rw [aa] at h
   cases h
   exact new
  ·rw [ao z] at h
   refine (I.aN b o h).mS (fun _ _ _ q=>q) (fun c q=>?_) fun c xs q=>?_
   ·rw [ao (fun y=>by rw [y,e] at q;exact no _ (Option.some.inj q))];exact q
   ·rw [ao (fun y=>by rw [y,e] at q;exact nt _ (Option.some.inj q))];exact q
 len:=I.len
end
theorem Ak {P:Program} {w:World} {k:Key} {v:Value} (h:(aT P w).is k v=true):RelV (kV k) v:=by
 cases k with
 | inr x=>exact jj h
 | inl i =>
  obtain⟨t,e⟩:=Value.isInt_shape (show Value.isInt i v=true from h)
  exact⟨t,e⟩
def Cy (a:Addr) (kvs:List (Key × V)) (ob:Obj):It :=
 ⟨fun i H=>H a=some (.dq ob (.dK kvs))/\i < kvs.length,fun i H x H'=>H' = H/\∃ k v,kvs[i]? = some (k,v)/\x=kV k,fun i H=>H a=some (.dq ob (.dK kvs))/\kvs.length<=i⟩
theorem xn {P:Program} {w:World} {K:PySem.W.Frag} {tg:Expr} {kvs:List (Key × V)} {vs:List (Key × Value)} {ob:Obj} {ep:Nat} (a it:Addr) (hat:∀ h:Heap,h.get? a=some ob->h.DictAt (aT P w) a vs ep) (rel:KV kvs vs) :
  Turn P w K tg (Cy a kvs ob) [it] it (fun i h=>h.IsKeyIter it a i vs.length ep) where
 mem:=by simp
 obj:=fun i h st b hb=>by
  have e:b=it:=by simpa using hb
  subst e
  obtain⟨o,e,c,d⟩:=st
  exact⟨o,e,fun v z=>by rw [d] at z;cases z⟩
 keep:=fun i h h' st k=>st.at fun o e=>k it (by simp) o e
 item:=by
  intro X hP hw hK hc i pins s σ H E I hf st hg
  subst hP hw hK
  obtain⟨ha,hi⟩:=hg
  obtain⟨e0,_⟩:=(show bP X.prog X.w H s.heap a (.dq ob (.dK kvs)) from I.aN a _ ha)
  have hvi:i < vs.length:=by rw [<-rel.length];exact hi
  have hx:vs[i]? = some vs[i]:=by simp [hvi]
  generalize vs[i] = p at hx
  obtain⟨k,u⟩:=p
  obtain⟨v,hkv⟩:∃ v,kvs[i]? = some (k,v):=by
   have e1:(vs.map (·.1))[i]? = some k:=by rw [List.getElem?_map,hx];rfl
   rw [<-rel.keys,List.getElem?_map] at e1
   cases e2:kvs[i]? with
   | none=>rw [e2] at e1;cases e1
   | some q =>
    rw [e2] at e1
    obtain⟨k',v⟩:=q
    cases (Option.some.inj e1)
    exact⟨v,rfl⟩
  obtain⟨f0,f1,f2,f3,f4,f5⟩:=hf it (by simp)
  refine wpAny_pyNext_dict_item st (hat _ e0) hx fun key h' hkey st' sb=>?_
  have I1:Inv X pins σ H { s with heap:=h' }:=I.turned (t':=s.toks) (fun b o hb e=>(sb.2 b hb).trans e) f0 f1 f3 f4 f5
  obtain⟨o,e,c,d⟩:=id st'
  exact⟨key,rfl,qJ (s:={ s with heap:=h' }) e c d (by decide) ⟨kV k,H,I1,Ak hkey,⟨rfl,k,v,hkv,rfl⟩,st',fun b hb=>(hf b hb).1⟩⟩
 done:=by
  intro X hP hw hK hc i pins s σ H E I hf st hg
  subst hP hw hK
  obtain⟨ha,hi⟩:=hg
  obtain⟨e0,_⟩:=(show bP X.prog X.w H s.heap a (.dq ob (.dK kvs)) from I.aN a _ ha)
  obtain⟨f0,f1,f2,f3,f4,f5⟩:=hf it (by simp)
  exact wpAny_pyNext_dict_end (I.ok.hd hc) st (hat _ e0) (List.getElem?_eq_none (by rw [<-rel.length];exact hi)) fun h' eb=>⟨rfl,I.turned (t':=s.toks) (fun b o hb e=>eb b o hb e) f0 f1 f3 f4 f5⟩
 self:=fun _ _ _ _ _ st h=>wpAny_pyIter_keyiter st h
section
variable {X:Cx}
def Ce (i:Nat) (X:Cx):TI:=fun σ H R=>∃ v,σ[i]? = some (some v)/\∃ a kvs,v=.ref a/\H a=some (.dK kvs)/\∀ ob,NF X a->R (Cy a kvs ob) (upd H a (.dq ob (.dK kvs)))
theorem Al {tg l:Expr} {i:Nat} (hl:PE X l (mT i)):PI X tg l (Ce i X):=by
 intro pins s σ H R I h
 obtain⟨v0,hv0,a,kvs,rfl,ha,q⟩:=h
 refine bA (hl pins s σ H (fun x H1=>x=.ref a/\H1=H) I ⟨_,hv0,rfl,rfl⟩) fun v s1 ⟨x,H1,I1,r1,e1,e2⟩=>?_
 subst e1 e2
 cases r1
 have nf:=I1.nf ha
 obtain⟨z,hd,vs,rel,dd⟩:=me I1.aN ha
 obtain⟨ep,ob,es,ho,rest⟩:=dd.dictAt
 have I2:Inv X pins σ (upd H1 a (.dq ob (.dK kvs))) s1:=I1.swap nf ha (fun _ h=>nomatch h) (fun _ h=>nomatch h) ⟨ho,iR z hd rel ⟨ob,es,ep,ho,rest⟩⟩
 refine wpAny_pyIter_dict hd ⟨ob,es,ho,rest⟩ ?_
 refine⟨s1.heap.objs.size,[s1.heap.objs.size],_,_,_,rfl,I2.kept (t':=s1.toks) fun b o e=>Heap.get?_push_of_some _ e,xn a _ (fun h e=>⟨ob,es,e,rest⟩) rel,⟨_,Heap.get?_push_size _ rfl,rfl,rfl⟩,fun b hb=>?_,q ob nf⟩
 have e:b=s1.heap.objs.size:=by simpa using hb
 subst e
 exact I2.mU (Nat.le_refl _) (I2.aN.fresh (Nat.le_refl _))
def Cf (i:Nat) (g:TG) (tb:TS):TS:=fun D σ H=>∃ v,σ[i]? = some (some v)/\∃ a kvs,v=.ref a/\H a=some (.dK kvs)/\∀ ob,∃ Pv:Nat->L2.St->Hp->Prop,Pv 0 σ (upd H a (.dq ob (.dK kvs))) /\
 (∀ j τ H2,Pv j τ H2->H2 a=some (.dq ob (.dK kvs))) /\
 (∀ j k u τ H2,kvs[j]? = some (k,u)->Pv j τ H2->g (kV k) τ H2 fun τ3 H3=>tb { D with nx:=Pv (j+1),ct:=Pv (j+1),bk:=fun τ4 H4=>∃ ob',H4 a=some (.dq ob' (.dK kvs))/\D.nx τ4 (upd H4 a (.dK kvs)),rt:=fun r H4=>∃ ob',H4 a=some (.dq ob' (.dK kvs))/\D.rt r (upd H4 a (.dK kvs)) } τ3 H3) /\
 (∀ τ H2,Pv kvs.length τ H2->D.nx τ (upd H2 a (.dK kvs)))
theorem Bo {pins:List (Addr × Obj)} {σ : L2.St} {H:Hp} {s:Shared} {a:Addr} {ob:Obj} {kvs:List (Key × V)} (I:Inv X pins σ H s) (nf:NF X a) (e:H a=some (.dq ob (.dK kvs))):Inv X pins σ (upd H a (.dK kvs)) s:=by
 obtain⟨z,hd,vs,rel,dd⟩:=ma I.aN (.inr ⟨ob,e⟩)
 exact I.swap nf e (fun _ h=>nomatch h) (fun _ h=>nomatch h) (iR z hd rel dd)
theorem uM {tg l:Expr} {body:List Stmt} {i:Nat} {g:TG} {tb:TS} {pos:Pos} (hp:PassesOwn (model X.prog X.w) X.A X.env X.xe) (hc:X.calm=true) (hl:PE X l (mT i)) (hg:PG X tg g) (hb:iK X body tb)
  (hs:∀ x,foldedSetIterable l X.env x=pure x:=by intro _;rfl):PS X (.For tg l body [] pos) (Cf i g tb):=by
 intro pins s σ H D I h
 obtain⟨v,hv,a,kvs,rfl,ha,h⟩:=h
 have nf:=I.nf ha
 refine bA (df hp hc (Al hl) hg hb hs pins s σ H { nx:=fun τ H2=>∃ ob,H2 a=some (.dq ob (.dK kvs))/\D.nx τ (upd H2 a (.dK kvs)),rt:=fun r H2=>∃ ob,H2 a=some (.dq ob (.dK kvs))/\D.rt r (upd H2 a (.dK kvs)),bk:=D.bk,ct:=D.ct } I ?_) fun f s' q=>?_
 ·refine⟨_,hv,a,kvs,rfl,ha,fun ob _=>?_⟩
  obtain⟨Pv,p0,pf,ps,pe⟩:=h ob
  refine⟨fun j m τ H2=>m=kvs.length - j/\j<=kvs.length/\Pv j τ H2,⟨kvs.length,by simp,Nat.zero_le _,p0⟩,?_⟩
  rintro j m τ H2 ⟨rfl,hj,p⟩
  by_cases hlt:j < kvs.length
  ·refine .inr ⟨⟨pf j τ H2 p,hlt⟩,Pv (j+1),fun τ' H' p'=>⟨kvs.length - (j+1),by omega,rfl,hlt,p'⟩,fun x H' y=>?_⟩
   obtain⟨e1,k,u,e2,e3⟩:=y
   subst e1 e3
   exact ps j k u τ _ e2 p
  ·have e:j=kvs.length:=by omega
   subst e
   exact .inl ⟨⟨pf _ τ H2 p,Nat.le_refl _⟩,ob,pf _ τ H2 p,pe τ H2 p⟩
 ·cases f with
  | next =>
   obtain⟨τ,H2,I2,ob,e,q⟩:=q
   exact⟨τ,_,Bo I2 nf e,q⟩
  | brk=>exact q
  | cont=>exact q
  | ret u =>
   obtain⟨r,τ,H2,I2,rr,ob,e,q⟩:=q
   exact⟨r,τ,_,Bo I2 nf e,rr,q⟩
end
def LT (H:Hp) (d:Addr) (T:Str->Sx) (m:Nat):Prop:=∃ kvs ks,H d=some (.dK kvs)/\Tb 0 H kvs ks T/\(∀ x ∈ ks,T x ≠ bN)/\ks.length<=m
theorem LT.aI {H H':Hp} {d:Addr} {T:Str->Sx} {m:Nat} (h:LT H d T m) (hd:∀ o,H d=some o->H' d=some o) (k:∀ p xs,H p=some (.tup xs)->H' p=some (.tup xs)):LT H' d T m:=by
 obtain⟨kvs,ks,h1,h2,h3,h4⟩:=h
 exact⟨kvs,ks,hd _ h1,h2.aI k,h3,h4⟩
theorem LT.same {H H':Hp} {d:Addr} {T:Str->Sx} {m:Nat} (h:LT H d T m) (s:ae H H'):LT H' d T m:=h.aI (fun o e=>s _ _ e) fun p xs e=>s _ _ e
theorem LT.get {H:Hp} {T:Str->Sx} {kvs:List (Key × V)} {ks:List Str} {t:Addr} (tb:Tb 0 H kvs ks T) (cl:∀ x ∈ ks,T x ≠ bN) (ht:H t=some (.tup [.aC,.aC])) (x:Str):∃ v,(bS kvs (Sum.inr x)).getD (.ref t)=v/\SH H v (T x):=by
 rcases tb.val x with ⟨a,b,_⟩ | ⟨v,a,b,c⟩
 ·exact⟨_,by rw [a];rfl,t,rfl,by rw [b];exact ht⟩
 ·refine⟨v,by rw [a];rfl,?_⟩
  rcases b with b | ⟨_,b⟩
  ·exact b
  ·exact absurd b (cl x c)
theorem p8 {T:Str->Sx} {x:Str} (h:T x=bN):cg T x bN=T:=by
 funext y
 unfold cg
 by_cases e:y=x
 ·rw [if_pos e,e,h]
 ·rw [if_neg e]
theorem xo {T:Str->Sx} {x:Str} {s t:Sx}:cg (cg T x s) x t=cg T x t:=by
 funext y
 unfold cg
 by_cases e:y=x
 ·rw [if_pos e,if_pos e]
 ·rw [if_neg e,if_neg e,if_neg e]
theorem p9 (k j:Key):∀ kvs:List (Key × V),bS (eC kvs k) j=if j=k then none else bS kvs j
 | []=>by simp [eC,bS]
 | p :: r=>by
  have ih:=p9 k j r
  by_cases e:p.1=k
  ·rw [pR e,ih]
   by_cases z:j=k
   ·rw [if_pos z,if_pos z]
   ·rw [if_neg z,if_neg z,cL (p:=p) (fun w:p.1=j=>z (w.symm.trans e))]
  ·rw [pS e]
   by_cases w:p.1=j
   ·rw [cS w,cS w,if_neg (fun z=>e (w.trans z))]
   ·rw [cL w,cL w,ih]
theorem Tb.drop {aA:Addr} {H:Hp} {kvs:List (Key × V)} {ks:List Str} {T:Str->Sx} (h:Tb aA H kvs ks T) (x:Str):Tb aA H (eC kvs (Sum.inr x)) (ks.filter fun y=>decide (y ≠ x)) (cg T x bN) where
 keys:=by
  have go:∀ (kvs:List (Key × V)) (ks:List Str),kvs.map (·.1)=ks.map Sum.inr->(eC kvs (Sum.inr x)).map (·.1)=(ks.filter fun y=>decide (y ≠ x)).map Sum.inr:=by
   intro kvs
   induction kvs with
   | nil =>
    intro ks e
    cases ks with
    | nil=>rfl
    | cons a b=>simp at e
   | cons p r ih =>
    intro ks e
    cases ks with
    | nil=>simp at e
    | cons a b =>
     rw [List.map_cons,List.map_cons] at e
     injection e with e1 e2
     by_cases z:a=x
     ·rw [pR (by rw [e1,z]),List.filter_cons_of_neg (by simp [z])]
      exact ih b e2
     ·rw [pS (fun w=>z (Sum.inr.inj (e1.symm.trans w))),List.filter_cons_of_pos (by simp [z]),List.map_cons,List.map_cons,ih b e2,e1]
  exact go kvs ks h.keys
 nd:=h.nd.filter _
 val:=fun y=>by
  rw [p9]
  unfold cg
  by_cases e:y=x
  ·subst e
   rw [if_pos rfl,if_pos rfl]
   exact .inl ⟨rfl,rfl,by simp⟩
  ·rw [if_neg (fun z=>e (Sum.inr.inj z)),if_neg e]
   rcases h.val y with ⟨a,b,c⟩ | ⟨v,a,b,c⟩
   ·exact .inl ⟨a,b,fun z=>c (List.mem_filter.mp z).1⟩
   ·exact .inr ⟨v,a,b,List.mem_filter.mpr ⟨c,by simp [e]⟩⟩
theorem xp {kvs:List (Key × V)} {k:Key} {v:V} {j:Nat} (nd:(kvs.map (·.1)).Nodup) (h:kvs[j]? = some (k,v)):putK (kvs.take j) k v=kvs.take (j+1):=by
 have hj:j < kvs.length:=(List.getElem?_eq_some_iff.mp h).1
 have hn:¬ k ∈ (kvs.take j).map (·.1):=fun hm=>by
  have hs:(kvs.take (j+1)).map (·.1)=(kvs.take j).map (·.1) ++ [k]:=by
   rw [List.take_add_one,h,List.map_append];rfl
  have nd2:((kvs.take (j+1)).map (·.1)).Nodup:=by
   rw [List.map_take]
   exact nd.sublist (List.take_sublist _ _)
  rw [hs,List.nodup_append] at nd2
  exact nd2.2.2 k hm k (by simp) rfl
 have hv:bS (kvs.take j) k=none:=by
  cases e:bS (kvs.take j) k with
  | none=>rfl
  | some u=>exact absurd (z6 e) hn
 rw [yl _ hv,List.take_add_one,h]
 rfl
inductive oX  (vs:List V) (H:Hp) (Q:VK) (_:XK):Prop
 | mk (d:Addr) (T:Str->Sx) (_:vs = [.ref d]) (_:LT H d T 63) (_:∀ v H',FV H' v T->ae H H'->Q v H')
def Sound (T:Str->Sx) (w:Str->Int):Prop:=∀ x,cE (w x) (T x).1 (T x).2=true
def cT (lo lo2:Option Int):Bool:=match lo2,lo with
 | none,_=>true
 | some _,none=>false
 | some a,some b=>decide (a<=b)
def cn (hi hi2:Option Int):Bool:=match hi2,hi with
 | none,_=>true
 | some _,none=>false
 | some a,some b=>decide (b<=a)
def cJ (s t:Sx):Bool:=cT s.1 t.1 && cn s.2 t.2
def gf (T:Str->Sx) (m:Nat):Prop:=∀ ss:List Str,(∀ x ∈ ss,T x ≠ bN)->ss.Nodup->ss.length<=m
inductive uN (aA:Addr) (vs:List V) (H:Hp) (Q:VK) (_:XK):Prop
 | mk (fv:V) (x:Str) (T:Str->Sx) (_:vs = [fv,.str x]) (_:FV H fv T) (_:∀ v H',SV aA H' v (T x)->ae H H'->Q v H')
inductive mN (aA:Addr) (vs:List V) (H:Hp) (Q:VK) (_:XK):Prop
 | mk (fv sv:V) (x:Str) (T:Str->Sx) (s:Sx) (_:vs = [fv,.str x,sv]) (_:FV H fv T) (_:SV aA H sv s) (_:gf T 62) (_:∀ v H',FV H' v (cg T x s)->ae H H'->Q v H')
inductive lr (K:PySem.W.Frag) (vs:List V) (H:Hp) (Q:VK) (_:XK):Prop
 | mk (p q:Addr) (s t:Sx) (_:vs = [.ref p,.ref q]) (_:ar K H p [vO s.1,vO s.2]) (_:ar K H q [vO t.1,vO t.2]) (_:Q (.bl (cJ s t)) H)
inductive sC  (vs:List V) (H:Hp) (Q:VK) (_:XK):Prop
 | mk (fv:V) (d:Addr) (kvs:List (Key × V)) (w:Str->Int) (T:Str->Sx) (_:vs = [fv,.ref d]) (_:FV H fv T) (_:H d=some (.dK kvs)) (_:DW kvs w) (_:gf T 63) (_:∀ b H',(b=true ↔ Sound T w)->ae H H'->Q (.bl b) H')
inductive sD  (vs:List V) (H:Hp) (Q:VK) (_:XK):Prop
 | mk (fv gv:V) (T U:Str->Sx) (_:vs = [fv,gv]) (_:FV H fv T) (_:FV H gv U) (_:gf T 63) (_:∀ b H',(b=true ↔ ∀ x,cJ (U x) (T x)=true)->ae H H'->Q (.bl b) H')
theorem xq {T:Str->Sx} {w:Str->Int} {ss:List Str} (hm:∀ x,x ∈ ss ↔ T x ≠ bN):(ss.map fun x=>cE (w x) (T x).1 (T x).2).all id=true ↔ Sound T w:=by
 rw [List.all_eq_true]
 constructor
 ·intro h x
  by_cases e:T x=bN
  ·rw [e];rfl
  ·exact h _ (List.mem_map.mpr ⟨x,(hm x).mpr e,rfl⟩)
 ·intro h b hb
  obtain⟨x,_,rfl⟩:=List.mem_map.mp hb
  exact h x
theorem mn (s:Sx):cJ s bN=true:=by
 obtain⟨a,b⟩:=s
 cases a <;> cases b <;> rfl
theorem xr {T U:Str->Sx} {ss:List Str} (hm:∀ x,x ∈ ss ↔ T x ≠ bN):(ss.map fun x=>cJ (U x) (T x)).all id=true ↔ ∀ x,cJ (U x) (T x)=true:=by
 rw [List.all_eq_true]
 constructor
 ·intro h x
  by_cases e:T x=bN
  ·rw [e];exact mn _
  ·exact h _ (List.mem_map.mpr ⟨x,(hm x).mpr e,rfl⟩)
 ·intro h b hb
  obtain⟨x,_,rfl⟩:=List.mem_map.mp hb
  exact h x
section
variable {X:Cx}
end
theorem yQ (s:Sx):cJ s s=true:=by
 obtain⟨a,b⟩:=s
 cases a <;> cases b <;> simp [cJ,cT,cn]
theorem LT.Bp {H:Hp} {d b:Addr} {T:Str->Sx} {m:Nat} (h:LT H d T m) (B:bY H b):d ≠ b:=by
 obtain⟨kvs,ks,g1,_⟩:=h
 obtain⟨x,y,e,_⟩:=B
 exact bJ g1 e (by intro z;cases z)
theorem LT.fix {H H':Hp} {d b:Addr} {T:Str->Sx} {m:Nat} (h:LT H d T m) (B:bY H b) (X:Fix b H H'):LT H' d T m :=
 h.aI (fun o e=>X d o e (h.Bp B)) fun p zs e=>X p _ e (B.fV e)
theorem LT.up {H:Hp} {d:Addr} {T:Str->Sx} {m n:Nat} (h:LT H d T m) (le:m<=n):LT H d T n:=by
 obtain⟨kvs,ks,g1,g2,g3,g4⟩:=h
 exact⟨kvs,ks,g1,g2,g3,Nat.le_trans g4 le⟩
inductive oY (K:PySem.W.Frag) (vs:List V) (H:Hp) (Q:VK) (_:XK):Prop
 | mk (n:Int) (q:Addr) (lo hi:Option Int) (_:vs = [.int n,.ref q]) (_:ar K H q [vO lo,vO hi]) (_:Q (.bl (cE n lo hi)) H)
inductive lB (K:PySem.W.Frag) (F:Option Int->Option Int->Int->Rs) (vs:List V) (H:Hp) (Q:VK) (_:XK):Prop
 | mk (p:Addr) (n:Int) (lo hi:Option Int) (_:vs = [.ref p,.int n]) (_:ar K H p [vO lo,vO hi]) (_:∀ v H',RV H' v (F lo hi n)->ae H H'->Q v H')
inductive uO (K:PySem.W.Frag) (vs:List V) (H:Hp) (Q:VK) (_:XK):Prop
 | mk (p:Addr) (w:Str) (n:Int) (side:Bool) (lo hi:Option Int) (_:vs = [.ref p,.str w,.int n,.bl side]) (_:ar K H p [vO lo,vO hi]) (_:∀ v H',RV H' v (di w lo hi n side)->ae H H'->Q v H')
def e7 (T:Str->Sx) (b:Bool) (x:Str) (n:Int) (side:Bool):Rs:=di (wT b) (T x).1 (T x).2 n side
def gg (T:Str->Sx):End->List (Option (Str->Sx))
 | .stop=>[]
 | .go _=>[some T]
 | .dA b x n _ _=>[(e7 T b x n true).map (cg T x),(e7 T b x n false).map (cg T x)]
def BV (H:Hp) (u:V):Option (Str->Sx)->Prop
 | none=>u=.aC
 | some T=>FV H u T
theorem BV.same {H H':Hp} {u:V} {o:Option (Str->Sx)} (h:BV H u o) (s:ae H H'):BV H' u o:=by
 cases o with
 | none=>exact h
 | some T=>exact FV.same h s
theorem BV.aI {H H':Hp} {u:V} {o:Option (Str->Sx)} (h:BV H u o) (k:∀ p xs,H p=some (.tup xs)->H' p=some (.tup xs)):BV H' u o:=by
 cases o with
 | none=>exact h
 | some T=>exact FV.aI h k
def bU (H:Hp) (us:List V) (os:List (Option (Str->Sx))):Prop:=Paired (BV H) us os
def de (T:Str->Sx) (e:End):List (Nat × (Str->Sx)):=((bQ e).zip (gg T e)).filterMap fun p=>p.2.map fun U=>(p.1,U)
inductive sE (aA:Addr) (vs:List V) (H:Hp) (Q:VK) (_:XK):Prop
 | mk (fv:V) (ea:Addr) (T:Str->Sx) (e:End) (_:vs = [fv,.ref ea]) (_:FV H fv T) (_:H ea=some (.tup (gI e))) (_:gf T 62) (_:∀ (t:Addr) (us:List V) (H':Hp),H' t=some (.tup us)->bU H' us (gg T e)->ae H H'->Q (.ref t) H')
def PV (H:Hp) (v:V) (p:Nat × (Str->Sx)):Prop:=∃ q u,v=.ref q/\H q=some (.tup [.int p.1,u])/\FV H u p.2
theorem PV.aI {H H':Hp} {v:V} {p:Nat × (Str->Sx)} (h:PV H v p) (k:∀ p xs,H p=some (.tup xs)->H' p=some (.tup xs)):PV H' v p:=by
 obtain⟨q,u,e,h1,h2⟩:=h
 exact⟨q,u,e,k _ _ h1,h2.aI k⟩
def kC (H:Hp) (vs:List V) (ps:List (Nat × (Str->Sx))):Prop:=Paired (PV H) vs ps
theorem kC.aI {H H':Hp} (k:∀ p xs,H p=some (.tup xs)->H' p=some (.tup xs)):∀ {vs:List V} {ps:List (Nat × (Str->Sx))},kC H vs ps->kC H' vs ps
 | _,_,.nil=>.nil
 | _,_,.cons h t=>.cons (h.aI k) (kC.aI k t)
theorem bU.aI {H H':Hp} (k:∀ p xs,H p=some (.tup xs)->H' p=some (.tup xs)):∀ {vs:List V} {ps:List (Option (Str->Sx))},bU H vs ps->bU H' vs ps
 | _,_,.nil=>.nil
 | _,_,.cons h t=>.cons (h.aI k) (bU.aI k t)
theorem kC.same {H H':Hp} {vs:List V} {ps:List (Nat × (Str->Sx))} (h:kC H vs ps) (s:ae H H'):kC H' vs ps:=h.aI fun p xs e=>s _ _ e
theorem bU.same {H H':Hp} {vs:List V} {ps:List (Option (Str->Sx))} (h:bU H vs ps) (s:ae H H'):bU H' vs ps:=h.aI fun p xs e=>s _ _ e
inductive uP (aA:Addr) (vs:List V) (H:Hp) (Q:VK) (_:XK):Prop
 | mk (fv:V) (ea:Addr) (T:Str->Sx) (e:End) (_:vs = [fv,.ref ea]) (_:FV H fv T) (_:H ea=some (.tup (gI e))) (_:gf T 62) (_:∀ (t:Addr) (vs:List V) (H':Hp),H' t=some (.tup vs)->kC H' vs (de T e)->ae H H'->Q (.ref t) H')
theorem Am {T:Str->Sx} {e:End} (h:(bQ e).length < 2):gg T e=(bQ e).map fun _=>some T:=by
 cases e with
 | stop=>rfl
 | go p=>rfl
 | dA b x n p q=>exact absurd h (by show ¬ 2 < 2;omega)
theorem uQ {H:Hp} {fv:V} {T:Str->Sx} (h:FV H fv T):∀ l:List Nat,bU H (List.replicate l.length fv) (l.map fun _=>some T)
 | []=>.nil
 | _ :: l=>.cons h (uQ h l)
def mO (H:Hp) (vs:List V) (rs:List Rs):Prop:=Paired (RV H) vs rs
theorem mO.same {H H':Hp} (s:ae H H'):∀ {vs:List V} {rs:List Rs},mO H vs rs->mO H' vs rs
 | _,_,.nil=>.nil
 | _,_,.cons h t=>.cons (h.same s) (mO.same s t)
theorem mO.put {H:Hp} {l:Addr} {xs:List V} {o:HO} (hl:H l=some (.lst xs)):∀ {vs:List V} {rs:List Rs},mO H vs rs->mO (upd H l o) vs rs
 | _,_,.nil=>.nil
 | _,_,.cons h t=>.cons (h.put hl) (mO.put hl t)
theorem RV.sv {aA:Addr} {H:Hp} {v:V} {s:Sx} (h:RV H v (some s)):SV aA H v s:=by
 obtain⟨a,b⟩:=s
 obtain⟨p,e,h⟩:=h
 exact .inl ⟨p,e,h⟩
def sF (ss:List Str):PyData:=.tuple (ss.map fun x=>.tuple [.str x,.tuple [.int 0,.int 0]])
inductive uR  (vs:List V) (H:Hp) (Q:VK) (_:XK):Prop
 | mk (plv:V) (ps:List Piece) (xs:List Str) (m:Nat) (_:vs = [plv]) (_:bE H plv (fW ps)) (_:cR xs m ps) (_:xs.length < 64) (_:(bM ps).length<=4000) (_:∀ (v:V) (ss:List Str) (H':Hp),bE H' v (sF ss)->ss.Perm (dC (bM ps))->sortedS ss=true->ae H H'->Q v H')
theorem ic:∀ ss:List Str,cH (ss.map fun x=>PyData.tuple [.str x,.tuple [.int 0,.int 0]])=true
 | []=>rfl
 | x :: ss=>by
  show (true && cH (ss.map fun x=>PyData.tuple [.str x,.tuple [.int 0,.int 0]]))=true
  rw [ic ss];rfl
theorem qc {T:Str->Sx} {e:End} {i k:Nat} {o:Option (Str->Sx)} (h1:(bQ e)[i]? = some k) (h2:(gg T e)[i]? = some o) :
  (((bQ e).zip (gg T e)).take (i+1)).filterMap (fun p=>p.2.map fun U=>(p.1,U))=(((bQ e).zip (gg T e)).take i).filterMap (fun p=>p.2.map fun U=>(p.1,U))++(o.map fun U=>(k,U)).toList:=by
 have hz:((bQ e).zip (gg T e))[i]? = some (k,o):=by rw [List.getElem?_zip_eq_some];exact⟨h1,h2⟩
 rw [List.take_add_one,hz,List.filterMap_append]
 cases o <;> rfl
theorem fo {α β : Type} {F:α->β->Prop} {l:List α} {m:List β} (h:Paired F l m) {i:Nat} {x:α} (e:l[i]? = some x):∃ y,m[i]? = some y/\F x y:=LS.j4 h e
theorem d9 {α β : Type} {F:α->β->Prop}:∀ {l l':List α} {m m':List β},Paired F l m->Paired F l' m'->Paired F (l++l') (m++m')
 | _,_,_,_,.nil,h=>h
 | _,_,_,_,.cons r t,h=>.cons r (d9 t h)
section
variable {prog:Program} {w:World} {A:Around} {E:Value->Shared->Prop} {s:Shared}
end
section
variable {X:Cx}
end
def m9 (lo hi:Option Int):Rs:=match lo,hi with
 | some a,some b=>if b < a then none else some (some a,some b)
 | lo,hi=>some (lo,hi)
theorem xt (lo hi:Option Int) (n:Int):m9 lo (some (ik hi n))=fI lo hi n:=by
 cases lo <;> rfl
theorem yR (lo hi:Option Int) (n:Int):m9 (some (il lo n)) hi=gU lo hi n:=by
 cases hi <;> rfl
theorem An {lo hi:Option Int} {n:Int} (le:fZ lo hi):m9 (if lo=some n then some (n+1) else lo) (if hi=some n then some (n - 1) else hi)=iT lo hi n:=by
 unfold iT
 by_cases h1:lo=some n
 ·rw [if_pos h1,if_pos h1]
  by_cases h2:hi=some n
  ·rw [if_pos h2,if_pos h2]
   show (if n - 1 < n+1 then none else _)=none
   rw [if_pos (by omega)]
  ·rw [if_neg h2,if_neg h2]
   subst h1
   cases hi with
   | none=>rfl
   | some h =>
    have:n<=h:=le
    have:¬ h=n:=fun z=>h2 (by rw [z])
    show (if h < n+1 then none else _)=_
    rw [if_neg (by omega)]
 ·rw [if_neg h1,if_neg h1]
  by_cases h2:hi=some n
  ·rw [if_pos h2,if_pos h2]
   subst h2
   cases lo with
   | none=>rfl
   | some a =>
    have:a<=n:=le
    have:¬ a=n:=fun z=>h1 (by rw [z])
    show (if n - 1 < a then none else _)=_
    rw [if_neg (by omega)]
  ·rw [if_neg h2,if_neg h2]
   cases lo with
   | none=>rfl
   | some a =>
    cases hi with
    | none=>rfl
    | some h =>
     have:a<=h:=le
     show (if h < a then none else _)=_
     rw [if_neg (by omega)]
inductive uS  (vs:List V) (H:Hp) (Q:VK) (_:XK):Prop
 | mk (p:Addr) (b:Bool) (n:Int) (side:Bool) (lo hi:Option Int) (_:vs = [.ref p,.str (wT b),.int n,.bl side]) (_:H p=some (.tup [vO lo,vO hi])) (_:fZ lo hi) (_:∀ v H',RV H' v (di (wT b) lo hi n side)->ae H H'->Q v H')
theorem LT.put {H:Hp} {d l:Addr} {T:Str->Sx} {m:Nat} {xs:List V} {o:HO} (h:LT H d T m) (hl:H l=some (.lst xs)):LT (upd H l o) d T m:=by
 refine h.aI (fun u e=>?_) fun p zs e=>by rw [ao (bJ e hl (by intro z;cases z))];exact e
 obtain⟨kvs,ks,g,_⟩:=h
 rw [ao (bJ g hl (by intro z;cases z))]
 exact e
section
variable {X:Cx}
end
section
variable {prog:Program} {w:World} {A:Around} {E:Value->Shared->Prop} {s:Shared}
end
section
variable {X:Cx}
end
section
variable {X:Cx}
end
section
variable {P:Program} {w:World} {K:PySem.W.Frag} {mg:Str->Option Value} {base:Heap}
end
section
variable {P:Program} {w:World} {C r m d:Addr} {H H':Hp} {ms:List (PyData × Addr)}
end
section
variable (P:Program) (w:World) (C:Addr)
end
inductive ip (ps:List Piece):Nat->Prop
 | zero:ip ps 0
 | step {i k:Nat} {ds:List cK} {e:End}:ip ps i->ps[i]? = some (ds,e)->k ∈ bQ e->ip ps k
theorem uT {ps:List Piece} (hin:nP ps) {i:Nat} {ds:List cK} {e:End} (h:ps[i]? = some (ds,e)):∀ k ∈ bQ e,k < ps.length:=fun k hk=>by
 have h1:=hin _ (List.mem_of_getElem? h)
 cases e with
 | stop=>cases hk
 | go p=>rw [List.mem_singleton.mp hk];exact h1
 | dA b x n p q =>
  rcases List.mem_cons.mp hk with z | z
  ·rw [z];exact h1.1
  ·rw [List.mem_singleton.mp z];exact h1.2
theorem sG {ss:List Int} {ks:List Nat} (h:ss.Perm (ks.map fun k:Nat=>(k:Int))):∃ ms:List Nat,ss=ms.map (fun k:Nat=>(k:Int))/\ms.Perm ks:=by
 refine⟨ss.map Int.toNat,?_,?_⟩
 ·rw [List.map_map]
  have:∀ x ∈ ss,((fun k:Nat=>(k:Int)) ∘ Int.toNat) x=x:=fun x hx=>by
   obtain⟨k,_,rfl⟩:=List.mem_map.mp (h.mem_iff.mp hx)
   show ((Int.toNat (k:Int):Nat):Int)=k
   omega
  rw [List.map_congr_left this,List.map_id']
 ·have:=h.map Int.toNat
  rw [List.map_map] at this
  have e:ks.map (Int.toNat ∘ fun k:Nat=>(k:Int))=ks:=by
   rw [List.map_congr_left (g:=id) (fun x _=>by show Int.toNat (x:Int)=x;omega),List.map_id]
  rw [e] at this
  exact this
def T0:Str->Sx:=fun _=>bN
def FD (T:Str->Sx) (d:PyData):Prop:=∃ ss:List Str,cI ss/\(∀ x,x ∈ ss ↔ T x ≠ bN)/\d=xj T ss
theorem FD.fv {H:Hp} {v:V} {T:Str->Sx} {d:PyData} (h:FD T d) (r:bE H v d):FV H v T:=by
 obtain⟨ss,srt,hm,rfl⟩:=h
 obtain⟨p,xs,rfl,hp,r⟩:=bE.cB r
 exact⟨p,xs,ss,rfl,hp,srt,hm,r⟩
theorem FD.zero:FD T0 (.tuple []):=⟨[],⟨List.Pairwise.nil,List.nodup_nil⟩,fun x=>⟨fun h=>(nomatch h),fun h=>absurd rfl h⟩,rfl⟩
section
variable (tops:Nat->Prop) (most:Nat)
end
structure cC (xs:List Str) (T:Str->Sx):Prop where
 sup:∀ x,T x ≠ bN->x ∈ xs
 le:∀ x,fZ (T x).1 (T x).2
theorem cC.zero {xs:List Str}:cC xs T0:=⟨fun x h=>absurd rfl h,fun x=>True.intro⟩
theorem cC.set {xs:List Str} {T:Str->Sx} (h:cC xs T) {x:Str} {s:Sx} (hx:x ∈ xs) (hs:fZ s.1 s.2):cC xs (cg T x s):=by
 refine⟨fun y hy=>?_,fun y=>?_⟩
 ·unfold cg at hy
  by_cases e:y=x
  ·rw [e];exact hx
  ·rw [if_neg e] at hy;exact h.sup y hy
 ·unfold cg
  by_cases e:y=x
  ·rw [if_pos e];exact hs
  ·rw [if_neg e];exact h.le y
theorem Ao {w:Str} {lo hi:Option Int} {n:Int} {side:Bool} {s:Sx} (le:fZ lo hi) (h:di w lo hi n side=some s):fZ s.1 s.2:=by
 unfold di at h
 split at h
 ·unfold j2 at h
  split at h
  ·unfold fI at h
   cases lo with
   | none=>cases h;exact True.intro
   | some l =>
    dsimp only at h
    split at h
    ·cases h
    ·cases h;show l<=ik hi n;omega
  ·unfold gU at h
   cases hi with
   | none=>cases h;exact True.intro
   | some l =>
    dsimp only at h
    split at h
    ·cases h
    ·cases h;show il lo n<=l;omega
 ·unfold rP at h
  split at h
  ·unfold kA at h
   split at h
   ·cases h;exact Int.le_refl n
   ·cases h
  ·unfold iT at h
   split at h
   ·next h1 =>
    split at h
    ·cases h
    ·next h2 =>
     cases h
     subst h1
     cases hi with
     | none=>exact True.intro
     | some b =>
      have:n<=b:=le
      have:¬ b=n:=fun z=>h2 (by rw [z])
      show n+1<=b
      omega
   ·next h1 =>
    split at h
    ·next h2 =>
     cases h
     subst h2
     cases lo with
     | none=>exact True.intro
     | some a =>
      have:a<=n:=le
      have:¬ a=n:=fun z=>h1 (by rw [z])
      show a<=n - 1
      omega
    ·cases h;exact le
theorem cC.Cz {xs:List Str} {T:Str->Sx} (h:cC xs T) {d:cK} (hd:d6 xs d):cC xs (vG T d):=by
 refine h.set hd.name ?_
 cases d with
 | put x n=>exact Int.le_refl n
 | copy x y=>exact h.le y
 | add x n =>
  have:=h.le x
  show fZ (iW (T x).1 n) (iW (T x).2 n)
  cases e1:(T x).1 with
  | none=>exact True.intro
  | some a=>cases e2:(T x).2 with
   | none=>exact True.intro
   | some b =>
    rw [e1,e2] at this
    have:a<=b:=this
    show a+n<=b+n
    omega
 | read x=>exact True.intro
 | tell x=>exact h.le x
theorem cC.lC {xs:List Str}:∀ {ds:List cK} {T:Str->Sx},cC xs T->(∀ d ∈ ds,d6 xs d)->cC xs (bB T ds)
 | [],_,h,_=>h
 | d :: ds,T,h,hd=>cC.lC (ds:=ds) (h.Cz (hd d (List.mem_cons_self ..))) fun e he=>hd e (List.mem_cons_of_mem _ he)
theorem mq {xs:List Str} {c:Nat} {T:Str->Sx} {e:End} (h:cC xs T) (he:lW xs c e):∀ p ∈ de T e,p.1 < c/\cC xs p.2:=fun p hp=>by
 unfold de at hp
 obtain⟨⟨k,o⟩,ho,hm⟩:=List.mem_filterMap.mp hp
 have hz:=List.of_mem_zip ho
 cases e with
 | stop=>cases hz.1
 | go q =>
  rw [List.mem_singleton.mp hz.2] at hm
  cases hm
  exact⟨by rw [List.mem_singleton.mp hz.1];exact he,h⟩
 | dA b x n q r =>
  have hk:k < c:=by
   rcases List.mem_cons.mp hz.1 with z | z
   ·rw [z];exact he.2.2.1
   ·rw [List.mem_singleton.mp z];exact he.2.2.2
  have key:∀ side,o=(e7 T b x n side).map (cg T x)->p.1 < c/\cC xs p.2:=fun side eo=>by
   dsimp only at hm
   rw [eo] at hm
   cases z:e7 T b x n side with
   | none=>rw [z] at hm;cases hm
   | some s =>
    rw [z] at hm
    cases hm
    exact⟨hk,h.set he.1 (Ao (h.le x) z)⟩
  rcases List.mem_cons.mp hz.2 with z | z
  ·exact key true z
  ·exact key false (List.mem_singleton.mp z)
theorem yS {xs:List Str} {T:Str->Sx} {e:End} (h:cC xs T):((de T e).length=1\/(de T e).length=(bQ e).length)/\(de T e).length<=2:=by
 cases e with
 | stop=>exact⟨.inr rfl,Nat.zero_le _⟩
 | go q=>exact⟨.inl rfl,by show 1<=2;decide⟩
 | dA b x n q r =>
  have e:de T (.dA b x n q r)=((e7 T b x n true).map fun s=>(q,cg T x s)).toList++((e7 T b x n false).map fun s=>(r,cg T x s)).toList:=by
   unfold de
   show ([(q,(e7 T b x n true).map (cg T x)),(r,(e7 T b x n false).map (cg T x))].filterMap fun p=>p.2.map fun U=>(p.1,U))=_
   cases e7 T b x n true <;> cases e7 T b x n false <;> rfl
  rw [e]
  cases e1:e7 T b x n true with
  | none=>cases e2:e7 T b x n false with
   | none=>exact (yu (h.le x) e1 e2).elim
   | some s=>exact⟨.inl rfl,by show 1<=2;decide⟩
  | some s=>cases e2:e7 T b x n false with
   | none=>exact⟨.inl rfl,by show 1<=2;decide⟩
   | some s=>exact⟨.inr rfl,Nat.le_refl 2⟩
theorem cC.bO {xs:List Str} {T:Str->Sx} (h:cC xs T):gf T xs.length:=fun ss hs nd=>sub_len nd fun x hx=>h.sup x (hs x hx)
open Classical in
noncomputable def startT (ps:List Piece):Str->Sx:=fun x=>if x ∈ bM ps then (some 0,some 0) else bN
theorem yT {ps:List Piece} {ss:List Str} (hp:ss.Perm (LS.dC (bM ps))) (hs:sortedS ss=true):FD (startT ps) (sF ss):=by
 have hm:∀ x,x ∈ ss ↔ x ∈ bM ps:=fun x=>hp.mem_iff.trans LS.pU
 refine⟨ss,⟨ll hs,hp.nodup_iff.mpr (LS.sr _)⟩,fun x=>?_,?_⟩
 ·rw [hm]
  unfold startT
  by_cases h:x ∈ bM ps
  ·rw [if_pos h];exact⟨fun _ z=>(by cases z),fun _=>h⟩
  ·rw [if_neg h];exact⟨fun z=>absurd z h,fun z=>absurd rfl z⟩
 ·unfold sF xj
  congr 1
  refine List.map_congr_left fun x hx=>?_
  unfold dF startT
  rw [if_pos ((hm x).mp hx)]
  rfl
theorem yU {ps:List Piece} {xs:List Str} {m:Nat} (ok:cR xs m ps):cC xs (startT ps):=by
 refine⟨fun x hx=>?_,fun x=>?_⟩
 ·unfold startT at hx
  by_cases h:x ∈ bM ps
  ·exact pV ok x h
  ·rw [if_neg h] at hx;exact absurd rfl hx
 ·unfold startT
  split
  ·exact Int.le_refl 0
  ·exact True.intro
section
variable {prog:Program} {w:World} {A:Around} {E:Value->Shared->Prop} {s:Shared}
end
section
variable {X:Cx}
end
inductive sH  (vs:List V) (H:Hp) (Q:VK) (_:XK):Prop
 | mk (ea:Addr) (e:End) (_:vs = [.ref ea]) (_:H ea=some (.tup (gI e))) (_:∀ l H',H l=none->H' l=some (.lst (vN (bQ e)))->ae H H'->Q (.ref l) H')
open Classical in
noncomputable def nc (T:Str->Sx) (ss:List Str):Str->Sx:=fun x=>if x ∈ ss then T x else bN
theorem yV {T:Str->Sx} {ss:List Str} {x:Str}:cg (nc T ss) x (T x)=nc T (ss ++ [x]):=by
 funext y
 unfold cg nc
 by_cases e:y=x
 ·rw [if_pos e,if_pos (by rw [e];exact List.mem_append_right _ (List.mem_singleton.mpr rfl)),e]
 ·rw [if_neg e]
  by_cases h:y ∈ ss
  ·rw [if_pos h,if_pos (List.mem_append_left _ h)]
  ·rw [if_neg h,if_neg (fun z=>(List.mem_append.mp z).elim h fun w=>e (List.mem_singleton.mp w))]
theorem yW {T:Str->Sx} {ss:List Str} (h:∀ x,x ∈ ss ↔ T x ≠ bN):nc T ss=T:=by
 funext x
 unfold nc
 by_cases z:x ∈ ss
 ·rw [if_pos z]
 ·rw [if_neg z]
  exact (Classical.byContradiction fun w=>z ((h x).mpr fun e=>w e.symm))
theorem sI {H:Hp} {v:V} {o:Option Int} (h:bE H v (dO o)):v=vO o:=by
 cases o with
 | none=>cases h;rfl
 | some i=>cases h;rfl
theorem yX {H:Hp} {v:V} {s:Sx} (h:bE H v (dS s)):SH H v s:=by
 obtain⟨p,zs,rfl,hp,r⟩:=bE.cB h
 obtain⟨y1,t1,rfl,q1,r⟩:=r.cons_inv
 obtain⟨y2,t2,rfl,q2,r⟩:=r.cons_inv
 have z:=r.nil_inv
 subst z
 rw [sI q1,sI q2] at hp
 exact⟨p,rfl,hp⟩
section
variable {tops:Nat->Prop} {most:Nat}
end
section
variable {X:Cx}
end
theorem vH {w:Str->Int}:Sound T0 w:=fun x=>rfl
abbrev dh:=List (Option (Str->Sx))
def Met (tab:dh) (ld:Nat × (Str->Sx)):Prop:=∃ T,tab[ld.1]? = some (some T)/\∀ x,cJ (ld.2 x) (T x)=true
def j5 (tab:dh) (o:Option (Str->Sx)) (p:Piece):Prop:=∀ T,o=some T->∀ ld ∈ de (bB T p.1) p.2,Met tab ld
structure ie (ps:List Piece) (tab:dh):Prop where
 len:tab.length=ps.length
 zero:∃ T,tab[0]? = some (some T)/\Sound T fun _=>0
 met:∀ (k:Nat) (p:Piece) (o:Option (Str->Sx)),ps[k]? = some p->tab[k]? = some o->j5 tab o p
theorem xu {a b:Option Int} {n:Int}:(match a with | none=>true | some a=>decide (a<=n))=true->cT a b=true->(match b with | none=>true | some a=>decide (a<=n))=true:=by
 intro hl h
 cases b with
 | none=>rfl
 | some b =>
  cases a with
  | none=>cases h
  | some a =>
   have h1:b<=a:=of_decide_eq_true h
   have h2:a<=n:=of_decide_eq_true hl
   exact decide_eq_true (by omega)
theorem vI {a b:Option Int} {n:Int}:(match a with | none=>true | some a=>decide (n<=a))=true->cn a b=true->(match b with | none=>true | some a=>decide (n<=a))=true:=by
 intro hl h
 cases b with
 | none=>rfl
 | some b =>
  cases a with
  | none=>cases h
  | some a =>
   have h1:a<=b:=of_decide_eq_true h
   have h2:n<=a:=of_decide_eq_true hl
   exact decide_eq_true (by omega)
theorem yY {s t:Sx} {n:Int} (h:cJ s t=true) (hl:cE n s.1 s.2=true):cE n t.1 t.2=true:=by
 unfold cJ at h
 unfold cE at hl ⊢
 rw [Bool.and_eq_true] at h hl ⊢
 exact⟨xu hl.1 h.1,vI hl.2 h.2⟩
theorem Sound.wide {T U:Str->Sx} {w:Str->Int} (h:Sound T w) (hu:∀ x,cJ (T x) (U x)=true):Sound U w:=fun x=>yY (hu x) (h x)
theorem vJ {a b c:Option Int} (h:cT a b=true) (g:cT b c=true):cT a c=true:=by
 cases c with
 | none=>rfl
 | some c =>
  cases b with
  | none=>cases g
  | some b =>
   cases a with
   | none=>cases h
   | some a =>
    have h1:b<=a:=of_decide_eq_true h
    have h2:c<=b:=of_decide_eq_true g
    exact decide_eq_true (by omega)
theorem tP {a b c:Option Int} (h:cn a b=true) (g:cn b c=true):cn a c=true:=by
 cases c with
 | none=>rfl
 | some c =>
  cases b with
  | none=>cases g
  | some b =>
   cases a with
   | none=>cases h
   | some a =>
    have h1:a<=b:=of_decide_eq_true h
    have h2:b<=c:=of_decide_eq_true g
    exact decide_eq_true (by omega)
theorem xw {a b c:Sx} (h:cJ a b=true) (g:cJ b c=true):cJ a c=true:=by
 unfold cJ at h g ⊢
 rw [Bool.and_eq_true] at h g ⊢
 exact⟨vJ h.1 g.1,tP h.2 g.2⟩
def eO (s t:Sx):Sx:=(if cJ t (s.1,none)=true then s.1 else none,if cJ t (none,s.2)=true then s.2 else none)
def qd (T U:Str->Sx):Str->Sx:=fun x=>eO (T x) (U x)
theorem uU (s t:Sx):cJ s (eO s t)=true:=by
 unfold cJ eO
 rw [Bool.and_eq_true]
 constructor
 ·dsimp only
  split
  ·cases s.1 <;> simp [cT]
  ·rfl
 ·dsimp only
  split
  ·cases s.2 <;> simp [cn]
  ·rfl
theorem yZ (s t:Sx):cJ t (eO s t)=true:=by
 unfold eO
 show (cT t.1 _ && cn t.2 _)=true
 rw [Bool.and_eq_true]
 constructor
 ·dsimp only
  split
  ·rename_i h
   unfold cJ at h
   rw [Bool.and_eq_true] at h
   exact h.1
  ·rfl
 ·dsimp only
  split
  ·rename_i h
   unfold cJ at h
   rw [Bool.and_eq_true] at h
   exact h.2
  ·rfl
theorem xx (t:Sx):eO bN t=bN:=by
 unfold eO bN
 simp
theorem Cg {s:Sx} (t:Sx) (h:fZ s.1 s.2):fZ (eO s t).1 (eO s t).2:=by
 unfold eO
 dsimp only
 split <;> split <;> first | exact h | exact True.intro | (cases s.1 <;> exact True.intro)
theorem cC.op {xs:List Str} {T U:Str->Sx} (h:cC xs T):cC xs (qd T U):=⟨fun x hx=>h.sup x fun e=>hx (by unfold qd;rw [e,xx]),fun x=>Cg _ (h.le x)⟩
def sJ (o:Option Int):Nat:=if o.isSome=true then 1 else 0
def gW (s:Sx):Nat:=sJ s.1+sJ s.2
theorem y6 (s:Sx):gW s<=2:=by
 unfold gW sJ
 split <;> split <;> omega
theorem uV (s t:Sx):gW (eO s t)<=gW s:=by
 have key:∀ (c:Bool) (o:Option Int),sJ (if c=true then o else none)<=sJ o:=fun c o=>by cases c <;> cases o <;> simp [sJ]
 exact Nat.add_le_add (key _ _) (key _ _)
theorem xy {s t:Sx} (h:cJ t s=false):gW (eO s t) < gW s:=by
 unfold cJ at h
 have key:∀ a b:Option Int,cT a b=false->∃ k,b=some k:=fun a b h=>by cases b with | none=>cases h | some k=>exact⟨k,rfl⟩
 have key2:∀ a b:Option Int,cn a b=false->∃ k,b=some k:=fun a b h=>by cases b with | none=>cases h | some k=>exact⟨k,rfl⟩
 have e1:cJ t (s.1,none)=cT t.1 s.1:=by unfold cJ;simp [cn]
 have e2:cJ t (none,s.2)=cn t.2 s.2:=by unfold cJ;simp [cT]
 unfold gW eO sJ
 rw [e1,e2]
 dsimp only
 cases h1:cT t.1 s.1 with
 | false =>
  obtain⟨k,hk⟩:=key _ _ h1
  rw [hk]
  simp
  split <;> simp <;> (try split) <;> omega
 | true =>
  rw [h1,Bool.true_and] at h
  obtain⟨k,hk⟩:=key2 _ _ h
  rw [h,hk]
  simp
def gh (xs:List Str) (T:Str->Sx):Nat:=(xs.map fun x=>gW (T x)).sum
theorem sL:∀ (xs:List Str) (T:Str->Sx),gh xs T<=2 * xs.length
 | [],T=>Nat.le_refl _
 | x :: xs,T=>by
  have:=sL xs T
  have h:=y6 (T x)
  unfold gh at this ⊢
  simp only [List.map_cons,List.sum_cons,List.length_cons]
  omega
theorem sM:∀ (xs:List Str) (T U:Str->Sx),gh xs (qd T U)<=gh xs T
 | [],T,U=>Nat.le_refl _
 | x :: xs,T,U=>by
  have:=sM xs T U
  have h:=uV (T x) (U x)
  unfold gh at this ⊢
  simp only [List.map_cons,List.sum_cons]
  show gW (eO (T x) (U x))+_<=_
  omega
theorem og:∀ (xs:List Str) (T U:Str->Sx) (y:Str),y ∈ xs->cJ (U y) (T y)=false->gh xs (qd T U) < gh xs T
 | [],T,U,y,h,_=>nomatch h
 | x :: xs,T,U,y,h,hw=>by
  have h1:=uV (T x) (U x)
  have h2:=sM xs T U
  unfold gh at h2 ⊢
  simp only [List.map_cons,List.sum_cons]
  show gW (eO (T x) (U x))+_ < _
  rcases List.mem_cons.mp h with e | e
  ·subst e
   have:=xy hw
   omega
  ·have:=og xs T U y e hw
   unfold gh at this
   omega
def sN (xs:List Str):Option (Str->Sx)->Nat
 | none=>2 * xs.length+1
 | some T=>gh xs T
def jO (xs:List Str) (tab:dh):Nat:=(tab.map (sN xs)).sum
theorem uW (xs:List Str):∀ (tab:dh) (k:Nat) (o o':Option (Str->Sx)),tab[k]? = some o->jO xs (tab.set k o')+sN xs o=jO xs tab+sN xs o'
 | [],k,o,o',h=>by simp at h
 | f :: tab,0,o,o',h=>by
  cases h
  simp only [jO,List.set_cons_zero,List.map_cons,List.sum_cons]
  omega
 | f :: tab,k+1,o,o',h=>by
  have ih:=uW xs tab k o o' h
  simp only [jO,List.set_cons_succ,List.map_cons,List.sum_cons] at ih ⊢
  omega
def iZ (o:Option (Str->Sx)) (U:Str->Sx):Str->Sx:=match o with
 | none=>U
 | some T=>qd T U
theorem vK (o:Option (Str->Sx)) (U:Str->Sx) (x:Str):cJ (U x) (iZ o U x)=true:=by
 cases o with
 | none=>exact yQ _
 | some T=>exact yZ _ _
theorem Met.up {tab:dh} {k:Nat} {o:Option (Str->Sx)} {U:Str->Sx} (hk:tab[k]? = some o) {ld:Nat × (Str->Sx)} (h:Met tab ld):Met (tab.set k (some (iZ o U))) ld:=by
 obtain⟨T,h1,h2⟩:=h
 by_cases e:ld.1=k
 ·rw [e,hk] at h1
  cases h1
  refine⟨_,by rw [e,List.getElem?_set_self (List.getElem?_eq_some_iff.mp hk).1],fun x=>?_⟩
  exact xw (h2 x) (uU _ _)
 ·exact⟨T,by rw [List.getElem?_set_ne (fun z=>e z.symm)];exact h1,h2⟩
theorem Met.new {tab:dh} {k:Nat} {o:Option (Str->Sx)} {U:Str->Sx} (hk:tab[k]? = some o):Met (tab.set k (some (iZ o U))) (k,U) :=
 ⟨_,List.getElem?_set_self (List.getElem?_eq_some_iff.mp hk).1,vK o U⟩
theorem Ap {xs:List Str} {tab:dh} {k:Nat} {o:Option (Str->Sx)} {U:Str->Sx} (hk:tab[k]? = some o) (ho:∀ T,o=some T->cC xs T) (hm:¬ Met tab (k,U)):jO xs (tab.set k (some (iZ o U))) < jO xs tab:=by
 have h:=uW xs tab k o (some (iZ o U)) hk
 have hl:sN xs (some (iZ o U)) < sN xs o:=by
  cases o with
  | none=>have:=sL xs U;show gh xs U < 2 * xs.length+1;omega
  | some T =>
   have:∃ y,cJ (U y) (T y)=false:=by
    by_cases hz:∃ y,cJ (U y) (T y)=false
    ·exact hz
    ·exact absurd ⟨T,hk,fun x=>by
      cases hb:cJ (U x) (T x) with
      | true=>rfl
      | false=>exact absurd ⟨x,hb⟩ hz⟩ hm
   obtain⟨y,hy⟩:=this
   have hy2:T y ≠ bN:=fun e=>by rw [e,mn] at hy;cases hy
   exact og xs T U y ((ho T rfl).sup y hy2) hy
 omega
def Bq (J:It) (n:Nat) (js:List Nat) (g:TG) (ct:TT) (tk tv:TE) (acc:Addr) (σ : St) (H1:Hp) (Q:VK):Prop :=
 ∃ W:Nat->Nat->List (Key × V)->St->Hp->Prop,(∃ m,W 0 m [] (hX n js σ) (upd H1 acc (.dK [])))/\∀ i m ys τ H2,W i m ys τ H2->H2 acc=some (.dK ys)/\ys.length < sizeLine /\
  ((J.stop i H2/\Q (.ref acc) H2)\/(J.go i H2/\∃ N:List (Key × V)->St->Hp->Prop,(∀ ys' τ' H',N ys' τ' H'->∃ m',m' < m/\W (i+1) m' ys' τ' H')/\∀ x H3,J.pF i H2 x H3->g x τ H3 fun τ1 H4=>ct τ1 H4 fun b H5 =>
   if b=true then tk τ1 H5 fun x1 H6=>tv τ1 H6 fun y H7=>∃ k,x1=kV k/\H7 acc=some (.dK ys)/\N (putK ys k y) τ1 (upd H7 acc (.dK (putK ys k y))) else N ys τ1 H5))
def Dt (n:Nat) (js:List Nat) (wi:TI) (g:TG) (ct:TT) (tk tv:TE):TE:=fun σ H Q=>wi σ H fun J H1=>∀ acc,H1 acc=none->Bq J n js g ct tk tv acc σ H1 Q
section
variable {X:Cx} {pos:Pos}
theorem kK {prog:Program} {w:World} {A:Around} {R:Result->Shared->Prop} {s:Shared} {kx vx target iter:Expr} {ifs:List Expr} {scope:Scope} {pos:Pos} {it:Value} {D:Addr} {env:Env} (I:Nat->Shared->Prop)
  (turn:∀ n s,I n s->wpAny (model prog w) A (pyNext it) (fun r s₁=>match r with
   | none=>R (.ok .next) s₁
   | some v=>wpAny (model prog w) A (letOwnedTupleGo target it v) (fun _ s₁'=>wpAny (model prog w) A (assign target env v) (fun _ s₂ =>
     wpAny (model prog w) A (forIn ifs true fun c r=>if r=true then do let ok <-isTrue c env (eval c env);pure (ForInStep.yield ok) else pure (ForInStep.yield r)) (fun ok s₃ =>
      if ok=true then wpAny (model prog w) A (eval kx env) (fun kv s₄=>wpAny (model prog w) A (eval vx env) (fun vv s₅ =>
       wpAny (model prog w) A (dictSet D kv vv) (fun _ s₆=>∃ m,m < n/\I m s₆) (fun _ _=>False) s₅) (fun _ _=>False) s₄) (fun _ _=>False) s₃
      else ∃ m,m < n/\I m s₃) (fun _ _=>False) s₂) (fun _ _=>False) s₁') (fun _ _=>False) s₁) (fun _ _=>False) s)
  (n:Nat) (h:I n s) :
  codeAny (model prog w) A (.compLoop (.DictComp kx vx [⟨target,iter,ifs,0⟩] scope pos) 0 it (.ref D) env) R s:=by
 refine codeAny_loop rfl I (fun n s hI=>?_) n h
 show wpAny _ A ((compTurn (.DictComp kx vx [⟨target,iter,ifs,0⟩] scope pos) 0 it (.ref D) env).onRaise (fun x=>do noteFrame x env;theTreesLotGoes x)) _ _ s
 refine wpAny_noted ?_
 rw [compTurn_dict]
 refine wpAny_bind (wpAny_standAt (wpAny_bind (wpAny_mono (turn n s hI) (fun r s₁ h₁=>?_) fun _ _ h'=>h'.elim)))
 cases r with
 | none=>exact wpAny_pure h₁
 | some v =>
  refine wpAny_bind (wpAny_mono h₁ (fun _ s₁' h₁'=>?_) fun _ _ h'=>h'.elim)
  refine wpAny_bind (wpAny_mono h₁' (fun _ s₂ h₂=>wpAny_bind (wpAny_mono h₂ (fun ok s₃ h₃=>?_) fun _ _ h'=>h'.elim)) fun _ _ h'=>h'.elim)
  cases ok with
  | false=>exact wpAny_pure ⟨rfl,h₃⟩
  | true =>
   exact wpAny_bind (wpAny_bind (wpAny_mono h₃ (fun kv s₄ h₄=>wpAny_bind (wpAny_holding (wpAny_mono h₄ (fun vv s₅ h₅=>wpAny_bind (wpAny_standAt (wpAny_holding (wpAny_mono h₅ (fun _ s₆ h₆=>wpAny_pure ⟨rfl,h₆⟩) fun _ _ h'=>h'.elim)))) fun _ _ h'=>h'.elim))) fun _ _ h'=>h'.elim))
theorem Aq {pins:List (Addr × Obj)} {σ : St} {H:Hp} {s:Shared} {E:Value->Shared->Prop} {tg kx vx iter:Expr} {ifs:List Expr} {scope:Scope} {g:TG} {ct:TT} {tk tv:TE} {ts fr:List Str} {js:List Nat}
    {it:Addr} {fp:List Addr} {tn:Nat->Heap->Prop} {J:It} {Q:VK} {RR:Value->Addr->Result->Shared->Prop}
    (hc:X.calm=true) (hkind:scope.kind=.function) (hcell:∀ y ∈ scope.names,y.2 ≠ .cell) (hfree:∀ y ∈ scope.names,y.2=.free->X.env.kindOf y.1=some .cell\/X.env.kindOf y.1=some .free)
    (hfr:fN X scope fr js) (htg:∀ C fp s₁ H₁,PG (du X scope C (ts++fr) fp s₁ H₁) tg g) (hct:∀ C fp s₁ H₁,rE (du X scope C (ts++fr) fp s₁ H₁) ifs ct) (htk:∀ C fp s₁ H₁,PE (du X scope C (ts++fr) fp s₁ H₁) kx tk) (htv:∀ C fp s₁ H₁,PE (du X scope C (ts++fr) fp s₁ H₁) vx tv)
    (I:Inv X pins σ H s) (T:Turn X.prog X.w X.K tg J fp it tn) (st:tn 0 s.heap) (hfp:∀ b ∈ fp,gy X pins H b)
    (h:∀ acc,H acc=none->Bq J ts.length js g ct tk tv acc σ H Q)
    (hRR:∀ acc C H' s' m,Inv X pins σ H' s'->s'.heap.Ns C m->H' C=none->s.heap.objs.size<=C->Q (.ref acc) H'->RR (.ref acc) C (.ok .next) s') :
    wpAny (model X.prog X.w) X.A newDict (fun acc s₃=>wpAny (model X.prog X.w) X.A (newFunctionEnv scope X.env.globals (hV X.env.cells scope.names []) [] X.env.qual none .none (some X.env)) (fun cenv s₄ =>
      codeAny (model X.prog X.w) X.A (.compStart (.DictComp kx vx [⟨tg,iter,ifs,0⟩] scope pos) 0 (.ref it) acc { cenv with scope:=relabel scope X.env }) (RR acc cenv.locals) s₄) E s₃) E s:=by
  have hf:∀ y ∈ scope.names,y.2=.free->∃ c,X.env.cells.lookup y.1=some c:=fun y hy e=>I.ok.has y.1 (hfree y hy e)
  have ag:∀ x c,(hV X.env.cells scope.names []).lookup x=some c->X.env.cells.lookup x=some c:=i9 scope.names [] hf fun x c e=>by simp at e
  have hlt:∀ b ∈ fp,b < s.heap.objs.size:=fun b hb=>by
    obtain⟨o,e,_⟩:=T.obj _ _ st b hb
    exact Heap.lt_size e
  refine wpAny_newObj_type (wpAny_newFunctionEnv hcell (by intro y hy;simp at hy) (fun h₁ hns₁ hsb₁=>?_) hkind)
  dsimp only at hns₁ hsb₁ ⊢
  have hnew:(s.heap.push { cls:=.type "dict",dict:=none,data:=.dict #[] }).DictOf (aT X.prog X.w) s.heap.objs.size []:=Heap.DictOf.new s.heap
  generalize hH2:s.heap.push { cls:=.type "dict",dict:=none,data:=.dict #[] }=G2 at hns₁ hsb₁ hnew ⊢
  have hC:G2.objs.size=s.heap.objs.size+1:=by rw [<-hH2,Heap.size_push]
  have hDC:s.heap.objs.size ≠ G2.objs.size:=by rw [hC];exact Nat.ne_of_lt (Nat.lt_succ_self _)
  have hCle:s.heap.objs.size<=G2.objs.size:=by rw [hC];exact Nat.le_succ _
  have below:∀ b,b < s.heap.objs.size->b ≠ G2.objs.size/\b ≠ s.heap.objs.size:=fun b hb=>⟨by rw [hC];exact Nat.ne_of_lt (Nat.lt_succ_of_lt hb),Nat.ne_of_lt hb⟩
  have old:∀ b o,s.heap.get? b=some o->h₁.get? b=some o:=fun b o e=>hsb₁.extBut b o (below b (Heap.lt_size e)).1 (Heap.get?_push_of_some _ (hH2 ▸ Heap.get?_push_of_some _ e))
  have hacc:h₁.DictOf (aT X.prog X.w) s.heap.objs.size []:=hnew.at fun o e=>hsb₁.extBut _ _ hDC (Heap.get?_push_of_some _ e)
  have nD:H s.heap.objs.size=none:=I.aN.fresh (Nat.le_refl _)
  have nC:H G2.objs.size=none:=I.aN.fresh hCle
  obtain⟨W,⟨m0,w0⟩,turn⟩:=h s.heap.objs.size nD
  generalize hXb:du X scope G2.objs.size (ts++fr) fp s H=Xb
  have Ib:∀ tk,Inv Xb [] (hX ts.length js σ) (upd H s.heap.objs.size (.dK [])) { s with heap:=h₁,toks:=tk }:=by
    intro tk
    subst hXb
    refine⟨wH I hkind hcell hf hCle hfp hlt,rfl,I.bare,Un.laid old (Nat.le_refl _) nD,⟨_,hns₁,fun i x v e1 e2 e3=>?_⟩,fun x c e=>?_,?_,fun x c e=>?_,fun p hp=>absurd (show p ∈ ([]:List (Addr × Obj)) from hp) (by simp),I.aN.laid old (Nat.le_refl _) (iR (Nat.zero_le _) (beq_eq_false_iff_ne.mpr (Ne.symm (Nat.ne_of_lt I.big))) .nil hacc),?_⟩
    · have hi:ts.length<=i:=by
        refine Nat.le_of_not_lt fun hi=>?_
        unfold hX at e2
        rw [List.getElem?_append_left (by simpa using hi),List.getElem?_replicate] at e2
        split at e2 <;> cases e2
      have e1':fr[i - ts.length]? = some x:=by
        have e1'':(ts++fr)[i]? = some x:=e1
        rw [List.getElem?_append_right hi] at e1''
        exact e1''
      unfold hX at e2
      rw [List.getElem?_append_right (by simpa using hi),List.length_replicate,List.getElem?_map] at e2
      cases ej:js[i - ts.length]? with
      | none=>rw [ej] at e2;cases e2
      | some j =>
        rw [ej] at e2
        have e2':σ.getD j none=some v:=by simpa using e2
        obtain⟨q1,q2,q3⟩:=hfr.get e1' ej
        have e2'':σ[j]? = some (some v):=by
          rw [List.getD_eq_getElem?_getD] at e2'
          cases ez:σ[j]? with
          | none=>rw [ez] at e2';cases e2'
          | some z=>rw [ez] at e2';rw [show z=some v from e2']
        obtain⟨m,hn,hl⟩:=I.loc
        obtain⟨u,r,l⟩:=hl j x v q1 e2'' (by
          rcases q2 with q2 | q2
          · exact .inr (.inl q2)
          · exact .inr (.inr q2))
        refine⟨u,r,.inr ⟨iO q3,?_⟩⟩
        rcases l with ⟨l,_⟩ | ⟨_,c,lc,lv⟩
        · rcases q2 with q2 | q2 <;> (rw [l] at q2;cases q2)
        · obtain⟨c',hc'⟩:=lV (cells:=X.env.cells) scope.names [] (.inl (PySem.mem_of_lookup q3))
          have:=ag x c' hc'
          rw [lc] at this
          cases this
          obtain⟨o,ho,hd⟩:=lv
          exact⟨c,hc',o,old _ _ ho,hd⟩
    · obtain⟨v,o,ho,hd⟩:=I.cell x c (ag x c e)
      exact⟨v,o,old _ _ ho,hd⟩
    · show upd H s.heap.objs.size (.dK []) G2.objs.size=none
      rw [ao hDC.symm];exact nC
    · obtain⟨v,o,ho,hd⟩:=I.cell x c (ag x c e)
      rw [ao (Nat.ne_of_lt (Heap.lt_size ho))]
      exact I.en x c (ag x c e)
    · show (hX ts.length js σ).length=(ts++fr).length
      unfold hX
      rw [List.length_append,List.length_replicate,List.length_map,List.length_append,hfr.len]
  have fpB:∀ {H':Hp},(∀ b ∈ fp,H' b=none)->∀ b ∈ fp,gy Xb [] H' b:=fun {H'} hn b hb=>by
    subst hXb
    obtain⟨h1,h2,h3,h4,h5,h6⟩:=hfp b hb
    refine⟨hn b hb,(below b (hlt b hb)).1,fun z=>?_,.inl hb,fun x c e=>h5 x c (ag x c e),fun p hp=>absurd (show p ∈ ([]:List (Addr × Obj)) from hp) (by simp)⟩
    rcases List.mem_cons.mp (I.kP b z) with z | z
    · exact h2 z
    · exact h3 z
  have fin:∀ {τ : St} {H':Hp} {s':Shared},Inv Xb [] τ H' s'->Q (.ref s.heap.objs.size) H'->RR (.ref s.heap.objs.size) G2.objs.size (.ok .next) s':=fun {τ H' s'} Jb q=>by
    subst hXb
    obtain⟨m,hn,_⟩:=Jb.loc
    refine hRR _ _ H' s' m (I.zx (ch:=fp) Jb.os Jb.base Jb.aN Jb.bare fun b hb=>?_) hn Jb.free hCle q
    obtain⟨h1,h2,h3,h4,h5,h6⟩:=hfp b hb
    exact⟨h4,h2,h5,h6⟩
  have loop:∀ tk,codeAny (model X.prog X.w) X.A (.compLoop (.DictComp kx vx [⟨tg,iter,ifs,0⟩] scope pos) 0 (.ref it) (.ref s.heap.objs.size) (compEnvC scope (hV X.env.cells scope.names []) G2.objs.size X.env))
        (RR (.ref s.heap.objs.size) G2.objs.size) { s with heap:=h₁,toks:=tk }:=by
    intro tk
    refine kK (fun n s'=>∃ i ys τ H',Inv Xb [] τ H' s'/\tn i s'.heap/\(∀ b ∈ fp,H' b=none)/\W i n ys τ H') ?_ m0 ⟨0,[],_,_,Ib tk,T.keep _ _ _ st fun b hb o e=>old b o e,fun b hb=>?_,w0⟩
    · rintro n s3 ⟨i,ys,τ,H3,I3,st3,fr3,w3⟩
      have htg':=htg G2.objs.size fp s H
      have hct':=hct G2.objs.size fp s H
      have htk':=htk G2.objs.size fp s H
      have htv':=htv G2.objs.size fp s H
      rw [hXb] at htg' hct' htk' htv'
      have eP:Xb.prog=X.prog:=by subst hXb;rfl
      have ew:Xb.w=X.w:=by subst hXb;rfl
      have eK:Xb.K=X.K:=by subst hXb;rfl
      have eA:Xb.A=X.A:=by subst hXb;rfl
      have ec:Xb.calm=true:=by subst hXb;exact hc
      have ee:Xb.env=compEnvC scope (hV X.env.cells scope.names []) G2.objs.size X.env:=by subst hXb;rfl
      have ex:Xb.xe=fun _ _=>False:=by subst hXb;rfl
      rw [<-eP,<-ew,<-eA,<-ee]
      obtain⟨ha,hl,turn'⟩:=turn i n ys τ H3 w3
      rcases turn' with ⟨stop,q⟩ | ⟨go,N,hN,step⟩
      · have hd:=T.done Xb eP ew eK ec i [] s3 τ H3 (fun _ _=>False) I3 (fpB fr3) st3 stop
        rw [<-eP,<-ew] at hd
        refine wpAny_mono hd (fun r s4 hr4=>?_) fun _ _ z=>z
        obtain⟨hr,I4⟩:=hr4
        subst hr
        exact fin I4 q
      · have hd:=T.item Xb eP ew eK ec i [] s3 τ H3 (fun _ _=>False) I3 (fpB fr3) st3 go
        rw [<-eP,<-ew] at hd
        refine wpAny_mono hd (fun r s4 hr4=>?_) fun _ _ z=>z
        obtain⟨u,hr,h4⟩:=hr4
        subst hr
        refine wpAny_mono h4 (fun _ s5 ⟨x,H5,I5,r5,y5,st5,fr5⟩=>?_) fun _ _ z=>z
        have I5':=I5.pinned (fpB fr5) (T.obj _ _ st5)
        have keepT:∀ {σ7:St} {H7:Hp} {s7:Shared},Inv Xb ([] ++ jC fp s5.heap) σ7 H7 s7->tn (i+1) s7.heap/\∀ b ∈ fp,H7 b=none:=fun {σ7 H7 s7} I7=>by
          refine⟨T.keep _ _ _ st5 fun b hb o e=>(I7.pin (b,o) (List.mem_append_right _ (List.mem_append_right _ (fB hb e)))).1,fun b hb=>?_⟩
          obtain⟨o,e,d⟩:=T.obj _ _ st5 b hb
          exact (I7.pin (b,o) (List.mem_append_right _ (List.mem_append_right _ (fB hb e)))).2.1
        refine wpAny_mono (htg' _ s5 τ H5 x u _ I5' r5 (step x H5 y5)) (fun _ s6 ⟨τ6,H6,I6,q6⟩=>?_) (fun _ _ z=>by rw [ex] at z;exact z)
        refine wpAny_mono (hct' _ s6 τ6 H6 _ I6 q6) (fun ok s7 ⟨H7,I7,q7⟩=>?_) (fun _ _ z=>by rw [ex] at z;exact z)
        cases ok with
        | false =>
          have q7':N ys τ6 H7:=by rw [if_neg (by simp)] at q7;exact q7
          rw [if_neg (by simp)]
          obtain⟨m',hm,w7⟩:=hN _ _ _ q7'
          exact⟨m',hm,i+1,ys,τ6,H7,I7.fM,(keepT I7).1,(keepT I7).2,w7⟩
        | true =>
          rw [if_pos rfl] at q7 ⊢
          refine wpAny_mono (htk' _ s7 τ6 H7 _ I7 q7) (fun kv s8 ⟨x8,H8,I8,r8,q8⟩=>?_) (fun _ _ z=>by rw [ex] at z;exact z)
          refine wpAny_mono (htv' _ s8 τ6 H8 _ I8 q8) (fun v s9 ⟨y,H9,I9,r9,k,ek,ha9,n9⟩=>?_) (fun _ _ z=>by rw [ex] at z;exact z)
          subst ek
          obtain⟨z,hd,vs,rel,dd⟩:=me I9.aN ha9
          have hz:vs.length<=sizeLine:=by rw [<-rel.length];exact z
          have hl9:(putK ys k y).length<=sizeLine:=by have:=ji ys k y;omega
          refine wpAny_dictSet_pairs (hsz:=hz) (ja r8) dd fun h' dd' hs=>?_
          have he:∃ q,h'.get? s.heap.objs.size=some q:=let ⟨q,_,_,hq,_⟩:=dd';⟨q,hq⟩
          have I10:=fun tk=>mf (t':=tk) I9 (by rw [ha9];exact True.intro) hs he (iR hl9 hd (rel.put k r9) dd')
          obtain⟨m',hm,w8⟩:=hN _ _ _ n9
          exact⟨m',hm,i+1,_,τ6,_,(I10 (s9.toks+1)).fM,(keepT (I10 (s9.toks+1))).1,(keepT (I10 (s9.toks+1))).2,w8⟩
    · rw [ao (Nat.ne_of_lt (hlt b hb))]
      exact (hfp b hb).1
  exact codeAny_compStart_dict (loop _) (T.self _ 0 _ _ _ (T.keep _ _ _ st fun b hb o e=>old b o e) (loop _))
theorem y7 {tg kx vx iter:Expr} {ifs:List Expr} {scope:Scope} {wi:TI} {g:TG} {ct:TT} {tk tv:TE} (ts fr:List Str) (js:List Nat)
  (hc:X.calm=true) (hi:PI X tg iter wi) (hkind:scope.kind=.function) (hcell:∀ y ∈ scope.names,y.2 ≠ .cell) (hnames:∀ y ∈ scope.names,y.2=.local->scope.names.lookup y.1=some .local)
  (hfree0:∀ y ∈ scope.names,y.2=.free->y.1 ∈ fr) (hfr:fN X scope fr js)
  (htg:∀ C fp s₁ H₁,PG (du X scope C (ts++fr) fp s₁ H₁) tg g) (hct:∀ C fp s₁ H₁,rE (du X scope C (ts++fr) fp s₁ H₁) ifs ct) (htk:∀ C fp s₁ H₁,PE (du X scope C (ts++fr) fp s₁ H₁) kx tk) (htv:∀ C fp s₁ H₁,PE (du X scope C (ts++fr) fp s₁ H₁) vx tv)
  (hs:∀ x,foldedSetIterable iter X.env x=pure x:=by intro _;rfl):PE X (.DictComp kx vx [⟨tg,iter,ifs,0⟩] scope pos) (Dt ts.length js wi g ct tk tv):=by
 have hfree:∀ y ∈ scope.names,y.2=.free->X.env.kindOf y.1=some .cell\/X.env.kindOf y.1=some .free:=fun y hy e=>hfr.mem (hfree0 y hy e)
 intro pins s σ H Q I h
 rw [arm_eval_DictComp]
 refine wpAny_comprehension_free (use:=none) rfl hs (jX fun y hy e=>I.ok.has y.1 (hfree y hy e)) hkind hnames (bA (hi pins s σ H _ I h) fun xv s1 h1=>bA h1 fun itv s2 h2=>?_)
 obtain⟨it,fp,tn,J,H2,e,I2,T,st2,f2,hW⟩:=h2
 subst e
 refine Aq (RR:=fun acc C=>compPost (model X.prog X.w) X.A X.xe none (EP X pins σ Q) acc C) hc hkind hcell hfree hfr htg hct htk htv I2 T st2 f2 hW ?_
 intro acc C H' s' m I' hn hC hle q
 exact⟨m,hn,fun h' hsb=>⟨.ref acc,H',I2.rF I' hC hle hsb,rfl,q⟩⟩
end
theorem Br {K:PySem.W.Frag} {a acc:Addr} {xs:List V} {n:Nat} {js:List Nat} {g:TG} {ct:TT} {tk tv:TE} {σ : St} {H1:Hp} {Q:VK} (Pv:Nat->List (Key × V)->St->Hp->Prop) (h0:Pv 0 [] (hX n js σ) (upd H1 acc (.dK [])))
  (hl:∀ i ys τ H,i<=xs.length->Pv i ys τ H->ar K H a xs/\H acc=some (.dK ys)/\ys.length < sizeLine)
  (hs:∀ i x ys τ H,xs[i]? = some x->Pv i ys τ H->g x τ H fun τ1 H4=>ct τ1 H4 fun b H5=>if b=true then tk τ1 H5 fun x1 H6=>tv τ1 H6 fun y H7=>∃ k,x1=kV k/\H7 acc=some (.dK ys)/\Pv (i+1) (putK ys k y) τ1 (upd H7 acc (.dK (putK ys k y))) else Pv (i+1) ys τ1 H5)
  (hd:∀ ys τ H,Pv xs.length ys τ H->Q (.ref acc) H) :
  Bq (qY K a) n js g ct tk tv acc σ H1 Q:=by
 refine⟨fun i m ys τ H=>m=xs.length - i/\i<=xs.length/\Pv i ys τ H,⟨xs.length,by simp,Nat.zero_le _,h0⟩,?_⟩
 rintro i m ys τ H ⟨rfl,hi,p⟩
 obtain⟨q,q2,q3⟩:=hl i ys τ H hi p
 refine⟨q2,q3,?_⟩
 by_cases hlt:i < xs.length
 ·refine .inr ⟨⟨xs,xs[i],q,by simp [hlt]⟩,Pv (i+1),fun ys' τ' H' p'=>⟨xs.length - (i+1),by omega,rfl,hlt,p'⟩,fun x H' y=>?_⟩
  obtain⟨e,y⟩:=y
  subst e
  exact hs i x ys τ _ (y xs q) p
 ·have e:i=xs.length:=by omega
  subst e
  exact .inl ⟨⟨xs,q,Nat.le_refl _⟩,hd ys τ H p⟩
section
variable {X:Cx}
theorem Bs:rl X (fun x i H Q=>rm X.K x i H Q\/yd X.K x i H Q):=by
 intro value slice pins s σ H x y v u Q I rx ry h e
 rcases h with h | h
 ·exact bL value slice pins s σ H x y v u Q I rx ry h e
 ·exact aR value slice pins s σ H x y v u Q I rx ry h e
end
section
variable {X:Cx}
inductive Ar  (x:V) (vs:List V) (H:Hp) (Q:VK):Prop
 | mk (l:Addr) (xs:List V) (y z:V) (i:Nat) (_:x=.ref l) (_:vs = [y]) (_:H l=some (.lst xs)) (_:fC y=true) (_:xs.all fC=true) (_:xs[i]? = some z) (_:kX z y=true) (_:(∀ (j:Nat) (z':V),j < i->xs[j]? = some z'->kX z' y=false)) (_:Q (.int (i:Nat)) H)
theorem xA:wB X "list.index" Ar:=by
 intro pins s σ H x vs v us Q I rx rv h
 obtain⟨l,xs,y,z,i,rfl,rfl,hH,fy,fs,hi,hz,hlt,q⟩:=h
 cases rx
 obtain⟨u,rfl,ru⟩:=rv.one
 obtain⟨z',its,n,r,hl,e⟩:=I.jW hH
 have hlen:xs.length=its.length:=r.length
 have hil:i < xs.length:=(List.getElem?_eq_some_iff.mp hi).1
 have key:∀ (m:Nat) (w:V) (hm:m < its.length),xs[m]? = some w->hJ y its[m] = kX w y:=fun m w hm hw=>by
  obtain⟨u',hu',ru'⟩:=r.get hw
  rw [List.getElem?_eq_getElem hm] at hu'
  cases hu'
  exact rn ru' (by rw [List.all_eq_true] at fs;exact fs w (List.mem_of_getElem? hw))
 refine call_meets F.slot_list_index ⟨_,e,rfl⟩ F.entry_list_index (F.args_list_index_2 _ _)
  (SeqAt.list_indexAt l its.toArray n none #[] u (hJ y) i (by rw [List.size_toArray];omega) (by have:=jD;omega) ?_ ?_) ⟨e,fun w hw=>gG ru fy r fs w (by simpa using hw),?_⟩
 ·rw [show its.toArray[i]'(by rw [List.size_toArray];omega)=its[i]'(by omega) from rfl,key i z (by omega) hi]
  exact hz
 ·intro m hm hmi
  have hm':m < its.length:=by rw [List.size_toArray] at hm;exact hm
  have hx:xs[m]? = some xs[m]:=by simp
  rw [show its.toArray[m] = its[m]'hm' from rfl,key m _ hm' hx]
  exact hlt m _ hmi hx
 ·exact⟨.int _,H,I.Bm,⟨_,rfl⟩,q⟩
end
theorem xB (b:Bool):∀ bs:List Bool,jF (.bl b) (bs.map V.bl)=decide (b ∈ bs)
 | []=>rfl
 | c :: r=>by
  have ih:=xB b r
  unfold jF at ih ⊢
  rw [List.map_cons,List.any_cons,ih]
  show ((c == b) || _)=_
  cases b <;> cases c <;> simp
theorem ng:∀ bs:List Bool,(bs.map V.bl).all fC=true
 | []=>rfl
 | _ :: r=>ng r
theorem oh:∀ {bs:List Bool},true ∈ bs->∃ i:Nat,bs[i]? = some true/\∀ j:Nat,j < i->bs[j]? = some false
 | [],h=>nomatch h
 | true :: r,_=>⟨0,rfl,fun j h=>absurd h (Nat.not_lt_zero _)⟩
 | false :: r,h=>by
  obtain⟨i,h1,h2⟩:=oh (bs:=r) (by simpa using h)
  exact⟨i+1,h1,fun j hj=>by cases j with | zero=>rfl | succ j=>exact h2 j (by omega)⟩
def j6 (bs:List Bool):Nat:=(bs.map fun b=>if b=true then 1 else 0).sum
theorem sO:∀ bs:List Bool,j6 bs<=bs.length
 | []=>Nat.le_refl _
 | b :: r=>by
  have:=sO r
  unfold j6 at this ⊢
  simp only [List.map_cons,List.sum_cons,List.length_cons]
  split <;> omega
theorem qe:∀ (bs:List Bool) (i:Nat),bs[i]? = some true->j6 (bs.set i false)+1=j6 bs
 | [],i,h=>by simp at h
 | b :: r,0,h=>by cases h;simp [j6];omega
 | b :: r,i+1,h=>by
  have:=qe r i h
  unfold j6 at this ⊢
  simp only [List.set_cons_succ,List.map_cons,List.sum_cons]
  omega
theorem eW {α β : Type} {F:α->β->Prop}:∀ {l:List α} {m:List β},Paired F l m->∀ {i:Nat} {y:β},m[i]? = some y->∃ x,l[i]? = some x/\F x y
 | _,_,.nil,i,y,h=>by simp at h
 | _,_,.cons f t,0,y,h=>by cases h;exact⟨_,rfl,f⟩
 | _,_,.cons f t,i+1,y,h=>eW t h
theorem cU {α β : Type} {F:α->β->Prop}:∀ {l:List α} {m:List β},Paired F l m->l.length=m.length
 | _,_,.nil=>rfl
 | _,_,.cons f t=>congrArg (· + 1) (cU t)
theorem iD {α β : Type} {F:α->β->Prop} {x:α} {y:β} (f:F x y):∀ {l:List α} {m:List β} (i:Nat),Paired F l m->Paired F (l.set i x) (m.set i y)
 | _,_,_,.nil=>.nil
 | _,_,0,.cons _ t=>.cons f t
 | _,_,i+1,.cons g t=>.cons g (iD f i t)
def TabOk (xs:List Str) (tab:dh):Prop:=∀ T,some T ∈ tab->cC xs T
inductive qf  (vs:List V) (H:Hp) (Q:VK) (_:XK):Prop
 | mk (fv:V) (p:Addr) (ws:List V) (ds:List cK) (T:Str->Sx) (xs:List Str) (_:vs = [fv,.ref p]) (_:FV H fv T) (_:H p=some (.tup ws)) (_:bu H ws (ds.map dP)) (_:cC xs T) (_:(∀ d ∈ ds,d6 xs d)) (_:xs.length < 64) (_:∀ v H',FV H' v (bB T ds)->ae H H'->Q v H')
inductive oZ  (vs:List V) (H:Hp) (Q:VK) (_:XK):Prop
 | mk (lv:V) (ta:Addr) (us:List V) (tab:dh) (k:Nat) (U:Str->Sx) (_:vs = [lv,.ref ta]) (_:PV H lv (k,U)) (_:(H ta=some (.lst us)\/H ta=some (.tup us))) (_:bU H us tab) (_:k < tab.length) (_:(∀ T,some T ∈ tab->gf T 63)) (_:∀ b H',(b=true ↔ Met tab (k,U))->ae H H'->Q (.bl b) H')
inductive jn  (vs:List V) (H:Hp) (Q:VK) (_:XK):Prop
 | mk (fv:V) (pc da ea:Addr) (ws:List V) (ds:List cK) (e:End) (T:Str->Sx) (xs:List Str) (_:vs = [fv,.ref pc]) (_:FV H fv T) (_:H pc=some (.tup [.ref da,.ref ea])) (_:H da=some (.tup ws)) (_:bu H ws (ds.map dP)) (_:H ea=some (.tup (gI e))) (_:cC xs T) (_:(∀ d ∈ ds,d6 xs d)) (_:xs.length<=62) (_:∀ (t:Addr) (vs:List V) H',H' t=some (.tup vs)->kC H' vs (de (bB T ds) e)->ae H H'->Q (.ref t) H')
inductive kF  (vs:List V) (H:Hp) (Q:VK) (_:XK):Prop
 | mk (ev:V) (pc da ea ta:Addr) (ws us:List V) (ds:List cK) (e:End) (o:Option (Str->Sx)) (tab:dh) (xs:List Str) (_:vs = [ev,.ref pc,.ref ta]) (_:BV H ev o) (_:H pc=some (.tup [.ref da,.ref ea])) (_:H da=some (.tup ws)) (_:bu H ws (ds.map dP)) (_:H ea=some (.tup (gI e))) (_:H ta=some (.tup us)) (_:bU H us tab) (_:(∀ T,o=some T->cC xs T)) (_:TabOk xs tab) (_:(∀ d ∈ ds,d6 xs d)) (_:lW xs tab.length e) (_:xs.length<=62) (_:∀ b H',(b=true ↔ j5 tab o (ds,e))->ae H H'->Q (.bl b) H')
inductive i0  (vs:List V) (H:Hp) (Q:VK) (_:XK):Prop
 | mk (plv:V) (ta:Addr) (us:List V) (tab:dh) (ps:List Piece) (xs:List Str) (m:Nat) (_:vs = [plv,.ref ta]) (_:bE H plv (fW ps)) (_:cR xs m ps) (_:0 < ps.length) (_:ps.length<=1000) (_:H ta=some (.tup us)) (_:bU H us tab) (_:TabOk xs tab) (_:xs.length<=62) (_:0 < tab.length) (_:tab.length<=1000) (_:∀ b H',(b=true ↔ ie ps tab)->ae H H'->Q (.bl b) H')
inductive sP (K:PySem.W.Frag) (vs:List V) (H:Hp) (Q:VK) (_:XK):Prop
 | mk (p q:Addr) (s t:Sx) (_:vs = [.ref p,.ref q]) (_:ar K H p [vO s.1,vO s.2]) (_:ar K H q [vO t.1,vO t.2]) (_:∀ v H',SH H' v (eO s t)->ae H H'->Q v H')
inductive qg  (vs:List V) (H:Hp) (Q:VK) (_:XK):Prop
 | mk (ev fv:V) (o:Option (Str->Sx)) (U:Str->Sx) (_:vs = [ev,fv]) (_:BV H ev o) (_:FV H fv U) (_:(∀ T,o=some T->gf T 63)) (_:gf U 63) (_:∀ v H',FV H' v (iZ o U)->ae H H'->Q v H')
inductive sQ  (vs:List V) (H:Hp) (Q:VK) (_:XK):Prop
 | mk (plv:V) (ps:List Piece) (xs:List Str) (m:Nat) (_:vs = [plv]) (_:bE H plv (fW ps)) (_:cR xs m ps) (_:0 < ps.length) (_:ps.length<=400) (_:xs.length<=62) (_:(bM ps).length<=4000) (_:∀ (t:Addr) (us:List V) (tab:dh) H',H' t=some (.tup us)->bU H' us tab->TabOk xs tab->ie ps tab->ae H H'->Q (.ref t) H')
structure fq (xs:List Str) (ps:List Piece) (tab:dh) (bs:List Bool) (ex:Option Nat):Prop where
 len:tab.length=ps.length
 jo:bs.length=ps.length
 ok:TabOk xs tab
 zero:∃ T,tab[0]? = some (some T)/\Sound T fun _=>0
 wait:∀ k:Nat,bs[k]? = some true->∃ T,tab[k]? = some (some T)
 met:∀ (k:Nat) (p:Piece) (o:Option (Str->Sx)),ps[k]? = some p->tab[k]? = some o->bs[k]? = some false->some k ≠ ex->j5 tab o p
theorem eJ {n i:Nat} (h:i < n):kW n (i:Int)=some i:=by
 unfold kW
 simp
 omega
theorem sR {H:Hp}:∀ n:Nat,bU H (List.replicate n .aC) (List.replicate n none)
 | 0=>.nil
 | n+1=>.cons rfl (sR n)
theorem tQ (ps:List Piece):Sound (startT ps) fun _=>0:=fun x=>by
 unfold startT
 split <;> rfl
theorem o1 (bs:List Bool) (k:Nat) (b:Bool):(bs.map V.bl).set k (.bl b)=(bs.set k b).map V.bl:=by rw [List.map_set]
theorem sS {α : Type} {n k:Nat} {a b:α} (h:(List.replicate n a)[k]? = some b):b=a:=by
 rw [List.getElem?_replicate] at h
 split at h
 ·cases h;rfl
 ·cases h
theorem fq.start {xs:List Str} {ps:List Piece} {T:Str->Sx} (hp:0 < ps.length) (hT:cC xs T) (hs:Sound T fun _=>0):fq xs ps ((List.replicate ps.length none).set 0 (some T)) ((List.replicate ps.length false).set 0 true) none:=by
 have h0:((List.replicate ps.length none).set 0 (some T))[0]? = some (some T):=List.getElem?_set_self (by rw [List.length_replicate];exact hp)
 refine⟨by simp,by simp,fun U hU=>?_,⟨T,h0,hs⟩,fun k hk=>?_,fun k p o h1 h2 h3 _=>?_⟩
 ·rcases List.mem_or_eq_of_mem_set hU with h | h
  ·have:=(List.mem_replicate.mp h).2
   cases this
  ·cases h;exact hT
 ·by_cases e:0=k
  ·subst e;exact⟨T,h0⟩
  ·rw [List.getElem?_set_ne e] at hk
   have:=sS hk
   cases this
 ·by_cases e:0=k
  ·subst e
   rw [List.getElem?_set_self (by rw [List.length_replicate];exact hp)] at h3
   cases h3
  ·rw [List.getElem?_set_ne e] at h2
   rw [sS h2]
   exact fun T h=>(nomatch h)
theorem fq.off {xs:List Str} {ps:List Piece} {tab:dh} {bs:List Bool} (I:fq xs ps tab bs none) {k:Nat} (hk:bs[k]? = some true):fq xs ps tab (bs.set k false) (some k):=by
 refine⟨I.len,by rw [List.length_set];exact I.jo,I.ok,I.zero,fun j hj=>?_,fun j p o h1 h2 h3 h4=>?_⟩
 ·by_cases e:k=j
  ·subst e
   exact I.wait k hk
  ·rw [List.getElem?_set_ne e] at hj
   exact I.wait j hj
 ·have e:k ≠ j:=fun e=>h4 (by rw [e])
  rw [List.getElem?_set_ne e] at h3
  exact I.met j p o h1 h2 h3 (fun z=>nomatch z)
theorem fq.on {xs:List Str} {ps:List Piece} {tab:dh} {bs:List Bool} {k:Nat} {p:Piece} {T:Str->Sx} (I:fq xs ps tab bs (some k)) (hp:ps[k]? = some p) (hT:bs[k]? = some false->tab[k]? = some (some T)) (hm:∀ ld ∈ de (bB T p.1) p.2,Met tab ld):fq xs ps tab bs none:=by
 refine⟨I.len,I.jo,I.ok,I.zero,I.wait,fun j p' o h1 h2 h3 _=>?_⟩
 by_cases e:k=j
 ·subst e
  rw [hp] at h1
  cases h1
  rw [hT h3] at h2
  cases h2
  exact fun T' h=>by cases h;exact hm
 ·exact I.met j p' o h1 h2 h3 (fun z=>e (Option.some.inj z).symm)
theorem fq.Bt {xs:List Str} {ps:List Piece} {tab:dh} {bs:List Bool} (I:fq xs ps tab bs none) (h:¬ true ∈ bs):ie ps tab:=by
 refine⟨I.len,I.zero,fun k p o h1 h2=>I.met k p o h1 h2 ?_ (fun z=>nomatch z)⟩
 have hk:k < bs.length:=by rw [I.jo];exact (List.getElem?_eq_some_iff.mp h1).1
 have e:bs[k]? = some bs[k]:=by simp [hk]
 cases hb:bs[k] with
 | false=>rw [e,hb]
 | true=>exact absurd (hb ▸ List.getElem_mem hk) h
theorem fq.put {xs:List Str} {ps:List Piece} {tab:dh} {bs:List Bool} {ex:Option Nat} (I:fq xs ps tab bs ex) {k:Nat} {o:Option (Str->Sx)} {U:Str->Sx} (hk:tab[k]? = some o) (hU:cC xs U):fq xs ps (tab.set k (some (iZ o U))) (bs.set k true) ex:=by
 have hkl:k < tab.length:=(List.getElem?_eq_some_iff.mp hk).1
 have wok:cC xs (iZ o U):=by
  cases o with
  | none=>exact hU
  | some T=>exact (I.ok T (List.mem_of_getElem? hk)).op
 refine⟨by rw [List.length_set];exact I.len,by rw [List.length_set];exact I.jo,fun T hT=>?_,?_,fun j hj=>?_,fun j p o' hp ho hb hx=>?_⟩
 ·rcases List.mem_or_eq_of_mem_set hT with h | h
  ·exact I.ok T h
  ·cases h;exact wok
 ·obtain⟨T,h1,h2⟩:=I.zero
  by_cases e:k=0
  ·subst e
   rw [hk] at h1
   cases h1
   exact⟨_,List.getElem?_set_self hkl,h2.wide fun x=>uU _ _⟩
  ·exact⟨T,by rw [List.getElem?_set_ne e];exact h1,h2⟩
 ·by_cases e:k=j
  ·subst e
   exact⟨_,List.getElem?_set_self hkl⟩
  ·rw [List.getElem?_set_ne e] at hj ⊢
   exact I.wait j hj
 ·by_cases e:k=j
  ·subst e
   rw [List.getElem?_set_self (by rw [I.jo,<-I.len];exact hkl)] at hb
   cases hb
  ·rw [List.getElem?_set_ne e] at ho hb
   exact fun T hT ld hl=>(I.met j p o' hp ho hb hx T hT ld hl).up hk
theorem y8 {T U:Str->Sx}:(fun x=>if T x=bN then bN else eO (T x) (U x))=qd T U:=by
 funext x
 unfold qd
 by_cases e:T x=bN
 ·rw [if_pos e,e,xx]
 ·rw [if_neg e]
theorem vL {ps:List Piece} {tab:dh} {T:Str->Sx} {bs:List Bool} (hl:tab.length=ps.length) (h0:tab[0]? = some (some T)) (hs:Sound T fun _=>0) (hb:bs.length=ps.length) (hp:∀ (k:Nat) (b:Bool) (p:Piece) (o:Option (Str->Sx)),bs[k]? = some b->ps[k]? = some p->tab[k]? = some o->(b=true ↔ j5 tab o p)):bs.all id=true ↔ ie ps tab:=by
 rw [List.all_eq_true]
 constructor
 ·intro h
  refine⟨hl,⟨T,h0,hs⟩,fun k p o hk ho=>?_⟩
  have hlt:k < bs.length:=by rw [hb];exact (List.getElem?_eq_some_iff.mp hk).1
  have e:bs[k]? = some bs[k]:=by simp [hlt]
  exact (hp k _ p o e hk ho).mp (h _ (List.mem_of_getElem? e))
 ·intro h b hb'
  obtain⟨k,hk,e⟩:=List.getElem_of_mem hb'
  have hkp:k < ps.length:=by omega
  have e1:bs[k]? = some b:=by rw [List.getElem?_eq_getElem hk,e]
  have e2:ps[k]? = some ps[k]:=by simp [hkp]
  have e3:tab[k]? = some (tab[k]'(by omega)):=List.getElem?_eq_getElem _
  exact (hp k b _ _ e1 e2 e3).mpr (h.met k _ _ e2 e3)
theorem y9 {tab:dh} {T:Str->Sx} {ds:List cK} {e:End} {bs:List Bool} (hp:Paired (fun (b:Bool) ld=>(b=true ↔ Met tab ld)) bs (de (bB T ds) e)):bs.all id=true ↔ j5 tab (some T) (ds,e):=by
 have go:∀ {bs:List Bool} {ls:List (Nat × (Str->Sx))},Paired (fun (b:Bool) ld=>(b=true ↔ Met tab ld)) bs ls->(bs.all id=true ↔ ∀ ld ∈ ls,Met tab ld):=by
  intro bs ls h
  induction h with
  | nil=>exact⟨fun _ ld h=>(nomatch h),fun _=>rfl⟩
  | @cons b ld bs ls hb _ ih =>
   rw [List.all_cons,Bool.and_eq_true,ih]
   show (b=true/\_) ↔ _
   rw [hb]
   exact⟨fun h l hl=>(List.mem_cons.mp hl).elim (fun e=>e ▸ h.1) (h.2 l),fun h=>⟨h ld (List.mem_cons_self ..),fun l hl=>h l (List.mem_cons_of_mem _ hl)⟩⟩
 rw [go hp]
 exact⟨fun h T' e'=>by cases e';exact h,fun h=>h T rfl⟩
section
variable {X:Cx}
inductive Bu  (x:V) (vs:List V) (H:Hp) (Q:VK):Prop
 | mk (l:Addr) (xs:List V) (z:Int) (k:Nat) (y:V) (_:x=.ref l) (_:vs = [.int z,y]) (_:z=(k:Int)) (_:H l=some (.lst xs)) (_:k<=xs.length) (_:xs.length < 1000000) (_:Q .aC (upd H l (.lst (xs.take k++y :: xs.drop k))))
theorem zc:wB X "list.insert" Bu:=by
 intro pins s σ H x vs v us Q I rx rv h
 obtain⟨l,xs,zi,k,y,rfl,rfl,hzk,hH,hk,hz,q⟩:=h
 cases rx
 cases rv with
 | cons ru1 rv1 =>
  obtain⟨u2,rfl,ru2⟩:=vals1 rv1
  obtain⟨t,rfl⟩:=ru1
  obtain⟨z,its,n,r,hl,e⟩:=I.jW hH
  have hfit:¬ (!Builtin.List.listFitsIndex zi)=true:=by
   rw [fitsIndex_both (by omega) (by omega)]
   exact Bool.false_ne_true
  have hsz:its.toArray.size<=sizeLine:=by rw [List.size_toArray];omega
  have M:=AutoSeq1.list_insert_list_int_val_1 l its.toArray n zi t u2 hfit hsz
  refine call_meets F.slot_list_insert ⟨_,e,rfl⟩ F.entry_list_insert (F.args_list_insert_3 _ _ _) M ⟨e,?_⟩
  have ek:(if zi < 0 then (zi+(its.toArray.size:Int)).toNat else min zi.toNat its.toArray.size)=k:=by
   rw [if_neg (by omega),List.size_toArray]
   omega
  have ex:(its.toArray.extract 0 k).push u2++its.toArray.extract k=(its.take k++u2 :: its.drop k).toArray:=by
   apply Array.toList_inj.mp
   simp
   rw [List.take_of_length_le (by rw [List.length_drop];exact Nat.le_refl _)]
  refine⟨.aC,_,I.vi (its':=its.take k++u2 :: its.drop k) hH e ?_ ((r.take k).append (.cons ru2 (r.drop k))) ?_,rfl,q⟩
  ·show (its.toArray.extract 0 (if zi < 0 then (zi+(its.toArray.size:Int)).toNat else min zi.toNat its.toArray.size)).push u2++its.toArray.extract (if zi < 0 then (zi+(its.toArray.size:Int)).toNat else min zi.toNat its.toArray.size)=_
   rw [ek,ex]
  ·rw [List.length_append,List.length_cons,List.length_take,List.length_drop]
   have:sizeLine=16777216\/1000000 < sizeLine:=.inr (by decide)
   omega
end
section
variable {X:Cx}
theorem j7 {es r:List Expr} {x1} {pos:Pos} {t1:TE} {t2:TA} (h1:PE X (.Tuple es x1 pos) t1) (h2:PA X r t2):PA X (.Tuple es x1 pos :: r) (bZ t1 t2):=bG h1 h2 rfl
theorem nh {c} {k} {r:List Expr} {pos:Pos} {t1:TE} {t2:TA} (h1:PE X (.Constant c k pos) t1) (h2:PA X r t2):PA X (.Constant c k pos :: r) (bZ t1 t2):=bG h1 h2 rfl
theorem C7 {k2 k3:Nat} {x2} {p3 p4 p5:Pos}:PE X (.Tuple [.Constant (.int 0) k2 p3,.Constant (.int 2) k3 p4] x2 p5) (ij (bZ (tC (.int 0)) (bZ (tC (.int 2)) eS))):=aY (nh ah (nh ah cz))
theorem C8 {k1:Nat} {es:List Expr} {x2 x3} {p2 p5 p6:Pos} {t:TE} (h:PE X (.Tuple es x2 p5) t):PE X (.Tuple [.Constant (.str "zz") k1 p2,.Tuple es x2 p5] x3 p6) (ij (bZ (tC (.str "zz")) (bZ t eS))):=aY (nh bI (j7 h cz))
theorem C9 {es:List Expr} {x2 x3} {p5 p6:Pos} {t:TE} (h:PE X (.Tuple es x2 p5) t):PE X (.Tuple [.Tuple es x2 p5] x3 p6) (ij (bZ t eS)):=aY (j7 h cz)
theorem Ci {k1 k2 k3:Nat} {x2 x3} {p2 p3 p4 p5 p6:Pos}:PE X (.Tuple [.Constant (.str "zz") k1 p2,.Tuple [.Constant (.int 0) k2 p3,.Constant (.int 2) k3 p4] x2 p5] x3 p6) (ij (bZ (tC (.str "zz")) (bZ (ij (bZ (tC (.int 0)) (bZ (tC (.int 2)) eS))) eS))):=C8 C7
theorem Cj {k1 k2 k3:Nat} {x2 x3 x4} {p2 p3 p4 p5 p6 p7:Pos}:PE X (.Tuple [.Tuple [.Constant (.str "zz") k1 p2,.Tuple [.Constant (.int 0) k2 p3,.Constant (.int 2) k3 p4] x2 p5] x3 p6] x4 p7) (ij (bZ (ij (bZ (tC (.str "zz")) (bZ (ij (bZ (tC (.int 0)) (bZ (tC (.int 2)) eS))) eS))) eS)):=C9 Ci
theorem Dc {es:List Expr} {x1 x2} {p1 p5 p6:Pos} {t:TE} (h:PE X (.Tuple es x2 p5) t):PE X (.List [.Tuple [] x1 p1,.Tuple es x2 p5] p6) (ya (bZ (ij eS) (bZ t eS))):=b8 (j7 (aY cz) (j7 h cz))
theorem Bv {a b e:Expr} {p:Pos} {line:Nat} {env:Env}:swapsWithSole [.Subscript a b p] e line env=pure false:=by
 cases e <;> rfl
theorem Bw {a b e:Expr} {p:Pos} {env:Env}:swappedStores [.Subscript a b p] e env=pure none:=by
 cases e <;> rfl
theorem mr {a b e:Expr} {te:TE} {g:TG} {p pos:Pos} (he:PE X e te) (hg:PG X (.Subscript a b p) g):PS X (.Assign [.Subscript a b p] e pos) (oE te g):=cx he hg Bv Bw rfl
theorem As {es:List Expr} {x1 x2} {a b i:Expr} {p1 p2 p3 p4 p5 p6:Pos} {t ti:TE} {g:TG} (h:PE X (.Tuple es x2 p2) t) (hi:PE X i ti) (hs:oJ i) (hg:PG X (.Subscript a b p6) g) :
  iK X [.Assign [.Subscript a b p6] (.Subscript (.List [.Tuple [] x1 p1,.Tuple es x2 p2] p3) i p4) p5] (oE (uj (rm X.K) (ya (bZ (ij eS) (bZ t eS))) ti) g) :=
 ai (mr (zC bL (Dc h) hi hs) hg)
end
theorem bU.vM {H H':Hp} {b:Addr} {us:List V} {tab:dh} (h:bU H us tab) (B:bY H b) (X:Fix b H H'):bU H' us tab:=h.aI fun p zs e=>X p _ e (B.fV e)
theorem mP {α β : Type} {F:α->β->Prop}:∀ {l:List α} {m:List β} (k:Nat),Paired F l m->Paired F (l.take k) (m.take k)
 | _,_,0,_=>.nil
 | _,_,_+1,.nil=>.nil
 | _,_,k+1,.cons f t=>.cons f (mP k t)
theorem mQ {α β : Type} {F:α->β->Prop}:∀ {l:List α} {m:List β} (k:Nat),Paired F l m->Paired F (l.drop k) (m.drop k)
 | _,_,0,h=>h
 | _,_,_+1,.nil=>.nil
 | _,_,k+1,.cons _ t=>mQ k t
theorem TabOk.set {xs:List Str} {tab:dh} (h:TabOk xs tab) (k:Nat) {o:Option (Str->Sx)} (ho:∀ T,o=some T->cC xs T):TabOk xs (tab.set k o):=fun T hT=>by
 rcases List.mem_or_eq_of_mem_set hT with a | a
 ·exact h T a
 ·exact ho T a.symm
def sT:Str->Sx:=cg T0 "zz" (some 0,some 2)
theorem Ck {H:Hp} {t3 t2 t1:Addr} (h3:H t3=some (.tup [.ref t2])) (h2:H t2=some (.tup [.str "zz",.ref t1])) (h1:H t1=some (.tup [.int 0,.int 2])):FV H (.ref t3) sT:=by
 refine⟨t3,_,["zz"],rfl,h3,⟨List.pairwise_singleton _ _,by simp⟩,fun x=>?_,?_⟩
 ·rw [List.mem_singleton]
  unfold sT cg
  by_cases e:x=("zz" : Str)
  ·rw [if_pos e];exact⟨fun _ z=>(by cases z),fun _=>e⟩
  ·rw [if_neg e];exact⟨fun z=>absurd z e,fun z=>absurd rfl z⟩
 ·have e:sT "zz" = (some 0,some 2):=by unfold sT cg;rw [if_pos rfl]
  refine .cons (.tup h2 (.cons (.str _) (.cons ?_ .nil))) .nil
  rw [e]
  exact .tup h1 (.cons (.int _) (.cons (.int _) .nil))
theorem Cm {xs:List Str} (h:("zz" : Str) ∈ xs):cC xs sT:=cC.zero.set h (show (0:Int)<=2 by decide)
theorem xC {c:Bool} {A B C:Prop} (hz:C) (hx:C->c=true->A):if c=true then A else (if false=true then B else C):=by
 cases c
 ·exact hz
 ·exact hx hz rfl
theorem Cn {c:Bool} {A B C:Prop} (ha:A) (hy:A->c=false->C):if c=true then (if true=true then A else B) else C:=by
 cases c
 ·exact hy ha rfl
 ·exact ha
theorem kG {α β : Type} {F:α->β->Prop}:∀ {l:List α} {m:List β} (i:Nat),Paired F l m->Paired F (l.eraseIdx i) (m.eraseIdx i)
 | _,_,_,.nil=>.nil
 | _,_,0,.cons _ t=>t
 | _,_,i+1,.cons f t=>.cons f (kG i t)
theorem tR {xs:List Str} {m:Nat} {ps:List Piece} (ok:cR xs m ps) (h0:0 < ps.length):ie ps (List.replicate ps.length (some T0)):=by
 have hat:∀ k,k < ps.length->(List.replicate ps.length (some T0))[k]? = some (some T0):=fun k hk=>by rw [List.getElem?_replicate,if_pos hk]
 refine⟨List.length_replicate,⟨T0,hat 0 h0,vH⟩,fun k p o hk ho=>?_⟩
 rw [sS ho]
 intro T e ld hl
 cases e
 have hm:=List.mem_of_getElem? hk
 exact⟨T0,hat _ (mq (cC.zero.lC (ok.gS p hm).2) (ok.ends p hm) ld hl).1,fun x=>mn _⟩
theorem cR.Du {xs:List Str} {m:Nat} {ps:List Piece} (h:cR xs m ps) (ys:List Str):cR (xs++ys) m ps:=by
 have l:∀ {x},x ∈ xs->x ∈ xs++ys:=fun h=>List.mem_append_left _ h
 refine⟨fun p hp=>⟨(h.gS p hp).1,fun d hd=>?_⟩,fun p hp=>?_⟩
 ·have:=(h.gS p hp).2 d hd
  cases d with
  | put x n=>exact⟨l this.1,this.2⟩
  | copy x y=>exact⟨l this.1,l this.2⟩
  | add x n=>exact⟨l this.1,this.2⟩
  | read x=>exact l this
  | tell x=>exact l this
 ·have:=h.ends p hp
  obtain⟨ds,e⟩:=p
  cases e with
  | stop=>exact True.intro
  | go q=>exact this
  | dA b x n q r=>exact⟨l this.1,this.2⟩
section
variable {X:Cx}
end
theorem LT.mw {H:Hp} {d:Addr} {T:Str->Sx} {m k:Nat} (h:LT H d T m) (f:gf T k):LT H d T k:=by
 obtain⟨kvs,ks,g1,g2,g3,g4⟩:=h
 exact⟨kvs,ks,g1,g2,g3,f ks g3 g2.nd⟩
inductive qh  (vs:List V) (H:Hp) (Q:VK) (_:XK):Prop
 | mk (d e:Addr) (T U:Str->Sx) (m:Nat) (_:vs = [.ref d,.ref e]) (_:LT H d T m) (_:LT H e U m) (_:∀ b H',(b=true ↔ ∀ x,cJ (U x) (T x)=true)->ae H H'->Q (.bl b) H')
section
variable {X:Cx} {pos:Pos}
end
section
variable {X:Cx} {pos:Pos}
end
section
variable {X:Cx} {pos:Pos}
end
section
variable {prog:Program} {w:World} {A:Around} {E:Value->Shared->Prop} {s:Shared}
end
section
variable {X:Cx} {pins:List (Addr × Obj)} {σ : List (Option V)} {H:Hp} {s:Shared}
end
section
variable {X:Cx} {K:PySem.W.Frag}
end
section
variable {X:Cx}
end
end L2
namespace LS
open PySem PySem.Spec PyProof.Rows L2
section
variable {prog:Program} {w:World} {A:Around} {E:Value->Shared->Prop} {s:Shared} {I l:Addr} {its:Array Value}
end
section
variable {prog:Program} {w:World} {A:Around} {E:Value->Shared->Prop} {s:Shared} {I l:Addr} {its:Array Value}
end
end LS
namespace L2
open PySem PySem.Spec PyProof.Rows
section
variable {X:Cx}
end
end L2
namespace LS
open PySem PySem.Spec PyProof.Rows L2
section
variable {prog:Program} {w:World} {K:Type} [DecidableEq K] {knd:KeyKind prog w K}
variable {A:Around} {E:Value->Shared->Prop} {s:Shared} {a:Addr} {ks:List K}
end
section
variable {prog:Program} {w:World} {A:Around} {E:Value->Shared->Prop} {s:Shared}
end
end LS
namespace L2
open PySem PySem.Spec PyProof.Rows LS
section
variable {X:Cx}
end
end L2
namespace HT
open PySem PySem.Spec PyProof.Rows
section
variable {prog:Program} {w:World} {A:Around} {E:Value->Shared->Prop} {s:Shared}
end
end HT
namespace L2
open PySem PySem.Spec PyProof.Rows LS
section
variable {X:Cx}
end
section
variable {prog:Program} {w:World} {A:Around} {E:Value->Shared->Prop} {s:Shared}
end
section
variable {X:Cx}
end
theorem Bx {X:Cx} {K:PySem.W.Frag} (h:X.K=K):dU X (compareOp .In) (AW K false):=by subst h;exact pL
section
variable {X:Cx}
theorem Au:dU X (binaryOp .Mult) (fun x y H Q=>∃ t n,x=.str t/\y=.int n/\MulOk t n/\Q (.str (Txt.mul t n)) H):=by
 intro pins s σ H x y v u Q I rx ry h
 obtain⟨t,n,rfl,rfl,hm,q⟩:=h
 obtain⟨k,rfl⟩:=rx
 obtain⟨k',rfl⟩:=ry
 exact SB.mul hm fun t' j=>⟨.str _,H,I.tok _,⟨_,rfl⟩,q⟩
end
theorem zd {c0 c:Nat} {n:Int} (h0:97<=c0/\c0<=122) (hc:97<=c/\c<=122) (h1:1<=n) (h3:n<=4):MulOk ⟨#[c]⟩ n/\(Txt.mul ⟨#[c]⟩ n).length<=4/\iP ((⟨#[c0]⟩:Str)++Txt.mul ⟨#[c]⟩ n):=by
 obtain rfl | rfl | rfl | rfl:n=1\/n=2\/n=3\/n=4:=by omega
 ·refine⟨⟨by decide,fun _ h=>absurd h (by show ¬ true=false;decide),fun _ h=>absurd h (by show ¬ true=false;decide)⟩,by show 1<=4;decide,⟨by show 1<=2;decide,by show 2<=8;decide,fun d hd=>?_⟩⟩
  have:d ∈ [c0,c]:=hd
  simp at this
  omega
 ·refine⟨⟨by decide,fun _ _=>by show ¬ ((1:Nat):Int) > _;decide,fun _ _=>by show Builtin.Str.tooLong (1 * 2)=false;decide⟩,by show 2<=4;decide,⟨by show 1<=3;decide,by show 3<=8;decide,fun d hd=>?_⟩⟩
  have:d ∈ [c0,c,c]:=hd
  simp at this
  omega
 ·refine⟨⟨by decide,fun _ _=>by show ¬ ((1:Nat):Int) > _;decide,fun _ _=>by show Builtin.Str.tooLong (1 * 3)=false;decide⟩,by show 3<=4;decide,⟨by show 1<=4;decide,by show 4<=8;decide,fun d hd=>?_⟩⟩
  have:d ∈ [c0,c,c,c]:=hd
  simp at this
  omega
 ·refine⟨⟨by decide,fun _ _=>by show ¬ ((1:Nat):Int) > _;decide,fun _ _=>by show Builtin.Str.tooLong (1 * 4)=false;decide⟩,by show 4<=4;decide,⟨by show 1<=5;decide,by show 5<=8;decide,fun d hd=>?_⟩⟩
  have:d ∈ [c0,c,c,c,c]:=hd
  simp at this
  omega
inductive sU  (vs:List V) (H:Hp) (Q:VK) (_:XK):Prop
 | mk (b:Addr) (c:Nat) (_:vs = [.ref b,.int c]) (_:bY H b) (_:0 < c) (_:c<=1000) (_:∀ v xs ps H',bE H' v (fW ps)->ps.length=c->cR xs 4 ps->((∀ x ∈ xs,iP x)/\xs.length<=60)->bY H' b->Fix b H H'->Q v H')
section
variable {X:Cx}
end
inductive mB  (vs:List V) (H:Hp) (Q:VK) (_:XK):Prop
 | mk (d:Addr) (T:Str->Sx) (m:Nat) (x:Str) (sv:V) (s:Sx) (_:vs = [.ref d,.str x,sv]) (_:LT H d T m) (_:m<=62) (_:SH H sv s) (_:∀ d' H',LT H' d' (cg T x s) (m+1)->H d' = none->ae H H'->Q (.ref d') H')
inductive uX  (vs:List V) (H:Hp) (Q:VK) (_:XK):Prop
 | mk (d p:Addr) (T:Str->Sx) (m:Nat) (ws:List V) (ds:List cK) (pool:List Str) (_:vs = [.ref d,.ref p]) (_:LT H d T m) (_:H p=some (.tup ws)) (_:bu H ws (ds.map dP)) (_:m<=62) (_:m=pool.length) (_:cC pool T) (_:(∀ e ∈ ds,d6 pool e)) (_:∀ d' H',LT H' d' (bB T ds) m->(d' = d\/H d' = none)->ae H H'->Q (.ref d') H')
def Dv (m:Nat) (F:Addr->Prop) (H:Hp) (v:V) (p:Nat × (Str->Sx)):Prop:=∃ q sv d,v=.ref q/\H q=some (.tup [sv,.int p.1,.ref d])/\LT H d p.2 m/\F d
def jq (m:Nat) (F:Addr->Prop) (H:Hp) (vs:List V) (ps:List (Nat × (Str->Sx))):Prop:=Paired (Dv m F H) vs ps
theorem jq.same {m:Nat} {F:Addr->Prop} {H H':Hp} (s:ae H H'):∀ {vs:List V} {ps:List (Nat × (Str->Sx))},jq m F H vs ps->jq m F H' vs ps
 | _,_,.nil=>.nil
 | _,_,.cons ⟨q,sv,d,e,h1,h2,h3⟩ t=>.cons ⟨q,sv,d,e,s _ _ h1,h2.same s,h3⟩ (jq.same s t)
theorem jq.put {m:Nat} {F:Addr->Prop} {H:Hp} {l:Addr} {xs:List V} {o:HO} (hl:H l=some (.lst xs)):∀ {vs:List V} {ps:List (Nat × (Str->Sx))},jq m F H vs ps->jq m F (upd H l o) vs ps
 | _,_,.nil=>.nil
 | _,_,.cons ⟨q,sv,d,e,h1,h2,h3⟩ t=>.cons ⟨q,sv,d,e,by rw [ao (bJ h1 hl (by intro z;cases z))];exact h1,h2.put hl,h3⟩ (jq.put hl t)
inductive qi  (vs:List V) (H:Hp) (Q:VK) (_:XK):Prop
 | mk (d ea:Addr) (T:Str->Sx) (e:End) (m:Nat) (_:vs = [.ref d,.ref ea]) (_:LT H d T m) (_:m<=62) (_:(∀ x,fZ (T x).1 (T x).2)) (_:H ea=some (.tup (gI e))) (_:∀ (l:Addr) (vs:List V) (H':Hp),H' l=some (.lst vs)->H l=none->jq (m+1) (fun a=>a=d\/H a=none) H' vs (de T e)->ae H H'->Q (.ref l) H')
end L2
namespace iw
open PySem PyProof.Rows
def CA:Bool->Keyed->Array Keyed->Nat->Nat->Nat->StateT SortSt Sem (Option Nat):=sortPriv% PySem.Builtin.gallop
def Dw:Array Keyed->Array Keyed->StateT SortSt Sem (Array Keyed):=sortPriv% PySem.Builtin.mergeLo
def Dx:Array Keyed->Array Keyed->StateT SortSt Sem (Array Keyed):=sortPriv% PySem.Builtin.mergeHi
def kn (p:Keyed):Int:=numOf p.1
def fO (p:Keyed):Prop:=∃ n t,p.1=.int n t
section
variable {prog:Program} {w:World} {A:Around} {E:Value->Shared->Prop} {s:Shared} {st:SortSt}
theorem oi {x y:Keyed} {Q:Option Bool->SortSt->Prop} (hk:kindOf st=oneType') (hx:fO x) (hy:fO y) (h:Q (some (decide (kn x < kn y))) st):wpS (model prog w) A E s (lt' x y) Q st:=by
 obtain⟨n,t,e⟩:=hx
 obtain⟨m,u,f⟩:=hy
 unfold kn at h
 rw [e,f] at h
 rw [lt'_eq]
 refine wpS_bind (wpS_get ?_)
 rw [hk,keyLt'_oneType,e,f]
 exact wpS_bind (wpS_lift (wpAny_attempt (oneLt_int ⟨rfl,wpS_pure h⟩)))
theorem bD {xs:Array Keyed} {i:Nat} {p:Keyed} {Q:Keyed->SortSt->Prop} (e:xs[i]? = some p) (h:Q p st):wpS (model prog w) A E s (elem' xs i) Q st:=by
 rw [elem'_eq,e]
 exact wpS_pure h
theorem By {left:Bool} {key:Keyed} {arr:Array Keyed} {base n hint:Nat} {B:Nat->Bool} {Q:Option Nat->SortSt->Prop} (hk:kindOf st=oneType') (hkey:fO key)
  (harr:∀ i,i < n->∃ p,arr[base+i]? = some p/\fO p/\B i=(if left then decide (kn p < kn key) else !decide (kn key < kn p))) (anti:∀ i j,i<=j->j < n->B j=true->B i=true) (hh:hint < n)
  (h:∀ k,k<=n->(∀ i,i < n->(B i=true ↔ i < k))->Q (some k) st):wpS (model prog w) A E s (CA left key arr base n hint) Q st:=by
 have hb:∀ (i:Nat) (R:Option Bool->SortSt->Prop),i < n->R (some (B i)) st->wpS (model prog w) A E s (do let x <-elem' arr (base+i);if left=true then lt' x key else do let r <-lt' key x;pure (r.map (!·))) R st:=by
  intro i R hi hR
  obtain⟨p,e,hp,eB⟩:=harr i hi
  refine wpS_bind (bD e ?_)
  cases left with
  | true=>rw [eB] at hR;exact oi hk hp hkey hR
  | false=>rw [eB] at hR;exact wpS_bind (oi hk hkey hp (wpS_pure hR))
 refine wpS_bind (hb hint _ hh ?_)
 dsimp only
 have fin:∀ lo hi,lo<=hi->hi<=n->(∀ i,i < lo->i < n->B i=true)->(∀ i,hi<=i->i < n->B i=false)->∀ R:Option (Option Nat) × Nat × Nat->SortSt->Prop,
   (∀ k,k<=n->(∀ i,i < n->(B i=true ↔ i < k))->R (none,k,k) st) ->
   wpS (model prog w) A E s (forIn [0:n] ((none,lo,hi):Option (Option Nat) × Nat × Nat) fun _ c=>if c.2.1 >= c.2.2 then pure (ForInStep.done (none,c.2.1,c.2.2)) else do
    let z <-(do let x <-elem' arr (base+(c.2.1+(c.2.2 - c.2.1) / 2));if left=true then lt' x key else do let r <-lt' key x;pure (r.map (!·)))
    match z with
    | some more=>if more=true then pure (ForInStep.yield (none,c.2.1+(c.2.2 - c.2.1) / 2+1,c.2.2)) else pure (ForInStep.yield (none,c.2.1,c.2.1+(c.2.2 - c.2.1) / 2))
    | _=>pure (ForInStep.done (some none,c.2.1,c.2.2))) R st:=by
  intro lo hi hlh hhn hlo hhi R hR
  have out:∀ k,k<=n->(∀ i,i < k->i < n->B i=true)->(∀ i,k<=i->i < n->B i=false)->R (none,k,k) st:=fun k hkn h1 h2=>hR k hkn fun i hi=>by
   constructor
   ·intro hB
    rcases Nat.lt_or_ge i k with h' | h'
    ·exact h'
    ·rw [h2 i h' hi] at hB
     cases hB
   ·exact fun h'=>h1 i h' hi
  refine wpS_forRange (I:=fun x c st'=>st' = st/\∃ lo hi,c=(none,lo,hi)/\lo<=hi/\hi<=n/\hi - lo<=n - x/\(∀ i,i < lo->i < n->B i=true)/\(∀ i,hi<=i->i < n->B i=false)) ?_ ?_ ⟨rfl,lo,hi,rfl,hlh,hhn,by omega,hlo,hhi⟩
  ·rintro x c st' _ hx ⟨rfl,lo,hi,rfl,h1,h2,h3,h4,h5⟩
   dsimp only
   by_cases hge:lo >= hi
   ·rw [if_pos hge]
    obtain rfl:lo=hi:=by omega
    exact wpS_pure (out lo h2 h4 h5)
   ·rw [if_neg hge]
    refine wpS_bind (hb _ _ (by omega) ?_)
    dsimp only
    cases hB:B (lo+(hi - lo) / 2) with
    | true =>
     rw [if_pos rfl]
     exact wpS_pure ⟨rfl,_,_,rfl,by omega,h2,by omega,fun i hi' hin=>anti i (lo+(hi - lo) / 2) (by omega) (by omega) hB,h5⟩
    | false =>
     rw [if_neg (by decide)]
     refine wpS_pure ⟨rfl,_,_,rfl,by omega,by omega,by omega,h4,fun i hi' hin=>?_⟩
     cases hBi:B i with
     | false=>rfl
     | true=>rw [anti _ i hi' hin hBi] at hB;cases hB
  ·rintro c st' ⟨rfl,lo,hi,rfl,h1,h2,h3,h4,h5⟩
   obtain rfl:lo=hi:=by omega
   exact out lo h2 h4 h5
 have last:∀ lo hi,lo<=hi->hi<=n->(∀ i,i < lo->i < n->B i=true)->(∀ i,hi<=i->i < n->B i=false)->∀ (R:Option (Option Nat) × Nat × Nat->StateT SortSt Sem (Option Nat)),
   (∀ k,R (none,k,k)=pure (some k))->wpS (model prog w) A E s (forIn [0:n] ((none,lo,hi):Option (Option Nat) × Nat × Nat) (fun _ c=>if c.2.1 >= c.2.2 then pure (ForInStep.done (none,c.2.1,c.2.2)) else do
    let z <-(do let x <-elem' arr (base+(c.2.1+(c.2.2 - c.2.1) / 2));if left=true then lt' x key else do let r <-lt' key x;pure (r.map (!·)))
    match z with
    | some more=>if more=true then pure (ForInStep.yield (none,c.2.1+(c.2.2 - c.2.1) / 2+1,c.2.2)) else pure (ForInStep.yield (none,c.2.1,c.2.1+(c.2.2 - c.2.1) / 2))
    | _=>pure (ForInStep.done (some none,c.2.1,c.2.2))) >>= R) Q st:=fun lo hi h1 h2 h3 h4 R hR=>by
  refine wpS_bind (fin lo hi h1 h2 h3 h4 _ fun k hkn hkB=>?_)
  rw [hR k]
  exact wpS_pure (h k hkn hkB)
 cases hB0:B hint with
 | true =>
  rw [if_pos rfl]
  refine wpS_bind (wpS_mono (wpS_forRange (I:=fun x c st'=>st' = st/\∃ lastofs ofs,c=(none,lastofs,ofs)/\lastofs < ofs/\x < ofs/\hint+lastofs < n/\B (hint+lastofs)=true)
   (Q:=fun c st'=>st' = st/\∃ lastofs ofs,c=(none,lastofs,ofs)/\lastofs < ofs/\hint+lastofs < n/\B (hint+lastofs)=true/\(n - hint<=ofs\/B (hint+ofs)=false)) ?_ ?_ ⟨rfl,0,1,rfl,by omega,by omega,by omega,hB0⟩) ?_)
  ·rintro x c st' _ hx ⟨rfl,la,of,rfl,h1,h2,h3,h4⟩
   dsimp only
   by_cases hge:of >= n - hint
   ·rw [if_pos hge]
    exact wpS_pure ⟨rfl,_,_,rfl,h1,h3,h4,.inl hge⟩
   ·rw [if_neg hge]
    refine wpS_bind (hb _ _ (by omega) ?_)
    dsimp only
    cases hB:B (hint+of) with
    | true =>
     rw [if_neg (by decide)]
     exact wpS_pure ⟨rfl,_,_,rfl,by omega,by omega,by omega,hB⟩
    | false =>
     rw [if_pos (show (!false)=true from rfl)]
     exact wpS_pure ⟨rfl,_,_,rfl,h1,h3,h4,.inr hB⟩
  ·rintro c st' ⟨rfl,la,of,rfl,h1,h2,h3,h4⟩
   exact⟨rfl,_,_,rfl,h1,h3,h4,.inl (by omega)⟩
  ·rintro c st' ⟨rfl,la,of,rfl,h1,h3,h4,h5⟩
   dsimp only
   refine last _ _ (by omega) (by omega) (fun i hi hin=>anti i (hint+la) (by omega) h3 h4) (fun i hi hin=>?_) _ (fun k=>rfl)
   rcases h5 with h5 | h5
   ·omega
   ·cases hBi:B i with
    | false=>rfl
    | true =>
     by_cases hx:n - hint<=of
     ·omega
     ·rw [anti (hint+of) i (by omega) hin hBi] at h5;cases h5
 | false =>
  rw [if_neg (by decide)]
  refine wpS_bind (wpS_mono (wpS_forRange (I:=fun x c st'=>st' = st/\∃ lastofs ofs,c=(none,lastofs,ofs)/\lastofs < ofs/\x < ofs/\lastofs<=hint/\B (hint - lastofs)=false)
   (Q:=fun c st'=>st' = st/\∃ lastofs ofs,c=(none,lastofs,ofs)/\lastofs < ofs/\lastofs<=hint/\B (hint - lastofs)=false/\(hint+1<=ofs\/B (hint - ofs)=true)) ?_ ?_ ⟨rfl,0,1,rfl,by omega,by omega,by omega,hB0⟩) ?_)
  ·rintro x c st' _ hx ⟨rfl,la,of,rfl,h1,h2,h3,h4⟩
   dsimp only
   by_cases hge:of >= hint+1
   ·rw [if_pos hge]
    exact wpS_pure ⟨rfl,_,_,rfl,h1,h3,h4,.inl hge⟩
   ·rw [if_neg hge]
    refine wpS_bind (hb _ _ (by omega) ?_)
    dsimp only
    cases hB:B (hint - of) with
    | true =>
     rw [if_pos rfl]
     exact wpS_pure ⟨rfl,_,_,rfl,h1,h3,h4,.inr hB⟩
    | false =>
     rw [if_neg (by decide)]
     exact wpS_pure ⟨rfl,_,_,rfl,by omega,by omega,by omega,hB⟩
  ·rintro c st' ⟨rfl,la,of,rfl,h1,h2,h3,h4⟩
   exact⟨rfl,_,_,rfl,h1,h3,h4,.inl (by omega)⟩
  ·rintro c st' ⟨rfl,la,of,rfl,h1,h3,h4,h5⟩
   dsimp only
   refine last _ _ (by omega) (by omega) (fun i hi hin=>?_) (fun i hi hin=>?_) _ (fun k=>rfl)
   ·rcases h5 with h5 | h5
    ·omega
    ·by_cases hx:hint+1<=of
     ·omega
     ·exact anti i (hint - of) (by omega) (by omega) h5
   ·cases hBi:B i with
    | false=>rfl
    | true=>rw [anti (hint - la) i hi hin hBi] at h4;cases h4
end
end iw
namespace iw
open PySem PyProof.Rows
abbrev cI (l:List Keyed):Prop:=l.Pairwise fun x y=>kn x<=kn y
structure MI (T o ra rb:List Keyed):Prop where
 perm:(o++(ra++rb)).Perm T
 so:cI o
 sa:cI ra
 sb:cI rb
 oa:∀ x ∈ o,∀ y ∈ ra,kn x<=kn y
 ob:∀ x ∈ o,∀ y ∈ rb,kn x<=kn y
theorem MI.om {T o c ra rb:List Keyed} (h:MI T o (c++ra) rb) (hc:∀ x ∈ c,∀ y ∈ rb,kn x<=kn y):MI T (o++c) ra rb:=by
 obtain⟨s1,s2,s3⟩:=List.pairwise_append.mp h.sa
 refine⟨?_,?_,s2,h.sb,?_,?_⟩
 ·have:=h.perm
  rw [List.append_assoc] at this ⊢
  exact this
 ·exact List.pairwise_append.mpr ⟨h.so,s1,fun x hx y hy=>h.oa x hx y (List.mem_append_left _ hy)⟩
 ·intro x hx y hy
  rcases List.mem_append.mp hx with hx | hx
  ·exact h.oa x hx y (List.mem_append_right _ hy)
  ·exact s3 x hx y hy
 ·intro x hx y hy
  rcases List.mem_append.mp hx with hx | hx
  ·exact h.ob x hx y hy
  ·exact hc x hx y hy
theorem MI.oq {T o c ra rb:List Keyed} (h:MI T o ra (c++rb)) (hc:∀ x ∈ c,∀ y ∈ ra,kn x<=kn y):MI T (o++c) ra rb:=by
 obtain⟨s1,s2,s3⟩:=List.pairwise_append.mp h.sb
 refine⟨?_,?_,h.sa,s2,?_,?_⟩
 ·refine List.Perm.trans ?_ h.perm
  rw [List.append_assoc]
  refine List.Perm.append_left o ?_
  rw [<-List.append_assoc,<-List.append_assoc]
  exact List.Perm.append_right rb List.perm_append_comm
 ·exact List.pairwise_append.mpr ⟨h.so,s1,fun x hx y hy=>h.ob x hx y (List.mem_append_left _ hy)⟩
 ·intro x hx y hy
  rcases List.mem_append.mp hx with hx | hx
  ·exact h.oa x hx y hy
  ·exact hc x hx y hy
 ·intro x hx y hy
  rcases List.mem_append.mp hx with hx | hx
  ·exact h.ob x hx y (List.mem_append_right _ hy)
  ·exact s3 x hx y hy
def Laid (T:List Keyed) (m:Array Keyed):Prop:=m.toList.Perm T/\cI m.toList
theorem MI.gi {T o ra:List Keyed} {m:Array Keyed} (h:MI T o ra []) (e:m.toList=o++ra):Laid T m:=by
 refine⟨?_,?_⟩
 ·rw [e]
  have:=h.perm
  rwa [List.append_nil] at this
 ·rw [e]
  exact List.pairwise_append.mpr ⟨h.so,h.sa,h.oa⟩
theorem MI.gm {T o rb:List Keyed} {m:Array Keyed} (h:MI T o [] rb) (e:m.toList=o++rb):Laid T m:=by
 refine⟨?_,?_⟩
 ·rw [e]
  exact h.perm
 ·rw [e]
  exact List.pairwise_append.mpr ⟨h.so,h.sb,h.ob⟩
theorem MI.iE {T o ra rb:List Keyed} {m:Array Keyed} (h:MI T o ra rb) (hl:∀ x ∈ ra,∀ y ∈ rb,kn y<=kn x) (e:m.toList=o++rb++ra):Laid T m:=by
 refine⟨?_,?_⟩
 ·rw [e,List.append_assoc]
  exact (List.Perm.append_left o List.perm_append_comm).trans h.perm
 ·rw [e,List.append_assoc]
  refine List.pairwise_append.mpr ⟨h.so,List.pairwise_append.mpr ⟨h.sb,h.sa,fun x hx y hy=>hl y hy x hx⟩,fun x hx y hy=>?_⟩
  rcases List.mem_append.mp hy with hy | hy
  ·exact h.ob x hx y hy
  ·exact h.oa x hx y hy
theorem drop_cons {a:Array Keyed} {i:Nat} {x:Keyed} (e:a[i]? = some x):a.toList.drop i=x :: a.toList.drop (i+1):=by
 have hi:i < a.toList.length:=by
  obtain⟨h,_⟩:=Array.getElem?_eq_some_iff.mp e
  simpa using h
 rw [List.drop_eq_getElem_cons hi]
 congr 1
 have:a.toList[i]? = some x:=by rw [Array.getElem?_toList];exact e
 rw [List.getElem?_eq_getElem hi] at this
 exact Option.some.inj this
theorem gM (a:Array Keyed) (i:Nat):(a.extract i a.size).toList=a.toList.drop i:=by
 rw [Array.toList_extract,List.extract_eq_take_drop]
 exact List.take_of_length_le (by rw [List.length_drop,Array.length_toList];exact Nat.le_refl _)
theorem mC (a:Array Keyed) (i k:Nat):(a.extract i (i+k)).toList=(a.toList.drop i).take k:=by
 rw [Array.toList_extract,List.extract_eq_take_drop,Nat.add_sub_cancel_left]
theorem MI.fK {T ra rb:List Keyed} {out a:Array Keyed} {i:Nat} {x:Keyed} (h:MI T out.toList (a.toList.drop i) rb) (e:a[i]? = some x) (hc:∀ y ∈ rb,kn x<=kn y):MI T (out.push x).toList (a.toList.drop (i+1)) rb:=by
 rw [drop_cons e] at h
 rw [Array.toList_push]
 exact MI.om (c:=[x]) h fun z hz y hy=>by rw [List.mem_singleton.mp hz];exact hc y hy
theorem MI.jf {T ra:List Keyed} {out b:Array Keyed} {i:Nat} {x:Keyed} (h:MI T out.toList ra (b.toList.drop i)) (e:b[i]? = some x) (hc:∀ y ∈ ra,kn x<=kn y):MI T (out.push x).toList ra (b.toList.drop (i+1)):=by
 rw [drop_cons e] at h
 rw [Array.toList_push]
 exact MI.oq (c:=[x]) h fun z hz y hy=>by rw [List.mem_singleton.mp hz];exact hc y hy
theorem MI.ze {T rb:List Keyed} {out a:Array Keyed} {i k:Nat} (h:MI T out.toList (a.toList.drop i) rb) (hc:∀ x ∈ (a.toList.drop i).take k,∀ y ∈ rb,kn x<=kn y):MI T (out++a.extract i (i+k)).toList (a.toList.drop (i+k)) rb:=by
 rw [Array.toList_append,mC]
 refine MI.om ?_ hc
 rw [<-List.drop_drop,List.take_append_drop]
 exact h
theorem MI.sV {T ra:List Keyed} {out b:Array Keyed} {i k:Nat} (h:MI T out.toList ra (b.toList.drop i)) (hc:∀ x ∈ (b.toList.drop i).take k,∀ y ∈ ra,kn x<=kn y):MI T (out++b.extract i (i+k)).toList ra (b.toList.drop (i+k)):=by
 rw [Array.toList_append,mC]
 refine MI.oq ?_ hc
 rw [<-List.drop_drop,List.take_append_drop]
 exact h
theorem cI.head {x:Keyed} {l:List Keyed} (h:cI (x :: l)):∀ y ∈ x :: l,kn x<=kn y:=by
 intro y hy
 rcases List.mem_cons.mp hy with rfl | hy
 ·exact Int.le_refl _
 ·exact (List.pairwise_cons.mp h).1 y hy
theorem cI.get {l:List Keyed} (h:cI l) {i j:Nat} {x y:Keyed} (hij:i<=j) (hi:l[i]? = some x) (hj:l[j]? = some y):kn x<=kn y:=by
 rcases Nat.lt_or_ge i j with h' | h'
 ·obtain⟨h1,rfl⟩:=List.getElem?_eq_some_iff.mp hi
  obtain⟨h2,rfl⟩:=List.getElem?_eq_some_iff.mp hj
  exact List.pairwise_iff_getElem.mp h i j h1 h2 h'
 ·obtain rfl:i=j:=by omega
  rw [hi] at hj
  cases hj
  exact Int.le_refl _
abbrev fb (a:Array Keyed) (i n:Nat):List Keyed:=(a.toList.drop i).take n
theorem jP {a:Array Keyed} {base n i:Nat} (hi:i < n):(fb a base n)[i]? = a[base+i]?:=by
 rw [List.getElem?_take_of_lt hi,List.getElem?_drop,Array.getElem?_toList]
section
variable {prog:Program} {w:World} {A:Around} {E:Value->Shared->Prop} {s:Shared} {st:SortSt}
theorem fR {left:Bool} {key:Keyed} {arr:Array Keyed} {base n hint:Nat} {Q:Option Nat->SortSt->Prop} (hk:kindOf st=oneType') (hkey:fO key) (hn:base+n<=arr.size) (hi:∀ p ∈ fb arr base n,fO p) (hs:cI (fb arr base n)) (hh:hint < n)
  (h:∀ k,k<=n->(∀ x ∈ (fb arr base n).take k,if left then kn x < kn key else kn x<=kn key)->(∀ x ∈ (fb arr base n).drop k,if left then kn key<=kn x else kn key < kn x)->Q (some k) st):wpS (model prog w) A E s (CA left key arr base n hint) Q st:=by
 have hat:∀ i,i < n->∃ p,arr[base+i]? = some p/\(fb arr base n)[i]? = some p:=fun i hi'=>by
  have h1:base+i < arr.size:=by omega
  exact⟨_,getElem?_pos arr (base+i) h1,(jP hi').trans (getElem?_pos arr (base+i) h1)⟩
 have hlen:(fb arr base n).length=n:=by
  rw [List.length_take,List.length_drop,Array.length_toList]
  omega
 let B:Nat->Bool:=fun i=>match arr[base+i]? with | some p=>if left then decide (kn p < kn key) else !decide (kn key < kn p) | none=>false
 have hB:∀ i p,arr[base+i]? = some p->B i=(if left then decide (kn p < kn key) else !decide (kn key < kn p)):=fun i p e=>by
  show (match arr[base+i]? with | some p=>if left then decide (kn p < kn key) else !decide (kn key < kn p) | none=>false)=_
  rw [e]
 refine By (B:=B) hk hkey (fun i hi'=>?_) (fun i j hij hj hBj=>?_) hh fun k hkn hkB=>?_
 ·obtain⟨p,e1,e2⟩:=hat i hi'
  exact⟨p,e1,hi p (List.mem_of_getElem? e2),hB i p e1⟩
 ·obtain⟨p,e1,e2⟩:=hat i (by omega)
  obtain⟨q,f1,f2⟩:=hat j hj
  have hle:=hs.get hij e2 f2
  rw [hB i p e1]
  rw [hB j q f1] at hBj
  cases left with
  | true =>
   have:=of_decide_eq_true (show decide (kn q < kn key)=true from hBj)
   exact decide_eq_true (by omega)
  | false =>
   have h1:¬ kn key < kn q:=fun z=>by
    rw [if_neg (by decide),decide_eq_true z] at hBj
    cases hBj
   rw [if_neg (by decide),decide_eq_false (by omega)]
   rfl
 ·refine h k hkn (fun x hx=>?_) (fun x hx=>?_)
  ·obtain⟨i,hi'⟩:=List.getElem?_of_mem hx
   have hik:i < k:=by
    rcases Nat.lt_or_ge i k with h' | h'
    ·exact h'
    ·rw [List.getElem?_eq_none (by rw [List.length_take];omega)] at hi'
     cases hi'
   rw [List.getElem?_take_of_lt hik,jP (by omega)] at hi'
   have:=(hkB i (by omega)).mpr hik
   rw [hB i x hi'] at this
   cases left with
   | true=>exact of_decide_eq_true this
   | false =>
    rw [if_neg (by decide)] at this ⊢
    rcases Int.lt_or_le (kn key) (kn x) with h' | h'
    ·rw [decide_eq_true h'] at this;cases this
    ·exact h'
  ·obtain⟨i,hi'⟩:=List.getElem?_of_mem hx
   rw [List.getElem?_drop] at hi'
   have hin:k+i < n:=by
    rcases Nat.lt_or_ge (k+i) n with h' | h'
    ·exact h'
    ·rw [List.getElem?_eq_none (by rw [hlen];exact h')] at hi'
     cases hi'
   rw [jP hin] at hi'
   have hno:¬ B (k+i)=true:=fun z=>by have:=(hkB (k+i) hin).mp z;omega
   rw [hB _ x hi'] at hno
   cases left with
   | true =>
    rw [if_pos rfl] at hno ⊢
    rcases Int.lt_or_le (kn x) (kn key) with h' | h'
    ·exact absurd (decide_eq_true h') hno
    ·exact h'
   | false =>
    rw [if_neg (by decide)] at hno ⊢
    rcases Int.lt_or_le (kn key) (kn x) with h' | h'
    ·exact h'
    ·exact absurd (by rw [decide_eq_false (by omega)];rfl) hno
end
end iw
namespace iw
open PySem PyProof.Rows
def Gm (st st':SortSt):Prop:=∃ g,st' = SortSt.mk' (kindOf st) (arrOf st) (pendingOf st) g (failedOf st)
theorem Gm.refl (st:SortSt):Gm st st:=⟨gallopOf st,rfl⟩
theorem Gm.kind {st st':SortSt} (h:Gm st st'):kindOf st' = kindOf st:=by obtain⟨g,rfl⟩:=h;rfl
theorem Gm.set {st st':SortSt} (h:Gm st st') (g:Nat):Gm st (SortSt.mk' (kindOf st') (arrOf st') (pendingOf st') g (failedOf st')):=by obtain⟨g',rfl⟩:=h;exact⟨g,rfl⟩
theorem ni {a:Array Keyed} {i n:Nat} (h:i+n=a.size):fb a i n=a.toList.drop i:=List.take_of_length_le (by rw [List.length_drop,Array.length_toList];omega)
theorem i1 {a:Array Keyed} {i:Nat} (h:i=a.size):a.toList.drop i = []:=List.drop_eq_nil_of_le (by rw [Array.length_toList];omega)
theorem dD {a:Array Keyed} {i:Nat} (h:i < a.size):∃ x,a[i]? = some x/\x ∈ a.toList:=⟨a[i],getElem?_pos a i h,by simp⟩
section
variable {prog:Program} {w:World} {A:Around} {E:Value->Shared->Prop} {s:Shared} {st:SortSt}
theorem Bz {a b:Array Keyed} {Q:Array Keyed->SortSt->Prop} (hk:kindOf st=oneType') (ha:∀ p ∈ a.toList,fO p) (hb:∀ p ∈ b.toList,fO p) (sa:cI a.toList) (sb:cI b.toList) (za:0 < a.size) (zb:0 < b.size)
  (h0:∀ y,b[0]? = some y->∀ x ∈ a.toList,kn y<=kn x) (h1:∀ i,i+1=a.size->∀ x ∈ a.toList.drop i,∀ y ∈ b.toList,kn y<=kn x)
  (h:∀ m st',Gm st st'->Laid (a.toList++b.toList) m->Q m st'):wpS (model prog w) A E s (Dw a b) Q st:=by
 have iE:∀ {out:Array Keyed} {ia ib:Nat},MI (a.toList++b.toList) out.toList (a.toList.drop ia) (b.toList.drop ib)->ia+1=a.size->Laid (a.toList++b.toList) (out++b.extract ib b.size++a.extract ia a.size):=fun {out ia ib} hM e =>
  hM.iE (fun x hx y hy=>h1 ia e x hx y (List.mem_of_mem_drop hy)) (by rw [Array.toList_append,Array.toList_append,gM,gM])
 have gm:∀ {out:Array Keyed} {ia ib:Nat},MI (a.toList++b.toList) out.toList (a.toList.drop ia) (b.toList.drop ib)->ib=b.size->Laid (a.toList++b.toList) (out++a.extract ia a.size++b.extract ib b.size):=fun {out ia ib} hM e=>by
  rw [i1 e] at hM
  exact hM.gi (by rw [Array.toList_append,Array.toList_append,gM,gM,i1 e,List.append_nil])
 have gi:∀ {out:Array Keyed} {ia ib:Nat},MI (a.toList++b.toList) out.toList (a.toList.drop ia) (b.toList.drop ib)->ia=a.size->Laid (a.toList++b.toList) (out++a.extract ia a.size++b.extract ib b.size):=fun {out ia ib} hM e=>by
  rw [i1 e] at hM
  exact hM.gm (by rw [Array.toList_append,Array.toList_append,gM,gM,i1 e,List.append_nil])
 refine wpS_bind (wpS_lift (wpAny_rule ⟨rfl,?_⟩))
 dsimp only
 obtain⟨y0,ey0,my0⟩:=dD zb
 refine wpS_bind (bD ey0 ?_)
 have hM0:MI (a.toList++b.toList) (#[y0]:Array Keyed).toList (a.toList.drop 0) (b.toList.drop 1) :=
  MI.jf (out:=#[]) (i:=0) ⟨List.Perm.refl _,List.Pairwise.nil,sa,sb,(fun x hx=>nomatch hx),(fun x hx=>nomatch hx)⟩ ey0 (h0 y0 ey0)
 by_cases e1:1=b.size
 ·rw [if_pos (by simpa using e1)]
  exact wpS_pure (h _ _ (Gm.refl st) (gm hM0 e1))
 rw [if_neg (by simpa using e1)]
 by_cases e2:0+1=a.size
 ·rw [if_pos (by simpa using e2)]
  exact wpS_pure (h _ _ (Gm.refl st) (iE hM0 e2))
 rw [if_neg (by simpa using e2)]
 refine wpS_bind (wpS_get ?_)
 refine wpS_bind (wpS_mono (wpS_forRange (I:=fun x c st'=>Gm st st'/\∃ out ia ib mg,c=(none,out,ia,ib,mg)/\MI (a.toList++b.toList) out.toList (a.toList.drop ia) (b.toList.drop ib)/\ia+1 < a.size/\ib < b.size/\x+1<=ia+ib)
  (Q:=fun c st'=>Gm st st'/\∃ m,c.1=some m/\Laid (a.toList++b.toList) m) ?_ ?_ ⟨Gm.refl st,_,_,_,_,rfl,hM0,by omega,by omega,by omega⟩) ?_)
 rotate_left
 ·rintro c st' ⟨_,out,ia,ib,mg,rfl,_,h1,h2,h3⟩
  omega
 ·rintro⟨c,c2⟩ st' ⟨hG,m,e,hL⟩
  cases (show c=some m from e)
  exact wpS_pure (h _ _ hG hL)
 rintro x c st' _ hx ⟨hG,out,ia,ib,mg,rfl,hM,hia,hib,hxx⟩
 dsimp only
 refine wpS_bind (wpS_mono (wpS_forRange (I:=fun x1 c st'=>Gm st st'/\∃ out ia' ib' ac bc,c=(none,out,ia',ib',ac,bc)/\MI (a.toList++b.toList) out.toList (a.toList.drop ia') (b.toList.drop ib')/\ia' + 1 < a.size/\ib' < b.size/\ia+ib+x1<=ia' + ib')
  (Q:=fun c st'=>Gm st st'/\((∃ m,c.1=some m/\Laid (a.toList++b.toList) m)\/∃ out ia' ib' ac bc,c=(none,out,ia',ib',ac,bc)/\MI (a.toList++b.toList) out.toList (a.toList.drop ia') (b.toList.drop ib')/\ia' + 1 < a.size/\ib' < b.size/\ia+ib+1<=ia' + ib')) ?_ ?_ ⟨hG,_,_,_,_,_,rfl,hM,hia,hib,by omega⟩) ?_)
 ·clear hM hG
  rintro x1 c st' _ hx1 ⟨hG,out,ia',ib',ac,bc,rfl,hM,hia',hib',hx'⟩
  dsimp only
  obtain⟨y,ey,my⟩:=dD hib'
  obtain⟨z,ez,mz⟩:=dD (show ia' < a.size by omega)
  have hy:∀ q ∈ b.toList.drop ib',kn y<=kn q:=by rw [drop_cons ey];exact cI.head (by rw [<-drop_cons ey];exact hM.sb)
  have hz:∀ q ∈ a.toList.drop ia',kn z<=kn q:=by rw [drop_cons ez];exact cI.head (by rw [<-drop_cons ez];exact hM.sa)
  refine wpS_bind (bD ey (wpS_bind (bD ez (wpS_bind (oi (hG.kind.trans hk) (hb y my) (ha z mz) ?_)))))
  dsimp only
  by_cases hlt:kn y < kn z
  ·rw [decide_eq_true hlt,if_pos rfl]
   have hM':=hM.jf ey fun q hq=>Int.le_trans (Int.le_of_lt hlt) (hz q hq)
   refine wpS_bind (bD ey ?_)
   by_cases e3:ib' + 1=b.size
   ·rw [if_pos (by simpa using e3)]
    exact wpS_pure ⟨hG,.inl ⟨_,rfl,gm hM' e3⟩⟩
   ·rw [if_neg (by simpa using e3)]
    split
    ·exact wpS_pure ⟨hG,.inr ⟨_,_,_,_,_,rfl,hM',hia',by omega,by omega⟩⟩
    ·exact wpS_pure ⟨hG,_,_,_,_,_,rfl,hM',hia',by omega,by omega⟩
  ·rw [decide_eq_false hlt,if_neg (by decide)]
   have hM':=hM.fK (ra:=[]) ez fun q hq=>Int.le_trans (Int.not_lt.mp hlt) (hy q hq)
   refine wpS_bind (bD ez ?_)
   by_cases e3:ia' + 1+1=a.size
   ·rw [if_pos (by simpa using e3)]
    exact wpS_pure ⟨hG,.inl ⟨_,rfl,iE hM' e3⟩⟩
   ·rw [if_neg (by simpa using e3)]
    split
    ·exact wpS_pure ⟨hG,.inr ⟨_,_,_,_,_,rfl,hM',by omega,hib',by omega⟩⟩
    ·exact wpS_pure ⟨hG,_,_,_,_,_,rfl,hM',by omega,hib',by omega⟩
 ·rintro c st' ⟨_,out,ia',ib',ac,bc,rfl,_,h1,h2,h3⟩
  omega
 clear hM hG
 rintro⟨c,c2⟩ st' ⟨hG,⟨m,e,hL⟩ | ⟨out,ia',ib',ac,bc,e,hM,hia',hib',hx'⟩⟩
 ·cases (show c=some m from e)
  exact wpS_pure ⟨hG,m,rfl,hL⟩
 cases e
 dsimp only
 refine wpS_bind (wpS_lift (wpAny_rule ⟨rfl,?_⟩))
 refine wpS_bind (wpS_mono (wpS_forRange (I:=fun x1 c st'=>Gm st st'/\∃ out ia' ib' mg ac bc,c=(none,out,ia',ib',mg,ac,bc)/\MI (a.toList++b.toList) out.toList (a.toList.drop ia') (b.toList.drop ib')/\ia' + 1 < a.size/\ib' < b.size/\ia+ib+1<=ia' + ib')
  (Q:=fun c st'=>Gm st st'/\((∃ m,c.1=some m/\Laid (a.toList++b.toList) m)\/∃ out ia' ib' mg ac bc,c=(none,out,ia',ib',mg,ac,bc)/\MI (a.toList++b.toList) out.toList (a.toList.drop ia') (b.toList.drop ib')/\ia' + 1 < a.size/\ib' < b.size/\ia+ib+1<=ia' + ib')) ?_ ?_ ⟨hG,_,_,_,_,_,_,rfl,hM,hia',hib',hx'⟩) ?_)
 rotate_left
 ·rintro c st' ⟨hG,hh⟩
  exact⟨hG,.inr hh⟩
 ·rintro⟨c,c2⟩ st' ⟨hG,⟨m,e,hL⟩ | ⟨out,ia',ib',mg,ac,bc,e,hM,hia',hib',hx'⟩⟩
  ·cases (show c=some m from e)
   exact wpS_pure ⟨hG,m,rfl,hL⟩
  ·cases e
   refine wpS_bind (wpS_modify (wpS_pure ⟨hG.set _,_,_,_,_,rfl,hM,hia',hib',?_⟩))
   show x+1+1<=ia' + ib'
   omega
 clear hM hG hia' hib' hx'
 rintro x1 c st' _ hx1 ⟨hG,out,ia',ib',mg,ac,bc,rfl,hM,hia',hib',hx'⟩
 dsimp only
 obtain⟨y,ey,my⟩:=dD hib'
 have hy:∀ q ∈ b.toList.drop ib',kn y<=kn q:=by rw [drop_cons ey];exact cI.head (by rw [<-drop_cons ey];exact hM.sb)
 have er:fb a ia' (a.size - ia')=a.toList.drop ia':=ni (by omega)
 rcases Nat.lt_or_ge 1 mg with hmg | hmg
 all_goals
  first | rw [if_pos (show mg > 1 from hmg)] | rw [if_neg (show ¬ mg > 1 by omega)]
  refine wpS_bind (wpS_modify ?_)
  refine wpS_bind (bD ey ?_)
  refine wpS_bind (fR (left:=false) ((hG.set _).kind.trans hk) (hb y my) (by omega) (by rw [er];exact fun p hp=>ha p (List.mem_of_mem_drop hp)) (by rw [er];exact hM.sa) (by omega) fun k hk1 hk2 hk3=>?_)
  dsimp only
  rw [er] at hk2 hk3
  rcases Nat.eq_zero_or_pos k with hk0 | hk0
  ·subst hk0
   rw [if_neg (by decide)]
   have hM1:=hM
   have hk3:∀ q ∈ a.toList.drop ia',kn y < kn q:=fun q hq=>hk3 q hq
   refine wpS_bind (bD ey ?_)
   have hM2:=hM1.jf ey (fun q hq=>Int.le_of_lt (hk3 q hq))
   by_cases e3:ib' + 1=b.size
   ·rw [if_pos (by simpa using e3)]
    exact wpS_pure ⟨hG.set _,.inl ⟨_,rfl,gm hM2 e3⟩⟩
   rw [if_neg (by simpa using e3)]
   obtain⟨z,ez,mz⟩:=dD (show ia' < a.size by omega)
   have hz:∀ q ∈ a.toList.drop (ia'),kn z<=kn q:=by rw [drop_cons ez];exact cI.head (by rw [<-drop_cons ez];exact hM2.sa)
   have er2:fb b (ib' + 1) (b.size - (ib' + 1))=b.toList.drop (ib' + 1):=ni (by omega)
   refine wpS_bind (bD ez ?_)
   refine wpS_bind (fR (left:=true) ((hG.set _).kind.trans hk) (ha z mz) (by omega) (by rw [er2];exact fun p hp=>hb p (List.mem_of_mem_drop hp)) (by rw [er2];exact hM2.sb) (by omega) fun k2 q1 q2 q3=>?_)
   dsimp only
   rw [er2] at q2 q3
   rcases Nat.eq_zero_or_pos k2 with hk20 | hk20
   ·subst hk20
    rw [if_neg (by decide)]
    have hM3:=hM2
    have hz3:∀ q ∈ b.toList.drop (ib' + 1),kn z<=kn q:=fun q hq=>q3 q hq
    refine wpS_bind (bD ez ?_)
    have hM4:=hM3.fK (ra:=[]) ez hz3
    by_cases e5:ia' + 1+1=a.size
    ·rw [if_pos (by simpa using e5)]
     exact wpS_pure ⟨hG.set _,.inl ⟨_,rfl,iE hM4 e5⟩⟩
    rw [if_neg (by simpa using e5)]
    split
    ·exact wpS_pure ⟨hG.set _,.inr ⟨_,_,_,_,_,_,rfl,hM4,by omega,by omega,by omega⟩⟩
    ·exact wpS_pure ⟨hG.set _,_,_,_,_,_,_,rfl,hM4,by omega,by omega,by omega⟩
   ·rw [if_pos hk20]
    have hM3:=hM2.sV (k:=k2) (fun q hq v hv=>Int.le_trans (Int.le_of_lt (q2 q hq)) (hz v hv))
    have hz3:∀ q ∈ b.toList.drop (ib' + 1+k2),kn z<=kn q:=fun q hq=>q3 q (by rw [List.drop_drop];exact hq)
    by_cases e4:ib' + 1+k2=b.size
    ·rw [if_pos (by simpa using e4)]
     exact wpS_pure ⟨hG.set _,.inl ⟨_,rfl,gm hM3 e4⟩⟩
    rw [if_neg (by simpa using e4)]
    refine wpS_bind (bD ez ?_)
    have hM4:=hM3.fK (ra:=[]) ez hz3
    by_cases e5:ia' + 1+1=a.size
    ·rw [if_pos (by simpa using e5)]
     exact wpS_pure ⟨hG.set _,.inl ⟨_,rfl,iE hM4 e5⟩⟩
    rw [if_neg (by simpa using e5)]
    split
    ·exact wpS_pure ⟨hG.set _,.inr ⟨_,_,_,_,_,_,rfl,hM4,by omega,by omega,by omega⟩⟩
    ·exact wpS_pure ⟨hG.set _,_,_,_,_,_,_,rfl,hM4,by omega,by omega,by omega⟩
  ·rw [if_pos hk0]
   have hM1:=hM.ze (k:=k) (fun q hq v hv=>Int.le_trans (hk2 q hq) (hy v hv))
   have hk3:∀ q ∈ a.toList.drop (ia' + k),kn y < kn q:=fun q hq=>hk3 q (by rw [List.drop_drop];exact hq)
   by_cases e1:ia' + k+1=a.size
   ·rw [if_pos (by simpa using e1)]
    exact wpS_pure ⟨hG.set _,.inl ⟨_,rfl,iE hM1 e1⟩⟩
   rw [if_neg (by simpa using e1)]
   by_cases e2:ia' + k=a.size
   ·rw [if_pos (by simpa using e2)]
    exact wpS_pure ⟨hG.set _,.inl ⟨_,rfl,gi hM1 e2⟩⟩
   rw [if_neg (by simpa using e2)]
   refine wpS_bind (bD ey ?_)
   have hM2:=hM1.jf ey (fun q hq=>Int.le_of_lt (hk3 q hq))
   by_cases e3:ib' + 1=b.size
   ·rw [if_pos (by simpa using e3)]
    exact wpS_pure ⟨hG.set _,.inl ⟨_,rfl,gm hM2 e3⟩⟩
   rw [if_neg (by simpa using e3)]
   obtain⟨z,ez,mz⟩:=dD (show ia' + k < a.size by omega)
   have hz:∀ q ∈ a.toList.drop (ia' + k),kn z<=kn q:=by rw [drop_cons ez];exact cI.head (by rw [<-drop_cons ez];exact hM2.sa)
   have er2:fb b (ib' + 1) (b.size - (ib' + 1))=b.toList.drop (ib' + 1):=ni (by omega)
   refine wpS_bind (bD ez ?_)
   refine wpS_bind (fR (left:=true) ((hG.set _).kind.trans hk) (ha z mz) (by omega) (by rw [er2];exact fun p hp=>hb p (List.mem_of_mem_drop hp)) (by rw [er2];exact hM2.sb) (by omega) fun k2 q1 q2 q3=>?_)
   dsimp only
   rw [er2] at q2 q3
   rcases Nat.eq_zero_or_pos k2 with hk20 | hk20
   ·subst hk20
    rw [if_neg (by decide)]
    have hM3:=hM2
    have hz3:∀ q ∈ b.toList.drop (ib' + 1),kn z<=kn q:=fun q hq=>q3 q hq
    refine wpS_bind (bD ez ?_)
    have hM4:=hM3.fK (ra:=[]) ez hz3
    by_cases e5:ia' + k+1+1=a.size
    ·rw [if_pos (by simpa using e5)]
     exact wpS_pure ⟨hG.set _,.inl ⟨_,rfl,iE hM4 e5⟩⟩
    rw [if_neg (by simpa using e5)]
    split
    ·exact wpS_pure ⟨hG.set _,.inr ⟨_,_,_,_,_,_,rfl,hM4,by omega,by omega,by omega⟩⟩
    ·exact wpS_pure ⟨hG.set _,_,_,_,_,_,_,rfl,hM4,by omega,by omega,by omega⟩
   ·rw [if_pos hk20]
    have hM3:=hM2.sV (k:=k2) (fun q hq v hv=>Int.le_trans (Int.le_of_lt (q2 q hq)) (hz v hv))
    have hz3:∀ q ∈ b.toList.drop (ib' + 1+k2),kn z<=kn q:=fun q hq=>q3 q (by rw [List.drop_drop];exact hq)
    by_cases e4:ib' + 1+k2=b.size
    ·rw [if_pos (by simpa using e4)]
     exact wpS_pure ⟨hG.set _,.inl ⟨_,rfl,gm hM3 e4⟩⟩
    rw [if_neg (by simpa using e4)]
    refine wpS_bind (bD ez ?_)
    have hM4:=hM3.fK (ra:=[]) ez hz3
    by_cases e5:ia' + k+1+1=a.size
    ·rw [if_pos (by simpa using e5)]
     exact wpS_pure ⟨hG.set _,.inl ⟨_,rfl,iE hM4 e5⟩⟩
    rw [if_neg (by simpa using e5)]
    split
    ·exact wpS_pure ⟨hG.set _,.inr ⟨_,_,_,_,_,_,rfl,hM4,by omega,by omega,by omega⟩⟩
    ·exact wpS_pure ⟨hG.set _,_,_,_,_,_,_,rfl,hM4,by omega,by omega,by omega⟩
end
end iw
namespace iw
open PySem PyProof.Rows
structure MH (T o ra rb:List Keyed):Prop where
 perm:(ra++(rb++o)).Perm T
 so:cI o
 sa:cI ra
 sb:cI rb
 oa:∀ x ∈ ra,∀ y ∈ o,kn x<=kn y
 ob:∀ x ∈ rb,∀ y ∈ o,kn x<=kn y
theorem MH.om {T o c ra rb:List Keyed} (h:MH T o (ra++c) rb) (hc:∀ x ∈ c,∀ y ∈ rb,kn y<=kn x):MH T (c++o) ra rb:=by
 obtain⟨s1,s2,s3⟩:=List.pairwise_append.mp h.sa
 refine⟨?_,?_,s1,h.sb,?_,?_⟩
 ·refine List.Perm.trans ?_ h.perm
  rw [List.append_assoc]
  refine List.Perm.append_left ra ?_
  rw [<-List.append_assoc,<-List.append_assoc]
  exact List.Perm.append_right o List.perm_append_comm
 ·exact List.pairwise_append.mpr ⟨s2,h.so,fun x hx y hy=>h.oa x (List.mem_append_right _ hx) y hy⟩
 ·intro x hx y hy
  rcases List.mem_append.mp hy with hy | hy
  ·exact s3 x hx y hy
  ·exact h.oa x (List.mem_append_left _ hx) y hy
 ·intro x hx y hy
  rcases List.mem_append.mp hy with hy | hy
  ·exact hc y hy x hx
  ·exact h.ob x hx y hy
theorem MH.oq {T o c ra rb:List Keyed} (h:MH T o ra (rb++c)) (hc:∀ x ∈ c,∀ y ∈ ra,kn y<=kn x):MH T (c++o) ra rb:=by
 obtain⟨s1,s2,s3⟩:=List.pairwise_append.mp h.sb
 refine⟨?_,?_,h.sa,s1,?_,?_⟩
 ·have:=h.perm
  rw [List.append_assoc] at this
  exact this
 ·exact List.pairwise_append.mpr ⟨s2,h.so,fun x hx y hy=>h.ob x (List.mem_append_right _ hx) y hy⟩
 ·intro x hx y hy
  rcases List.mem_append.mp hy with hy | hy
  ·exact hc y hy x hx
  ·exact h.oa x hx y hy
 ·intro x hx y hy
  rcases List.mem_append.mp hy with hy | hy
  ·exact s3 x hx y hy
  ·exact h.ob x (List.mem_append_left _ hx) y hy
theorem MH.done {T o ra rb:List Keyed} {m:Array Keyed} (h:MH T o ra rb) (e:ra = []\/rb = []) (em:m.toList=ra++rb++o):Laid T m:=by
 refine⟨by rw [em,List.append_assoc];exact h.perm,?_⟩
 rw [em,List.append_assoc]
 refine List.pairwise_append.mpr ⟨h.sa,List.pairwise_append.mpr ⟨h.sb,h.so,h.ob⟩,fun x hx y hy=>?_⟩
 rcases List.mem_append.mp hy with hy | hy
 ·rcases e with e | e
  ·rw [e] at hx;cases hx
  ·rw [e] at hy;cases hy
 ·exact h.oa x hx y hy
theorem MH.first {T o ra rb:List Keyed} {m:Array Keyed} (h:MH T o ra rb) (hl:∀ x ∈ rb,∀ y ∈ ra,kn x<=kn y) (em:m.toList=rb++ra++o):Laid T m:=by
 refine⟨?_,?_⟩
 ·rw [em]
  refine List.Perm.trans ?_ h.perm
  rw [<-List.append_assoc]
  exact List.Perm.append_right o List.perm_append_comm
 ·rw [em,List.append_assoc]
  refine List.pairwise_append.mpr ⟨h.sb,List.pairwise_append.mpr ⟨h.sa,h.so,h.oa⟩,fun x hx y hy=>?_⟩
  rcases List.mem_append.mp hy with hy | hy
  ·exact hl x hx y hy
  ·exact h.ob x hx y hy
theorem take_snoc {a:Array Keyed} {n:Nat} {x:Keyed} (e:a[n - 1]? = some x) (h:0 < n):a.toList.take n=a.toList.take (n - 1) ++ [x]:=by
 obtain⟨k,rfl⟩:∃ k,n=k+1:=⟨n - 1,by omega⟩
 rw [List.take_add_one]
 congr 1
 rw [Array.getElem?_toList,show a[k]? = some x from e]
 rfl
theorem lF {a:Array Keyed} {n:Nat} {x:Keyed} (e:a[n - 1]? = some x) (h:0 < n) (hs:cI (a.toList.take n)):∀ q ∈ a.toList.take n,kn q<=kn x:=by
 rw [take_snoc e h] at hs ⊢
 intro q hq
 rcases List.mem_append.mp hq with hq | hq
 ·exact (List.pairwise_append.mp hs).2.2 q hq x (List.mem_singleton.mpr rfl)
 ·rw [List.mem_singleton.mp hq];exact Int.le_refl _
theorem MH.fK {T rb:List Keyed} {out a:Array Keyed} {n:Nat} {x:Keyed} (h:MH T out.toList.reverse (a.toList.take n) rb) (e:a[n - 1]? = some x) (h0:0 < n) (hc:∀ y ∈ rb,kn y<=kn x):MH T (out.push x).toList.reverse (a.toList.take (n - 1)) rb:=by
 rw [take_snoc e h0] at h
 rw [Array.toList_push,List.reverse_append]
 exact MH.om (c:=[x]) h fun z hz y hy=>by rw [List.mem_singleton.mp hz];exact hc y hy
theorem MH.jf {T ra:List Keyed} {out b:Array Keyed} {n:Nat} {x:Keyed} (h:MH T out.toList.reverse ra (b.toList.take n)) (e:b[n - 1]? = some x) (h0:0 < n) (hc:∀ y ∈ ra,kn y<=kn x):MH T (out.push x).toList.reverse ra (b.toList.take (n - 1)):=by
 rw [take_snoc e h0] at h
 rw [Array.toList_push,List.reverse_append]
 exact MH.oq (c:=[x]) h fun z hz y hy=>by rw [List.mem_singleton.mp hz];exact hc y hy
theorem o4 (a:Array Keyed) (i j:Nat):(a.extract i j).toList=(a.toList.take j).drop i:=by
 rw [Array.toList_extract,List.extract_eq_take_drop,List.drop_take]
theorem sW {l:List Keyed} {k n:Nat} (h:k<=n):l.take n=l.take k++(l.take n).drop k:=by
 have e:=(List.take_append_drop k (l.take n)).symm
 rw [List.take_take,Nat.min_eq_left h] at e
 exact e
theorem MH.ze {T rb:List Keyed} {out a:Array Keyed} {n k:Nat} (h:MH T out.toList.reverse (a.toList.take n) rb) (hkn:k<=n) (hn:n<=a.size) (hc:∀ x ∈ (a.toList.take n).drop k,∀ y ∈ rb,kn y<=kn x):MH T (out++(a.extract k n).reverse).toList.reverse (a.toList.take k) rb:=by
 rw [Array.toList_append,Array.toList_reverse,List.reverse_append,List.reverse_reverse,o4]
 refine MH.om ?_ hc
 rw [<-sW hkn]
 exact h
theorem MH.sV {T ra:List Keyed} {out b:Array Keyed} {n k:Nat} (h:MH T out.toList.reverse ra (b.toList.take n)) (hkn:k<=n) (hn:n<=b.size) (hc:∀ x ∈ (b.toList.take n).drop k,∀ y ∈ ra,kn y<=kn x):MH T (out++(b.extract k n).reverse).toList.reverse ra (b.toList.take k):=by
 rw [Array.toList_append,Array.toList_reverse,List.reverse_append,List.reverse_reverse,o4]
 refine MH.oq ?_ hc
 rw [<-sW hkn]
 exact h
theorem mD (a:Array Keyed) (n:Nat):(a.extract 0 n).toList=a.toList.take n:=by rw [o4,List.drop_zero]
section
variable {prog:Program} {w:World} {A:Around} {E:Value->Shared->Prop} {s:Shared} {st:SortSt}
theorem BA {a b:Array Keyed} {Q:Array Keyed->SortSt->Prop} (hk:kindOf st=oneType') (ha:∀ p ∈ a.toList,fO p) (hb:∀ p ∈ b.toList,fO p) (sa:cI a.toList) (sb:cI b.toList) (za:0 < a.size) (zb:0 < b.size)
  (h0:∀ y ∈ b.toList.take 1,∀ x ∈ a.toList,kn y<=kn x) (h1:∀ x,a[a.size - 1]? = some x->∀ y ∈ b.toList,kn y<=kn x)
  (h:∀ m st',Gm st st'->Laid (a.toList++b.toList) m->Q m st'):wpS (model prog w) A E s (Dx a b) Q st:=by
 have firstB:∀ {out:Array Keyed} {na nb:Nat},MH (a.toList++b.toList) out.toList.reverse (a.toList.take na) (b.toList.take nb)->nb=1->na<=a.size->Laid (a.toList++b.toList) (b.extract 0 nb++a.extract 0 na++out.reverse):=fun {out na nb} hM e _=>by
  subst e
  exact hM.first (fun x hx y hy=>h0 x hx y (List.mem_of_mem_take hy)) (by rw [Array.toList_append,Array.toList_append,mD,mD,Array.toList_reverse])
 have gi:∀ {out:Array Keyed} {na nb:Nat},MH (a.toList++b.toList) out.toList.reverse (a.toList.take na) (b.toList.take nb)->na=0->Laid (a.toList++b.toList) (a.extract 0 na++b.extract 0 nb++out.reverse):=fun {out na nb} hM e=>by
  subst e
  exact hM.done (.inl rfl) (by rw [Array.toList_append,Array.toList_append,mD,mD,Array.toList_reverse])
 have gm:∀ {out:Array Keyed} {na nb:Nat},MH (a.toList++b.toList) out.toList.reverse (a.toList.take na) (b.toList.take nb)->nb=0->Laid (a.toList++b.toList) (a.extract 0 na++b.extract 0 nb++out.reverse):=fun {out na nb} hM e=>by
  subst e
  exact hM.done (.inr rfl) (by rw [Array.toList_append,Array.toList_append,mD,mD,Array.toList_reverse])
 refine wpS_bind (wpS_lift (wpAny_rule ⟨rfl,?_⟩))
 dsimp only
 obtain⟨y0,ey0,my0⟩:=dD (show a.size - 1 < a.size by omega)
 refine wpS_bind (bD ey0 ?_)
 have hM0:MH (a.toList++b.toList) (#[y0]:Array Keyed).toList.reverse (a.toList.take (a.size - 1)) (b.toList.take b.size):=by
  refine MH.fK (out:=#[]) (n:=a.size) ⟨?_,List.Pairwise.nil,?_,?_,(fun x _ y hy=>nomatch hy),(fun x _ y hy=>nomatch hy)⟩ ey0 za fun y hy=>h1 y0 ey0 y (List.mem_of_mem_take hy)
  ·rw [List.take_of_length_le (Nat.le_of_eq Array.length_toList),List.take_of_length_le (Nat.le_of_eq Array.length_toList)]
   show (a.toList++(b.toList ++ [])).Perm _
   rw [List.append_nil]
  ·rw [List.take_of_length_le (Nat.le_of_eq Array.length_toList)];exact sa
  ·rw [List.take_of_length_le (Nat.le_of_eq Array.length_toList)];exact sb
 by_cases e1:a.size - 1=0
 ·rw [if_pos (by simpa using e1)]
  exact wpS_pure (h _ _ (Gm.refl st) (gi hM0 e1))
 rw [if_neg (by simpa using e1)]
 by_cases e2:b.size=1
 ·rw [if_pos (by simpa using e2)]
  exact wpS_pure (h _ _ (Gm.refl st) (firstB hM0 e2 (by omega)))
 rw [if_neg (by simpa using e2)]
 refine wpS_bind (wpS_get ?_)
 refine wpS_bind (wpS_mono (wpS_forRange (I:=fun x c st'=>Gm st st'/\∃ out na nb mg,c=(none,na,nb,out,mg)/\MH (a.toList++b.toList) out.toList.reverse (a.toList.take na) (b.toList.take nb)/\0 < na/\na<=a.size/\1 < nb/\nb<=b.size/\x+1+na+nb<=a.size+b.size)
  (Q:=fun c st'=>Gm st st'/\∃ m,c.1=some m/\Laid (a.toList++b.toList) m) ?_ ?_ ⟨Gm.refl st,_,_,_,_,rfl,hM0,by omega,by omega,by omega,by omega,by omega⟩) ?_)
 rotate_left
 ·rintro c st' ⟨_,out,ia,ib,mg,rfl,_,h1,h2,h3,h4,h5⟩
  omega
 ·rintro⟨c,c2⟩ st' ⟨hG,m,e,hL⟩
  cases (show c=some m from e)
  exact wpS_pure (h _ _ hG hL)
 rintro x c st' _ hx ⟨hG,out,na,nb,mg,rfl,hM,ha0,hal,hb0,hbl,hxx⟩
 dsimp only
 refine wpS_bind (wpS_mono (wpS_forRange (I:=fun x1 c st'=>Gm st st'/\∃ out na' nb' ac bc,c=(none,na',nb',out,ac,bc)/\MH (a.toList++b.toList) out.toList.reverse (a.toList.take na') (b.toList.take nb')/\0 < na'/\na' <= a.size/\1 < nb'/\nb' <= b.size/\x1+na' + nb' <= na+nb)
  (Q:=fun c st'=>Gm st st'/\((∃ m,c.1=some m/\Laid (a.toList++b.toList) m)\/∃ out na' nb' ac bc,c=(none,na',nb',out,ac,bc)/\MH (a.toList++b.toList) out.toList.reverse (a.toList.take na') (b.toList.take nb')/\0 < na'/\na' <= a.size/\1 < nb'/\nb' <= b.size/\1+na' + nb' <= na+nb)) ?_ ?_ ⟨hG,_,_,_,_,_,rfl,hM,ha0,hal,hb0,hbl,by omega⟩) ?_)
 ·clear hM hG
  rintro x1 c st' _ hx1 ⟨hG,out,na',nb',ac,bc,rfl,hM,ha1,hal1,hb1,hbl1,hx'⟩
  dsimp only
  obtain⟨y,ey,my⟩:=dD (show nb' - 1 < b.size by omega)
  obtain⟨z,ez,mz⟩:=dD (show na' - 1 < a.size by omega)
  have hy:=lF ey (by omega) hM.sb
  have hz:=lF ez (by omega) hM.sa
  refine wpS_bind (bD ey (wpS_bind (bD ez (wpS_bind (oi (hG.kind.trans hk) (hb y my) (ha z mz) ?_)))))
  dsimp only
  by_cases hlt:kn y < kn z
  ·rw [decide_eq_true hlt,if_pos rfl]
   have hM':=hM.fK ez ha1 fun q hq=>Int.le_trans (hy q hq) (Int.le_of_lt hlt)
   refine wpS_bind (bD ez ?_)
   by_cases e3:na' - 1=0
   ·rw [if_pos (by simpa using e3)]
    exact wpS_pure ⟨hG,.inl ⟨_,rfl,gi hM' e3⟩⟩
   ·rw [if_neg (by simpa using e3)]
    split
    ·exact wpS_pure ⟨hG,.inr ⟨_,_,_,_,_,rfl,hM',by omega,by omega,hb1,hbl1,by omega⟩⟩
    ·exact wpS_pure ⟨hG,_,_,_,_,_,rfl,hM',by omega,by omega,hb1,hbl1,by omega⟩
  ·rw [decide_eq_false hlt,if_neg (by decide)]
   have hM':=hM.jf ey (by omega) fun q hq=>Int.le_trans (hz q hq) (Int.not_lt.mp hlt)
   refine wpS_bind (bD ey ?_)
   by_cases e3:nb' - 1=1
   ·rw [if_pos (by simpa using e3)]
    exact wpS_pure ⟨hG,.inl ⟨_,rfl,firstB hM' e3 (by omega)⟩⟩
   ·rw [if_neg (by simpa using e3)]
    split
    ·exact wpS_pure ⟨hG,.inr ⟨_,_,_,_,_,rfl,hM',ha1,hal1,by omega,by omega,by omega⟩⟩
    ·exact wpS_pure ⟨hG,_,_,_,_,_,rfl,hM',ha1,hal1,by omega,by omega,by omega⟩
 ·rintro c st' ⟨_,out,ia',ib',ac,bc,rfl,_,h1,h2,h3,h4,h5⟩
  omega
 clear hM hG
 rintro⟨c,c2⟩ st' ⟨hG,⟨m,e,hL⟩ | ⟨out,na',nb',ac,bc,e,hM,ha1,hal1,hb1,hbl1,hx'⟩⟩
 ·cases (show c=some m from e)
  exact wpS_pure ⟨hG,m,rfl,hL⟩
 cases e
 dsimp only
 refine wpS_bind (wpS_lift (wpAny_rule ⟨rfl,?_⟩))
 refine wpS_bind (wpS_mono (wpS_forRange (I:=fun x1 c st'=>Gm st st'/\∃ out na' nb' mg ac bc,c=(none,na',nb',out,mg,ac,bc)/\MH (a.toList++b.toList) out.toList.reverse (a.toList.take na') (b.toList.take nb')/\0 < na'/\na' <= a.size/\1 < nb'/\nb' <= b.size/\1+na' + nb' <= na+nb)
  (Q:=fun c st'=>Gm st st'/\((∃ m,c.1=some m/\Laid (a.toList++b.toList) m)\/∃ out na' nb' mg ac bc,c=(none,na',nb',out,mg,ac,bc)/\MH (a.toList++b.toList) out.toList.reverse (a.toList.take na') (b.toList.take nb')/\0 < na'/\na' <= a.size/\1 < nb'/\nb' <= b.size/\1+na' + nb' <= na+nb)) ?_ ?_ ⟨hG,_,_,_,_,_,_,rfl,hM,ha1,hal1,hb1,hbl1,hx'⟩) ?_)
 rotate_left
 ·rintro c st' ⟨hG,hh⟩
  exact⟨hG,.inr hh⟩
 ·rintro⟨c,c2⟩ st' ⟨hG,⟨m,e,hL⟩ | ⟨out,na',nb',mg,ac,bc,e,hM,ha1,hal1,hb1,hbl1,hx'⟩⟩
  ·cases (show c=some m from e)
   exact wpS_pure ⟨hG,m,rfl,hL⟩
  ·cases e
   refine wpS_bind (wpS_modify (wpS_pure ⟨hG.set _,_,_,_,_,rfl,hM,ha1,hal1,hb1,hbl1,?_⟩))
   show x+1+1+na' + nb' <= a.size+b.size
   omega
 clear hM hG ha1 hal1 hb1 hbl1 hx'
 rintro x1 c st' _ hx1 ⟨hG,out,na',nb',mg,ac,bc,rfl,hM,ha1,hal1,hb1,hbl1,hx'⟩
 dsimp only
 obtain⟨y,ey,my⟩:=dD (show nb' - 1 < b.size by omega)
 have hy:=lF ey (by omega) hM.sb
 have er:fb a 0 na' = a.toList.take na':=rfl
 rcases Nat.lt_or_ge 1 mg with hmg | hmg
 all_goals
  first | rw [if_pos (show mg > 1 from hmg)] | rw [if_neg (show ¬ mg > 1 by omega)]
  refine wpS_bind (wpS_modify ?_)
  refine wpS_bind (bD ey ?_)
  refine wpS_bind (fR (left:=false) ((hG.set _).kind.trans hk) (hb y my) (by omega) (by rw [er];exact fun p hp=>ha p (List.mem_of_mem_take hp)) (by rw [er];exact hM.sa) (by omega) fun k hk1 hk2 hk3=>?_)
  dsimp only
  rw [er] at hk2 hk3
  rcases Nat.eq_zero_or_pos (na' - k) with hk0 | hk0
  ·rw [if_neg (by omega)]
   have hM1:=hM
   have hk2:∀ q ∈ a.toList.take na',kn q<=kn y:=fun q hq=>hk2 q (by rw [List.take_of_length_le (by rw [List.length_take];omega)];exact hq)
   refine wpS_bind (bD ey ?_)
   have hM2:=hM1.jf ey (by omega) hk2
   by_cases e3:nb' - 1=1
   ·rw [if_pos (by simpa using e3)]
    exact wpS_pure ⟨hG.set _,.inl ⟨_,rfl,firstB hM2 e3 (by omega)⟩⟩
   rw [if_neg (by simpa using e3)]
   obtain⟨z,ez,mz⟩:=dD (show na' - 1 < a.size by omega)
   have hz:∀ q ∈ a.toList.take (na'),kn q<=kn z:=lF ez (by omega) hM2.sa
   have er2:fb b 0 (nb' - 1)=b.toList.take (nb' - 1):=rfl
   refine wpS_bind (bD ez ?_)
   refine wpS_bind (fR (left:=true) ((hG.set _).kind.trans hk) (ha z mz) (by omega) (by rw [er2];exact fun p hp=>hb p (List.mem_of_mem_take hp)) (by rw [er2];exact hM2.sb) (by omega) fun k2 q1 q2 q3=>?_)
   dsimp only
   rw [er2] at q2 q3
   rcases Nat.eq_zero_or_pos (nb' - 1 - k2) with hk20 | hk20
   ·rw [if_neg (by omega)]
    have hM3:=hM2
    have hz3:∀ q ∈ b.toList.take (nb' - 1),kn q<=kn z:=fun q hq=>Int.le_of_lt (q2 q (by rw [List.take_of_length_le (by rw [List.length_take];omega)];exact hq))
    refine wpS_bind (bD ez ?_)
    have hM4:=hM3.fK ez (by omega) hz3
    by_cases e5:na' - 1=0
    ·rw [if_pos (by simpa using e5)]
     exact wpS_pure ⟨hG.set _,.inl ⟨_,rfl,gi hM4 e5⟩⟩
    rw [if_neg (by simpa using e5)]
    split
    ·exact wpS_pure ⟨hG.set _,.inr ⟨_,_,_,_,_,_,rfl,hM4,by omega,by omega,by omega,by omega,by omega⟩⟩
    ·exact wpS_pure ⟨hG.set _,_,_,_,_,_,_,rfl,hM4,by omega,by omega,by omega,by omega,by omega⟩
   ·rw [if_pos hk20]
    have hM3:=hM2.sV (k:=k2) (by omega) (by omega) (fun q hq v hv=>Int.le_trans (hz v hv) (q3 q hq))
    have hz3:∀ q ∈ b.toList.take k2,kn q<=kn z:=fun q hq=>Int.le_of_lt (q2 q (by rw [List.take_take,Nat.min_eq_left (by omega)];exact hq))
    by_cases e4:k2=1
    ·rw [if_pos (by simpa using e4)]
     exact wpS_pure ⟨hG.set _,.inl ⟨_,rfl,firstB hM3 e4 (by omega)⟩⟩
    rw [if_neg (by simpa using e4)]
    by_cases e6:k2=0
    ·rw [if_pos (by simpa using e6)]
     exact wpS_pure ⟨hG.set _,.inl ⟨_,rfl,gm hM3 e6⟩⟩
    rw [if_neg (by simpa using e6)]
    refine wpS_bind (bD ez ?_)
    have hM4:=hM3.fK ez (by omega) hz3
    by_cases e5:na' - 1=0
    ·rw [if_pos (by simpa using e5)]
     exact wpS_pure ⟨hG.set _,.inl ⟨_,rfl,gi hM4 e5⟩⟩
    rw [if_neg (by simpa using e5)]
    split
    ·exact wpS_pure ⟨hG.set _,.inr ⟨_,_,_,_,_,_,rfl,hM4,by omega,by omega,by omega,by omega,by omega⟩⟩
    ·exact wpS_pure ⟨hG.set _,_,_,_,_,_,_,rfl,hM4,by omega,by omega,by omega,by omega,by omega⟩
  ·rw [if_pos hk0]
   have hM1:=hM.ze (k:=k) (by omega) (by omega) (fun q hq v hv=>Int.le_trans (hy v hv) (Int.le_of_lt (hk3 q hq)))
   have hk2:∀ q ∈ a.toList.take k,kn q<=kn y:=fun q hq=>hk2 q (by rw [List.take_take,Nat.min_eq_left (by omega)];exact hq)
   by_cases e1:k=0
   ·rw [if_pos (by simpa using e1)]
    exact wpS_pure ⟨hG.set _,.inl ⟨_,rfl,gi hM1 e1⟩⟩
   rw [if_neg (by simpa using e1)]
   refine wpS_bind (bD ey ?_)
   have hM2:=hM1.jf ey (by omega) hk2
   by_cases e3:nb' - 1=1
   ·rw [if_pos (by simpa using e3)]
    exact wpS_pure ⟨hG.set _,.inl ⟨_,rfl,firstB hM2 e3 (by omega)⟩⟩
   rw [if_neg (by simpa using e3)]
   obtain⟨z,ez,mz⟩:=dD (show k - 1 < a.size by omega)
   have hz:∀ q ∈ a.toList.take (k),kn q<=kn z:=lF ez (by omega) hM2.sa
   have er2:fb b 0 (nb' - 1)=b.toList.take (nb' - 1):=rfl
   refine wpS_bind (bD ez ?_)
   refine wpS_bind (fR (left:=true) ((hG.set _).kind.trans hk) (ha z mz) (by omega) (by rw [er2];exact fun p hp=>hb p (List.mem_of_mem_take hp)) (by rw [er2];exact hM2.sb) (by omega) fun k2 q1 q2 q3=>?_)
   dsimp only
   rw [er2] at q2 q3
   rcases Nat.eq_zero_or_pos (nb' - 1 - k2) with hk20 | hk20
   ·rw [if_neg (by omega)]
    have hM3:=hM2
    have hz3:∀ q ∈ b.toList.take (nb' - 1),kn q<=kn z:=fun q hq=>Int.le_of_lt (q2 q (by rw [List.take_of_length_le (by rw [List.length_take];omega)];exact hq))
    refine wpS_bind (bD ez ?_)
    have hM4:=hM3.fK ez (by omega) hz3
    by_cases e5:k - 1=0
    ·rw [if_pos (by simpa using e5)]
     exact wpS_pure ⟨hG.set _,.inl ⟨_,rfl,gi hM4 e5⟩⟩
    rw [if_neg (by simpa using e5)]
    split
    ·exact wpS_pure ⟨hG.set _,.inr ⟨_,_,_,_,_,_,rfl,hM4,by omega,by omega,by omega,by omega,by omega⟩⟩
    ·exact wpS_pure ⟨hG.set _,_,_,_,_,_,_,rfl,hM4,by omega,by omega,by omega,by omega,by omega⟩
   ·rw [if_pos hk20]
    have hM3:=hM2.sV (k:=k2) (by omega) (by omega) (fun q hq v hv=>Int.le_trans (hz v hv) (q3 q hq))
    have hz3:∀ q ∈ b.toList.take k2,kn q<=kn z:=fun q hq=>Int.le_of_lt (q2 q (by rw [List.take_take,Nat.min_eq_left (by omega)];exact hq))
    by_cases e4:k2=1
    ·rw [if_pos (by simpa using e4)]
     exact wpS_pure ⟨hG.set _,.inl ⟨_,rfl,firstB hM3 e4 (by omega)⟩⟩
    rw [if_neg (by simpa using e4)]
    by_cases e6:k2=0
    ·rw [if_pos (by simpa using e6)]
     exact wpS_pure ⟨hG.set _,.inl ⟨_,rfl,gm hM3 e6⟩⟩
    rw [if_neg (by simpa using e6)]
    refine wpS_bind (bD ez ?_)
    have hM4:=hM3.fK ez (by omega) hz3
    by_cases e5:k - 1=0
    ·rw [if_pos (by simpa using e5)]
     exact wpS_pure ⟨hG.set _,.inl ⟨_,rfl,gi hM4 e5⟩⟩
    rw [if_neg (by simpa using e5)]
    split
    ·exact wpS_pure ⟨hG.set _,.inr ⟨_,_,_,_,_,_,rfl,hM4,by omega,by omega,by omega,by omega,by omega⟩⟩
    ·exact wpS_pure ⟨hG.set _,_,_,_,_,_,_,rfl,hM4,by omega,by omega,by omega,by omega,by omega⟩
end
end iw
namespace iw
open PySem PyProof.Rows
theorem zf {α : Type} {l:List α} {n:Nat} {p:α} (h:n < l.length):(l.set n p).take (n+1)=l.take n ++ [p]:=by
 rw [List.take_add_one,List.take_set_of_le (Nat.le_refl n),List.getElem?_set_self h]
 rfl
theorem writes (d:Nat):∀ (l:List Keyed) (n:Nat) (xs:Array Keyed),d+n+l.length<=xs.size->((l.zipIdx n).foldl (fun a (p:Keyed × Nat)=>a.setIfInBounds (d+p.2) p.1) xs).toList=xs.toList.take (d+n)++l++xs.toList.drop (d+n+l.length)
 | [],n,xs,h=>by
  show xs.toList=_
  rw [List.append_nil,List.length_nil,Nat.add_zero,List.take_append_drop]
 | p :: l,n,xs,h=>by
  rw [List.zipIdx_cons,List.foldl_cons]
  rw [List.length_cons] at h ⊢
  rw [writes d l (n+1) _ (by rw [Array.size_setIfInBounds];omega)]
  show (xs.setIfInBounds (d+n) p).toList.take _++l++(xs.setIfInBounds (d+n) p).toList.drop _=_
  rw [Array.toList_setIfInBounds,List.drop_set,if_pos (by omega),show d+(n+1)=d+n+1 by omega,zf (by rw [Array.length_toList];omega)]
  rw [List.append_assoc,List.append_assoc,List.append_assoc,show d+n+1+l.length=d+n+(l.length+1) by omega]
  rfl
section
variable {prog:Program} {w:World} {A:Around} {E:Value->Shared->Prop} {s:Shared} {st:SortSt}
theorem Av {Q:PUnit->SortSt->Prop} {st':SortSt} (h:Q ⟨⟩ st'):wpS (model prog w) A E s (set st':StateT SortSt Sem PUnit) Q st:=by
 unfold wpS
 rw [StateT.run_set]
 exact wpAny_pure ⟨rfl,h⟩
theorem vP {i sa na pw nb q:Nat} {Q:Bool->SortSt->Prop} {P X Y S:List Keyed} (hk:kindOf st=oneType') (hf:failedOf st=none) (hi:∀ p ∈ (arrOf st).toList,fO p)
  (e1:(pendingOf st)[i]? = some (sa,na,pw)) (e2:(pendingOf st)[i+1]? = some (sa+na,nb,q)) (eL:(arrOf st).toList=P++(X++(Y++S))) (lP:P.length=sa) (lX:X.length=na) (lY:Y.length=nb) (h0:0 < na) (h1:0 < nb) (sX:cI X) (sY:cI Y)
  (h:∀ st' C,kindOf st' = oneType'->failedOf st' = none->pendingOf st' = ((pendingOf st).setIfInBounds i (sa,na+nb,pw)).eraseIdxIfInBounds (i+1)->(arrOf st').toList=P++(C++S)->C.Perm (X++Y)->cI C->Q true st'):wpS (model prog w) A E s (mergeAt' i) Q st:=by
 refine wpS_bind (wpS_get ?_)
 dsimp only
 rw [e1,e2]
 dsimp only
 refine wpS_bind (Av ?_)
 have hz:(arrOf st).size=sa+na+nb+S.length:=by
  rw [<-Array.length_toList,eL,List.length_append,List.length_append,List.length_append,lP,lX,lY]
  omega
 have rX:fb (arrOf st) sa na=X:=by
  unfold fb
  rw [eL,<-lP,List.drop_left,<-lX,List.take_left]
 have rY:fb (arrOf st) (sa+na) nb=Y:=by
  unfold fb
  rw [eL,<-lP,<-lX,<-List.drop_drop,List.drop_left,List.drop_left,<-lY,List.take_left]
 have iX:∀ p ∈ X,fO p:=fun p hp=>hi p (by rw [eL];exact List.mem_append_right _ (List.mem_append_left _ hp))
 have iY:∀ p ∈ Y,fO p:=fun p hp=>hi p (by rw [eL];exact List.mem_append_right _ (List.mem_append_right _ (List.mem_append_left _ hp)))
 obtain⟨y,ey,my⟩:=dD (a:=arrOf st) (i:=sa+na) (by omega)
 have hy0:Y[0]? = some y:=by rw [<-rY,jP h1];exact ey
 have hy:∀ v ∈ Y,kn y<=kn v:=fun v hv=>by
  obtain⟨j,hj⟩:=List.getElem?_of_mem hv
  exact sY.get (Nat.zero_le j) hy0 hj
 refine wpS_bind (bD ey ?_)
 refine wpS_bind (fR (left:=false) (by exact hk) (hi y my) (show sa+na<=(arrOf st).size by omega) (by rw [rX];exact iX) (by rw [rX];exact sX) h0 fun k k1 k2 k3=>?_)
 rw [rX] at k2 k3
 dsimp only
 by_cases z1:na - k=0
 ·rw [if_pos (by simpa using z1)]
  refine wpS_pure (h _ (X++Y) hk hf rfl (by rw [List.append_assoc];exact eL) (List.Perm.refl _) (List.pairwise_append.mpr ⟨sX,sY,fun x hx v hv=>?_⟩))
  exact Int.le_trans (k2 x (by rw [List.take_of_length_le (by omega)];exact hx)) (hy v hv)
 rw [if_neg (by simpa using z1)]
 obtain⟨z,ez,mz⟩:=dD (a:=arrOf st) (i:=sa+k+(na - k) - 1) (by omega)
 have hzX:X[na - 1]? = some z:=by rw [<-rX,jP (by omega)];rw [show sa+(na - 1)=sa+k+(na - k) - 1 by omega];exact ez
 have hzz:∀ v ∈ X,kn v<=kn z:=fun v hv=>by
  obtain⟨j,hj⟩:=List.getElem?_of_mem hv
  have:=(List.getElem?_eq_some_iff.mp hj).1
  exact sX.get (by omega) hj hzX
 refine wpS_bind (bD ez ?_)
 refine wpS_bind (fR (left:=true) (by exact hk) (hi z mz) (show sa+na+nb<=(arrOf st).size by omega) (by rw [rY];exact iY) (by rw [rY];exact sY) (by omega) fun m m1 m2 m3=>?_)
 rw [rY] at m2 m3
 dsimp only
 by_cases z2:m=0
 ·rw [if_pos (by simpa using z2)]
  subst z2
  refine wpS_pure (h _ (X++Y) hk hf rfl (by rw [List.append_assoc];exact eL) (List.Perm.refl _) (List.pairwise_append.mpr ⟨sX,sY,fun x hx v hv=>?_⟩))
  exact Int.le_trans (hzz x hx) (m3 v hv)
 rw [if_neg (by simpa using z2)]
 have xL:((arrOf st).extract (sa+k) (sa+na)).toList=X.drop k:=by
  rw [show sa+na=sa+k+(na - k) by omega,mC,eL,<-List.drop_drop,<-lP,List.drop_left,List.drop_append_of_le_length (by omega)]
  exact List.take_left' (by rw [List.length_drop];omega)
 have yL:((arrOf st).extract (sa+na) (sa+na+m)).toList=Y.take m:=by
  rw [mC,eL,<-List.drop_drop,<-lP,List.drop_left,<-lX,List.drop_left,List.take_append_of_le_length (by omega)]
 have memD:∀ v ∈ X.drop k,v ∈ X:=fun v hv=>List.mem_of_mem_drop hv
 have memT:∀ v ∈ Y.take m,v ∈ Y:=fun v hv=>List.mem_of_mem_take hv
 have szx:((arrOf st).extract (sa+k) (sa+na)).size=na - k:=by rw [<-Array.length_toList,xL,List.length_drop,lX]
 have szy:((arrOf st).extract (sa+na) (sa+na+m)).size=m:=by rw [<-Array.length_toList,yL,List.length_take,lY];omega
 have sXd:cI (X.drop k):=sX.sublist (List.drop_sublist _ _)
 have sYt:cI (Y.take m):=sY.sublist (List.take_sublist _ _)
 have fin:∀ (mg:Array Keyed) (st':SortSt),Gm (SortSt.mk' (kindOf st) (arrOf st) (((pendingOf st).setIfInBounds i (sa,na+nb,pw)).eraseIdxIfInBounds (i+1)) (gallopOf st) (failedOf st)) st'->Laid (X.drop k++Y.take m) mg ->
   Q true (SortSt.mk' (kindOf st') (mg.toList.zipIdx.foldl (fun a (p:Keyed × Nat)=>a.setIfInBounds (sa+k+p.2) p.1) (arrOf st')) (pendingOf st') (gallopOf st') (failedOf st')):=by
  rintro mg st' ⟨g,rfl⟩ ⟨pm,sm⟩
  have lm:mg.toList.length=(na - k)+m:=by rw [pm.length_eq,List.length_append,List.length_drop,List.length_take,lX,lY];omega
  refine h _ (X.take k++(mg.toList++Y.drop m)) hk hf rfl ?_ ?_ ?_
  ·show (mg.toList.zipIdx.foldl (fun a (p:Keyed × Nat)=>a.setIfInBounds (sa+k+p.2) p.1) (arrOf st)).toList=_
   rw [writes (sa+k) mg.toList 0 (arrOf st) (by omega),lm,eL,Nat.add_zero]
   have t1:(P++(X++(Y++S))).take (sa+k)=P++X.take k:=by
    rw [<-lP,List.take_length_add_append,List.take_append_of_le_length (by omega)]
   have t2:(P++(X++(Y++S))).drop (sa+k+(na - k+m))=Y.drop m++S:=by
    rw [show sa+k+(na - k+m)=sa+(na+m) by omega,<-List.drop_drop,<-lP,List.drop_left,<-List.drop_drop,<-lX,List.drop_left,List.drop_append_of_le_length (by omega)]
   rw [t1,t2]
   simp only [List.append_assoc]
  ·refine ((List.Perm.append_left (X.take k) (List.Perm.append_right (Y.drop m) pm))).trans ?_
   rw [List.append_assoc (X.drop k),List.take_append_drop,<-List.append_assoc,List.take_append_drop]
  ·have low:∀ x ∈ X.take k,kn x<=kn y:=fun x hx=>k2 x hx
   have mid:∀ v ∈ mg.toList,kn y<=kn v/\kn v<=kn z:=fun v hv=>by
    rcases List.mem_append.mp (pm.mem_iff.mp hv) with hv | hv
    ·exact⟨Int.le_of_lt (k3 v hv),hzz v (memD v hv)⟩
    ·exact⟨hy v (memT v hv),Int.le_of_lt (m2 v hv)⟩
   have top:∀ v ∈ Y.drop m,kn z<=kn v/\kn y<=kn v:=fun v hv=>⟨m3 v hv,hy v (List.mem_of_mem_drop hv)⟩
   refine List.pairwise_append.mpr ⟨sX.sublist (List.take_sublist _ _),List.pairwise_append.mpr ⟨sm,sY.sublist (List.drop_sublist _ _),fun u hu v hv=>Int.le_trans (mid u hu).2 (top v hv).1⟩,fun u hu v hv=>?_⟩
   rcases List.mem_append.mp hv with hv | hv
   ·exact Int.le_trans (low u hu) (mid v hv).1
   ·exact Int.le_trans (low u hu) (top v hv).2
 have h0y:∀ v,((arrOf st).extract (sa+na) (sa+na+m))[0]? = some v->v=y:=fun v hv=>by
  rw [<-Array.getElem?_toList,yL,List.getElem?_take_of_lt (by omega),hy0] at hv
  exact (Option.some.inj hv).symm
 have hlx:∀ v,((arrOf st).extract (sa+k) (sa+na))[na - k - 1]? = some v->v=z:=fun v hv=>by
  rw [<-Array.getElem?_toList,xL,List.getElem?_drop,show k+(na - k - 1)=na - 1 by omega,hzX] at hv
  exact (Option.some.inj hv).symm
 by_cases z3:na - k<=m
 ·rw [if_pos z3]
  refine wpS_bind (Bz (by exact hk) (by rw [xL];exact fun p hp=>iX p (memD p hp)) (by rw [yL];exact fun p hp=>iY p (memT p hp)) (by rw [xL];exact sXd) (by rw [yL];exact sYt) (Nat.lt_of_lt_of_eq (show 0 < na - k by omega) szx.symm) (Nat.lt_of_lt_of_eq (show 0 < m by omega) szy.symm) ?_ ?_ fun mg st' hG hL=>?_)
  ·intro v hv u hu
   rw [h0y v hv]
   rw [xL] at hu
   exact Int.le_of_lt (k3 u hu)
  ·intro j hj u hu v hv
   rw [yL] at hv
   have hj':j+1=na - k:=hj.trans szx
   obtain⟨u0,eu,_⟩:=dD (a:=(arrOf st).extract (sa+k) (sa+na)) (i:=j) (Nat.lt_of_lt_of_eq (Nat.lt_succ_self j) hj)
   have hu0:u0=z:=hlx u0 (by rw [show na - k - 1=j by omega];exact eu)
   rw [drop_cons eu,i1 hj,List.mem_singleton] at hu
   rw [hu,hu0]
   exact Int.le_of_lt (m2 v hv)
  ·rw [xL,yL] at hL
   refine wpS_bind (wpS_modify (wpS_bind (wpS_get (wpS_pure ?_))))
   have:=fin mg st' hG hL
   obtain⟨g,rfl⟩:=hG
   rw [show (failedOf st).isNone=true by rw [hf];rfl]
   exact this
 ·rw [if_neg z3]
  refine wpS_bind (BA (by exact hk) (by rw [xL];exact fun p hp=>iX p (memD p hp)) (by rw [yL];exact fun p hp=>iY p (memT p hp)) (by rw [xL];exact sXd) (by rw [yL];exact sYt) (Nat.lt_of_lt_of_eq (show 0 < na - k by omega) szx.symm) (Nat.lt_of_lt_of_eq (show 0 < m by omega) szy.symm) ?_ ?_ fun mg st' hG hL=>?_)
  ·intro v hv u hu
   obtain⟨v0,ev,_⟩:=dD (a:=(arrOf st).extract (sa+na) (sa+na+m)) (i:=0) (Nat.lt_of_lt_of_eq (show 0 < m by omega) szy.symm)
   have hv0:=h0y v0 ev
   have e3:=drop_cons ev
   rw [List.drop_zero] at e3
   rw [e3] at hv
   rw [show v=v0 from List.mem_singleton.mp hv,hv0]
   rw [xL] at hu
   exact Int.le_of_lt (k3 u hu)
  ·intro u eu v hv
   rw [szx] at eu
   rw [yL] at hv
   rw [hlx u eu]
   exact Int.le_of_lt (m2 v hv)
  ·rw [xL,yL] at hL
   refine wpS_bind (wpS_modify (wpS_bind (wpS_get (wpS_pure ?_))))
   have:=fin mg st' hG hL
   obtain⟨g,rfl⟩:=hG
   rw [show (failedOf st).isNone=true by rw [hf];rfl]
   exact this
end
end iw
namespace iw
open PySem PyProof.Rows
def Up (xs:Array Keyed) (lo hi:Nat):Prop:=∀ i j,lo<=i->i<=j->j < hi->K xs i<=K xs j
def Dn (xs:Array Keyed) (lo hi:Nat):Prop:=∀ i j,lo<=i->i<=j->j < hi->K xs j<=K xs i
structure TB (a₀ : Array Keyed) (lo:Nat) (F:List Keyed) (pd:Array (Nat × Nat × Nat)) (st:SortSt):Prop where
 perm:(arrOf st).Perm a₀
 kind:kindOf st=oneType'
 failed:failedOf st=none
 pend:pendingOf st=pd
 pre:(arrOf st).toList.take lo=F
variable {a₀ : Array Keyed} {lo:Nat} {F:List Keyed} {pd:Array (Nat × Nat × Nat)}
theorem TB.size {st:SortSt} (h:TB a₀ lo F pd st):(arrOf st).size=a₀.size:=h.perm.size_eq
theorem TB.BB {st:SortSt} (h:TB a₀ lo F pd st) {xs:Array Keyed} (hp:xs.Perm (arrOf st)) (hk:∀ k,k < lo->xs[k]? = (arrOf st)[k]?):TB a₀ lo F pd (setArr st xs) :=
 ⟨hp.trans h.perm,h.kind,h.failed,h.pend,by
  rw [<-h.pre]
  refine List.ext_getElem? fun k=>?_
  show (xs.toList.take lo)[k]? = _
  by_cases hkl:k < lo
  ·rw [List.getElem?_take_of_lt hkl,List.getElem?_take_of_lt hkl,Array.getElem?_toList,Array.getElem?_toList]
   exact hk k hkl
  ·rw [List.getElem?_take_eq_none (by omega),List.getElem?_take_eq_none (by omega)]⟩
theorem TB.ints {st:SortSt} (h:TB a₀ lo F pd st) (h0:IntKeys a₀):∀ p ∈ (arrOf st).toList,fO p:=fun p hp=>h0 p ((Array.perm_iff_toList_perm.mp h.perm).mem_iff.mp hp)
section
variable {prog:Program} {w:World} {A:Around} {E:Value->Shared->Prop} {s:Shared} {st:SortSt}
theorem lG {i j:Nat} {Q:Option Bool->SortSt->Prop} (hB:TB a₀ lo F pd st) (h0:IntKeys a₀) (hi:i < a₀.size) (hj:j < a₀.size) (h:Q (some (decide (K (arrOf st) i < K (arrOf st) j))) st):wpS (model prog w) A E s (ltAt' i j) Q st:=by
 obtain⟨x,ex,mx⟩:=dD (a:=arrOf st) (i:=i) (by rw [hB.size];exact hi)
 obtain⟨y,ey,my⟩:=dD (a:=arrOf st) (i:=j) (by rw [hB.size];exact hj)
 rw [show K (arrOf st) i=kn x by unfold K;rw [ex];rfl,show K (arrOf st) j=kn y by unfold K;rw [ey];rfl] at h
 rw [ltAt'_eq]
 exact wpS_bind (wpS_get (wpS_bind (bD ex (wpS_bind (bD ey (oi hB.kind (hB.ints h0 x mx) (hB.ints h0 y my) h))))))
theorem ou {i j:Nat} {Q:Unit->SortSt->Prop} (h:Q () (setArr st (mirror (arrOf st) i j ((j - i) / 2)))):wpS (model prog w) A E s (reverseSlice' i j) Q st:=by
 rw [reverseSlice'_eq]
 exact wpS_modify h
theorem TB.rev (hB:TB a₀ lo F pd st) {i j:Nat} (hi:lo<=i) (hj:j<=a₀.size):TB a₀ lo F pd (setArr st (mirror (arrOf st) i j ((j - i) / 2))) :=
 hB.BB (mirror_perm _ _ _ _) fun k hk=>by rw [getElem?_mirror_all (by rw [hB.size];exact hj),if_neg (by omega)]
def o5 (lo a nrem:Nat):StateT SortSt Sem (Option (Option Nat) × Nat):=forIn [a:nrem] ((none,a):Option (Option Nat) × Nat) fun _ c=>ltAt' (lo+c.2) (lo+c.2 - 1) >>= fun z =>
 match z with
 | some r=>if r=true then pure (ForInStep.done (none,c.2)) else pure (ForInStep.yield (none,c.2+1))
 | _=>pure (ForInStep.done (some none,c.2))
theorem uY {a nrem:Nat} {Q:Option (Option Nat) × Nat->SortSt->Prop} (h0:IntKeys a₀) (hn:lo+nrem<=a₀.size) (ha:1<=a) (han:a<=nrem) (hB:TB a₀ lo F pd st) (hs:Up (arrOf st) lo (lo+a))
  (h:∀ n,a<=n->n<=nrem->Up (arrOf st) lo (lo+n)->(n=nrem\/K (arrOf st) (lo+n) < K (arrOf st) (lo+n - 1))->Q (none,n) st):wpS (model prog w) A E s (o5 lo a nrem) Q st:=by
 unfold o5
 refine wpS_forRange (I:=fun x c st'=>st' = st/\c=(none,x)/\Up (arrOf st) lo (lo+x)) ?_ ?_ ⟨rfl,rfl,hs⟩
 ·rintro x c st' hax hxn ⟨rfl,rfl,hs'⟩
  refine wpS_bind (lG hB h0 (show lo+x < a₀.size by omega) (show lo+x - 1 < a₀.size by omega) ?_)
  by_cases hl:K (arrOf st') (lo+x) < K (arrOf st') (lo+x - 1)
  ·rw [decide_eq_true hl]
   exact wpS_pure (h x hax (by omega) hs' (.inr hl))
  ·rw [decide_eq_false hl]
   refine wpS_pure ⟨rfl,rfl,fun i j h1 h2 h3=>?_⟩
   by_cases hj:j < lo+x
   ·exact hs' i j h1 h2 hj
   ·obtain rfl:j=lo+x:=by omega
    by_cases hi:i=lo+x
    ·rw [hi];exact Int.le_refl _
    ·exact Int.le_trans (hs' i (lo+x - 1) h1 (by omega) (by omega)) (Int.not_lt.mp hl)
 ·rintro c st' ⟨rfl,rfl,hs'⟩
  rw [show max a nrem=nrem by omega] at hs' ⊢
  exact h nrem han (Nat.le_refl _) hs' (.inl rfl)
def vQ (lo n nrem:Nat):StateT SortSt Sem (Option (Option Nat) × Nat × Nat):=forIn [n:nrem] ((none,n,0):Option (Option Nat) × Nat × Nat) fun _ c=>ltAt' (lo+c.2.1) (lo+c.2.1 - 1) >>= fun z =>
 match z with
 | some r=>if r=true then (if c.2.2 > 0 then reverseSlice' (lo+c.2.1 - (c.2.2+1)) (lo+c.2.1) >>= fun _=>pure (ForInStep.yield (none,c.2.1+1,0)) else pure (ForInStep.yield (none,c.2.1+1,0)))
  else ltAt' (lo+c.2.1 - 1) (lo+c.2.1) >>= fun u=>match u with
   | some l=>if l=true then pure (ForInStep.done (none,c.2.1,c.2.2)) else pure (ForInStep.yield (none,c.2.1+1,c.2.2+1))
   | _=>pure (ForInStep.done (some none,c.2.1,c.2.2))
 | _=>pure (ForInStep.done (some none,c.2.1,c.2.2))
theorem zg {n nrem:Nat} {Q:Option (Option Nat) × Nat × Nat->SortSt->Prop} (h0:IntKeys a₀) (hn:lo+nrem<=a₀.size) (h1:1<=n) (hnn:n<=nrem) (hB:TB a₀ lo F pd st) (hs:Dn (arrOf st) lo (lo+n))
  (h:∀ m q st',TB a₀ lo F pd st'->n<=m->m<=nrem->Dn (arrOf st') lo (lo+m)->q+1<=m->(∀ i,lo+m - (q+1)<=i->i < lo+m->K (arrOf st') i=K (arrOf st') (lo+m - 1))->Q (none,m,q) st'):wpS (model prog w) A E s (vQ lo n nrem) Q st:=by
 unfold vQ
 refine wpS_forRange (I:=fun x c st'=>∃ q,c=(none,x,q)/\TB a₀ lo F pd st'/\Dn (arrOf st') lo (lo+x)/\q+1<=x/\(∀ i,lo+x - (q+1)<=i->i < lo+x->K (arrOf st') i=K (arrOf st') (lo+x - 1))) ?_ ?_ ⟨0,rfl,hB,hs,by omega,fun i h1 h2=>by congr 1;omega⟩
 ·rintro x c st' hax hxn ⟨q,rfl,hB',hs',hq,he⟩
  refine wpS_bind (lG hB' h0 (show lo+x < a₀.size by omega) (show lo+x - 1 < a₀.size by omega) ?_)
  by_cases hl:K (arrOf st') (lo+x) < K (arrOf st') (lo+x - 1)
  ·rw [decide_eq_true hl]
   have step1:∀ xs:Array Keyed,(∀ k,K xs k=K (arrOf st') k)->Dn xs lo (lo+(x+1)):=fun xs hk i j h1 h2 h3=>by
    rw [hk,hk]
    by_cases hj:j < lo+x
    ·exact hs' i j h1 h2 hj
    ·obtain rfl:j=lo+x:=by omega
     by_cases hi:i=lo+x
     ·rw [hi];exact Int.le_refl _
     ·exact Int.le_trans (Int.le_of_lt hl) (hs' i (lo+x - 1) h1 (by omega) (by omega))
   dsimp only
   rw [if_pos rfl]
   by_cases hq0:q > 0
   ·rw [if_pos hq0]
    exact wpS_bind (ou (wpS_pure ⟨0,rfl,hB'.rev (by omega) (show lo+x<=a₀.size by omega),step1 _ (K_mirror_equal (by rw [hB'.size];omega) he),by omega,fun i h1 h2=>by congr 1;omega⟩))
   ·rw [if_neg hq0]
    exact wpS_pure ⟨0,rfl,hB',step1 _ (fun _=>rfl),by omega,fun i h1 h2=>by congr 1;omega⟩
  ·rw [decide_eq_false hl]
   refine wpS_bind (lG hB' h0 (show lo+x - 1 < a₀.size by omega) (show lo+x < a₀.size by omega) ?_)
   by_cases hr:K (arrOf st') (lo+x - 1) < K (arrOf st') (lo+x)
   ·rw [decide_eq_true hr]
    exact wpS_pure (h x q st' hB' hax (by omega) hs' hq he)
   ·rw [decide_eq_false hr]
    have hx:K (arrOf st') (lo+x)=K (arrOf st') (lo+x - 1):=by omega
    refine wpS_pure ⟨q+1,rfl,hB',fun i j h1 h2 h3=>?_,by omega,fun i h1 h2=>?_⟩
    ·by_cases hj:j < lo+x
     ·exact hs' i j h1 h2 hj
     ·obtain rfl:j=lo+x:=by omega
      by_cases hi:i=lo+x
      ·rw [hi];exact Int.le_refl _
      ·rw [hx];exact hs' i (lo+x - 1) h1 (by omega) (by omega)
    ·rw [show lo+(x+1) - 1=lo+x by omega]
     by_cases hi:i=lo+x
     ·rw [hi]
     ·rw [hx];exact he i (by omega) (by omega)
 ·rintro c st' ⟨q,rfl,hB',hs',hq,he⟩
  rw [show max n nrem=nrem by omega] at hs' hq he ⊢
  exact h nrem q st' hB' hnn (Nat.le_refl _) hs' hq he
theorem zh {nrem:Nat} {Q:Option Nat->SortSt->Prop} (h0:IntKeys a₀) (hn:lo+nrem<=a₀.size) (h1:1<=nrem) (hB:TB a₀ lo F pd st)
  (h:∀ m st',TB a₀ lo F pd st'->1<=m->m<=nrem->Up (arrOf st') lo (lo+m)->Q (some m) st'):wpS (model prog w) A E s (countRun' lo nrem) Q st:=by
 have tail:∀ {st:SortSt} {n:Nat} (R:Option (Option Nat) × Nat->StateT SortSt Sem (Option Nat)),(∀ m,R (none,m)=pure (some m))->1<=n->n<=nrem->TB a₀ lo F pd st->Dn (arrOf st) lo (lo+n) ->
   wpS (model prog w) A E s (reverseSlice' lo (lo+n) >>= fun _=>o5 lo n nrem >>= R) Q st:=fun {st n} R hR h1 hnn hB hs=>by
  have hB':=hB.rev (Nat.le_refl lo) (show lo+n<=a₀.size by omega)
  refine wpS_bind (ou (wpS_bind (uY h0 hn h1 hnn hB' (fun i j g1 g2 g3=>?_) fun m m1 m2 m3 _=>?_)))
  ·show K (mirror (arrOf st) lo (lo+n) ((lo+n - lo) / 2)) i<=K (mirror (arrOf st) lo (lo+n) ((lo+n - lo) / 2)) j
   rw [K_mirror (by rw [hB.size];omega),K_mirror (by rw [hB.size];omega),if_pos (by omega),if_pos (by omega)]
   exact hs _ _ (by omega) (by omega) (by omega)
  ·rw [hR m]
   exact wpS_pure (h m _ hB' (by omega) m2 m3)
 have down:∀ {st:SortSt} {n:Nat} (R2:Option (Option Nat) × Nat × Nat->StateT SortSt Sem (Option Nat)) (R:Option (Option Nat) × Nat->StateT SortSt Sem (Option Nat)),
   (∀ m q,R2 (none,m,q)=if q > 0 then reverseSlice' (lo+m - (q+1)) (lo+m) >>= fun _=>reverseSlice' lo (lo+m) >>= fun _=>o5 lo m nrem >>= R else reverseSlice' lo (lo+m) >>= fun _=>o5 lo m nrem >>= R) ->
   (∀ m,R (none,m)=pure (some m))->n+1<=nrem->TB a₀ lo F pd st->Dn (arrOf st) lo (lo+(n+1))->wpS (model prog w) A E s (vQ lo (n+1) nrem >>= R2) Q st:=fun {st n} R2 R hR2 hR hnn hB hs=>by
  refine wpS_bind (zg h0 hn (by omega) hnn hB hs fun m q st' hB' m1 m2 m3 m4 m5=>?_)
  rw [hR2 m q]
  by_cases hq:q > 0
  ·rw [if_pos hq]
   refine wpS_bind (ou (tail R hR (by omega) m2 (hB'.rev (by omega) (show lo+m<=a₀.size by omega)) fun i j g1 g2 g3=>?_))
   show K (mirror (arrOf st') _ _ _) j<=K (mirror (arrOf st') _ _ _) i
   rw [K_mirror_equal (by rw [hB'.size];omega) m5,K_mirror_equal (by rw [hB'.size];omega) m5]
   exact m3 i j g1 g2 g3
  ·rw [if_neg hq]
   exact tail R hR (by omega) m2 hB' m3
 refine wpS_bind (m:=o5 lo 1 nrem) (uY h0 hn (Nat.le_refl 1) h1 hB (fun i j g1 g2 g3=>Int.le_of_eq (congrArg (K (arrOf st)) (show i=j by omega))) fun n n1 n2 n3 n4=>?_)
 dsimp only
 by_cases hnn:n=nrem
 ·rw [if_pos (by simpa using hnn)]
  exact wpS_pure (h n st hB n1 n2 n3)
 rw [if_neg (by simpa using hnn)]
 have hlt:=n4.resolve_left hnn
 by_cases hgt:n > 1
 ·rw [if_pos hgt]
  refine wpS_bind (lG hB h0 (show lo < a₀.size by omega) (show lo+n - 1 < a₀.size by omega) ?_)
  by_cases hr:K (arrOf st) lo < K (arrOf st) (lo+n - 1)
  ·rw [decide_eq_true hr]
   exact wpS_pure (h n st hB n1 n2 n3)
  rw [decide_eq_false hr]
  have hall:∀ k,lo<=k->k < lo+n->K (arrOf st) k=K (arrOf st) (lo+n - 1):=fun k g1 g2=>by
   have a1:=n3 lo k (Nat.le_refl lo) g1 g2
   have a2:=n3 k (lo+n - 1) g1 (by omega) (by omega)
   omega
  dsimp only
  rw [if_neg (by decide)]
  refine wpS_bind (ou (wpS_bind (wpS_lift (wpAny_rule ⟨rfl,?_⟩))))
  refine down _ _ (fun m q=>rfl) (fun m=>rfl) (by omega) (hB.rev (Nat.le_refl lo) (show lo+n<=a₀.size by omega)) fun i j g1 g2 g3=>?_
  show K (mirror (arrOf st) _ _ _) j<=K (mirror (arrOf st) _ _ _) i
  rw [K_mirror_equal (by rw [hB.size];omega) hall,K_mirror_equal (by rw [hB.size];omega) hall]
  by_cases hj:j < lo+n
  ·rw [hall i g1 (by omega),hall j (by omega) hj];exact Int.le_refl _
  ·obtain rfl:j=lo+n:=by omega
   by_cases hi:i=lo+n
   ·rw [hi];exact Int.le_refl _
   ·rw [hall i g1 (by omega)];exact Int.le_of_lt hlt
 ·rw [if_neg hgt]
  obtain rfl:n=1:=by omega
  refine wpS_bind (wpS_lift (wpAny_rule ⟨rfl,?_⟩))
  refine down _ _ (fun m q=>rfl) (fun m=>rfl) (by omega) hB fun i j g1 g2 g3=>?_
  by_cases hi:i=j
  ·rw [hi];exact Int.le_refl _
  ·obtain rfl:i=lo:=by omega
   obtain rfl:j=i+1:=by omega
   exact Int.le_of_lt hlt
theorem BC {n ok:Nat} {Q:Bool->SortSt->Prop} (h0:IntKeys a₀) (hn:lo+n<=a₀.size) (aN:ok<=n) (hB:TB a₀ lo F pd st) (hs:Up (arrOf st) lo (lo+ok))
  (h:∀ st',TB a₀ lo F pd st'->Up (arrOf st') lo (lo+n)->Q true st'):wpS (model prog w) A E s (binarySort' lo n ok) Q st:=by
 refine wpS_bind (wpS_mono (wpS_forRange (I:=fun k c st'=>c=(none,())/\TB a₀ lo F pd st'/\Up (arrOf st') lo (lo+min k n)) (Q:=fun c st'=>c=(none,())/\TB a₀ lo F pd st'/\Up (arrOf st') lo (lo+n)) ?_ ?_ ?_) ?_)
 ·rintro k c st' hak hkn ⟨rfl,hB',hs'⟩
  rw [show min k n=k by omega] at hs'
  refine wpS_bind (wpS_mono (wpS_forRange (I:=fun x c st''=>st'' = st'/\∃ l r,c=(none,l,r)/\l<=r/\r<=k/\r - l<=k - x/\(∀ i,i < l->K (arrOf st') (lo+i)<=K (arrOf st') (lo+k))/\(∀ i,r<=i->i < k->K (arrOf st') (lo+k) < K (arrOf st') (lo+i)))
   (Q:=fun c st''=>st'' = st'/\∃ l r,c=(none,l,r)/\l<=k/\(∀ i,i < l->K (arrOf st') (lo+i)<=K (arrOf st') (lo+k))/\(∀ i,l<=i->i < k->K (arrOf st') (lo+k) < K (arrOf st') (lo+i))) ?_ ?_ ⟨rfl,0,k,rfl,by omega,by omega,by omega,fun i hi=>by omega,fun i g1 g2=>by omega⟩) ?_)
  ·rintro x c st'' _ hxk ⟨rfl,l,r,rfl,hlr,hrk,hm,hlo,hhi⟩
   dsimp only
   by_cases hge:l >= r
   ·rw [if_pos hge]
    obtain rfl:l=r:=by omega
    exact wpS_pure ⟨rfl,l,l,rfl,hrk,hlo,hhi⟩
   ·rw [if_neg hge]
    refine wpS_bind (lG hB' h0 (show lo+k < a₀.size by omega) (show lo+(l+r) / 2 < a₀.size by omega) ?_)
    by_cases hl:K (arrOf st'') (lo+k) < K (arrOf st'') (lo+(l+r) / 2)
    ·rw [decide_eq_true hl]
     refine wpS_pure ⟨rfl,l,(l+r) / 2,rfl,by omega,by omega,by omega,hlo,fun i g1 g2=>?_⟩
     exact Int.lt_of_lt_of_le hl (hs' _ _ (by omega) (by omega) (by omega))
    ·rw [decide_eq_false hl]
     refine wpS_pure ⟨rfl,(l+r) / 2+1,r,rfl,by omega,by omega,by omega,fun i g1=>?_,hhi⟩
     exact Int.le_trans (hs' (lo+i) (lo+(l+r) / 2) (by omega) (by omega) (by omega)) (Int.not_lt.mp hl)
  ·rintro c st'' ⟨rfl,l,r,rfl,hlr,hrk,hm,hlo,hhi⟩
   obtain rfl:l=r:=by omega
   exact⟨rfl,l,l,rfl,hrk,hlo,hhi⟩
  ·rintro c st'' ⟨rfl,l,r,rfl,hlk,hlo,hhi⟩
   have hks:lo+k < (arrOf st'').size:=by rw [hB'.size];omega
   have hd:lo+k - (lo+l)<=lo+k:=by omega
   show wpS _ _ _ _ (moveDown' (lo+k) (lo+l) >>= fun _=>pure (ForInStep.yield (none,()))) _ _
   rw [moveDown'_eq]
   refine wpS_bind (wpS_modify (wpS_pure ⟨rfl,hB'.BB (bubble_perm _ _ _) (fun j hj=>?_),?_⟩))
   ·rw [getElem?_bubble hks _ hd,if_neg (by omega),if_neg (by omega)]
   ·rw [show min (k+1) n=k+1 by omega]
    intro i j g1 g2 g3
    show K (bubble (arrOf st'') (lo+k) (lo+k - (lo+l))) i<=K (bubble (arrOf st'') (lo+k) (lo+k - (lo+l))) j
    rw [K_bubble hks hd,K_bubble hks hd,show lo+k - (lo+k - (lo+l))=lo+l by omega]
    have hlo':∀ i,lo<=i->i < lo+l->K (arrOf st'') i<=K (arrOf st'') (lo+k):=fun i g1 g2=>by
     have:=hlo (i - lo) (by omega)
     rwa [show lo+(i - lo)=i by omega] at this
    have hhi':∀ i,lo+l<=i->i < lo+k->K (arrOf st'') (lo+k) < K (arrOf st'') i:=fun i g1 g2=>by
     have:=hhi (i - lo) (by omega) (by omega)
     rwa [show lo+(i - lo)=i by omega] at this
    repeat' split
    all_goals first
     | (exfalso;omega)
     | exact Int.le_refl _
     | exact hlo' _ (by omega) (by omega)
     | exact Int.le_of_lt (hhi' _ (by omega) (by omega))
     | exact hs' _ _ (by omega) (by omega) (by omega)
 ·rintro c st' ⟨hc,hB',hs'⟩
  rw [show min (max (max ok 1) n) n=n by omega] at hs'
  exact⟨hc,hB',hs'⟩
 ·refine⟨rfl,hB,fun i j g1 g2 g3=>?_⟩
  by_cases hz:ok=0
  ·obtain rfl:i=j:=by omega
   exact Int.le_refl _
  ·exact hs i j g1 g2 (by omega)
 ·rintro c st' ⟨rfl,hB',hs'⟩
  exact wpS_pure (h st' hB' hs')
end
end iw
namespace iw
open PySem PyProof.Rows
def h9 (pd:Array (Nat × Nat × Nat)):List (Nat × Nat):=pd.toList.map fun x=>(x.1,x.2.1)
def Runs:Nat->List (Nat × Nat)->List (List Keyed)->Prop
 | _,[],[]=>True
 | s,(a,n) :: l,r :: rs=>a=s/\r.length=n/\0 < n/\cI r/\Runs (s+n) l rs
 | _,_,_=>False
theorem Runs.cons_inv {s a n:Nat} {l:List (Nat × Nat)} {rs:List (List Keyed)} (h:Runs s ((a,n) :: l) rs):∃ r rs',rs=r :: rs'/\a=s/\r.length=n/\0 < n/\cI r/\Runs (s+n) l rs':=by
 cases rs with
 | nil=>exact h.elim
 | cons r rs=>exact⟨r,rs,rfl,h⟩
theorem Runs.app:∀ {l1 l2:List (Nat × Nat)} {s:Nat} {rs:List (List Keyed)},Runs s (l1++l2) rs->∃ r1 r2,rs=r1++r2/\Runs s l1 r1/\Runs (s+r1.flatten.length) l2 r2
 | [],l2,s,rs,h=>⟨[],rs,rfl,trivial,h⟩
 | (a,n) :: l1,l2,s,rs,h=>by
  obtain⟨r,rs',rfl,e1,e2,e3,e4,h'⟩:=Runs.cons_inv h
  obtain⟨r1,r2,rfl,g1,g2⟩:=Runs.app h'
  refine⟨r :: r1,r2,rfl,⟨e1,e2,e3,e4,g1⟩,?_⟩
  rw [List.flatten_cons,List.length_append,e2,<-Nat.add_assoc]
  exact g2
theorem Runs.join:∀ {l1 l2:List (Nat × Nat)} {s:Nat} {r1 r2:List (List Keyed)},Runs s l1 r1->Runs (s+r1.flatten.length) l2 r2->Runs s (l1++l2) (r1++r2)
 | [],l2,s,[],r2,_,h=>h
 | [],l2,s,_ :: _,r2,h,_=>h.elim
 | (a,n) :: l1,l2,s,r1,r2,h1,h2=>by
  obtain⟨r,rs',rfl,e1,e2,e3,e4,h'⟩:=Runs.cons_inv h1
  refine⟨e1,e2,e3,e4,Runs.join h' ?_⟩
  rw [List.flatten_cons,List.length_append,e2,<-Nat.add_assoc] at h2
  exact h2
theorem Runs.len:∀ {l:List (Nat × Nat)} {s:Nat} {rs:List (List Keyed)},Runs s l rs->l.length=rs.length/\rs.length<=rs.flatten.length
 | [],s,[],_=>⟨rfl,Nat.le_refl _⟩
 | [],s,_ :: _,h=>h.elim
 | (a,n) :: l,s,rs,h=>by
  obtain⟨r,rs',rfl,e1,e2,e3,e4,h'⟩:=Runs.cons_inv h
  obtain⟨g1,g2⟩:=Runs.len h'
  rw [List.flatten_cons,List.length_append,List.length_cons,List.length_cons]
  omega
structure RI (a₀ : Array Keyed) (lo:Nat) (rest:List Keyed) (st:SortSt):Prop where
 perm:(arrOf st).Perm a₀
 kind:kindOf st=oneType'
 failed:failedOf st=none
 runs:∃ rs,(arrOf st).toList=rs.flatten++rest/\rs.flatten.length=lo/\Runs 0 (h9 (pendingOf st)) rs
theorem xD {α : Type}:∀ {l:List α} {i:Nat} {x y:α},l[i]? = some x->l[i+1]? = some y->∃ p1 p2,l=p1++x :: y :: p2/\p1.length=i
 | [],i,x,y,h,_=>by simp at h
 | a :: l,0,x,y,h,g=>by
  cases l with
  | nil=>simp at g
  | cons b l =>
   simp at h g
   exact⟨[],l,by rw [h,g];rfl,rfl⟩
 | a :: l,i+1,x,y,h,g=>by
  obtain⟨p1,p2,e,el⟩:=xD (l:=l) (i:=i) (by simpa using h) (by simpa using g)
  exact⟨a :: p1,p2,by rw [e];rfl,by rw [List.length_cons,el]⟩
theorem ql {α : Type} (x y v:α) (p2:List α):∀ p1:List α,((p1++x :: y :: p2).set p1.length v).eraseIdx (p1.length+1)=p1++v :: p2
 | []=>rfl
 | a :: p1=>by
  show a :: ((p1++x :: y :: p2).set p1.length v).eraseIdx (p1.length+1)=_
  rw [ql x y v p2 p1]
  rfl
theorem Aw {xs:Array Keyed} {lo n:Nat} (h:Up xs lo (lo+n)) (hn:lo+n<=xs.size):cI (fb xs lo n):=by
 refine List.pairwise_iff_getElem.mpr fun i j hi hj hij=>?_
 have hl:(fb xs lo n).length=n:=by rw [List.length_take,List.length_drop,Array.length_toList];omega
 have e:∀ k (hk:k < (fb xs lo n).length),kn (fb xs lo n)[k] = K xs (lo+k):=fun k hk=>by
  have h1:(fb xs lo n)[k]? = xs[lo+k]?:=jP (by omega)
  rw [List.getElem?_eq_getElem hk] at h1
  unfold K
  rw [<-h1]
  rfl
 rw [e i hi,e j hj]
 exact h _ _ (by omega) (by omega) (by omega)
section
variable {prog:Program} {w:World} {A:Around} {E:Value->Shared->Prop} {s:Shared} {st:SortSt} {a₀ : Array Keyed} {lo:Nat} {rest:List Keyed}
theorem RI.merge {i:Nat} {Q:Bool->SortSt->Prop} (h0:IntKeys a₀) (hR:RI a₀ lo rest st) (hi:i+1 < (pendingOf st).size) (h:∀ st',RI a₀ lo rest st'->(pendingOf st').size+1=(pendingOf st).size->Q true st'):wpS (model prog w) A E s (mergeAt' i) Q st:=by
 obtain⟨rs,eL,el,hr⟩:=hR.runs
 obtain⟨⟨sa,na,pw⟩,e1⟩:∃ x,(pendingOf st)[i]? = some x:=⟨_,getElem?_pos (pendingOf st) i (by omega)⟩
 obtain⟨⟨sb,nb,q⟩,e2⟩:∃ x,(pendingOf st)[i+1]? = some x:=⟨_,getElem?_pos (pendingOf st) (i+1) hi⟩
 obtain⟨p1,p2,ep,lp⟩:=xD (l:=(pendingOf st).toList) (i:=i) (by rw [Array.getElem?_toList];exact e1) (by rw [Array.getElem?_toList];exact e2)
 have epr:h9 (pendingOf st)=p1.map (fun x=>(x.1,x.2.1))++(sa,na) :: (sb,nb) :: p2.map (fun x=>(x.1,x.2.1)):=by
  unfold h9
  rw [ep,List.map_append,List.map_cons,List.map_cons]
 rw [epr] at hr
 obtain⟨r1,r2,rfl,g1,g2⟩:=Runs.app hr
 obtain⟨X,r3,rfl,x1,x2,x3,x4,g3⟩:=Runs.cons_inv g2
 obtain⟨Y,r4,rfl,y1,y2,y3,y4,g4⟩:=Runs.cons_inv g3
 rw [Nat.zero_add] at x1 y1 g4
 have eL':(arrOf st).toList=r1.flatten++(X++(Y++(r4.flatten++rest))):=by
  rw [eL,List.flatten_append,List.flatten_cons,List.flatten_cons]
  simp only [List.append_assoc]
 have hints:∀ p ∈ (arrOf st).toList,fO p:=fun p hp=>h0 p ((Array.perm_iff_toList_perm.mp hR.perm).mem_iff.mp hp)
 refine vP hR.kind hR.failed hints e1 (by rw [e2,y1,x1]) eL' x1.symm x2 y2 x3 y3 x4 y4 fun st' C c1 c2 c3 c4 c5 c6=>?_
 have hsz:(pendingOf st').size+1=(pendingOf st).size:=by
  rw [c3,<-Array.length_toList,Array.toList_eraseIdxIfInBounds,Array.toList_setIfInBounds,List.length_eraseIdx,List.length_set,if_pos (by rw [Array.length_toList];exact hi),Array.length_toList]
  omega
 refine h st' ⟨?_,c1,c2,r1++C :: r4,?_,?_,?_⟩ hsz
 ·refine Array.Perm.trans ?_ hR.perm
  refine Array.perm_iff_toList_perm.mpr ?_
  rw [c4,eL']
  refine List.Perm.append_left _ ?_
  rw [<-List.append_assoc X Y]
  exact List.Perm.append_right _ c5
 ·rw [c4,List.flatten_append,List.flatten_cons]
  simp only [List.append_assoc]
 ·rw [<-el]
  simp only [List.flatten_append,List.flatten_cons,List.length_append,c5.length_eq]
  omega
 ·have e3:h9 (pendingOf st')=p1.map (fun x=>(x.1,x.2.1))++(sa,na+nb) :: p2.map (fun x=>(x.1,x.2.1)):=by
   unfold h9
   rw [c3,Array.toList_eraseIdxIfInBounds,Array.toList_setIfInBounds,ep,<-lp,ql,List.map_append,List.map_cons]
  rw [e3]
  refine Runs.join g1 ⟨by rw [x1,Nat.zero_add],by rw [c5.length_eq,List.length_append,x2,y2],by omega,c6,?_⟩
  rw [Nat.zero_add,<-Nat.add_assoc]
  exact g4
theorem sZ {α : Type} {c:Prop} [Decidable c] {x y:StateT SortSt Sem α} {Q:α->SortSt->Prop} (h1:c->wpS (model prog w) A E s x Q st) (h2:¬ c->wpS (model prog w) A E s y Q st):wpS (model prog w) A E s (if c then x else y) Q st:=by
 by_cases h:c
 ·rw [if_pos h];exact h1 h
 ·rw [if_neg h];exact h2 h
theorem RI.push {r:List Keyed} {n:Nat} (h:RI a₀ lo (r++rest) st) (hl:r.length=n) (hn:0 < n) (hs:cI r):RI a₀ (lo+n) rest (setPending st ((pendingOf st).push (lo,n,0))):=by
 obtain⟨rs,eL,el,hr⟩:=h.runs
 refine⟨h.perm,h.kind,h.failed,rs ++ [r],?_,?_,?_⟩
 ·show (arrOf st).toList=_
  rw [eL,List.flatten_append,List.flatten_cons,List.flatten_nil,List.append_nil,List.append_assoc]
 ·rw [List.flatten_append,List.flatten_cons,List.flatten_nil,List.append_nil,List.length_append,el,hl]
 ·show Runs 0 (h9 ((pendingOf st).push (lo,n,0))) _
  unfold h9
  rw [Array.toList_push,List.map_append]
  refine Runs.join hr ⟨by rw [Nat.zero_add];exact el.symm,hl,hn,hs,trivial⟩
theorem RI.mod {i pw:Nat} (h:RI a₀ lo rest st):RI a₀ lo rest (setPending st ((pendingOf st).modify i fun x=>(x.1,x.2.1,pw))):=by
 obtain⟨rs,eL,el,hr⟩:=h.runs
 refine⟨h.perm,h.kind,h.failed,rs,eL,el,?_⟩
 have e:h9 ((pendingOf st).modify i fun x=>(x.1,x.2.1,pw))=h9 (pendingOf st):=by
  unfold h9
  refine List.ext_getElem? fun j=>?_
  rw [List.getElem?_map,List.getElem?_map,Array.getElem?_toList,Array.getElem?_toList,Array.getElem?_modify]
  split
  ·cases (pendingOf st)[j]? <;> rfl
  ·rfl
 show Runs 0 (h9 ((pendingOf st).modify i fun x=>(x.1,x.2.1,pw))) rs
 rw [e]
 exact hr
theorem tS {Q:Unit->SortSt->Prop} (h0:IntKeys a₀) (hp:(arrOf st).Perm a₀) (hk:kindOf st=oneType') (hf:failedOf st=none) (hpd:pendingOf st = #[])
  (h:∀ st',(arrOf st').Perm a₀->failedOf st' = none->SortedTo (arrOf st') a₀.size->Q () st'):wpS (model prog w) A E s sortRuns' Q st:=by
 have hsz:(arrOf st).size=a₀.size:=hp.size_eq
 refine wpS_bind (wpS_get ?_)
 have hR0:RI a₀ 0 (arrOf st).toList st:=⟨hp,hk,hf,[],rfl,rfl,by unfold h9;rw [hpd];exact trivial⟩
 refine wpS_bind (wpS_mono (wpS_forRange (I:=fun x c st'=>∃ lo rest,c=(none,lo)/\RI a₀ lo rest st'/\x<=lo/\lo+rest.length=a₀.size) (Q:=fun c st'=>c=(none,a₀.size)/\RI a₀ a₀.size [] st') ?_ ?_ ⟨0,_,rfl,hR0,Nat.le_refl _,by rw [Array.length_toList,hsz];omega⟩) ?_)
 ·rintro x c st' _ hx ⟨lo,rest,rfl,hR,hxl,hlr⟩
  dsimp only
  by_cases hge:lo >= (arrOf st).size
  ·rw [if_pos hge]
   rw [hsz] at hge
   obtain rfl:lo=a₀.size:=by omega
   obtain rfl:rest = []:=List.length_eq_zero_iff.mp (by omega)
   exact wpS_pure ⟨rfl,hR⟩
  rw [if_neg hge]
  rw [hsz] at hge
  obtain⟨rs,eL,el,hr⟩:=hR.runs
  have hT:TB a₀ lo rs.flatten (pendingOf st') st':=⟨hR.perm,hR.kind,hR.failed,rfl,by rw [eL,<-el,List.take_left]⟩
  have hrem:lo+((arrOf st).size - lo)=a₀.size:=by rw [hsz];omega
  have next:∀ (n:Nat) (st2:SortSt),TB a₀ lo rs.flatten (pendingOf st') st2->1<=n->lo+n<=a₀.size->Up (arrOf st2) lo (lo+n)->∃ r rest',RI a₀ lo (r++rest') st2/\r.length=n/\cI r/\lo+n+rest'.length=a₀.size:=fun n st2 hT2 n1 n2 hU=>by
   have hz2:=hT2.size
   have e1:(arrOf st2).toList=rs.flatten++(fb (arrOf st2) lo n++(arrOf st2).toList.drop (lo+n)):=by
    rw [<-List.drop_drop,List.take_append_drop,<-hT2.pre,List.take_append_drop]
   refine⟨fb (arrOf st2) lo n,(arrOf st2).toList.drop (lo+n),⟨hT2.perm,hT2.kind,hT2.failed,rs,e1,el,by rw [hT2.pend];exact hr⟩,?_,Aw hU (by omega),?_⟩
   ·rw [List.length_take,List.length_drop,Array.length_toList];omega
   ·rw [List.length_drop,Array.length_toList];omega
  refine wpS_bind (zh h0 (Nat.le_of_eq hrem) (by rw [hsz];omega) hT fun m st2 hT2 m1 m2 m3=>?_)
  rw [hsz] at m2
  dsimp only
  refine sZ (fun hlt=>?_) (fun hlt=>?_)
  ·have hlt:m < minRun' (arrOf st).size (arrOf st).size 0:=hlt
   have f1:m<=min ((arrOf st).size - lo) (minRun' (arrOf st).size (arrOf st).size 0):=by omega
   have f2:lo+(min ((arrOf st).size - lo) (minRun' (arrOf st).size (arrOf st).size 0))<=a₀.size:=by omega
   refine wpS_bind (wpS_lift (wpAny_rule ⟨rfl,?_⟩))
   refine wpS_bind (BC (n:=min ((arrOf st).size - lo) (minRun' (arrOf st).size (arrOf st).size 0)) h0 f2 f1 hT2 m3 fun st4 hT4 hU4=>?_)
   rw [if_neg (by decide)]
   obtain⟨r,rest',hRI,hrl,hrs,hlen⟩:=next (min ((arrOf st).size - lo) (minRun' (arrOf st).size (arrOf st).size 0)) st4 hT4 (by omega) f2 hU4
   refine wpS_bind (wpS_get ?_)
   cases hb:(pendingOf st4).back? with
   | none =>
    dsimp only
    exact wpS_bind (wpS_modify (wpS_pure ⟨_,rest',rfl,hRI.push hrl (show 0 < min ((arrOf st).size - lo) (minRun' (arrOf st).size (arrOf st).size 0) by omega) hrs,(show x+1<=lo+(min ((arrOf st).size - lo) (minRun' (arrOf st).size (arrOf st).size 0)) by omega),(show lo+(min ((arrOf st).size - lo) (minRun' (arrOf st).size (arrOf st).size 0))+rest'.length=a₀.size by omega)⟩))
   | some p =>
    obtain⟨s1,n1',pw⟩:=p
    dsimp only
    refine wpS_bind (wpS_mono (wpS_forRange (I:=fun _ c st3=>c=(none,())/\RI a₀ lo (r++rest') st3) (Q:=fun c st3=>c=(none,())/\RI a₀ lo (r++rest') st3) ?_ (fun _ _ z=>z) ⟨rfl,hRI⟩) ?_)
    ·rintro x3 c st3 _ _ ⟨rfl,hR3⟩
     refine wpS_bind (wpS_get ?_)
     by_cases hp1:(pendingOf st3).size > 1
     ·rw [if_pos hp1]
      obtain⟨⟨u1,u2,older⟩,eo⟩:∃ y,(pendingOf st3)[(pendingOf st3).size - 2]? = some y:=⟨_,getElem?_pos (pendingOf st3) ((pendingOf st3).size - 2) (by omega)⟩
      rw [eo]
      dsimp only
      refine sZ (fun _=>wpS_pure ⟨rfl,hR3⟩) fun _=>wpS_bind (hR3.merge h0 (show (pendingOf st3).size - 2+1 < (pendingOf st3).size by omega) fun st4 hR4 _=>?_)
      rw [if_neg (by decide)]
      exact wpS_pure ⟨rfl,hR4⟩
     ·rw [if_neg hp1]
      exact wpS_pure ⟨rfl,hR3⟩
    ·rintro c st3 ⟨rfl,hR3⟩
     dsimp only
     exact wpS_bind (wpS_modify (wpS_bind (wpS_modify (wpS_pure ⟨_,rest',rfl,(RI.mod hR3).push hrl (show 0 < min ((arrOf st).size - lo) (minRun' (arrOf st).size (arrOf st).size 0) by omega) hrs,(show x+1<=lo+(min ((arrOf st).size - lo) (minRun' (arrOf st).size (arrOf st).size 0)) by omega),(show lo+(min ((arrOf st).size - lo) (minRun' (arrOf st).size (arrOf st).size 0))+rest'.length=a₀.size by omega)⟩))))
  ·obtain⟨r,rest',hRI,hrl,hrs,hlen⟩:=next m st2 hT2 m1 (by omega) m3
   refine wpS_bind (wpS_get ?_)
   cases hb:(pendingOf st2).back? with
   | none =>
    dsimp only
    exact wpS_bind (wpS_modify (wpS_pure ⟨_,rest',rfl,hRI.push hrl (show 0 < m by omega) hrs,(show x+1<=lo+m by omega),(show lo+m+rest'.length=a₀.size by omega)⟩))
   | some p =>
    obtain⟨s1,n1',pw⟩:=p
    dsimp only
    refine wpS_bind (wpS_mono (wpS_forRange (I:=fun _ c st3=>c=(none,())/\RI a₀ lo (r++rest') st3) (Q:=fun c st3=>c=(none,())/\RI a₀ lo (r++rest') st3) ?_ (fun _ _ z=>z) ⟨rfl,hRI⟩) ?_)
    ·rintro x3 c st3 _ _ ⟨rfl,hR3⟩
     refine wpS_bind (wpS_get ?_)
     by_cases hp1:(pendingOf st3).size > 1
     ·rw [if_pos hp1]
      obtain⟨⟨u1,u2,older⟩,eo⟩:∃ y,(pendingOf st3)[(pendingOf st3).size - 2]? = some y:=⟨_,getElem?_pos (pendingOf st3) ((pendingOf st3).size - 2) (by omega)⟩
      rw [eo]
      dsimp only
      refine sZ (fun _=>wpS_pure ⟨rfl,hR3⟩) fun _=>wpS_bind (hR3.merge h0 (show (pendingOf st3).size - 2+1 < (pendingOf st3).size by omega) fun st4 hR4 _=>?_)
      rw [if_neg (by decide)]
      exact wpS_pure ⟨rfl,hR4⟩
     ·rw [if_neg hp1]
      exact wpS_pure ⟨rfl,hR3⟩
    ·rintro c st3 ⟨rfl,hR3⟩
     dsimp only
     exact wpS_bind (wpS_modify (wpS_bind (wpS_modify (wpS_pure ⟨_,rest',rfl,(RI.mod hR3).push hrl (show 0 < m by omega) hrs,(show x+1<=lo+m by omega),(show lo+m+rest'.length=a₀.size by omega)⟩))))
 ·rintro c st' ⟨lo,rest,rfl,hR,hxl,hlr⟩
  rw [hsz] at hxl
  obtain rfl:lo=a₀.size:=by omega
  obtain rfl:rest = []:=List.length_eq_zero_iff.mp (by omega)
  exact⟨rfl,hR⟩
 ·rintro c st' ⟨rfl,hR⟩
  dsimp only
  have last:∀ st2,RI a₀ a₀.size [] st2->(pendingOf st2).size<=1->Q () st2:=fun st2 hR2 hp2=>by
   obtain⟨rs,eL,el,hr⟩:=hR2.runs
   refine h st2 hR2.perm hR2.failed ?_
   have hlen:=hr.len
   unfold h9 at hlen
   rw [List.length_map,Array.length_toList] at hlen
   rw [List.append_nil] at eL
   have hs:cI (arrOf st2).toList:=by
    rw [eL]
    match rs,hlen,hr with
    | [],_,_=>exact List.Pairwise.nil
    | [r],_,hr =>
     rw [List.flatten_cons,List.flatten_nil,List.append_nil]
     revert hr
     cases h9 (pendingOf st2) with
     | nil=>exact fun z=>z.elim
     | cons p l=>exact fun z=>z.2.2.2.1
    | _ :: _ :: _,hlen,_=>simp only [List.length_cons] at hlen;omega
   intro i j hij hj
   rw [<-hR2.perm.size_eq] at hj
   obtain⟨x,ex,_⟩:=dD (a:=arrOf st2) (i:=i) (by omega)
   obtain⟨y,ey,_⟩:=dD (a:=arrOf st2) (i:=j) hj
   rw [show K (arrOf st2) i=kn x by unfold K;rw [ex];rfl,show K (arrOf st2) j=kn y by unfold K;rw [ey];rfl]
   exact hs.get hij (by rw [Array.getElem?_toList];exact ex) (by rw [Array.getElem?_toList];exact ey)
  have bO:(pendingOf st').size<=a₀.size:=by
   obtain⟨rs,eL,el,hr⟩:=hR.runs
   have hlen:=hr.len
   unfold h9 at hlen
   rw [List.length_map,Array.length_toList] at hlen
   omega
  refine wpS_bind (wpS_mono (wpS_forRange (I:=fun x c st2=>c=(none,())/\RI a₀ a₀.size [] st2/\(pendingOf st2).size<=max 1 (a₀.size - x)) (Q:=fun c st2=>c=(none,())/\RI a₀ a₀.size [] st2/\(pendingOf st2).size<=1) ?_ ?_ ⟨rfl,hR,by omega⟩) ?_)
  ·rintro x c st2 _ _ ⟨rfl,hR2,hp2⟩
   refine wpS_bind (wpS_get ?_)
   by_cases h1:(pendingOf st2).size<=1
   ·rw [if_pos h1]
    exact wpS_pure ⟨rfl,hR2,h1⟩
   ·rw [if_neg h1]
    have hle:∀ (c:Prop) [Decidable c] (n:Nat),(if c then n - 1 else n)<=n:=fun c _ n=>by split <;> omega
    refine wpS_bind (hR2.merge h0 (Nat.lt_of_le_of_lt (Nat.succ_le_succ (hle _ _)) (show (pendingOf st2).size - 2+1 < (pendingOf st2).size by omega)) fun st3 hR3 hp3=>?_)
    rw [if_neg (by decide)]
    exact wpS_pure ⟨rfl,hR3,by omega⟩
  ·rintro c st2 ⟨hc,hR2,hp2⟩
   refine⟨hc,hR2,?_⟩
   rw [hsz] at hp2
   omega
  ·rintro c st2 ⟨rfl,hR2,hp2⟩
   exact wpS_pure (last st2 hR2 hp2)
end
end iw
namespace iw
open PySem PyProof.Rows
section
variable {prog:Program} {w:World} {A:Around} {E:Value->Shared->Prop} {s:Shared}
theorem xE {a:Addr} {vs:List Value} {ns:List Int} {n:Nat} {P:Fin->Shared->Prop} (ho:s.heap.get? a=some (seqObj "list" vs.toArray n)) (hI:IntsAre vs ns) (hn:vs.length<=10000)
  (h:∀ (out:Array Value) (ns':List Int),IntsAre out.toList ns'->ns'.Perm ns->ns'.Pairwise (· <= ·)->P (.done (.ret .none)) { s with heap:=sortedHeap s.heap a vs out }) :
  wpAny (model prog w) A (Builtin.«list.sort» ⟨[.ref a],[]⟩) P E s:=by
 by_cases h64:vs.length < 64
 ·exact list_sort_tree ho hI h64 h
 match vs,h64 with
 | [],h64=>exact absurd (show 0 < 64 by decide) h64
 | [_],h64=>exact absurd (show 1 < 64 by decide) h64
 | v₁ :: v₂ :: rest,h64 =>
  have la:a < s.heap.objs.size:=Heap.lt_size ho
  have big:¬ (v₁ :: v₂ :: rest).toArray.size < 2:=by simp
  rw [list_sort_plain]
  obtain⟨e1,ho1⟩:∃ e,(s.heap.update a (Obj.mapSeq fun _=>#[])).get? a=some (seqObj "list" #[] e):=⟨_,get?_update_seq ho (fun _=>#[])⟩
  refine wpAny_bind (listItems_at ho rfl (wpAny_bind (listUpdate_at ho rfl (wpAny_bind (seqEpoch_at ho1 rfl (wpAny_bind (wpAny_newTuple (wpAny_bind (wpAny_newList (wpAny_holding ?_))))))) (by show (v₁ :: v₂ :: rest).length<=sizeLine;rw [sizeLine_eq];omega))))
  have ho6:(((s.heap.update a (Obj.mapSeq fun _=>#[])).push (seqObj "tuple" (v₁ :: v₂ :: rest).toArray 0)).push (seqObj "list" #[] 0)).get? a=some (seqObj "list" #[] e1) :=
   (Heap.get?_push_ne _ _ _ (by rw [size_push',Heap.size_update];exact Nat.ne_of_lt (Nat.lt_succ_of_lt la))).trans ((Heap.get?_push_ne _ _ _ (by rw [Heap.size_update];exact Nat.ne_of_lt la)).trans ho1)
  show wpAny (model prog w) A _ P E { s with heap:=((s.heap.update a (Obj.mapSeq fun _=>#[])).push (seqObj "tuple" (v₁ :: v₂ :: rest).toArray 0)).push (seqObj "list" #[] 0) }
  dsimp only
  rw [if_neg big,if_neg big,keyKind_ints hI]
  refine wpAny_bind (wpAny_pure (wpAny_bind (wpAny_mono (tS (a₀:=pairsOf (v₁ :: v₂ :: rest)) (st:=SortSt.mk' oneType' ((v₁ :: v₂ :: rest).toArray.zip (v₁ :: v₂ :: rest).toArray) #[] 7 none)
   (Q:=fun _ st'=>(arrOf st').Perm (pairsOf (v₁ :: v₂ :: rest))/\failedOf st' = none/\SortedTo (arrOf st') (pairsOf (v₁ :: v₂ :: rest)).size) hI.intKeys (Array.Perm.refl _) rfl rfl rfl fun st' b1 b2 b3=>⟨b1,b2,b3⟩) ?_ fun _ _ e=>e)))
  rintro⟨⟨⟩,st'⟩ s' ⟨rfl,hp,hf,hs⟩
  obtain⟨ns',c1,c2,c3⟩:=sorted_out hI hp hs
  refine wpAny_bind (seqEpoch_at ho6 rfl (wpAny_bind (listUpdate_at ho6 rfl ?_ (Nat.zero_le _) ?_)))
  ·rw [hf]
   simp only [bne_self_eq_false,Bool.false_eq_true,if_false]
   exact wpAny_pure (h _ ns' c1 c2 c3)
  ·refine Nat.le_trans (Nat.le_of_eq ((Array.size_map ..).trans (hp.size_eq.trans (pairsOf_size _)))) ?_
   rw [sizeLine_eq]
   omega
end
end iw
namespace L2
open PySem PySem.Spec PyProof.Rows LS
section
variable {prog:Program} {w:World} {A:Around} {E:Value->Shared->Prop} {s:Shared}
theorem tf {l:Addr} {vs:List Value} {ns:List Int} {Q:Value->Shared->Prop} (hl:s.heap.IsList l vs.toArray) (hI:IntsAre vs ns) (hn:vs.length<=10000)
  (h:∀ (out:Array Value) (ns':List Int),IntsAre out.toList ns'->ns'.Perm ns->ns'.Pairwise (· <= ·)->Q (.ref (s.heap.objs.size+1)) { s with heap:=sortedAll s.heap vs out }) :
  wpAny (model prog w) A (call (.builtin "sorted") [.ref l]) Q E s:=by
 refine Calls.call_function_entry kind_sorted plain_sorted entry_sorted (args_sorted1 _) ?_
 unfold Builtin.«sorted»
 refine wpAny_bind (m:=checkCount "sorted" 1 1 _) (wpAny_pure (wpAny_bind (collect_list hl (wpAny_bind (wpAny_newList ?_ (Nat.le_trans hn (by decide)))) (Nat.le_trans hn (by decide)))))
 have hz:((s.heap.push (seqObj "list" #[] 0)).update s.heap.objs.size (Obj.mapSeq (· ++ vs.toArray))).objs.size=s.heap.objs.size+1:=by rw [Heap.size_update,size_push']
 have hoL:(((s.heap.push (seqObj "list" #[] 0)).update s.heap.objs.size (Obj.mapSeq (· ++ vs.toArray))).push (seqObj "list" vs.toArray 0)).get? (s.heap.objs.size+1)=some (seqObj "list" vs.toArray 0):=hz ▸ Heap.get?_push_size _ rfl
 show wpAny _ _ _ _ _ { s with heap:=((s.heap.push (seqObj "list" #[] 0)).update s.heap.objs.size (Obj.mapSeq (· ++ vs.toArray))).push (seqObj "list" vs.toArray 0) }
 rw [hz]
 exact wpAny_bind (wpAny_holding (wpAny_call_entry slot_list_sort ⟨_,hoL,rfl⟩ entry_list_sort (iw.xE hoL hI hn fun out ns' c1 c2 c3=>⟨_,rfl,wpAny_pure ⟨_,rfl,h out ns' c1 c2 c3⟩⟩) (args_list_sort _)))
theorem qA {l:Addr} {vs:List Value} {ns:List Int} {Q:Value->Shared->Prop} (hl:s.heap.IsList l vs.toArray) (hI:IntsAre vs ns) (h64:vs.length<=10000)
  (q:∀ (h':Heap) (D:Addr) (out:Array Value) (ns':List Int) (e:Nat),(∀ b o,s.heap.get? b=some o->h'.get? b=some o)->s.heap.objs.size<=D->h'.get? D=some { cls:=.type "list",data:=.seq out e } ->
   IntsAre out.toList ns'->ns'.Perm ns->ns'.Pairwise (· <= ·)->Q (.ref D) { s with heap:=h' }):wpAny (model prog w) A (call (.builtin "sorted") [.ref l]) Q E s:=by
 refine tf hl hI h64 fun out ns' a1 a2 a3=>?_
 unfold sortedAll
 generalize hg:((s.heap.push (seqObj "list" #[] 0)).update s.heap.objs.size (Obj.mapSeq (· ++ vs.toArray)))=g
 have hz:g.objs.size=s.heap.objs.size+1:=by rw [<-hg,Heap.size_update,size_push']
 have kp:∀ b o,s.heap.get? b=some o->g.get? b=some o:=fun b o e=>by
  rw [<-hg]
  exact (Heap.get?_update_other _ _ (Nat.ne_of_gt (Heap.lt_size e))).trans (Heap.get?_push_of_some _ e)
 have hoL:(g.push (seqObj "list" vs.toArray 0)).get? (s.heap.objs.size+1)=some (seqObj "list" vs.toArray 0):=by rw [<-hz];exact Heap.get?_push_size _ rfl
 obtain⟨e,he⟩:=sortedHeap_at (out:=out) hoL
 refine q _ _ out ns' e (fun b o ho=>?_) (Nat.le_succ _) he a1 a2 a3
 have h1:=kp b o ho
 have hlt:=Heap.lt_size ho
 rw [sortedHeap_old (Nat.ne_of_lt (Nat.lt_succ_of_lt hlt)) (by rw [size_push',hz];exact Nat.lt_succ_of_lt (Nat.lt_succ_of_lt hlt))]
 exact Heap.get?_push_of_some _ h1
end
section
variable {prog:Program} {w:World} {A:Around} {E:Value->Shared->Prop} {s:Shared} {a:Addr} {o:Obj} {es:_} {ep:_} {t:_}
end
section
variable {prog:Program} {w:World} {A:Around} {E:Value->Shared->Prop} {s:Shared}
end
section
variable {X:Cx}
theorem o6:eR X (.builtin "sorted") (fun vs H Q=>∃ (p:Addr) (ns:List Int),vs = [.ref p]/\aP X.K H p (ns.map V.int)/\ns.length<=10000 /\
  ∀ (l:Addr) (ns':List Int),ns'.Perm ns->ns'.Pairwise (· <= ·)->H l=none->Q (.ref l) (upd H l (.lst (ns'.map V.int)))):=by
 intro pins s σ H xs us Q I r h
 obtain⟨p,ns,rfl,hp,h64,q⟩:=h
 obtain⟨u,rfl,ru⟩:=vals1 r
 cases (show u=Value.ref p from ru)
 obtain⟨its,hv,pl,_⟩:=I.list hp
 have hi:=intsAre_of hv
 refine qA pl.isList hi (by have:=hv.length;rw [List.length_map] at this;omega) fun h' D out ns' e hkeep hD he hS hp' hs=>?_
 have hv':Vals (ns'.map V.int) out.toList:=kZ hS
 refine⟨.ref D,_,I.laid (t':=s.toks) (o:=.lst (ns'.map V.int)) hkeep hD (show bP X.prog X.w _ h' _ (.lst (ns'.map V.int)) from ⟨?_,out.toList,e,hv',by simpa using he⟩),rfl,q D ns' hp' hs (I.aN.fresh hD)⟩
 rw [List.length_map,hp'.length_eq]
 exact Nat.le_trans (h64) (by decide)
end
section
variable {X:Cx}
end
section
variable {P:Program} {w:World} {K:PySem.W.Frag} {mg:Str->Option Value} {base h:Heap} {x q m:Str} {st:Stmt} {f C:Addr} {fd:FuncData} {k:Nat} {ps:List Str} {sp:Sp}
structure br (K:PySem.W.Frag) (x:Str) (st:Stmt) (f:Addr) (fd:FuncData):Prop where
 a:PySem.W.nsIn K mainGlobals x=some (some (.ref f))
 F:b4 K x x st f fd
section
variable {oc:Value} {od an:Option Addr} {osl:Array (Option Value)} {kV doc pm cdv ct:Value}
theorem def_mk (a:PySem.W.nsIn K mainGlobals x=some (some (.ref f))) (l:K.lookup f=some ⟨oc,od,.func (PySem.W.fnOf x x (dW st) (dJ st) (ay st) .none kV doc pm an cdv ct),osl⟩)
  (c:PySem.W.codeIn K cdv x=true) (k:PySem.W.keepIn K (.ref f)=true):br K x st f (PySem.W.fnOf x x (dW st) (dJ st) (ay st) .none kV doc pm an cdv ct):=⟨a,A1 l c k⟩
end
def ow (x q:Str) (st:Stmt) (ps:List Str):Prop:=∀ (kV doc pm:Value) (an:Option Addr) (cdv ct:Value) (us:List Value),us.length=ps.length->bindArgs (PySem.W.fnOf x q (dW st) (dJ st) (ay st) .none kV doc pm an cdv ct) ⟨us,[]⟩=pure (ps.zip us)
theorem aW (P:Program) (w:World) (base:Heap) (X:K.In h) (G:h.Ns mainGlobals mg) (d:br K x st f fd) (o:bw P w K mg base bX k f fd ps sp) (b:ow x x st ps):Own P w K mg base x k ps sp:=⟨⟨_,_,o,PySem.W.mg_of X G d.a,d.F.kp,d.F.binds b⟩⟩
section
variable {p1 p2 p3 p4 p5 p6:Str}
theorem lH (h:∀ (kV doc pm:Value) (an:Option Addr) (cdv ct u1:Value),bindArgs (PySem.W.fnOf x q (dW st) (dJ st) (ay st) .none kV doc pm an cdv ct) ⟨[u1],[]⟩=pure [(p1,u1)]):ow x q st [p1]:=fun _ _ _ _ _ _ us hl=>match us,hl with | [_],_=>h ..
theorem dN (h:∀ (kV doc pm:Value) (an:Option Addr) (cdv ct u1 u2:Value),bindArgs (PySem.W.fnOf x q (dW st) (dJ st) (ay st) .none kV doc pm an cdv ct) ⟨[u1,u2],[]⟩=pure [(p1,u1),(p2,u2)]):ow x q st [p1,p2]:=fun _ _ _ _ _ _ us hl=>match us,hl with | [_,_],_=>h ..
theorem uZ (h:∀ (kV doc pm:Value) (an:Option Addr) (cdv ct u1 u2 u3:Value),bindArgs (PySem.W.fnOf x q (dW st) (dJ st) (ay st) .none kV doc pm an cdv ct) ⟨[u1,u2,u3],[]⟩=pure [(p1,u1),(p2,u2),(p3,u3)]):ow x q st [p1,p2,p3]:=fun _ _ _ _ _ _ us hl=>match us,hl with | [_,_,_],_=>h ..
theorem CB (h:∀ (kV doc pm:Value) (an:Option Addr) (cdv ct u1 u2 u3 u4:Value),bindArgs (PySem.W.fnOf x q (dW st) (dJ st) (ay st) .none kV doc pm an cdv ct) ⟨[u1,u2,u3,u4],[]⟩=pure [(p1,u1),(p2,u2),(p3,u3),(p4,u4)]):ow x q st [p1,p2,p3,p4]:=fun _ _ _ _ _ _ us hl=>match us,hl with | [_,_,_,_],_=>h ..
end
end
theorem cw {N ps:List Str} {sc:Scope} (h1:sc.kind=.function:=by rfl) (h2:sc.isCoroutine=false:=by rfl) (h3:sc.isGenerator=false:=by rfl) (h4:N.Nodup:=by decide +kernel) (h5:N.take ps.length=ps:=by rfl) (h6:∀ x ∈ ps,sc.names.lookup x=some .local\/sc.names.lookup x=some .cell:=by decide +kernel) (h7:∀ y ∈ sc.names,y.2 ≠ .free:=by decide +kernel):aO N ps sc:=⟨h1,h2,h3,h4,h5,h6,h7⟩
theorem au {X:Cx} {x:Str} {k m:Nat} {ps:List Str} {sp:Sp} {e:Expr} {es:List Expr} {t:TA} {p pos:Pos} (o:Own X.prog X.w X.K X.mg X.base x k ps sp) (hr:eF m X.A) (ha:PA X (e :: es) t) (hk:k<=m:=by decide) (hg:Gl X x:=by rfl)
  (hdb:(x == ("__debug__" : Str))=false:=by decide) (he:starEach (e :: es) X.env=(false,eval e X.env) :: starEach es X.env:=by rfl) (hpl:(backTo pos (starEach es X.env)).any (·.1)=false:=by rfl):PE X (.Call (.Name x p) (e :: es) [] pos) (qL sp [] E0 t):=wG o (hr.mono hk) hg ha hdb he hpl
theorem aM {X:Cx} {i:Nat} {x:Str} {e:Expr} {te:TE} {pos pos':Pos} (hN:X.N.Nodup) (he:PE X e te) (hi:X.N[i]? = some x:=by rfl) (hx:Loc X.env.scope x:=by first | exact Or.inl rfl | exact Or.inr rfl) (hs:swapsWith e (some (.Name x pos')) pos.line X.env=pure false:=by rfl) (hf:X.fn x=true\/X.env.scope.names.lookup x=some .local:=by first | exact .inl rfl | exact .inr rfl | assumption) :
  PS X (.Assign [.Name x pos'] e pos) (oE te (lT i)):=AI hN hi hx he hs hf
theorem aF {X:Cx} {i:Nat} {x:Str} {pos:Pos} (hN:X.N.Nodup) (hi:X.N[i]? = some x:=by rfl) (hx:Loc X.env.scope x:=by first | exact Or.inl rfl | exact Or.inr rfl) (hf:X.fn x=true\/X.env.scope.names.lookup x=some .local:=by first | exact .inl rfl | exact .inr rfl | assumption):PG X (.Name x pos) (lT i):=zQ hN hi hx hf
theorem aw {X:Cx} {a b:Expr} {ta tb:TE} {pos:Pos} {r:R2} (hr:rl X r) (ha:PE X a ta) (hb:PE X b tb) (hs:oJ b:=by exact fun _ _=>rfl):PE X (.Subscript a b pos) (uj r ta tb):=zC hr ha hb hs
theorem aJ {X:Cx} {e1:Expr} {t1:TE} (h1:PE X e1 t1) (s1:starEach [e1] X.env=(false,eval e1 X.env) :: starEach [] X.env:=by rfl):PA X [e1] (bZ t1 eS):=(bG h1 cz s1)
theorem av {X:Cx} {e1 e2:Expr} {t1 t2:TE} (h1:PE X e1 t1) (h2:PE X e2 t2) (s1:starEach [e1,e2] X.env=(false,eval e1 X.env) :: starEach [e2] X.env:=by rfl) (s2:starEach [e2] X.env=(false,eval e2 X.env) :: starEach [] X.env:=by rfl):PA X [e1,e2] (bZ t1 (bZ t2 eS)):=(bG h1 (bG h2 cz s2) s1)
theorem ft {X:Cx} {e1 e2 e3:Expr} {t1 t2 t3:TE} (h1:PE X e1 t1) (h2:PE X e2 t2) (h3:PE X e3 t3) (s1:starEach [e1,e2,e3] X.env=(false,eval e1 X.env) :: starEach [e2,e3] X.env:=by rfl) (s2:starEach [e2,e3] X.env=(false,eval e2 X.env) :: starEach [e3] X.env:=by rfl) (s3:starEach [e3] X.env=(false,eval e3 X.env) :: starEach [] X.env:=by rfl):PA X [e1,e2,e3] (bZ t1 (bZ t2 (bZ t3 eS))):=(bG h1 (bG h2 (bG h3 cz s3) s2) s1)
theorem BD {X:Cx} {e1 e2 e3 e4:Expr} {t1 t2 t3 t4:TE} (h1:PE X e1 t1) (h2:PE X e2 t2) (h3:PE X e3 t3) (h4:PE X e4 t4) (s1:starEach [e1,e2,e3,e4] X.env=(false,eval e1 X.env) :: starEach [e2,e3,e4] X.env:=by rfl) (s2:starEach [e2,e3,e4] X.env=(false,eval e2 X.env) :: starEach [e3,e4] X.env:=by rfl) (s3:starEach [e3,e4] X.env=(false,eval e3 X.env) :: starEach [e4] X.env:=by rfl) (s4:starEach [e4] X.env=(false,eval e4 X.env) :: starEach [] X.env:=by rfl):PA X [e1,e2,e3,e4] (bZ t1 (bZ t2 (bZ t3 (bZ t4 eS)))):=(bG h1 (bG h2 (bG h3 (bG h4 cz s4) s3) s2) s1)
theorem zj {ms:List Nat} (h:(ms.map fun k:Nat=>(k:Int)).Pairwise (· <= ·)) (nd:ms.Nodup):ms.Pairwise (· < ·):=by
 have h1:=List.pairwise_map.mp h
 refine (h1.and nd).imp fun {a b} z=>?_
 have z1:=z.1
 have z2:=z.2
 omega
inductive qm (vs:List V) (H:Hp) (Q:VK) (_:XK):Prop
 | mk (plv:V) (ps:List Piece) (_:vs = [plv]) (_:bE H plv (fW ps)) (_:nP ps) (_:0 < ps.length) (_:ps.length<=400) (_:∀ (t:Addr) (ks:List Nat) (H':Hp),H' t=some (.lst (vN ks))->(∀ k,k ∈ ks ↔ ip ps k)->(∀ k ∈ ks,k < ps.length)->ks.Pairwise (· < ·)->ae H H'->Q (.ref t) H')
theorem zk {K:PySem.W.Frag} {a b:Addr} {xs ys:List V} {g:TG} {tb:TS} {D:Ends} {σ : St} {H:Hp} (h1:xs.length<=ys.length) (Pv:Nat->St->Hp->Prop) (h0:Pv 0 σ H) (hl:∀ i σ H,i<=xs.length->Pv i σ H->ar K H a xs/\ar K H b ys)
  (hs:∀ i x y σ H t,xs[i]? = some x->ys[i]? = some y->H t=none->Pv i σ H->g (.ref t) σ (upd H t (.tup [x,y])) fun σ2 H2=>tb { D with nx:=Pv (i+1),ct:=Pv (i+1),bk:=D.nx } σ2 H2) (hd:∀ σ H,Pv xs.length σ H->D.nx σ H) :
  ∃ W:Nat->Nat->St->Hp->Prop,(∃ m,W 0 m σ H)/\∀ i m σ H,W i m σ H ->
   ((rT K a b).stop i H/\D.nx σ H)\/((rT K a b).go i H/\∃ N:St->Hp->Prop,(∀ σ' H',N σ' H'->∃ m',m' < m/\W (i+1) m' σ' H')/\∀ x H',(rT K a b).pF i H x H'->g x σ H' fun σ2 H2=>tb { D with nx:=N,ct:=N,bk:=D.nx } σ2 H2):=by
 refine⟨fun i m σ H=>m=xs.length - i/\i<=xs.length/\Pv i σ H,⟨xs.length,by simp,Nat.zero_le _,h0⟩,?_⟩
 rintro i m σ H ⟨rfl,hi,p⟩
 obtain⟨qa,qb⟩:=hl i σ H hi p
 by_cases hlt:i < xs.length
 ·refine .inr ⟨⟨xs,ys,xs[i],ys[i]'(by omega),qa,qb,by simp [hlt],by simp [show i < ys.length by omega]⟩,Pv (i+1),fun σ' H' p'=>⟨xs.length - (i+1),by omega,rfl,hlt,p'⟩,fun v H' y=>?_⟩
  obtain⟨t,x,y,rfl,ht,rfl,h⟩:=y
  obtain⟨e1,e2⟩:=h xs ys qa qb
  exact hs i x y σ H t e1 e2 ht p
 ·have e:i=xs.length:=by omega
  subst e
  exact .inl ⟨⟨xs,ys,qa,qb,.inl (Nat.le_refl _)⟩,hd σ H p⟩
inductive j8 (vs:List V) (H:Hp) (Q:VK) (_:XK):Prop
 | mk (fv:V) (T:Str->Sx) (m:Nat) (_:vs = [fv]) (_:FV H fv T) (_:gf T m) (_:m<=62) (_:∀ d' H',H d' = none->LT H' d' T m->ae H H'->Q (.ref d') H')
inductive ox (vs:List V) (H:Hp) (Q:VK) (_:XK):Prop
 | mk (b:Addr) (fv:V) (T:Str->Sx) (xs:List Str) (_:vs = [.ref b,fv]) (_:bY H b) (_:FV H fv T) (_:cC xs T) (_:("zz" : Str) ∈ xs) (_:xs.length<=61) (_:∀ v T' H',FV H' v T'->cC xs T'->bY H' b->Fix b H H'->Q v H')
inductive oy (vs:List V) (H:Hp) (Q:VK) (_:XK):Prop
 | mk (b ta:Addr) (us:List V) (tab:dh) (xs:List Str) (_:vs = [.ref b,.ref ta]) (_:bY H b) (_:H ta=some (.tup us)) (_:bU H us tab) (_:TabOk xs tab) (_:("zz" : Str) ∈ xs) (_:xs.length<=61) (_:0 < tab.length) (_:tab.length<=400) (_:∀ (t:Addr) (us':List V) (tab':dh) H',H' t=some (.tup us')->bU H' us' tab'->TabOk xs tab'->0 < tab'.length->tab'.length<=400->bY H' b->Fix b H H'->Q (.ref t) H')
inductive qo (vs:List V) (H:Hp) (Q:VK) (_:XK):Prop
 | mk (plv:V) (ta:Addr) (us:List V) (tab:dh) (ps:List Piece) (xs:List Str) (m:Nat) (_:vs = [plv,.ref ta]) (_:bE H plv (fW ps)) (_:cR xs m ps) (_:0 < ps.length) (_:ps.length<=1000) (_:H ta=some (.tup us)) (_:bU H us tab) (_:TabOk xs tab) (_:xs.length<=62) (_:0 < tab.length) (_:tab.length<=1000) (_:∀ H',ae H H'->Q (.bl true) H')
theorem BE {T:Str->Sx} {ss:List Str} (hm:∀ x,x ∈ ss ↔ T x ≠ bN) (h:∀ j < ss.length,∀ y,ss[j]? = some y->cE 0 (T y).1 (T y).2=true):Sound T fun _=>0:=fun x=>by
 by_cases hx:x ∈ ss
 ·obtain⟨j,hj,e⟩:=List.getElem_of_mem hx
  exact h j hj x (by rw [List.getElem?_eq_getElem hj,e])
 ·have:T x=bN:=by
   by_cases z:T x=bN
   ·exact z
   ·exact absurd ((hm x).mpr z) hx
  rw [this]
  rfl
theorem Ax {T:Str->Sx} {e:End} {ld:Nat × (Str->Sx)} (h:ld ∈ de T e):ld.1 ∈ bQ e:=by
 unfold de at h
 obtain⟨p,hp,hq⟩:=List.mem_filterMap.mp h
 obtain⟨U,_,e'⟩:=Option.map_eq_some_iff.mp hq
 rw [<-e']
 exact (List.of_mem_zip hp).1
open Classical in
noncomputable def j9 (ps:List Piece):dh:=(List.range ps.length).map fun k=>if ip ps k then some T0 else none
open Classical in
theorem jQ {ps:List Piece} {k:Nat} (h:k < ps.length):(j9 ps)[k]? = some (if ip ps k then some T0 else none):=by
 unfold j9
 rw [List.getElem?_map,List.getElem?_range h]
 rfl
theorem nj (ps:List Piece):(j9 ps).length=ps.length:=by unfold j9;rw [List.length_map,List.length_range]
open Classical in
theorem vR {xs:List Str} {m:Nat} {ps:List Piece} (ok:cR xs m ps) (h0:0 < ps.length):ie ps (j9 ps):=by
 refine⟨nj ps,⟨T0,?_,fun _=>rfl⟩,fun k p o hp ho T hT ld hld=>?_⟩
 ·rw [jQ h0,if_pos ip.zero]
 ·have hk:k < ps.length:=(List.getElem?_eq_some_iff.mp hp).1
  rw [jQ hk] at ho
  cases ho
  by_cases hr:ip ps k
  ·rw [if_pos hr] at hT
   cases hT
   obtain⟨ds,e⟩:=p
   have hw:=Ax hld
   have hl:=uT ok.wR hp ld.1 hw
   refine⟨T0,?_,fun x=>?_⟩
   ·rw [jQ hl,if_pos (ip.step hr hp hw)]
   ·show cJ _ bN=true
    exact rfl
  ·rw [if_neg hr] at hT
   cases hT
end L2
namespace My
open PySem PySem.Spec PyProof.Rows L2
def top (i:Nat):Stmt:=PySem.Challenge.pw_ledpast_k32_tables_looked_at.main.body.getD i (.Pass ⟨0,0,0,0⟩)
structure Bl (mg:Str->Option Value):Prop where
 len:mg "len" = none
 zip:mg "zip" = none
 tuple:mg "tuple" = none
 sorted:mg "sorted" = none
 set:mg "set" = none
 dict:mg "dict" = none
 min:mg "min" = none
 max:mg "max" = none
 range:mg "range" = none
 list:mg "list" = none
 int:mg "int" = none
 all:mg "all" = none
 isinstance:mg "isinstance" = none
 bool:mg "bool" = none
abbrev gn:Stmt:=top 3
theorem nq:aO ["thing", "kinds", "wanted"] ["thing", "kinds", "wanted"] (ay gn):=cw
abbrev lI:Stmt:=top 5
theorem vS:aO ["end"] ["end"] (ay lI):=cw
abbrev ka:Stmt:=top 4
theorem fJ:aO ["plan", "names", "deeds", "end", "deed"] ["plan"] (ay ka):=cw
abbrev lJ:Stmt:=top 7
theorem kb:aO ["number", "stretch", "low", "high"] ["number", "stretch"] (ay lJ):=cw
abbrev i2:Stmt:=top 9
theorem fL:aO ["stretch", "number", "low", "high", "top"] ["stretch", "number"] (ay i2):=cw
abbrev jr:Stmt:=top 10
theorem gr:aO ["stretch", "number", "low", "high", "bottom"] ["stretch", "number"] (ay jr):=cw
abbrev lK:Stmt:=top 11
theorem vT:aO ["stretch", "number"] ["stretch", "number"] (ay lK):=cw
abbrev iq:Stmt:=top 12
theorem gN:aO ["stretch", "number", "low", "high"] ["stretch", "number"] (ay iq):=cw
abbrev lL:Stmt:=top 13
theorem vU:aO ["stretch", "word", "number", "side"] ["stretch", "word", "number", "side"] (ay lL):=cw
abbrev jt:Stmt:=top 8
theorem fu:aO ["one", "other", "low", "high", "low_fits", "high_fits"] ["one", "other"] (ay jt):=cw
abbrev kc:Stmt:=top 16
theorem tT:aO ["stretches"] ["stretches"] (ay kc):=cw
abbrev o7:Stmt:=top 17
theorem zl:aO ["facts", "name"] ["facts", "name"] (ay o7):=cw
abbrev i3:Stmt:=top 18
theorem kH:aO ["facts", "name", "stretch", "stretches"] ["facts", "name", "stretch"] (ay i3):=cw
abbrev o8:Stmt:=top 19
theorem zm:aO ["facts", "worths"] ["facts", "worths"] (ay o8):=cw
abbrev nr:Stmt:=top 20
theorem qp:aO ["facts", "others", "stretches"] ["facts", "others"] (ay nr):=cw
abbrev o9:Stmt:=top 21
theorem nu:aO ["stretch", "number", "low", "high"] ["stretch", "number"] (ay o9):=cw
abbrev fP:Stmt:=top 22
theorem ix:aO ["stretches", "deed", "word", "name"] ["stretches", "deed"] (ay fP):=cw
abbrev nv:Stmt:=top 23
theorem lM:aO ["facts", "deeds", "stretches", "deed"] ["facts", "deeds"] (ay nv):=cw
abbrev gO:Stmt:=top 24
theorem cV:aO ["facts", "end", "ways", "word", "name", "number", "stretch", "parts"] ["facts", "end"] (ay gO):=cw
abbrev ph:Stmt:=top 25
theorem tj:aO ["facts", "end", "beyond"] ["facts", "end"] (ay ph):=cw
abbrev pA:Stmt:=top 26
theorem zo:aO ["plan"] ["plan"] (ay pA):=cw
abbrev ny:Stmt:=top 28
theorem qq:aO ["lead", "table", "entry"] ["lead", "table"] (ay ny):=cw
abbrev i4:Stmt:=top 29
theorem ir:aO ["entry", "piece", "deeds", "end"] ["entry", "piece"] (ay i4):=cw
abbrev gP:Stmt:=top 30
theorem oz:aO ["entry", "piece", "table"] ["entry", "piece", "table"] (ay gP):=cw
abbrev nz:Stmt:=top 31
theorem xF:aO ["plan", "table"] ["plan", "table"] (ay nz):=cw
abbrev nB:Stmt:=top 32
theorem lN:aO ["stretch", "other", "low", "high"] ["stretch", "other"] (ay nB):=cw
abbrev lO:Stmt:=top 33
theorem oA:aO ["entry", "facts", "stretches"] ["entry", "facts"] (ay lO):=cw
abbrev kd:Stmt:=top 34
theorem fe:aO ["plan", "table", "waits", "at", "lead", "way"] ["plan"] (ay kd):=cw
abbrev lQ:Stmt:=top 36
theorem ke:aO ["script", "k", "cell"] ["script", "k"] (ay lQ):=cw
abbrev kf:Stmt:=top 37
theorem mR:aO ["bag", "many", "found"] ["bag", "many"] (ay kf):=cw
abbrev ju:Stmt:=top 38
theorem dn:aO ["bag", "letters", "many", "base", "at", "names", "k", "name"] ["bag"] (ay ju):=cw
abbrev i5:Stmt:=top 39
theorem qB:aO ["bag"] ["bag"] (ay i5):=cw
abbrev kh:Stmt:=top 40
theorem jv:aO ["bag", "names", "word", "name"] ["bag", "names"] (ay kh):=cw
abbrev lR:Stmt:=top 41
theorem iF:aO ["bag", "names", "count", "way", "word", "name"] ["bag", "names", "count"] (ay lR):=cw
abbrev ki:Stmt:=top 42
theorem ff:aO ["bag", "count", "most", "names", "pieces", "k", "many", "end"] ["bag", "count", "most"] (ay ki):=cw
abbrev jw:Stmt:=top 43
theorem tm:aO ["bag", "most"] ["bag", "most"] (ay jw):=cw
abbrev kj:Stmt:=top 44
theorem tU:aO ["end"] ["end"] (ay kj):=cw
abbrev iu:Stmt:=top 45
theorem eM:aO ["plan", "found", "at", "there"] ["plan"] (ay iu):=cw
abbrev km:Stmt:=top 46
theorem eh:aO ["stretch", "word", "number", "side", "low", "high"] ["stretch", "word", "number", "side"] (ay km):=cw
abbrev ko:Stmt:=top 47
theorem jx:aO ["facts", "name", "stretch", "more", "other"] ["facts", "name", "stretch"] (ay ko):=cw
abbrev kq:Stmt:=top 50
theorem tV:aO ["facts"] ["facts"] (ay kq):=cw
abbrev i6:Stmt:=top 48
theorem b7:aO ["facts", "deeds", "deed", "stretch", "low", "high"] ["facts", "deeds"] (ay i6):=cw
abbrev jy:Stmt:=top 49
theorem gu:aO ["facts", "end", "found", "side", "part"] ["facts", "end"] (ay jy):=cw
abbrev i7:Stmt:=top 51
theorem dX:aO ["one", "other", "name", "low", "high", "less", "more"] ["one", "other"] (ay i7):=cw
abbrev gQ:Stmt:=top 52
theorem fh:aO ["facts", "table", "name", "stretch"] ["facts"] (ay gQ):=cw
abbrev i8:Stmt:=top 53
theorem cX:aO ["plan", "table", "name", "stretch", "piece", "facts", "side", "there", "more"] ["plan", "table"] (ay i8):=cw
abbrev fw:Stmt:=top 54
theorem bf:aO ["bag", "facts", "table", "names", "name", "low", "high", "way"] ["bag", "facts"] (ay fw):=cw
abbrev fz:Stmt:=top 55
theorem dQ:aO ["bag", "table", "some", "at", "way"] ["bag", "table"] (ay fz):=cw
abbrev gx:Stmt:=top 57
theorem cq:aO ["bag", "count", "letters", "shift", "names", "k", "sign", "pieces", "deeds"] ["bag", "count"] (ay gx):=cw
abbrev jA:Stmt:=top 56
theorem lS:aO ["plan", "table", "found"] ["plan", "table"] (ay jA):=cw
abbrev mE:Stmt:=top 58
theorem fc:aO ["script", "first", "plan", "there", "tables", "table", "k", "bag", "twice"] ["script"] (ay mE):=cw
section
variable {P:Program} {w:World} {K:PySem.W.Frag} {mg:Str->Option Value} {base:Heap}
theorem nE {f:Addr} {fd:FuncData} (F:b4 K "parts_of_kind" "parts_of_kind" gn f fd) (Z:Bl mg)  : bw P w K mg base bX 1 f fd ["thing", "kinds", "wanted"] (oU K):=by
 refine F.ok (k:=0) nq (fun vs H Q E h=>?_) (fun cdv A outer s H vs Q E hr h=>?_)
 ·obtain⟨t,s,v0,xs,ks,w,rfl,_⟩:=h
  rfl
 ·obtain⟨t,s,v0,xs,ks,w,rfl,ht,hs,hl,q⟩:=h
  refine⟨_,(ai (aB (cP ["part", "kind"] ["wanted"] [2] rfl (nR rfl Z.zip (av (rh uD (pv 0) (uw ah) uv) (pv 1))) rfl (by decide +kernel) (by decide +kernel) (by decide +kernel) ⟨⟨rfl,.inl rfl,rfl⟩,True.intro⟩ (fun _ _ _ _=>(iG (K:=K) (n:=2) rfl (cm (n:=2) rfl (aH (aF (i:=0) (show ((["part", "kind"]:List Str)++(["wanted"]:List Str)).Nodup by decide +kernel) (hf:=Or.inr rfl)) (aH (aF (i:=1) (show ((["part", "kind"]:List Str)++(["wanted"]:List Str)).Nodup by decide +kernel) (hf:=Or.inr rfl)) bR))))) (fun _ _ _ _=>(oO (aG bK (pv 1) (pv 2) (aK _)))) (fun _ _ _ _=>(pv 0))))),?_⟩
  refine⟨_,rfl,_,rfl,t,_,rfl,ar.of ht,fun hw=>?_,fun _ p np=>?_⟩
  ·exfalso
   obtain⟨h1,_⟩:=hw
   simp [HT.b5] at h1
  ·have ec:mV (v0 :: xs) (some 1) none=xs:=by simp [mV,HT.b5]
   rw [ec]
   have sp:=ae.new (o:=.tup xs) np
   refine⟨_,rfl,p,s,rfl,⟨_,ar.of aa⟩,⟨_,hs.same sp⟩,fun acc na=>?_⟩
   refine rV (K:=K) (a:=p) (b:=s) (xs:=xs) (ys:=ks.map V.str) (fun i zs τ H'=>∃ (c1 c2:Option V),τ = [c1,c2,some (.str w)]/\zs=jc w xs ks i/\H' acc=some (.lst zs)/\H' p=some (.tup xs)/\ae H H') ?_ ?_ ?_ ?_
   ·exact⟨none,none,rfl,rfl,aa,ae.new na _ _ aa,sp.trans (ae.new na)⟩
   ·rintro i zs τ H4 hi ⟨c1,c2,rfl,rfl,ha,hp4,s4⟩
    exact⟨ar.of hp4,hs.same s4,ha,fY (by have:=wY (w:=w) (xs:=xs) (ks:=ks) (i:=i);omega)⟩
   ·rintro i x y zs τ H4 u hx hy hu ⟨c1,c2,rfl,rfl,ha,hp4,s4⟩
    obtain⟨k,rfl,hk⟩:∃ k,y=V.str k/\ks[i]? = some k:=by
     rw [List.getElem?_map] at hy
     cases e:ks[i]? with
     | none=>rw [e] at hy;cases hy
     | some k=>rw [e] at hy;exact⟨k,(Option.some.inj hy).symm,rfl⟩
    have su:=ae.new (o:=.tup [x,.str k]) hu
    refine⟨u,_,rfl,ar.of aa,rfl,_,_,rfl,_,_,rfl,rfl,?_⟩
    refine⟨_,rfl,_,rfl,rfl,_,rfl,?_⟩
    have hn:=vp (w:=w) hx hk
    by_cases hkw:k=w
    ·rw [if_pos hkw] at hn
     refine bV (decide_eq_true (congrArg V.str hkw)) ?_
     refine⟨_,rfl,su _ _ ha,_,_,rfl,hn.symm,aa,?_,?_⟩
     ·rw [ao (bJ hp4 ha (by intro z;cases z))]
      exact su _ _ hp4
     ·exact (s4.trans su).put (sp.free na)
    ·rw [if_neg hkw,List.append_nil] at hn
     refine aZ (decide_eq_false fun z=>hkw (V.str.inj z)) ?_
     exact⟨_,_,rfl,hn.symm,su _ _ ha,su _ _ hp4,s4.trans su⟩
   ·rintro zs τ H4 ⟨c1,c2,rfl,rfl,ha,hp4,s4⟩
    rw [wX] at ha
    exact q acc H4 ha s4
theorem vV {f:Addr} {fd:FuncData} (F:b4 K "ways_on" "ways_on" lI f fd) (Z:Bl mg) {aE s0 s1 s2 s3:Addr} (GE:rW K mg aE s0 s1 s2 s3) (O_parts_of_kind:Own P w K mg base "parts_of_kind" 1 ["thing", "kinds", "wanted"] (oU K)):bw P w K mg base bX 3 f fd ["end"] rZ:=by
 refine F.ok (k:=2) vS (fun vs H Q E h=>?_) (fun cdv A outer s H vs Q E hr h=>?_)
 ·obtain⟨ea,e,rfl,_⟩:=h
  rfl
 ·obtain⟨ea,e,rfl,he,q⟩:=h
  refine⟨_,(ai (aB (ba bF rfl Z.tuple cG (aJ (au O_parts_of_kind hr (ft (pv 0) (oR GE.tab rfl (aw aR (pv 0) ah) (fun _ _=>rfl)) bI)))))),?_⟩
  obtain⟨xs,ev,hl,hp⟩:=wZ e
  rw [ev] at he
  obtain⟨s,hs,ks⟩:=GE.at_ e
  refine⟨_,rfl,_,rfl,ea,_,0,_,rfl,rfl,ar.of he,cv,_,s,rfl,hs,ea,s,_,xs,kE e, "piece",rfl,he,.inr ks,hl,fun l H1 hl1 s1=>?_⟩
  rw [hp] at hl1
  exact⟨l,_,rfl,.inl ⟨aP.of hl1,fun t ht=>q t _ aa (s1.trans (ae.new ht))⟩⟩
theorem tW {f:Addr} {fd:FuncData} (F:b4 K "names_of" "names_of" ka f fd) (Z:Bl mg) {aD d0 d1 d2 d3 d4:Addr} (GD:qP K mg aD d0 d1 d2 d3 d4) {aE s0 s1 s2 s3:Addr} (GE:rW K mg aE s0 s1 s2 s3) (O_parts_of_kind:Own P w K mg base "parts_of_kind" 1 ["thing", "kinds", "wanted"] (oU K)):bw P w K mg base bX 3 f fd ["plan"] pX:=by
 refine F.ok (k:=2) fJ (fun vs H Q E h=>?_) (fun cdv A outer s H vs Q E hr h=>?_)
 ·obtain⟨plv,ps,xs,m,rfl,_⟩:=h
  rfl
 ·obtain⟨plv,ps,xs,m,rfl,hp,pok,hx64,hal,q⟩:=h
  refine⟨_,(af (aM (i:=1) fJ.nd (b8 cz))
   (af (df PassesOwn.never rfl (dY (pv 0)) (cm rfl (aH (aF (i:=2) fJ.nd) (aH (aF (i:=3) fJ.nd) bR)))
   (af (df PassesOwn.never rfl (dY (pv 2)) (aF (i:=4) fJ.nd)
   (ai (dI (fg PySem.F.plainAttrs_list PySem.F.slot_list_extend PySem.F.type_list_extend pN (pv 1) (aJ (au O_parts_of_kind hr (ft (pv 4) (oR GD.tab rfl (aw aR (pv 4) ah) (fun _ _=>rfl)) bI)))))))
   (ai (dI (fg PySem.F.plainAttrs_list PySem.F.slot_list_extend PySem.F.type_list_extend pN (pv 1) (aJ (au O_parts_of_kind hr (ft (pv 3) (oR GE.tab rfl (aw aR (pv 3) ah) (fun _ _=>rfl)) bI))))))))
   (ai (aB (ba bF rfl Z.tuple cG (aJ (aX (qt rfl) rfl Z.sorted h8 (aJ (ba (xh rfl) rfl Z.set Bk (aJ (pv 1))))))))))),?_⟩
  obtain⟨pp,vs,rfl,e1,r⟩:=bE.cB hp
  have hl:=r.len
  refine⟨(by show 0<=sizeLine;decide),fun nm nn=>?_⟩
  have s0:=ae.new (o:=.lst []) nn
  have big:∀ (i:Nat) (ys:List Str),ys.length<=4000->(ys.map V.str).length<=sizeLine:=fun i ys h=>by rw [List.length_map];exact Nat.le_trans h (by decide)
  refine⟨_,rfl,pp,rfl,⟨_,ar.of (s0 _ _ e1)⟩,gC (K:=K) (a:=pp) (xs:=vs) (fun i σ H'=>∃ (u1 u2 u3:Option V),σ = [some (.ref pp),some (.ref nm),u1,u2,u3]/\H' nm=some (.lst ((bM (ps.take i)).map V.str))/\ae H H') ?_ ?_ ?_ ?_⟩
  ·exact⟨_,_,_,rfl,aa,s0⟩
  ·rintro i σ H1 hi ⟨u1,u2,u3,rfl,h1,s1⟩
   exact ar.of (s1 _ _ e1)
  ·rintro i x σ H1 hi ⟨u1,u2,u3,rfl,h1,s1⟩
   have hlt:i < ps.length:=by
    have:=(List.getElem?_eq_some_iff.mp hi).1
    rw [hl,List.length_map] at this
    exact this
   have hpi:ps[i]? = some ps[i]:=by simp [hlt]
   generalize ps[i] = pe at hpi
   obtain⟨ds,e⟩:=pe
   have hnext:=pW (f:=pNames) hpi
   have hsz:(bM (ps.take (i+1))).length<=4000:=Nat.le_trans (kB (f:=pNames) (i+1)) hal
   have hsz':(bM (ps.take i)).length+((ds.flatMap dE).length+(iV e).length)<=4000:=by
    have z:=congrArg List.length hnext
    unfold bM at hsz ⊢
    rw [z] at hsz
    simp only [List.length_append,pNames] at hsz
    omega
   obtain⟨p',xs',pc,da,ea,ws,ep,e1',el',hx',e2,e3,r3,e4⟩:=iS hp hpi
   cases ep
   rw [e1] at e1'
   cases e1'
   rw [hi] at hx'
   cases hx'
   refine⟨pc,_,rfl,ar.of (s1 _ _ e2),rfl,_,_,rfl,_,_,rfl,rfl,?_⟩
   refine⟨_,rfl,da,rfl,⟨_,ar.of (s1 _ _ e3)⟩,gC (K:=K) (a:=da) (xs:=ws) (fun j σ H'=>∃ (u3:Option V),σ = [some (.ref pp),some (.ref nm),some (.ref da),some (.ref ea),u3]/\H' nm=some (.lst ((bM (ps.take i)++(ds.take j).flatMap dE).map V.str))/\ae H H') ?_ ?_ ?_ ?_⟩
   ·exact⟨_,rfl,by simpa using h1,s1⟩
   ·rintro j σ H2 hj ⟨u3',rfl,h2,s2⟩
    exact ar.of (s2 _ _ e3)
   ·rintro j y σ H2 hj ⟨u3',rfl,h2,s2⟩
    have hjl:j < ds.length:=by
     have:=(List.getElem?_eq_some_iff.mp hj).1
     rw [r3.len,List.length_map] at this
     exact this
    have hdj:ds[j]? = some ds[j]:=by simp [hjl]
    generalize ds[j] = dd at hdj
    obtain⟨v,hv,rd⟩:=r3.get (i:=j) (d:=dP dd) (by rw [List.getElem?_map,hdj];rfl)
    rw [hj] at hv
    cases hv
    obtain⟨dp,rfl,hdp⟩:=gJ rd
    have hdp2:=s2 _ _ hdp
    obtain⟨zs,ez,hzl,hpk⟩:=vC dd
    rw [ez] at hdp2
    obtain⟨s,hs,ks⟩:=GD.at_ dd
    have hnj:=pW (f:=dE) hdj
    have hsj:((ds.take (j+1)).flatMap dE).length<=(ds.flatMap dE).length:=kB (f:=dE) (j+1)
    refine cf ?_
    refine⟨_,rfl,.inl ⟨rfl,_,aP.of h2⟩,_,rfl,_,rfl,dp,_,0,_,rfl,rfl,ar.of hdp2,cv,_,s,rfl,hs,dp,s,_,zs,kD dd, "name",rfl,hdp2,.inr ks,hzl,fun l H3 hl3 s3=>?_⟩
    rw [hpk] at hl3
    have h3:=s3 _ _ h2
    refine⟨nm,l,_,_,rfl,rfl,h3,hl3,?_,?_⟩
    ·rw [List.length_map,List.length_map,List.length_append]
     rw [hnj,List.length_append] at hsj
     exact Nat.le_trans (show _<=4000 by omega) (by decide)
    ·refine⟨_,rfl,?_,(s2.trans s3).put nn⟩
     rw [aa,hnj,<-List.append_assoc];simp only [List.map_append]
   ·rintro σ H2 ⟨u3',rfl,h2,s2⟩
    rw [show ws.length=ds.length by rw [r3.len,List.length_map],List.take_length] at h2
    have e42:=s2 _ _ e4
    obtain⟨zs,ez,hzl,hpk⟩:=vD e
    rw [ez] at e42
    obtain⟨s,hs,ks⟩:=GE.at_ e
    refine⟨_,rfl,.inl ⟨rfl,_,aP.of h2⟩,_,rfl,_,rfl,ea,_,0,_,rfl,rfl,ar.of e42,cv,_,s,rfl,hs,ea,s,_,zs,kE e, "name",rfl,e42,.inr ks,hzl,fun l H3 hl3 s3=>?_⟩
    rw [hpk] at hl3
    have h3:=s3 _ _ h2
    refine⟨nm,l,_,_,rfl,rfl,h3,hl3,?_,?_⟩
    ·rw [List.length_map,List.length_map,List.length_append]
     exact Nat.le_trans (show _<=4000 by omega) (by decide)
    ·refine⟨_,_,_,rfl,?_,(s2.trans s3).put nn⟩
     rw [aa,<-List.map_append]
     unfold bM at hnext ⊢
     rw [hnext]
     simp only [pNames,List.append_assoc]
  ·rintro σ H1 ⟨u1,u2,u3,rfl,h1,s1⟩
   rw [show vs.length=ps.length by rw [hl,List.length_map],List.take_length] at h1
   have hk:aP K H1 nm (((bM ps).map (Sum.inr:Str->Key)).map kV):=by rw [Aj];exact aP.of h1
   refine⟨_,rfl,nm,(bM ps).map Sum.inr,rfl,hk,(by rw [List.length_map];show _+1 < 4096;omega),fun sa hsa=>?_⟩
   have hf:=yO pok
   refine⟨sa,LS.dC (bM ps),rfl,(by rw [aa,vE]),(by omega),fun l ss hperm hsort hn=>?_⟩
   have s2:=ae.new (o:=si P w sa (LS.dC ((bM ps).map (Sum.inr:Str->Key)))) hsa
   refine⟨l,_,rfl,.inl ⟨aP.of aa,fun t ht=>?_⟩⟩
   exact q t ss _ aa hperm hsort (by rw [hperm.length_eq];omega) (((s1.trans s2).trans (ae.new hn)).trans (ae.new ht))
theorem vW {f:Addr} {fd:FuncData} (F:b4 K "lies_in" "lies_in" lJ f fd) (Z:Bl mg)  : bw P w K mg base bX 1 f fd ["number", "stretch"] (oY K):=by
 refine F.ok (k:=0) kb (fun vs H Q E h=>?_) (fun cdv A outer s H vs Q E hr h=>?_)
 ·obtain⟨n,q,lo,hi,rfl,_⟩:=h
  rfl
 ·obtain⟨n,q,lo,hi,rfl,hq,k⟩:=h
  refine⟨_,(af (cx (pv 1) (cm rfl (aH (aF (i:=2) kb.nd) (aH (aF (i:=3) kb.nd) bR))))
   (ai (aB (jB (jU (fG (cO (pv 2))) (eD (eE qK (pv 2) (pv 0) (aK _)))) (eD (jU (fG (cO (pv 3))) (eD (eE qK (pv 0) (pv 3) (aK _))))))))),?_⟩
  refine⟨_,rfl,q,_,rfl,hq,rfl,_,_,rfl,_,_,rfl,rfl,?_⟩
  cases lo with
  | none =>
   refine⟨_,rfl,_,rfl,aQ ⟨_,rfl,aQ ?_⟩⟩
   cases hi with
   | none=>exact⟨_,rfl,_,rfl,aQ k⟩
   | some b =>
    refine⟨_,rfl,_,rfl,aU ⟨_,rfl,_,rfl,_,_,rfl,rfl,?_⟩⟩
    simpa only [cE,Bool.true_and] using k
  | some a =>
   refine⟨_,rfl,_,rfl,aU ⟨_,rfl,_,rfl,_,_,rfl,rfl,_,rfl,?_⟩⟩
   cases hx:decide (a<=n) with
   | false=>exact aU (by have k':=k;simp only [cE,hx,Bool.false_and] at k';exact k')
   | true =>
    refine aQ ?_
    cases hi with
    | none=>exact⟨_,rfl,_,rfl,aQ (by have k':=k;simp only [cE,hx,Bool.true_and] at k';exact k')⟩
    | some b =>
     refine⟨_,rfl,_,rfl,aU ⟨_,rfl,_,rfl,_,_,rfl,rfl,?_⟩⟩
     have k':=k
     simp only [cE,hx,Bool.true_and] at k'
     exact k'
theorem qC {f:Addr} {fd:FuncData} (F:b4 K "part_below" "part_below" i2 f fd) (Z:Bl mg)  : bw P w K mg base bX 1 f fd ["stretch", "number"] (lB K fI):=by
 refine F.ok (k:=0) fL (fun vs H Q E h=>?_) (fun cdv A outer s H vs Q E hr h=>?_)
 ·obtain⟨p,n,lo,hi,rfl,_⟩:=h
  rfl
 ·obtain⟨p,n,lo,hi,rfl,hp,q⟩:=h
  refine⟨_,(af (cx (pv 0) (cm rfl (aH (aF (i:=2) fL.nd) (aH (aF (i:=3) fL.nd) bR))))
   (af (aM (i:=4) fL.nd (eQ (bW (cO (pv 3))) (aS fj (pv 1) ah) (aX (kT rfl) rfl Z.min rC (av (pv 3) (aS fj (pv 1) ah)))))
   (af (aV (PW.pt (dM (bW (cA (pv 2))) (dt (aG iA (pv 2) (pv 4) (aK _)))))
   (ai (aB bH))
   aL)
   (ai (aB (aY (av (pv 2) (pv 4)))))))),?_⟩
  refine⟨_,rfl,p,_,rfl,hp,rfl,_,_,rfl,_,_,rfl,rfl,?_⟩
  cases hi with
  | none =>
   refine⟨_,rfl,_,rfl,aQ ⟨_,rfl,_,_,rfl,rfl,?_⟩⟩
   cases lo with
   | none =>
    refine⟨_,rfl,_,rfl,aU (aU ⟨_,rfl,_,rfl,ln2,fun l hl=>?_⟩)⟩
    exact q _ _ ⟨l,rfl,aa⟩ (ae.new hl)
   | some i =>
    refine⟨_,rfl,_,rfl,aQ ⟨_,rfl,_,rfl,_,_,rfl,rfl,_,rfl,?_⟩⟩
    refine b9 (fun hc=>?_) (fun hc=>?_)
    ·have hlt:ik none n < i:=of_decide_eq_true hc
     exact q _ _ (by simp only [fI];rw [if_pos hlt];rfl) (ae.refl H)
    ·have hlt:¬ ik none n < i:=fun z=>hc (decide_eq_true z)
     refine⟨_,rfl,_,rfl,ln2,fun l hl=>?_⟩
     exact q _ _ (by simp only [fI];rw [if_neg hlt];exact⟨l,rfl,aa⟩) (ae.new hl)
  | some j =>
   refine⟨_,rfl,_,rfl,aU ⟨_,rfl,_,rfl,_,_,rfl,rfl,_,_,rfl,?_⟩⟩
   cases lo with
   | none =>
    refine⟨_,rfl,_,rfl,aU (aU ⟨_,rfl,_,rfl,ln2,fun l hl=>?_⟩)⟩
    exact q _ _ ⟨l,rfl,aa⟩ (ae.new hl)
   | some i =>
    refine⟨_,rfl,_,rfl,aQ ⟨_,rfl,_,rfl,_,_,rfl,rfl,_,rfl,?_⟩⟩
    refine b9 (fun hc=>?_) (fun hc=>?_)
    ·have hlt:ik (some j) n < i:=of_decide_eq_true hc
     exact q _ _ (by simp only [fI];rw [if_pos hlt];rfl) (ae.refl H)
    ·have hlt:¬ ik (some j) n < i:=fun z=>hc (decide_eq_true z)
     refine⟨_,rfl,_,rfl,ln2,fun l hl=>?_⟩
     exact q _ _ (by simp only [fI];rw [if_neg hlt];exact⟨l,rfl,aa⟩) (ae.new hl)
theorem tq {f:Addr} {fd:FuncData} (F:b4 K "part_from" "part_from" jr f fd) (Z:Bl mg)  : bw P w K mg base bX 1 f fd ["stretch", "number"] (lB K gU):=by
 refine F.ok (k:=0) gr (fun vs H Q E h=>?_) (fun cdv A outer s H vs Q E hr h=>?_)
 ·obtain⟨p,n,lo,hi,rfl,_⟩:=h
  rfl
 ·obtain⟨p,n,lo,hi,rfl,hp,q⟩:=h
  refine⟨_,(af (cx (pv 0) (cm rfl (aH (aF (i:=2) gr.nd) (aH (aF (i:=3) gr.nd) bR))))
   (af (aM (i:=4) gr.nd (eQ (bW (cO (pv 2))) (pv 1) (aX (wx rfl) rfl Z.max A2 (av (pv 2) (pv 1)))))
   (af (aV (PW.pt (dM (bW (cA (pv 3))) (dt (aG iA (pv 4) (pv 3) (aK _)))))
   (ai (aB bH))
   aL)
   (ai (aB (aY (av (pv 4) (pv 3)))))))),?_⟩
  refine⟨_,rfl,p,_,rfl,hp,rfl,_,_,rfl,_,_,rfl,rfl,?_⟩
  cases lo with
  | none =>
   refine⟨_,rfl,_,rfl,aQ ⟨_,rfl,?_⟩⟩
   cases hi with
   | none =>
    refine⟨_,rfl,_,rfl,aU (aU ⟨_,rfl,_,rfl,ln2,fun l hl=>?_⟩)⟩
    exact q _ _ ⟨l,rfl,aa⟩ (ae.new hl)
   | some j =>
    refine⟨_,rfl,_,rfl,aQ ⟨_,rfl,_,rfl,_,_,rfl,rfl,_,rfl,?_⟩⟩
    refine b9 (fun hc=>?_) (fun hc=>?_)
    ·have hlt:j < il none n:=of_decide_eq_true hc
     exact q _ _ (by simp only [gU];rw [if_pos hlt];rfl) (ae.refl H)
    ·have hlt:¬ j < il none n:=fun z=>hc (decide_eq_true z)
     refine⟨_,rfl,_,rfl,ln2,fun l hl=>?_⟩
     exact q _ _ (by simp only [gU];rw [if_neg hlt];exact⟨l,rfl,aa⟩) (ae.new hl)
  | some i =>
   refine⟨_,rfl,_,rfl,aU ⟨_,rfl,_,rfl,_,_,rfl,?_⟩⟩
   cases hi with
   | none =>
    refine⟨_,rfl,_,rfl,aU (aU ⟨_,rfl,_,rfl,ln2,fun l hl=>?_⟩)⟩
    exact q _ _ ⟨l,rfl,aa⟩ (ae.new hl)
   | some j =>
    refine⟨_,rfl,_,rfl,aQ ⟨_,rfl,_,rfl,_,_,rfl,rfl,_,rfl,?_⟩⟩
    refine b9 (fun hc=>?_) (fun hc=>?_)
    ·have hlt:j < il (some i) n:=of_decide_eq_true hc
     exact q _ _ (by simp only [gU];rw [if_pos hlt];rfl) (ae.refl H)
    ·have hlt:¬ j < il (some i) n:=fun z=>hc (decide_eq_true z)
     refine⟨_,rfl,_,rfl,ln2,fun l hl=>?_⟩
     exact q _ _ (by simp only [gU];rw [if_neg hlt];exact⟨l,rfl,aa⟩) (ae.new hl)
theorem vX {f:Addr} {fd:FuncData} (F:b4 K "part_at" "part_at" lK f fd) (Z:Bl mg) (O_lies_in:Own P w K mg base "lies_in" 1 ["number", "stretch"] (oY K)):bw P w K mg base bX 2 f fd ["stretch", "number"] (lB K kA):=by
 refine F.ok (k:=1) vT (fun vs H Q E h=>?_) (fun cdv A outer s H vs Q E hr h=>?_)
 ·obtain⟨p,n,lo,hi,rfl,_⟩:=h
  rfl
 ·obtain⟨p,n,lo,hi,rfl,hp,q⟩:=h
  refine⟨_,(af (aV (eX (au O_lies_in hr (av (pv 1) (pv 0))))
   (ai (aB (aY (av (pv 1) (pv 1)))))
   aL)
   (ai (aB bH))),?_⟩
  refine⟨_,rfl,_,rfl,n,p,lo,hi,rfl,hp,_,rfl,?_⟩
  refine b9 (fun hc=>?_) (fun hc=>?_)
  ·refine⟨_,rfl,_,rfl,ln2,fun l hl=>?_⟩
   exact q _ _ (by simp only [kA,if_pos hc];exact⟨l,rfl,aa⟩) (ae.new hl)
  ·exact q _ _ (by simp only [kA,if_neg hc];rfl) (ae.refl H)
theorem pB {f:Addr} {fd:FuncData} (F:b4 K "part_beside" "part_beside" iq f fd) (Z:Bl mg)  : bw P w K mg base bX 1 f fd ["stretch", "number"] (lB K iT):=by
 refine F.ok (k:=0) gN (fun vs H Q E h=>?_) (fun cdv A outer s H vs Q E hr h=>?_)
 ·obtain⟨p,n,lo,hi,rfl,_⟩:=h
  rfl
 ·obtain⟨p,n,lo,hi,rfl,hp,q⟩:=h
  refine⟨_,(af (cx (pv 0) (cm rfl (aH (aF (i:=2) gN.nd) (aH (aF (i:=3) gN.nd) bR))))
   (af (aV (PW.pt (dM (aG bK (pv 2) (pv 1) (aK _)) (dt (aG bK (pv 3) (pv 1) (aK _)))))
   (ai (aB bH))
   aL)
   (af (aV (aG bK (pv 2) (pv 1) (aK _))
   (ai (aB (aY (av (aS cy (pv 1) ah) (pv 3)))))
   aL)
   (af (aV (aG bK (pv 3) (pv 1) (aK _))
   (ai (aB (aY (av (pv 2) (aS fj (pv 1) ah)))))
   aL)
   (ai (aB (aY (av (pv 2) (pv 3))))))))),?_⟩
  refine⟨_,rfl,p,_,rfl,hp,rfl,_,_,rfl,_,_,rfl,rfl,?_⟩
  refine⟨_,rfl,_,rfl,hZ,_,rfl,?_⟩
  rw [jb]
  refine b9 (fun hc=>?_) (fun hc=>?_)
  ·have h1:lo=some n:=of_decide_eq_true hc
   refine⟨_,rfl,_,rfl,hZ,_,rfl,?_⟩
   rw [jb]
   refine b9 (fun hd=>?_) (fun hd=>?_)
   ·have h2:hi=some n:=of_decide_eq_true hd
    exact q _ _ (by simp only [iT,if_pos h1,if_pos h2];rfl) (ae.refl H)
   ·have h2:¬ hi=some n:=fun z=>hd (decide_eq_true z)
    refine⟨_,rfl,_,rfl,hZ,_,rfl,?_⟩
    rw [jb,hc]
    refine aQ ⟨_,rfl,_,_,rfl,rfl,_,rfl,ln2,fun l hl=>?_⟩
    exact q _ _ (by simp only [iT,if_pos h1,if_neg h2];exact⟨l,rfl,aa⟩) (ae.new hl)
  ·have h1:¬ lo=some n:=fun z=>hc (decide_eq_true z)
   refine aU ?_
   refine⟨_,rfl,_,rfl,hZ,_,rfl,?_⟩
   rw [jb,show decide (lo=some n)=false from decide_eq_false h1]
   refine aU ?_
   refine⟨_,rfl,_,rfl,hZ,_,rfl,?_⟩
   rw [jb]
   refine b9 (fun hd=>?_) (fun hd=>?_)
   ·have h2:hi=some n:=of_decide_eq_true hd
    refine⟨_,rfl,_,rfl,_,_,rfl,rfl,ln2,fun l hl=>?_⟩
    exact q _ _ (by simp only [iT,if_neg h1,if_pos h2];exact⟨l,rfl,aa⟩) (ae.new hl)
   ·have h2:¬ hi=some n:=fun z=>hd (decide_eq_true z)
    refine⟨_,rfl,_,rfl,ln2,fun l hl=>?_⟩
    exact q _ _ (by simp only [iT,if_neg h1,if_neg h2];exact⟨l,rfl,aa⟩) (ae.new hl)
theorem vY {f:Addr} {fd:FuncData} (F:b4 K "part_of" "part_of" lL f fd) (Z:Bl mg) (O_part_below:Own P w K mg base "part_below" 1 ["stretch", "number"] (lB K fI)) (O_part_from:Own P w K mg base "part_from" 1 ["stretch", "number"] (lB K gU)) (O_part_at:Own P w K mg base "part_at" 2 ["stretch", "number"] (lB K kA)) (O_part_beside:Own P w K mg base "part_beside" 1 ["stretch", "number"] (lB K iT)):bw P w K mg base bX 3 f fd ["stretch", "word", "number", "side"] (uO K):=by
 refine F.ok (k:=2) vU (fun vs H Q E h=>?_) (fun cdv A outer s H vs Q E hr h=>?_)
 ·obtain⟨p,w,n,side,lo,hi,rfl,_⟩:=h
  rfl
 ·obtain⟨p,w,n,side,lo,hi,rfl,hp,q⟩:=h
  refine⟨_,(af (aV (aG bK (pv 1) bI (aK _))
   (ai (aB (eQ (eX (pv 3)) (au O_part_below hr (av (pv 0) (pv 2))) (au O_part_from hr (av (pv 0) (pv 2))))))
   aL)
   (ai (aB (eQ (eX (pv 3)) (au O_part_at hr (av (pv 0) (pv 2))) (au O_part_beside hr (av (pv 0) (pv 2))))))),?_⟩
  refine⟨_,rfl,rfl,_,rfl,?_⟩
  by_cases hw:w = "less"
  ·subst hw
   rw [wU]
   refine aQ ⟨_,rfl,_,rfl,?_⟩
   cases side with
   | true=>exact aQ ⟨_,rfl,_,rfl,p,n,lo,hi,rfl,hp,fun v H1 r s1=>q v H1 (by simp only [di,j2,if_true];exact r) s1⟩
   | false=>exact aU ⟨_,rfl,_,rfl,p,n,lo,hi,rfl,hp,fun v H1 r s1=>q v H1 (by simp only [di,j2,if_true,Bool.false_eq_true,if_false];exact r) s1⟩
  ·have e:decide (V.str w=V.str "less")=false:=decide_eq_false fun z=>hw (V.str.inj z)
   rw [e]
   refine aU ⟨_,rfl,_,rfl,?_⟩
   cases side with
   | true=>exact aQ ⟨_,rfl,_,rfl,p,n,lo,hi,rfl,hp,fun v H1 r s1=>q v H1 (by simp only [di,rP,if_neg hw,if_true];exact r) s1⟩
   | false=>exact aU ⟨_,rfl,_,rfl,p,n,lo,hi,rfl,hp,fun v H1 r s1=>q v H1 (by simp only [di,rP,if_neg hw,Bool.false_eq_true,if_false];exact r) s1⟩
theorem tD {f:Addr} {fd:FuncData} (F:b4 K "is_within" "is_within" jt f fd) (Z:Bl mg)  : bw P w K mg base bX 1 f fd ["one", "other"] (lr K):=by
 refine F.ok (k:=0) fu (fun vs H Q E h=>?_) (fun cdv A outer s H vs Q E hr h=>?_)
 ·obtain⟨p,q,s,t,rfl,_⟩:=h
  rfl
 ·obtain⟨p,q,s,t,rfl,hp,hq,k⟩:=h
  refine⟨_,(af (cx (pv 1) (cm rfl (aH (aF (i:=2) fu.nd) (aH (aF (i:=3) fu.nd) bR))))
   (af (aM (i:=4) fu.nd (jU (fG (cO (pv 2))) (eD (jB (fG (cA (aw aR (pv 0) ah))) (eD (eE qK (pv 2) (aw aR (pv 0) ah) (aK _)))))))
   (af (aM (i:=5) fu.nd (jU (fG (cO (pv 3))) (eD (jB (fG (cA (aw aR (pv 0) ah))) (eD (eE qK (aw aR (pv 0) ah) (pv 3) (aK _)))))))
   (ai (aB (jB (pv 4) (eD (pv 5)))))))),?_⟩
  obtain⟨lo,hi⟩:=s
  obtain⟨lo2,hi2⟩:=t
  have k:Q (.bl (cT lo lo2 && cn hi hi2)) H:=k
  refine⟨_,rfl,q,_,rfl,hq,rfl,_,_,rfl,_,_,rfl,rfl,?_⟩
  cases lo2 with
  | none =>
   refine⟨_,rfl,_,rfl,aQ ?_⟩
   cases hi2 with
   | none =>
    refine⟨_,rfl,_,rfl,aQ ?_⟩
    exact⟨_,rfl,_,rfl,aQ ⟨_,rfl,k⟩⟩
   | some b =>
    refine⟨_,rfl,_,rfl,aU ?_⟩
    refine⟨_,rfl,p,_,1,_,rfl,rfl,hp,cD,_,rfl,?_⟩
    cases hi with
    | none=>exact aU ⟨_,rfl,_,rfl,aQ ⟨_,rfl,k⟩⟩
    | some c =>
     refine aQ ⟨_,rfl,p,_,1,_,rfl,rfl,hp,cD,_,rfl,_,_,rfl,rfl,?_⟩
     exact⟨_,rfl,_,rfl,aQ ⟨_,rfl,k⟩⟩
  | some a =>
   refine⟨_,rfl,_,rfl,aU ?_⟩
   refine⟨_,rfl,p,_,0,_,rfl,rfl,hp,cv,_,rfl,?_⟩
   cases lo with
   | none =>
    refine aU ?_
    cases hi2 with
    | none =>
     refine⟨_,rfl,_,rfl,aQ ?_⟩
     exact⟨_,rfl,_,rfl,aU k⟩
    | some b =>
     refine⟨_,rfl,_,rfl,aU ?_⟩
     refine⟨_,rfl,p,_,1,_,rfl,rfl,hp,cD,_,rfl,?_⟩
     cases hi with
     | none=>exact aU ⟨_,rfl,_,rfl,aU k⟩
     | some c =>
      refine aQ ⟨_,rfl,p,_,1,_,rfl,rfl,hp,cD,_,rfl,_,_,rfl,rfl,?_⟩
      exact⟨_,rfl,_,rfl,aU k⟩
   | some a' =>
    refine aQ ⟨_,rfl,_,rfl,p,_,0,_,rfl,rfl,hp,cv,_,_,rfl,rfl,?_⟩
    cases hi2 with
    | none =>
     refine⟨_,rfl,_,rfl,aQ ?_⟩
     refine⟨_,rfl,_,rfl,?_⟩
     cases hx:decide (a<=a') with
     | true=>exact aQ ⟨_,rfl,by have k':=k;simp only [cT,cn,hx] at k';exact k'⟩
     | false=>exact aU (by have k':=k;simp only [cT,cn,hx] at k';exact k')
    | some b =>
     refine⟨_,rfl,_,rfl,aU ?_⟩
     refine⟨_,rfl,p,_,1,_,rfl,rfl,hp,cD,_,rfl,?_⟩
     cases hi with
     | none =>
      refine aU ⟨_,rfl,_,rfl,?_⟩
      cases hx:decide (a<=a') with
      | true=>exact aQ ⟨_,rfl,by have k':=k;simp only [cT,cn,hx] at k';exact k'⟩
      | false=>exact aU (by have k':=k;simp only [cT,cn,hx] at k';exact k')
     | some c =>
      refine aQ ⟨_,rfl,p,_,1,_,rfl,rfl,hp,cD,_,rfl,_,_,rfl,rfl,?_⟩
      refine⟨_,rfl,_,rfl,?_⟩
      cases hx:decide (a<=a') with
      | true=>exact aQ ⟨_,rfl,by have k':=k;simp only [cT,cn,hx,Bool.true_and] at k';exact k'⟩
      | false=>exact aU (by have k':=k;simp only [cT,cn,hx,Bool.false_and] at k';exact k')
theorem tX {f:Addr} {fd:FuncData} (F:b4 K "facts_of" "facts_of" kc f fd) (Z:Bl mg) {aA:Addr} (GA:gc K mg aA)  : bw P w K mg base bX 1 f fd ["stretches"] (je aA):=by
 refine F.ok (k:=0) tT (fun vs H Q E h=>?_) (fun cdv A outer s H vs Q E hr h=>?_)
 ·obtain⟨d,kvs,ks,T,rfl,_⟩:=h
  rfl
 ·obtain⟨d,kvs,ks,T,rfl,hd,tb,hl,q⟩:=h
  refine⟨_,(ai (aB (ba bF rfl Z.tuple cG (aJ (cP ["name"] ["stretches"] [0] rfl (gB (aX (iU rfl) rfl Z.sorted h8 (aJ (pv 0)))) rfl (by decide +kernel) (by decide +kernel) (by decide +kernel) ⟨⟨rfl,.inl rfl,rfl⟩,True.intro⟩ (fun _ _ _ _=>(aF (i:=0) (show ((["name"]:List Str)++(["stretches"]:List Str)).Nodup by decide +kernel) (hf:=Or.inr rfl))) (fun _ _ _ _=>(oO (aG (Bn (aA:=aA) hr.units GA) (jJ (cZ hr) (pv 1) (pv 0) (fun _ _=>rfl)) (fA (v:=.ref aA) rfl GA.mK rfl) (aK _)))) (fun _ _ _ _=>(aY (av (pv 0) (jJ (cZ hr) (pv 1) (pv 0) (fun _ _=>rfl)))))))))),?_⟩
  refine⟨_,rfl,d,kvs,ks,rfl,hd,tb.keys,hl,fun l ss hp hs hn=>?_⟩
  have srt:cI ss:=⟨ll hs,hp.nodup_iff.mpr tb.nd⟩
  have hl1:(upd H l (.lst (ss.map V.str))) l=some (.lst (ss.map V.str)):=aa
  have s1:ae H (upd H l (.lst (ss.map V.str))):=ae.new hn
  have hssl:ss.length < 64:=by rw [hp.length_eq];exact hl
  generalize (upd H l (.lst (ss.map V.str)))=H1 at hl1 s1
  refine⟨l,rfl,⟨_,aP.of hl1⟩,fun acc na=>?_⟩
  refine oP (K:=K) (a:=l) (xs:=ss.map V.str) (fun i ys τ H'=>∃ c:Option V,τ = [c,some (.ref d)]/\bu H' ys (((ss.take i).filter fun x=>!decide (T x=bN)).map (dF T))/\H' acc=some (.lst ys)/\ae H1 H') ?_ ?_ ?_ ?_
  ·exact⟨none,rfl,.nil,aa,ae.new na⟩
  ·rintro i ys τ H2 hi ⟨c,rfl,r,ha,s2⟩
   refine⟨aP.of (s2 _ _ hl1),ha,?_⟩
   have h1:=r.len
   rw [List.length_map] at h1
   have h2:=List.length_filter_le (fun x=>!decide (T x=bN)) (ss.take i)
   have h3:=List.length_take_le i ss
   have h4:(ss.take i).length<=ss.length:=by rw [List.length_take];omega
   exact bp (by omega)
  ·rintro i x ys τ H2 hi ⟨c,rfl,r,ha,s2⟩
   obtain⟨y,hy,rfl⟩:∃ y,ss[i]? = some y/\x=V.str y:=by
    rw [List.getElem?_map] at hi
    cases e:ss[i]? with
    | none=>rw [e] at hi;cases hi
    | some k=>rw [e] at hi;exact⟨k,rfl,(Option.some.inj hi).symm⟩
   have hym:y ∈ ks:=hp.mem_iff.mp (List.mem_of_getElem? hy)
   have tk:ss.take (i+1)=ss.take i ++ [y]:=by rw [List.take_add_one,hy];rfl
   obtain⟨v,ev,sv,_⟩:∃ v,bS kvs (Sum.inr y)=some v/\SV aA H v (T y)/\y ∈ ks:=by
    rcases tb.val y with ⟨_,_,c⟩ | h
    ·exact absurd hym c
    ·exact h
   have sv2:SV aA H2 v (T y):=sv.aI fun p xs e=>s2 _ _ (s1 _ _ e)
   have hd2:H2 d=some (.dK kvs):=s2 _ _ (s1 _ _ hd)
   have dg:cY H2 d (.str y) (some v):=by
    have:=cY.k (k:=Sum.inr y) hd2
    rw [ev] at this
    exact this
   refine cf ?_
   refine⟨_,rfl,_,rfl,d,v,rfl,dg,T y,sv2,rfl,_,rfl,?_⟩
   by_cases hT:T y=bN
   ·refine aZ (by rw [decide_eq_true hT];rfl) ?_
    refine⟨_,rfl,?_,ha,s2⟩
    rw [tk,List.filter_append,List.filter_cons_of_neg (by rw [decide_eq_true hT];decide),List.filter_nil,List.append_nil]
    exact r
   ·refine bV (by rw [decide_eq_false hT];rfl) ?_
    refine⟨_,rfl,_,rfl,_,rfl,d,v,rfl,dg,ln2,fun t nt=>?_⟩
    have s3:=ae.new (o:=.tup [.str y,v]) nt
    have ht:(upd H2 t (.tup [.str y,v])) t=some (.tup [.str y,v]):=aa
    generalize (upd H2 t (.tup [.str y,v]))=H3 at s3 ht
    have sh:SH H3 v (T y):=by
     rcases sv2 with h | ⟨_,h⟩
     ·exact h.aI fun p xs e=>s3 _ _ e
     ·exact absurd h hT
    have ha3:=s3 _ _ ha
    refine⟨ha3,_,rfl,?_,aa,(s2.trans s3).put na⟩
    rw [tk,List.filter_append,List.filter_cons_of_pos (by rw [decide_eq_false hT];rfl),List.filter_nil,List.map_append]
    refine bu.app ((r.same s3 (gd T _)).put ha3 (gd T _)) ?_
    refine bE.aI (H:=H3) (fun p zs e=>by rw [ao (bJ e ha3 (by intro z;cases z))];exact e) (.tup ht (.cons (.str y) (.cons sh.rd .nil))) ?_
    have:=gd T [y]
    simpa [cH] using this
  ·rintro ys τ H2 ⟨c,rfl,r,ha,s2⟩
   rw [List.length_map,List.take_length] at r
   refine⟨acc,ys,rfl,.inl ⟨aP.of ha,fun t nt=>?_⟩⟩
   refine q _ _ ⟨t,ys,_,rfl,aa,srt.filter _,fun x=>?_,r.same (ae.new nt) (gd T _)⟩ ((s1.trans s2).trans (ae.new nt))
   rw [List.mem_filter]
   constructor
   ·rintro⟨_,h⟩ e
    rw [decide_eq_true e] at h
    cases h
   ·intro h
    refine⟨?_,by rw [decide_eq_false h];rfl⟩
    rcases tb.val x with ⟨_,a,_⟩ | ⟨_,_,_,a⟩
    ·exact absurd a h
    ·exact hp.mem_iff.mpr a
theorem zp {f:Addr} {fd:FuncData} (F:b4 K "known" "known" o7 f fd) (Z:Bl mg) {aA:Addr} (GA:gc K mg aA)  : bw P w K mg base bX 1 f fd ["facts", "name"] (uN aA):=by
 refine F.ok (k:=0) zl (fun vs H Q E h=>?_) (fun cdv A outer s H vs Q E hr h=>?_)
 ·obtain⟨fv,x,T,rfl,_⟩:=h
  rfl
 ·obtain⟨fv,x,T,rfl,hf,q⟩:=h
  refine⟨_,(ai (aB (cW (cZ hr) (ba (d8 rfl) rfl Z.dict jL (aJ (pv 0))) (pv 1) (fA (v:=.ref aA) rfl GA.mK rfl) ⟨rfl,rfl,rfl,rfl⟩))),?_⟩
  obtain⟨fp,xs,ss,rfl,hfp,srt,hmem,rf⟩:=hf
  obtain⟨kvs,l1,l2,l3,tb⟩:=FV.tb aA srt hmem rf
  refine⟨_,rfl,fp,xs,kvs,rfl,hfp,l1,l2,l3,fun d nd=>?_⟩
  obtain⟨v,ev,sv⟩:=tb.getD x
  exact⟨d,rfl,.inl ⟨kvs,.inl aa⟩,_,rfl,_,v,cY.k (k:=Sum.inr x) aa,ev,q v _ (sv.aI fun p zs e=>ae.new nd _ _ e) (ae.new nd)⟩
theorem qD {f:Addr} {fd:FuncData} (F:b4 K "with_known" "with_known" i3 f fd) (Z:Bl mg) {aA:Addr} (GA:gc K mg aA) (O_facts_of:Own P w K mg base "facts_of" 1 ["stretches"] (je aA)):bw P w K mg base bX 2 f fd ["facts", "name", "stretch"] (mN aA):=by
 refine F.ok (k:=1) kH (fun vs H Q E h=>?_) (fun cdv A outer s H vs Q E hr h=>?_)
 ·obtain⟨fv,sv,x,T,s,rfl,_⟩:=h
  rfl
 ·obtain⟨fv,sv,x,T,s,rfl,hf,hs,bO,q⟩:=h
  refine⟨_,(af (aM (i:=3) kH.nd (ba (d8 rfl) rfl Z.dict jL (aJ (pv 0))))
   (af (jK (cZ hr) (pv 3) (pv 1) (pv 2) rfl)
   (ai (aB (au O_facts_of hr (aJ (pv 3))))))),?_⟩
  obtain⟨fp,xs,ss,rfl,hfp,srt,hmem,rf⟩:=hf
  obtain⟨kvs,l1,l2,l3,tb⟩:=FV.tb aA srt hmem rf
  have hssl:ss.length<=62:=bO ss (fun x hx=>(hmem x).mp hx) srt.nd
  have kl:kvs.length=ss.length:=by have:=congrArg List.length tb.keys;simpa using this
  refine⟨_,rfl,fp,xs,kvs,rfl,hfp,l1,l2,l3,fun d nd=>?_⟩
  have k1:∀ p zs,H p=some (.tup zs)->(upd H d (.dK kvs)) p=some (.tup zs):=fun p zs e=>ae.new nd _ _ e
  refine⟨_,rfl,_,rfl,_,rfl,d,_,rfl,j1.k (k:=Sum.inr x) aa (bp (by omega)),?_⟩
  obtain⟨ks2,t2,k2,m2⟩:=(tb.aI k1).put x (hs.aI k1)
  have hd1:(upd H d (.dK kvs)) d=some (.dK kvs):=aa
  refine⟨_,rfl,d,_,ks2,_,rfl,aa,t2.aI (fun p zs e=>by rw [ao (bJ e hd1 (by intro z;cases z))];exact e),(by omega),fun v H2 f2 s2=>q v H2 f2 (((ae.new nd).put nd).trans s2)⟩
theorem zq {f:Addr} {fd:FuncData} (F:b4 K "holds" "holds" o8 f fd) (Z:Bl mg) (O_lies_in:Own P w K mg base "lies_in" 1 ["number", "stretch"] (oY K)):bw P w K mg base bX 2 f fd ["facts", "worths"] sC:=by
 refine F.ok (k:=1) zm (fun vs H Q E h=>?_) (fun cdv A outer s H vs Q E hr h=>?_)
 ·obtain⟨fv,d,kvs,w,T,rfl,_⟩:=h
  rfl
 ·obtain⟨fv,d,kvs,w,T,rfl,hf,hd,dw,bO,q⟩:=h
  refine⟨_,(ai (aB (aX (jd rfl) rfl Z.all nY (aJ (cP ["name", "stretch"] ["worths"] [1] rfl (dY (pv 0)) rfl (by decide +kernel) (by decide +kernel) (by decide +kernel) ⟨⟨rfl,.inl rfl,rfl⟩,True.intro⟩ (fun _ _ _ _=>(iG (K:=K) (n:=2) rfl (cm (n:=2) rfl (aH (aF (i:=0) (show ((["name", "stretch"]:List Str)++(["worths"]:List Str)).Nodup by decide +kernel) (hf:=Or.inr rfl)) (aH (aF (i:=1) (show ((["name", "stretch"]:List Str)++(["worths"]:List Str)).Nodup by decide +kernel) (hf:=Or.inr rfl)) bR))))) (fun _ _ _ _=>dz) (fun _ _ _ _=>(au O_lies_in hr (av (cW (cZ hr) (pv 2) (pv 0) ah ⟨rfl,rfl,rfl,rfl⟩) (pv 1))))))))),?_⟩
  obtain⟨fp,xs,ss,rfl,hfp,srt,hmem,rf⟩:=hf
  refine⟨_,rfl,fp,rfl,⟨_,ar.of hfp⟩,fun acc na=>?_⟩
  refine jH (K:=K) (a:=fp) (xs:=xs) (fun i ys τ H'=>∃ c1 c2:Option V,τ = [c1,c2,some (.ref d)]/\ys=((ss.take i).map fun y=>cE (w y) (T y).1 (T y).2).map V.bl/\H' acc=some (.lst ys)/\ae H H') ?_ ?_ ?_ ?_
  ·exact⟨none,none,rfl,rfl,aa,ae.new na⟩
  ·rintro i ys τ H1 hi ⟨c1,c2,rfl,rfl,ha,s1⟩
   refine⟨ar.of (s1 _ _ hfp),ha,?_⟩
   rw [List.length_map,List.length_map,List.length_take]
   have h1:=bO ss (fun x hx=>(hmem x).mp hx) srt.nd
   exact bp (by omega)
  ·rintro i x ys τ H1 hi ⟨c1,c2,rfl,rfl,ha,s1⟩
   have hil:i < ss.length:=by
    have:=(List.getElem?_eq_some_iff.mp hi).1
    rw [rf.len,List.length_map] at this
    exact this
   have hyi:ss[i]? = some ss[i]:=by simp [hil]
   generalize ss[i] = y at hyi
   obtain⟨v,hv,rd⟩:=rf.get (i:=i) (d:=dF T y) (by rw [List.getElem?_map,hyi];rfl)
   rw [hi] at hv
   cases hv
   obtain⟨t,q2,rfl,ht,hq2⟩:=nZ rd
   refine⟨t,_,rfl,ar.of (s1 _ _ ht),rfl,_,_,rfl,_,_,rfl,rfl,?_⟩
   refine fX ?_
   refine aQ ?_
   refine⟨_,rfl,d,rfl,.inl ⟨kvs,.inl (s1 _ _ hd)⟩,_,rfl,_,_,cY.k (k:=Sum.inr y) (s1 _ _ hd),dw y,_,rfl,w y,q2,(T y).1,(T y).2,rfl,ar.of (s1 _ _ hq2),?_⟩
   refine⟨ha,_,_,rfl,?_,aa,s1.put na⟩
   rw [List.take_add_one,hyi,Option.toList_some,List.map_append,List.map_append]
   rfl
  ·rintro ys τ H1 ⟨c1,c2,rfl,rfl,ha,s1⟩
   have hxl:xs.length=ss.length:=by rw [rf.len,List.length_map]
   rw [hxl,List.take_length] at ha
   refine⟨acc,_,rfl,aP.of ha,?_⟩
   exact q _ H1 (xq hmem) s1
theorem xG {f:Addr} {fd:FuncData} (F:b4 K "covers" "covers" nr f fd) (Z:Bl mg) {aA:Addr} (GA:gc K mg aA) (O_is_within:Own P w K mg base "is_within" 1 ["one", "other"] (lr K)):bw P w K mg base bX 2 f fd ["facts", "others"] sD:=by
 refine F.ok (k:=1) qp (fun vs H Q E h=>?_) (fun cdv A outer s H vs Q E hr h=>?_)
 ·obtain⟨fv,gv,T,U,rfl,_⟩:=h
  rfl
 ·obtain⟨fv,gv,T,U,rfl,hf,hg,bO,q⟩:=h
  refine⟨_,(af (aM (i:=2) qp.nd (ba (d8 rfl) rfl Z.dict jL (aJ (pv 1))))
   (ai (aB (aX (jd rfl) rfl Z.all nY (aJ (cP ["name", "stretch"] ["stretches"] [2] rfl (dY (pv 0)) rfl (by decide +kernel) (by decide +kernel) (by decide +kernel) ⟨⟨rfl,.inl rfl,rfl⟩,True.intro⟩ (fun _ _ _ _=>(iG (K:=K) (n:=2) rfl (cm (n:=2) rfl (aH (aF (i:=0) (show ((["name", "stretch"]:List Str)++(["stretches"]:List Str)).Nodup by decide +kernel) (hf:=Or.inr rfl)) (aH (aF (i:=1) (show ((["name", "stretch"]:List Str)++(["stretches"]:List Str)).Nodup by decide +kernel) (hf:=Or.inr rfl)) bR))))) (fun _ _ _ _=>dz) (fun _ _ _ _=>(au O_is_within hr (av (cW (cZ hr) (pv 2) (pv 0) (fA (v:=.ref aA) rfl GA.mK rfl) ⟨rfl,rfl,rfl,rfl⟩) (pv 1)))))))))),?_⟩
  obtain⟨fp,xs,ss,rfl,hfp,srt,hmem,rf⟩:=hf
  obtain⟨gp,ys0,ss0,rfl,hgp,srt0,hmem0,rg⟩:=hg
  obtain⟨kvs,l1,l2,l3,tb⟩:=FV.tb aA srt0 hmem0 rg
  refine⟨_,rfl,gp,ys0,kvs,rfl,hgp,l1,l2,l3,fun d nd=>?_⟩
  have s0:=ae.new (o:=.dK kvs) nd
  have hd0:(upd H d (.dK kvs)) d=some (.dK kvs):=aa
  have rf2:=rf.same s0 (gd T ss)
  have hfp2:=s0 _ _ hfp
  have tb2:=tb.aI fun p zs e=>s0 _ _ e
  generalize (upd H d (.dK kvs))=HH at s0 hd0 rf2 hfp2 tb2
  refine⟨_,rfl,fp,rfl,⟨_,ar.of hfp2⟩,fun acc na=>?_⟩
  refine jH (K:=K) (a:=fp) (xs:=xs) (fun i ys τ H'=>∃ c1 c2:Option V,τ = [c1,c2,some (.ref d)]/\ys=((ss.take i).map fun y=>cJ (U y) (T y)).map V.bl/\H' acc=some (.lst ys)/\ae HH H') ?_ ?_ ?_ ?_
  ·exact⟨none,none,rfl,rfl,aa,ae.new na⟩
  ·rintro i ys τ H1 hi ⟨c1,c2,rfl,rfl,ha,s1⟩
   refine⟨ar.of (s1 _ _ hfp2),ha,?_⟩
   rw [List.length_map,List.length_map,List.length_take]
   have h1:=bO ss (fun x hx=>(hmem x).mp hx) srt.nd
   exact bp (by omega)
  ·rintro i x ys τ H1 hi ⟨c1,c2,rfl,rfl,ha,s1⟩
   have hil:i < ss.length:=by
    have:=(List.getElem?_eq_some_iff.mp hi).1
    rw [rf2.len,List.length_map] at this
    exact this
   have hyi:ss[i]? = some ss[i]:=by simp [hil]
   generalize ss[i] = y at hyi
   obtain⟨v,hv,rd⟩:=rf2.get (i:=i) (d:=dF T y) (by rw [List.getElem?_map,hyi];rfl)
   rw [hi] at hv
   cases hv
   obtain⟨t,q2,rfl,ht,hq2⟩:=nZ rd
   refine⟨t,_,rfl,ar.of (s1 _ _ ht),rfl,_,_,rfl,_,_,rfl,rfl,?_⟩
   refine fX ?_
   refine aQ ?_
   obtain⟨u,eu,su⟩:=(tb2.aI fun p zs e=>s1 _ _ e).getD y
   obtain⟨qa,rfl,hqa⟩:=su.sq GA
   refine⟨_,rfl,d,rfl,.inl ⟨kvs,.inl (s1 _ _ hd0)⟩,_,rfl,_,_,cY.k (k:=Sum.inr y) (s1 _ _ hd0),eu,_,rfl,qa,q2,U y,T y,rfl,hqa,ar.of (s1 _ _ hq2),?_⟩
   refine⟨ha,_,_,rfl,?_,aa,s1.put na⟩
   rw [List.take_add_one,hyi,Option.toList_some,List.map_append,List.map_append]
   rfl
  ·rintro ys τ H1 ⟨c1,c2,rfl,rfl,ha,s1⟩
   have hxl:xs.length=ss.length:=by rw [rf2.len,List.length_map]
   rw [hxl,List.take_length] at ha
   refine⟨acc,_,rfl,aP.of ha,?_⟩
   exact q _ H1 (xr hmem) (s0.trans s1)
theorem zr {f:Addr} {fd:FuncData} (F:b4 K "moved" "moved" o9 f fd) (Z:Bl mg)  : bw P w K mg base bX 1 f fd ["stretch", "number"] (uK K):=by
 refine F.ok (k:=0) nu (fun vs H Q E h=>?_) (fun cdv A outer s H vs Q E hr h=>?_)
 ·obtain⟨p,s,n,rfl,_⟩:=h
  rfl
 ·obtain⟨p,s,n,rfl,hp,q⟩:=h
  refine⟨_,(af (cx (pv 0) (cm rfl (aH (aF (i:=2) nu.nd) (aH (aF (i:=3) nu.nd) bR))))
   (ai (aB (aY (av (eQ (bW (cO (pv 2))) bH (aS cy (pv 2) (pv 1))) (eQ (bW (cO (pv 3))) bH (aS cy (pv 3) (pv 1)))))))),?_⟩
  obtain⟨lo,hi⟩:=s
  refine⟨_,rfl,p,_,rfl,hp,rfl,_,_,rfl,_,_,rfl,rfl,?_⟩
  cases lo with
  | none =>
   refine⟨_,rfl,_,rfl,aQ ?_⟩
   cases hi with
   | none=>exact⟨_,rfl,_,rfl,aQ ⟨ln2,fun t nt=>q _ _ ⟨t,rfl,aa⟩ (ae.new nt)⟩⟩
   | some b=>exact⟨_,rfl,_,rfl,aU ⟨_,rfl,_,rfl,_,_,rfl,rfl,ln2,fun t nt=>q _ _ ⟨t,rfl,aa⟩ (ae.new nt)⟩⟩
  | some a =>
   refine⟨_,rfl,_,rfl,aU ⟨_,rfl,_,rfl,_,_,rfl,rfl,?_⟩⟩
   cases hi with
   | none=>exact⟨_,rfl,_,rfl,aQ ⟨ln2,fun t nt=>q _ _ ⟨t,rfl,aa⟩ (ae.new nt)⟩⟩
   | some b=>exact⟨_,rfl,_,rfl,aU ⟨_,rfl,_,rfl,_,_,rfl,rfl,ln2,fun t nt=>q _ _ ⟨t,rfl,aa⟩ (ae.new nt)⟩⟩
theorem mH {f:Addr} {fd:FuncData} (F:b4 K "stretch_behind" "stretch_behind" fP f fd) (Z:Bl mg) {aA:Addr} (GA:gc K mg aA) (O_moved:Own P w K mg base "moved" 1 ["stretch", "number"] (uK K)):bw P w K mg base bX 2 f fd ["stretches", "deed"] (nX aA):=by
  refine F.ok (k:=1) ix (fun vs H Q E h=>?_) (fun cdv A outer s H vs Q E hr h=>?_)
  · obtain⟨d,w,kvs,ks,T,dd,rfl,_⟩:=h
    rfl
  · obtain⟨d,w,kvs,ks,T,dd,rfl,hd,tb,hw,q⟩:=h
    refine⟨_,(af (cQ (wk (i:=2) (j:=3) rfl ix.nd rfl rfl (by decide) rfl rfl (av (aw aR (pv 1) ah) (aw aR (pv 1) ah)) rfl))
      (af (aV (aG bK (pv 2) bI (aK _))
      (ai (aB (aY (av (aw aR (pv 1) ah) (aw aR (pv 1) ah)))))
      aL)
      (af (aV (aG bK (pv 2) bI (aK _))
      (ai (aB (cW (cZ hr) (pv 0) (aw aR (pv 1) ah) (fA (v:=.ref aA) rfl GA.mK rfl) ⟨rfl,rfl,rfl,rfl⟩)))
      aL)
      (af (aV (aG bK (pv 2) bI (aK _))
      (ai (aB (au O_moved hr (av (cW (cZ hr) (pv 0) (pv 3) (fA (v:=.ref aA) rfl GA.mK rfl) ⟨rfl,rfl,rfl,rfl⟩) (aw aR (pv 1) ah)))))
      aL)
      (af (aV (aG bK (pv 2) bI (aK _))
      (ai (aB (fA (v:=.ref aA) rfl GA.mK rfl)))
      aL)
      (ai (aB (cW (cZ hr) (pv 0) (pv 3) (fA (v:=.ref aA) rfl GA.mK rfl) ⟨rfl,rfl,rfl,rfl⟩)))))))),?_⟩
    cases dd
    case put x n =>
      refine⟨fun σ' H'=>σ' = [some (.ref d),some (.ref w),some (.str "put"),some (.str x)]/\H=H',⟨_,rfl,w,_,0,_,rfl,rfl,ar.of hw,cv,_,rfl,w,_,1,_,rfl,rfl,ar.of hw,cD,_,_,rfl,rfl,rfl⟩,?_⟩
      rintro σ' H' ⟨rfl,rfl⟩
      refine⟨_,rfl,rfl,_,rfl,?_⟩
      refine bV (show decide (V.str "put" = V.str "put")=true by decide +kernel) ?_
      exact⟨_,rfl,w,_,2,_,rfl,rfl,ar.of hw,at2,_,rfl,w,_,2,_,rfl,rfl,ar.of hw,at2,ln2,fun t nt=>q _ _ (.inl ⟨t,rfl,aa⟩) (ae.new nt)⟩
    case copy x y =>
      refine⟨fun σ' H'=>σ' = [some (.ref d),some (.ref w),some (.str "copy"),some (.str x)]/\H=H',⟨_,rfl,w,_,0,_,rfl,rfl,ar.of hw,cv,_,rfl,w,_,1,_,rfl,rfl,ar.of hw,cD,_,_,rfl,rfl,rfl⟩,?_⟩
      rintro σ' H' ⟨rfl,rfl⟩
      refine⟨_,rfl,rfl,_,rfl,?_⟩
      refine aZ (show decide (V.str "copy" = V.str "put")=false by decide +kernel) ?_
      refine⟨_,rfl,rfl,_,rfl,?_⟩
      refine bV (show decide (V.str "copy" = V.str "copy")=true by decide +kernel) ?_
      obtain⟨v,ev,sv⟩:=tb.getD y
      exact⟨_,rfl,d,rfl,.inl ⟨kvs,.inl hd⟩,_,rfl,w,_,2,_,rfl,rfl,ar.of hw,at2,_,v,cY.k (k:=Sum.inr y) hd,ev,q _ _ sv (ae.refl H)⟩
    case add x n =>
      refine⟨fun σ' H'=>σ' = [some (.ref d),some (.ref w),some (.str "add"),some (.str x)]/\H=H',⟨_,rfl,w,_,0,_,rfl,rfl,ar.of hw,cv,_,rfl,w,_,1,_,rfl,rfl,ar.of hw,cD,_,_,rfl,rfl,rfl⟩,?_⟩
      rintro σ' H' ⟨rfl,rfl⟩
      refine⟨_,rfl,rfl,_,rfl,?_⟩
      refine aZ (show decide (V.str "add" = V.str "put")=false by decide +kernel) ?_
      refine⟨_,rfl,rfl,_,rfl,?_⟩
      refine aZ (show decide (V.str "add" = V.str "copy")=false by decide +kernel) ?_
      refine⟨_,rfl,rfl,_,rfl,?_⟩
      refine bV (show decide (V.str "add" = V.str "add")=true by decide +kernel) ?_
      obtain⟨v,ev,sv⟩:=tb.getD x
      obtain⟨qa,rfl,hqa⟩:=sv.sq GA
      exact⟨_,rfl,d,rfl,.inl ⟨kvs,.inl hd⟩,_,rfl,_,_,cY.k (k:=Sum.inr x) hd,ev,_,rfl,w,_,2,_,rfl,rfl,ar.of hw,at2,qa,T x,n,rfl,hqa,fun v H' sh s1=>q _ _ (.inl sh) s1⟩
    case read x =>
      refine⟨fun σ' H'=>σ' = [some (.ref d),some (.ref w),some (.str "read"),some (.str x)]/\H=H',⟨_,rfl,w,_,0,_,rfl,rfl,ar.of hw,cv,_,rfl,w,_,1,_,rfl,rfl,ar.of hw,cD,_,_,rfl,rfl,rfl⟩,?_⟩
      rintro σ' H' ⟨rfl,rfl⟩
      refine⟨_,rfl,rfl,_,rfl,?_⟩
      refine aZ (show decide (V.str "read" = V.str "put")=false by decide +kernel) ?_
      refine⟨_,rfl,rfl,_,rfl,?_⟩
      refine aZ (show decide (V.str "read" = V.str "copy")=false by decide +kernel) ?_
      refine⟨_,rfl,rfl,_,rfl,?_⟩
      refine aZ (show decide (V.str "read" = V.str "add")=false by decide +kernel) ?_
      refine⟨_,rfl,rfl,_,rfl,?_⟩
      refine bV (show decide (V.str "read" = V.str "read")=true by decide +kernel) ?_
      exact q _ _ (.inr ⟨rfl,rfl⟩) (ae.refl H)
    case tell x =>
      refine⟨fun σ' H'=>σ' = [some (.ref d),some (.ref w),some (.str "tell"),some (.str x)]/\H=H',⟨_,rfl,w,_,0,_,rfl,rfl,ar.of hw,cv,_,rfl,w,_,1,_,rfl,rfl,ar.of hw,cD,_,_,rfl,rfl,rfl⟩,?_⟩
      rintro σ' H' ⟨rfl,rfl⟩
      refine⟨_,rfl,rfl,_,rfl,?_⟩
      refine aZ (show decide (V.str "tell" = V.str "put")=false by decide +kernel) ?_
      refine⟨_,rfl,rfl,_,rfl,?_⟩
      refine aZ (show decide (V.str "tell" = V.str "copy")=false by decide +kernel) ?_
      refine⟨_,rfl,rfl,_,rfl,?_⟩
      refine aZ (show decide (V.str "tell" = V.str "add")=false by decide +kernel) ?_
      refine⟨_,rfl,rfl,_,rfl,?_⟩
      refine aZ (show decide (V.str "tell" = V.str "read")=false by decide +kernel) ?_
      obtain⟨v,ev,sv⟩:=tb.getD x
      exact⟨_,rfl,d,rfl,.inl ⟨kvs,.inl hd⟩,_,rfl,_,v,cY.k (k:=Sum.inr x) hd,ev,q _ _ sv (ae.refl H)⟩
theorem xH {f:Addr} {fd:FuncData} (F:b4 K "behind" "behind" nv f fd) (Z:Bl mg) {aA:Addr} (GA:gc K mg aA) (O_stretch_behind:Own P w K mg base "stretch_behind" 2 ["stretches", "deed"] (nX aA)) (O_facts_of:Own P w K mg base "facts_of" 1 ["stretches"] (je aA)):bw P w K mg base bX 3 f fd ["facts", "deeds"] qf:=by
 refine F.ok (k:=2) lM (fun vs H Q E h=>?_) (fun cdv A outer s H vs Q E hr h=>?_)
 ·obtain⟨fv,p,ws,ds,T,pool,rfl,_⟩:=h
  rfl
 ·obtain⟨fv,p,ws,ds,T,pool,rfl,hf,hp,r,tok,dok,h64,q⟩:=h
  refine⟨_,(af (aM (i:=2) lM.nd (ba (d8 rfl) rfl Z.dict jL (aJ (pv 0))))
   (af (df PassesOwn.never rfl (dY (pv 1)) (aF (i:=3) lM.nd)
   (ai (jK (cZ hr) (pv 2) (aw aR (pv 3) ah) (au O_stretch_behind hr (av (pv 2) (pv 3))) rfl)))
   (ai (aB (au O_facts_of hr (aJ (pv 2))))))),?_⟩
  obtain⟨fp,xs,ss,rfl,hfp,srt,hmem,rf⟩:=hf
  obtain⟨kvs,l1,l2,l3,tb⟩:=FV.tb aA srt hmem rf
  have hssl:∀ x ∈ ss,x ∈ pool:=fun x hx=>tok.sup x ((hmem x).mp hx)
  refine⟨_,rfl,fp,xs,kvs,rfl,hfp,l1,l2,l3,fun d nd=>?_⟩
  have tb1:Tb aA (upd H d (.dK kvs)) kvs ss T:=tb.aI fun p xs e=>ae.new nd _ _ e
  refine⟨_,rfl,p,rfl,⟨_,ar.of (ae.new nd _ _ hp)⟩,gC (K:=K) (a:=p) (xs:=ws) (fun i σ H'=>∃ (c:Option V) (kvs':List (Key × V)) (ks':List Str),σ = [some (.ref fp),some (.ref p),some (.ref d),c]/\H' d=some (.dK kvs')/\Tb aA H' kvs' ks' (bB T (ds.take i))/\(∀ y ∈ ks',y ∈ pool)/\ae H H') ?_ ?_ ?_ ?_⟩
  ·exact⟨none,kvs,ss,rfl,aa,tb1,hssl,ae.new nd⟩
  ·rintro i σ H1 hi ⟨c,kvs1,ks1,rfl,h1,t1,k1,s1⟩
   exact ar.of (s1 _ _ hp)
  ·rintro i x σ H1 hi ⟨c,kvs1,ks1,rfl,h1,t1,k1,s1⟩
   have hil:i < ds.length:=by
    have:=(List.getElem?_eq_some_iff.mp hi).1
    rw [r.len,List.length_map] at this
    exact this
   have hdi:ds[i]? = some ds[i]:=by simp [hil]
   generalize ds[i] = dd at hdi
   obtain⟨v,hv,rd⟩:=r.get (i:=i) (d:=dP dd) (by rw [List.getElem?_map,hdi];rfl)
   rw [hi] at hv
   cases hv
   obtain⟨dp,rfl,hdp⟩:=gJ rd
   have tk:bB T (ds.take (i+1))=vG (bB T (ds.take i)) dd:=by
    unfold bB
    rw [List.take_add_one,hdi,Option.toList_some,List.foldl_append]
    rfl
   refine cf ?_
   refine⟨_,rfl,_,rfl,d,dp,kvs1,ks1,_,dd,rfl,h1,t1,s1 _ _ hdp,fun v H2 sv s2=>?_⟩
   have h2:=s2 _ _ h1
   have kl:kvs1.length=ks1.length:=by have:=congrArg List.length t1.keys;simpa using this
   have kl2:=sub_len t1.nd k1
   refine⟨_,rfl,_,rfl,dp,_,1,_,rfl,rfl,ar.of (s2 _ _ (s1 _ _ hdp)),yw dd,d,_,rfl,j1.k (k:=Sum.inr (mh dd)) h2 (bp (by omega)),?_⟩
   obtain⟨ks2,t2,_,k2⟩:=(t1.aI fun p xs e=>s2 _ _ e).put (mh dd) sv
   have hdn:mh dd ∈ pool:=(dok dd (List.mem_of_getElem? hdi)).name
   refine⟨_,_,ks2,rfl,aa,?_,(fun y hy=>((k2 y).mp hy).elim (k1 y) fun e=>e ▸ hdn),(s1.trans s2).put nd⟩
   rw [tk]
   exact t2.aI fun p xs e=>by rw [ao (bJ e h2 (by intro z;cases z))];exact e
  ·rintro σ H1 ⟨c,kvs1,ks1,rfl,h1,t1,k1,s1⟩
   have hwl:ws.length=ds.length:=by rw [r.len,List.length_map]
   rw [hwl,List.take_length] at t1
   refine⟨_,rfl,d,kvs1,ks1,_,rfl,h1,t1,(by have:=sub_len t1.nd k1;omega),fun v H2 f2 s2=>q v H2 f2 (s1.trans s2)⟩
theorem oB {f:Addr} {fd:FuncData} (F:b4 K "known_beyond" "known_beyond" gO f fd) (Z:Bl mg) {aA:Addr} (GA:gc K mg aA) (O_ways_on:Own P w K mg base "ways_on" 3 ["end"] rZ) (O_known:Own P w K mg base "known" 1 ["facts", "name"] (uN aA)) (O_part_of:Own P w K mg base "part_of" 3 ["stretch", "word", "number", "side"] (uO K)) (O_with_known:Own P w K mg base "with_known" 2 ["facts", "name", "stretch"] (mN aA)):bw P w K mg base bX 4 f fd ["facts", "end"] (sE aA):=by
  refine F.ok (k:=3) cV (fun vs H Q E h=>?_) (fun cdv A outer s H vs Q E hr h=>?_)
  · obtain⟨fv,ea,T,e,rfl,_⟩:=h
    rfl
  · obtain⟨fv,ea,T,e,rfl,hf,he,bO,q⟩:=h
    refine⟨_,(af (aM (i:=2) cV.nd (au O_ways_on hr (aJ (pv 1))))
      (af (aV (aG gR (aX bh rfl Z.len cF (aJ (pv 2))) ah (aK _))
      (ai (aB (ba bF rfl Z.tuple cG (aJ (cP ["way"] ["facts"] [0] rfl (dY (pv 2)) rfl (by decide +kernel) (by decide +kernel) (by decide +kernel) ⟨⟨rfl,.inl rfl,rfl⟩,True.intro⟩ (fun _ _ _ _=>(aF (i:=0) (show ((["way"]:List Str)++(["facts"]:List Str)).Nodup by decide +kernel) (hf:=Or.inr rfl))) (fun _ _ _ _=>dz) (fun _ _ _ _=>(pv 1)))))))
      aL)
      (af (cQ (cx (aY (ft (aw aR (pv 1) ah) (aw aR (pv 1) ah) (aw aR (pv 1) ah))) (cm rfl (aH (aF (i:=3) cV.nd) (aH (aF (i:=4) cV.nd) (aH (aF (i:=5) cV.nd) bR))))))
      (af (aM (i:=6) cV.nd (au O_known hr (av (pv 0) (pv 4))))
      (af (rG (i:=7) ["side"] ["stretch", "word", "number"] [6,3,5] rfl cV.nd rfl rfl rfl (dY (aY (av cN cN))) rfl (by decide +kernel) (by decide +kernel) (by decide +kernel) ⟨⟨rfl,.inl rfl,rfl⟩,⟨⟨rfl,.inl rfl,rfl⟩,⟨⟨rfl,.inl rfl,rfl⟩,True.intro⟩⟩⟩ (fun _ _ _ _=>(aF (i:=0) (show ((["side"]:List Str)++(["stretch", "word", "number"]:List Str)).Nodup by decide +kernel) (hf:=Or.inr rfl))) (fun _ _ _ _=>dz) (fun _ _ _ _=>(au O_part_of hr (BD (pv 1) (pv 2) (pv 3) (pv 0)))))
      (ai (aB (ba bF rfl Z.tuple cG (aJ (cP ["part"] ["facts", "name"] [0,4] rfl (gB (pv 7)) rfl (by decide +kernel) (by decide +kernel) (by decide +kernel) ⟨⟨rfl,.inl rfl,rfl⟩,⟨⟨rfl,.inl rfl,rfl⟩,True.intro⟩⟩ (fun _ _ _ _=>(aF (i:=0) (show ((["part"]:List Str)++(["facts", "name"]:List Str)).Nodup by decide +kernel) (hf:=Or.inr rfl))) (fun _ _ _ _=>dz) (fun _ _ _ _=>(eQ (bW (cO (pv 0))) bH (au O_with_known hr (ft (pv 1) (pv 2) (pv 0))))))))))))))),?_⟩
    refine⟨_,rfl,ea,e,rfl,he,fun wt H1 hw s1=>?_⟩
    have he1:=s1 _ _ he
    have hf1:=hf.same s1
    refine⟨_,rfl,wt,_,rfl,.inr (ar.of hw),_,_,rfl,rfl,_,rfl,?_⟩
    by_cases hl:(bQ e).length < 2
    · refine bV (decide_eq_true (by rw [List.length_map];omega)) ?_
      refine⟨_,rfl,wt,rfl,⟨_,ar.of hw⟩,fun acc na=>?_⟩
      refine jH (K:=K) (a:=wt) (xs:=(bQ e).map fun k=>V.int (k:Nat)) (fun i zs τ H'=>∃ c:Option V,τ = [c,some fv]/\zs=List.replicate i fv/\H' acc=some (.lst zs)/\ae H1 H') ?_ ?_ ?_ ?_
      · exact⟨none,rfl,rfl,aa,ae.new na⟩
      · rintro i zs τ H2 hi ⟨c,rfl,rfl,ha,s2⟩
        refine⟨ar.of (s2 _ _ hw),ha,?_⟩
        rw [List.length_replicate]
        rw [List.length_map] at hi
        exact bp (by omega)
      · rintro i x zs τ H2 hi ⟨c,rfl,rfl,ha,s2⟩
        refine cf ?_
        refine fX ?_
        refine aQ ?_
        refine⟨_,rfl,ha,_,rfl,?_,aa,s2.put na⟩
        rw [<-List.replicate_succ']
      · rintro zs τ H2 ⟨c,rfl,rfl,ha,s2⟩
        rw [List.length_map] at ha
        refine⟨acc,_,rfl,.inl ⟨aP.of ha,fun t nt=>?_⟩⟩
        refine q t _ _ aa ?_ ((s1.trans s2).trans (ae.new nt))
        rw [Am hl]
        exact uQ (hf1.same (s2.trans (ae.new nt))) _
    · refine aZ (decide_eq_false (by rw [List.length_map];omega)) ?_
      cases e with
      | stop=>exact absurd (by show 0 < 2;omega) hl
      | go p=>exact absurd (by show 1 < 2;omega) hl
      | dA b x n p r =>
        refine⟨fun σ' H'=>σ' = [some fv,some (.ref ea),some (.ref wt),some (.str (wT b)),some (.str x),some (.int n),none,none]/\ae H1 H',?_,?_⟩
        · refine⟨_,rfl,ea,_,0,_,rfl,rfl,ar.of he1,cv,_,rfl,ea,_,1,_,rfl,rfl,ar.of he1,cD,_,rfl,ea,_,2,_,rfl,rfl,ar.of he1,at2,rD,fun tt htt=>?_⟩
          exact⟨tt,_,rfl,ar.of aa,rfl,_,_,rfl,_,_,rfl,_,_,rfl,rfl,rfl,ae.new htt⟩
        rintro σ' H2 ⟨rfl,s2⟩
        refine⟨_,rfl,_,rfl,fv,x,T,rfl,hf1.same s2,fun sv H3 hsv s3=>?_⟩
        obtain⟨sp,rfl,hsp⟩:=hsv.sq GA
        have s13:=s2.trans s3
        refine⟨ln2,fun st hst=>⟨st,rfl,⟨_,ar.of aa⟩,fun acc na=>?_⟩⟩
        have s4:=ae.new (o:=.tup [.bl true,.bl false]) hst
        have hst4:(upd H3 st (.tup [.bl true,.bl false])) st=some (.tup [.bl true,.bl false]):=aa
        generalize (upd H3 st (.tup [.bl true,.bl false]))=H4 at s4 hst4 na
        refine jH (K:=K) (a:=st) (xs:=[.bl true,.bl false]) (fun i zs τ H'=>∃ c:Option V,τ = [c,some (.ref sp),some (.str (wT b)),some (.int n)]/\mO H' zs ([e7 T b x n true,e7 T b x n false].take i)/\H' acc=some (.lst zs)/\ae H4 H') ?_ ?_ ?_ ?_
        · exact⟨none,rfl,.nil,aa,ae.new na⟩
        · rintro i zs τ H5 hi ⟨c,rfl,rv,ha,s5⟩
          refine⟨ar.of (s5 _ _ hst4),ha,?_⟩
          have h1:=Paired.length rv
          rw [List.length_take] at h1
          exact bp (by rw [h1];exact Nat.le_trans (Nat.min_le_right _ _) (by show 2<=1000;decide))
        · rintro i y zs τ H5 hi ⟨c,rfl,rv,ha,s5⟩
          obtain⟨side,rfl,hsd⟩:∃ side:Bool,y=.bl side/\[e7 T b x n true,e7 T b x n false][i]? = some (e7 T b x n side):=by
            match i,hi with
            | 0,hi=>cases hi;exact⟨true,rfl,rfl⟩
            | 1,hi=>cases hi;exact⟨false,rfl,rfl⟩
            | i+2,hi=>simp at hi
          refine cf ?_
          refine fX ?_
          refine aQ ?_
          refine⟨_,rfl,_,rfl,_,rfl,_,rfl,sp,wT b,n,side,_,_,rfl,hsp.same (s4.trans s5),fun v H6 r6 s6=>?_⟩
          have ha6:=s6 _ _ ha
          refine⟨ha6,_,rfl,?_,aa,(s5.trans s6).put na⟩
          rw [List.take_add_one,hsd]
          exact d9 ((rv.same s6).put ha6) (.cons (RV.put r6 ha6) .nil)
        · rintro zs τ H5 ⟨c,rfl,rv,ha,s5⟩
          have s15:=s13.trans (s4.trans s5)
          have rv:mO H5 zs [e7 T b x n true,e7 T b x n false]:=rv
          have rvl:zs.length=2:=Paired.length rv
          refine⟨_,rfl,acc,rfl,⟨_,aP.of ha⟩,fun ac2 na2=>?_⟩
          refine oP (K:=K) (a:=acc) (xs:=zs) (fun i us τ H'=>∃ c:Option V,τ = [c,some fv,some (.str x)]/\bU H' us ((gg T (.dA b x n p r)).take i)/\H' ac2=some (.lst us)/\ae H5 H') ?_ ?_ ?_ ?_
          · exact⟨none,rfl,.nil,aa,ae.new na2⟩
          · rintro i us τ H6 hi ⟨c,rfl,bv,ha2,s6⟩
            refine⟨aP.of (s6 _ _ ha),ha2,?_⟩
            have h1:=Paired.length bv
            rw [List.length_take] at h1
            exact bp (by rw [h1];exact Nat.le_trans (Nat.min_le_right _ _) (by show 2<=1000;decide))
          · rintro i y us τ H6 hi ⟨c,rfl,bv,ha2,s6⟩
            obtain⟨rs,hrs,hry⟩:=fo rv hi
            have hb:(gg T (.dA b x n p r))[i]? = some (rs.map (cg T x)):=by
              show ([e7 T b x n true,e7 T b x n false].map fun z:Rs=>Option.map (cg T x) z)[i]? = _
              rw [List.getElem?_map,hrs];rfl
            refine cf ?_
            refine fX ?_
            refine aQ ?_
            cases rs with
            | none =>
              cases (show y=V.aC from hry)
              refine⟨_,rfl,_,rfl,aQ ?_⟩
              refine⟨ha2,_,rfl,?_,aa,s6.put na2⟩
              rw [List.take_add_one,hb]
              refine d9 (bv.aI fun p zs e=>?_) (.cons rfl .nil)
              rw [ao (bJ e ha2 (by intro z;cases z))];exact e
            | some s =>
              have hsv6:SV aA H6 y s:=RV.sv (hry.same s6)
              obtain⟨yp,rfl,hyp⟩:∃ yp,y=.ref yp/\True:=by
                obtain⟨a1,b1⟩:=s
                obtain⟨yp,e,_⟩:=hry
                exact⟨yp,e,trivial⟩
              refine⟨_,rfl,_,rfl,aU ?_⟩
              refine⟨_,rfl,_,rfl,_,rfl,fv,.ref yp,x,T,s,rfl,hf1.same (s13.trans (s4.trans (s5.trans s6))),hsv6,bO,fun v H7 f7 s7=>?_⟩
              have ha7:=s7 _ _ ha2
              refine⟨ha7,_,rfl,?_,aa,(s6.trans s7).put na2⟩
              rw [List.take_add_one,hb]
              have kt:∀ p zs,H7 p=some (.tup zs)->(upd H7 ac2 (.lst (us ++ [v]))) p=some (.tup zs):=fun p zs e=>by rw [ao (bJ e ha7 (by intro z;cases z))];exact e
              exact d9 ((bv.same s7).aI kt) (.cons (FV.aI f7 kt) .nil)
          · rintro us τ H6 ⟨c,rfl,bv,ha2,s6⟩
            rw [rvl] at bv
            refine⟨ac2,_,rfl,.inl ⟨aP.of ha2,fun t nt=>?_⟩⟩
            exact q t _ _ aa (bU.same (show bU H6 us (gg T (.dA b x n p r)) from bv) (ae.new nt)) ((s1.trans (s15.trans s6)).trans (ae.new nt))
theorem zt {f:Addr} {fd:FuncData} (F:b4 K "leads" "leads" ph f fd) (Z:Bl mg) (O_known_beyond:Own P w K mg base "known_beyond" 4 ["facts", "end"] (sE aA)) (O_ways_on:Own P w K mg base "ways_on" 3 ["end"] rZ):bw P w K mg base bX 5 f fd ["facts", "end"] (uP aA):=by
 refine F.ok (k:=4) tj (fun vs H Q E h=>?_) (fun cdv A outer s H vs Q E hr h=>?_)
 ·obtain⟨fv,ea,T,e,rfl,_⟩:=h
  rfl
 ·obtain⟨fv,ea,T,e,rfl,hf,he,bO,q⟩:=h
  refine⟨_,(af (aM (i:=2) tj.nd (au O_known_beyond hr (av (pv 0) (pv 1))))
   (ai (aB (ba bF rfl Z.tuple cG (aJ (cP ["way", "there"] [] [] rfl (nR rfl Z.zip (av (au O_ways_on hr (aJ (pv 1))) (pv 2))) rfl (by decide +kernel) (by decide +kernel) (by decide +kernel) True.intro (fun _ _ _ _=>(iG (K:=K) (n:=2) rfl (cm (n:=2) rfl (aH (aF (i:=0) (show ((["way", "there"]:List Str)++([]:List Str)).Nodup by decide +kernel) (hf:=Or.inr rfl)) (aH (aF (i:=1) (show ((["way", "there"]:List Str)++([]:List Str)).Nodup by decide +kernel) (hf:=Or.inr rfl)) bR))))) (fun _ _ _ _=>(oO (bW (cA (pv 1))))) (fun _ _ _ _=>(aY (av (pv 0) (pv 1)))))))))),?_⟩
  refine⟨_,rfl,_,rfl,fv,ea,T,e,rfl,hf,he,bO,fun bt us H1 hb bv s1=>?_⟩
  refine⟨_,rfl,ea,e,rfl,s1 _ _ he,fun wt H2 hw s2=>?_⟩
  have hb2:=s2 _ _ hb
  have bv2:=bv.same s2
  refine⟨_,rfl,wt,bt,rfl,⟨_,ar.of hw⟩,⟨_,ar.of hb2⟩,fun acc na=>?_⟩
  refine rV (K:=K) (a:=wt) (b:=bt) (xs:=(bQ e).map fun k=>V.int (k:Nat)) (ys:=us) (fun i zs τ H'=>∃ (c1 c2:Option V),τ = [c1,c2]/\kC H' zs ((((bQ e).zip (gg T e)).take i).filterMap fun p=>p.2.map fun U=>(p.1,U))/\zs.length<=i/\H' acc=some (.lst zs)/\ae H2 H') ?_ ?_ ?_ ?_
  ·exact⟨none,none,rfl,.nil,Nat.le_refl _,aa,ae.new na⟩
  ·rintro i zs τ H3 hi ⟨c1,c2,rfl,pv,hz,ha,s3⟩
   refine⟨ar.of (s3 _ _ hw),ar.of (s3 _ _ hb2),ha,?_⟩
   have h1:i<=(bQ e).length:=by rw [List.length_map] at hi;omega
   have h2:(bQ e).length<=2:=by cases e <;> (show _<=2) <;> simp [bQ]
   exact bp (by omega)
  ·rintro i x y zs τ H3 u hx hy hu ⟨c1,c2,rfl,pv,hz,ha,s3⟩
   obtain⟨k,hk,rfl⟩:∃ k,(bQ e)[i]? = some k/\x=V.int (k:Nat):=by
    rw [List.getElem?_map] at hx
    cases z:(bQ e)[i]? with
    | none=>rw [z] at hx;cases hx
    | some k=>rw [z] at hx;exact⟨k,rfl,(Option.some.inj hx).symm⟩
   obtain⟨o,ho,hyo⟩:=fo bv2 hy
   have hnext:=qc (T:=T) hk ho
   have su:=ae.new (o:=.tup [.int (k:Nat),y]) hu
   have hu4:(upd H3 u (.tup [.int (k:Nat),y])) u=some (.tup [.int (k:Nat),y]):=aa
   generalize (upd H3 u (.tup [.int (k:Nat),y]))=H4 at su hu4
   refine⟨u,_,rfl,ar.of hu4,rfl,_,_,rfl,_,_,rfl,rfl,?_⟩
   refine⟨_,rfl,_,rfl,?_⟩
   cases o with
   | none =>
    cases (show y=V.aC from hyo)
    refine aU ?_
    refine⟨_,_,rfl,?_,Nat.le_succ_of_le hz,su _ _ ha,s3.trans su⟩
    rw [hnext]
    simpa using pv.same su
   | some U =>
    obtain⟨yp,zsy,ssy,rfl,_⟩:=id hyo
    refine aQ ?_
    refine⟨_,rfl,_,rfl,ln2,fun t nt=>?_⟩
    have s5:=ae.new (o:=.tup [.int (k:Nat),.ref yp]) nt
    have ht:(upd H4 t (.tup [.int (k:Nat),.ref yp])) t=some (.tup [.int (k:Nat),.ref yp]):=aa
    generalize (upd H4 t (.tup [.int (k:Nat),.ref yp]))=H5 at s5 ht
    have ha5:=s5 _ _ (su _ _ ha)
    have kt:∀ p ws,H5 p=some (.tup ws)->(upd H5 acc (.lst (zs ++ [V.ref t]))) p=some (.tup ws):=fun p ws e=>by rw [ao (bJ e ha5 (by intro z;cases z))];exact e
    refine⟨ha5,_,_,rfl,?_,(by rw [List.length_append];show _+1<=_;omega),aa,(s3.trans (su.trans s5)).put na⟩
    rw [hnext]
    exact d9 ((pv.same (su.trans s5)).aI kt) (.cons ⟨t,.ref yp,rfl,kt _ _ ht,FV.aI (FV.same hyo (s3.trans (su.trans s5))) kt⟩ .nil)
  ·rintro zs τ H3 ⟨c1,c2,rfl,pv,hz,ha,s3⟩
   have hm:min ((bQ e).map fun k=>V.int (k:Nat)).length us.length=((bQ e).zip (gg T e)).length:=by
    rw [List.length_zip,List.length_map,Paired.length bv2]
   rw [hm,List.take_length] at pv
   refine⟨acc,_,rfl,.inl ⟨aP.of ha,fun t nt=>?_⟩⟩
   exact q t zs _ aa (kC.same (show kC H3 zs (de T e) from pv) (ae.new nt)) (((s1.trans s2).trans s3).trans (ae.new nt))
theorem zu {f:Addr} {fd:FuncData} (F:b4 K "start" "start" pA f fd) (Z:Bl mg) (O_names_of:Own P w K mg base "names_of" 3 ["plan"] pX):bw P w K mg base bX 4 f fd ["plan"] uR:=by
 refine F.ok (k:=3) zo (fun vs H Q E h=>?_) (fun cdv A outer s H vs Q E hr h=>?_)
 ·obtain⟨plv,ps,xs,m,rfl,_⟩:=h
  rfl
 ·obtain⟨plv,ps,xs,m,rfl,hp,pok,hx,hal,q⟩:=h
  refine⟨_,(ai (aB (ba bF rfl Z.tuple cG (aJ (cP ["name"] [] [] rfl (dY (au O_names_of hr (aJ (pv 0)))) rfl (by decide +kernel) (by decide +kernel) (by decide +kernel) True.intro (fun _ _ _ _=>(aF (i:=0) (show ((["name"]:List Str)++([]:List Str)).Nodup by decide +kernel) (hf:=Or.inr rfl))) (fun _ _ _ _=>dz) (fun _ _ _ _=>(aY (av (pv 0) (aY (av ah ah)))))))))),?_⟩
  refine⟨_,rfl,plv,ps,xs,m,rfl,hp,pok,hx,hal,fun nt ss H1 hnt hperm hsort hsl s1=>?_⟩
  refine⟨nt,rfl,⟨_,ar.of hnt⟩,fun acc na=>?_⟩
  refine jH (K:=K) (a:=nt) (xs:=ss.map V.str) (fun i zs τ H'=>∃ c:Option V,τ = [c]/\bu H' zs ((ss.take i).map fun x=>.tuple [.str x,.tuple [.int 0,.int 0]])/\H' acc=some (.lst zs)/\ae H1 H') ?_ ?_ ?_ ?_
  ·exact⟨none,rfl,.nil,aa,ae.new na⟩
  ·rintro i zs τ H2 hi ⟨c,rfl,r,ha,s2⟩
   refine⟨ar.of (s2 _ _ hnt),ha,?_⟩
   have h1:=r.len
   rw [List.length_map,List.length_take] at h1
   exact bp (by omega)
  ·rintro i x zs τ H2 hi ⟨c,rfl,r,ha,s2⟩
   obtain⟨y,hy,rfl⟩:∃ y,ss[i]? = some y/\x=V.str y:=by
    rw [List.getElem?_map] at hi
    cases e:ss[i]? with
    | none=>rw [e] at hi;cases hi
    | some k=>rw [e] at hi;exact⟨k,rfl,(Option.some.inj hi).symm⟩
   refine cf ?_
   refine fX ?_
   refine aQ ?_
   refine⟨_,rfl,ln2,fun t1 n1=>⟨ln2,fun t2 n2=>?_⟩⟩
   have q1:=ae.new (o:=.tup [.int 0,.int 0]) n1
   have q2:=ae.new (o:=.tup [.str y,.ref t1]) n2
   have ha3:=q2 _ _ (q1 _ _ ha)
   have kt:∀ p ws,(upd (upd H2 t1 (.tup [.int 0,.int 0])) t2 (.tup [.str y,.ref t1])) p=some (.tup ws)->(upd (upd (upd H2 t1 (.tup [.int 0,.int 0])) t2 (.tup [.str y,.ref t1])) acc (.lst (zs ++ [V.ref t2]))) p=some (.tup ws):=fun p ws e=>by rw [ao (bJ e ha3 (by intro z;cases z))];exact e
   refine⟨ha3,_,rfl,?_,aa,((s2.trans q1).trans q2).put na⟩
   rw [List.take_add_one,hy,List.map_append]
   exact (((r.same q1 (ic _)).same q2 (ic _)).aI kt (ic _)).app (.tup (kt _ _ aa) (.cons (.str _) (.cons (.tup (kt _ _ (q2 _ _ aa)) (.cons (.int _) (.cons (.int _) .nil))) .nil)))
  ·rintro zs τ H2 ⟨c,rfl,r,ha,s2⟩
   rw [List.length_map,List.take_length] at r
   refine⟨acc,_,rfl,.inl ⟨aP.of ha,fun t ht=>?_⟩⟩
   exact q (.ref t) ss _ (.tup aa (r.same (ae.new ht) (ic _))) hperm hsort ((s1.trans s2).trans (ae.new ht))
theorem xI {f:Addr} {fd:FuncData} (F:b4 K "is_met" "is_met" ny f fd) (Z:Bl mg) (O_covers:Own P w K mg base "covers" 2 ["facts", "others"] sD):bw P w K mg base bX 3 f fd ["lead", "table"] oZ:=by
 refine F.ok (k:=2) qq (fun vs H Q E h=>?_) (fun cdv A outer s H vs Q E hr h=>?_)
 ·obtain⟨lv,ta,us,tab,k,U,rfl,_⟩:=h
  rfl
 ·obtain⟨lv,ta,us,tab,k,U,rfl,hl,hta,hb,hk,bO,q⟩:=h
  refine⟨_,(af (aM (i:=2) qq.nd (aw Bs (pv 1) (aw aR (pv 0) ah)))
   (ai (aB (jB (fG (cA (pv 2))) (eD (au O_covers hr (av (pv 2) (aw aR (pv 0) ah)))))))),?_⟩
  obtain⟨lq,u,rfl,hlq,hu⟩:=hl
  have hlq:H lq=some (.tup [.int (k:Nat),u]):=hlq
  have hu:FV H u U:=hu
  have aN:tab[k]? = some tab[k]:=by simp [hk]
  generalize tab[k] = o at aN
  obtain⟨ev,hev,bo⟩:=eW hb aN
  have fin:∀ {Q':VK},Q' ev H->(fun x i H Q=>rm K x i H Q\/yd K x i H Q) (.ref ta) (.int (k:Nat)) H Q':=fun {Q'} h=>by
   rcases hta with hta | hta
   ·exact .inl ⟨ta,_,_,_,rfl,rfl,aP.of hta,bC hev,h⟩
   ·exact .inr ⟨ta,_,_,_,rfl,rfl,ar.of hta,bC hev,h⟩
  refine⟨_,rfl,_,rfl,lq,_,0,_,rfl,rfl,ar.of hlq,cv,fin ?_⟩
  cases o with
  | none =>
   have bo:ev=.aC:=bo
   subst bo
   refine⟨_,rfl,_,rfl,aZ rfl ?_⟩
   refine q false H ⟨(fun h=>nomatch h),fun ⟨T,h,_⟩=>?_⟩ (ae.refl H)
   have h:tab[k]? = some (some T):=h
   rw [aN] at h
   cases h
  | some T =>
   have bo:FV H ev T:=bo
   have hne:decide (ev=V.aC)=false:=by
    obtain⟨p,_,_,rfl,_⟩:=bo
    rfl
   refine⟨_,rfl,_,rfl,bV (by rw [hne];rfl) ?_⟩
   refine⟨_,rfl,_,rfl,lq,_,1,_,rfl,rfl,ar.of hlq,cD,ev,u,T,U,rfl,bo,hu,bO T (List.mem_of_getElem? aN),fun b H1 hb1 s1=>?_⟩
   refine q b H1 (hb1.trans ⟨fun h=>⟨T,aN,h⟩,fun ⟨T',h,h'⟩=>?_⟩) s1
   have h:tab[k]? = some (some T'):=h
   rw [aN] at h
   cases h
   exact h'
theorem qE {f:Addr} {fd:FuncData} (F:b4 K "leads_from" "leads_from" i4 f fd) (Z:Bl mg) (O_leads:Own P w K mg base "leads" 5 ["facts", "end"] (uP aA)) (O_behind:Own P w K mg base "behind" 3 ["facts", "deeds"] qf):bw P w K mg base bX 6 f fd ["entry", "piece"] jn:=by
 refine F.ok (k:=5) ir (fun vs H Q E h=>?_) (fun cdv A outer s H vs Q E hr h=>?_)
 ·obtain⟨fv,pc,da,ea,ws,ds,e,T,xs,rfl,_⟩:=h
  rfl
 ·obtain⟨fv,pc,da,ea,ws,ds,e,T,xs,rfl,hf,hpc,hda,hws,hea,tok,dok,h62,q⟩:=h
  refine⟨_,(af (cx (pv 1) (cm rfl (aH (aF (i:=2) ir.nd) (aH (aF (i:=3) ir.nd) bR))))
   (ai (aB (au O_leads hr (av (au O_behind hr (av (pv 0) (pv 2))) (pv 3)))))),?_⟩
  refine⟨_,rfl,pc,_,rfl,ar.of hpc,rfl,_,_,rfl,_,_,rfl,rfl,?_⟩
  refine⟨_,rfl,_,rfl,fv,da,ws,ds,T,xs,rfl,hf,hda,hws,tok,dok,(by omega),fun v H1 f1 s1=>?_⟩
  have bO:gf (bB T ds) 62:=fun ss a b=>Nat.le_trans ((tok.lC dok).bO ss a b) h62
  refine⟨_,rfl,v,ea,_,e,rfl,f1,s1 _ _ hea,bO,fun t vs H2 ht hv s2=>?_⟩
  exact q t vs H2 ht hv (s1.trans s2)
theorem oC {f:Addr} {fd:FuncData} (F:b4 K "entry_stands" "entry_stands" gP f fd) (Z:Bl mg) (O_is_met:Own P w K mg base "is_met" 3 ["lead", "table"] oZ) (O_leads_from:Own P w K mg base "leads_from" 6 ["entry", "piece"] jn):bw P w K mg base bX 7 f fd ["entry", "piece", "table"] kF:=by
 refine F.ok (k:=6) oz (fun vs H Q E h=>?_) (fun cdv A outer s H vs Q E hr h=>?_)
 ·obtain⟨ev,pc,da,ea,ta,ws,us,ds,e,o,tab,xs,rfl,_⟩:=h
  rfl
 ·obtain⟨ev,pc,da,ea,ta,ws,us,ds,e,o,tab,xs,rfl,bo,hpc,hda,hws,hea,hta,hb,tok,tabok,dok,eok,h62,q⟩:=h
  refine⟨_,(ai (aB (jU (fG (cO (pv 0))) (eD (aX (jd rfl) rfl Z.all nY (aJ (cP ["lead"] ["table"] [2] rfl (dY (au O_leads_from hr (av (pv 0) (pv 1)))) rfl (by decide +kernel) (by decide +kernel) (by decide +kernel) ⟨⟨rfl,.inl rfl,rfl⟩,True.intro⟩ (fun _ _ _ _=>(aF (i:=0) (show ((["lead"]:List Str)++(["table"]:List Str)).Nodup by decide +kernel) (hf:=Or.inr rfl))) (fun _ _ _ _=>dz) (fun _ _ _ _=>(au O_is_met hr (av (pv 0) (pv 1))))))))))),?_⟩
  refine⟨_,rfl,_,rfl,?_⟩
  cases o with
  | none =>
   have bo:ev=.aC:=bo
   subst bo
   refine bV rfl ?_
   exact q true H ⟨fun _ T e=>(nomatch e),fun _=>rfl⟩ (ae.refl H)
  | some T =>
   have bo:FV H ev T:=bo
   have hne:decide (ev=V.aC)=false:=by
    obtain⟨p,_,_,rfl,_⟩:=bo
    rfl
   have tok:=tok T rfl
   refine aZ hne ?_
   refine⟨_,rfl,_,rfl,ev,pc,da,ea,ws,ds,e,T,xs,rfl,bo,hpc,hda,hws,hea,tok,dok,h62,fun t vs H1 ht hv s1=>?_⟩
   refine⟨t,rfl,⟨_,ar.of ht⟩,fun acc na=>?_⟩
   have hld:∀ ld ∈ de (bB T ds) e,ld.1 < tab.length:=fun ld h=>(mq (tok.lC dok) eok ld h).1
   generalize hls:de (bB T ds) e=ls at hv hld
   refine jH (K:=K) (a:=t) (xs:=vs) (fun i ys τ H'=>∃ (c1:Option V) (bs:List Bool),τ = [c1,some (.ref ta)]/\ys=bs.map V.bl/\H' acc=some (.lst ys)/\Paired (fun (b:Bool) ld=>(b=true ↔ Met tab ld)) bs (ls.take i)/\ae H1 H') ?_ ?_ ?_ ?_
   ·exact⟨none,[],rfl,rfl,aa,.nil,ae.new na⟩
   ·rintro i ys τ H2 hi ⟨c1,bs,rfl,rfl,h1,h2,h3⟩
    refine⟨ar.of (h3 _ _ ht),h1,fY ?_⟩
    have l1:=cU h2
    have l2:=cU hv
    have l3:=(yS (e:=e) (tok.lC dok)).2
    rw [List.length_take] at l1
    rw [hls] at l3
    rw [List.length_map]
    omega
   ·rintro i x ys τ H2 hx ⟨c1,bs,rfl,rfl,h1,h2,h3⟩
    obtain⟨ld,hld1,pv⟩:=L2.fo hv hx
    have hlt:=hld ld (List.mem_of_getElem? hld1)
    first | (change ∃ v,_/\_) | ((try refine cf ?_);refine fX ?_;refine aQ ?_)
    refine⟨_,rfl,_,rfl,x,ta,us,tab,ld.1,ld.2,rfl,(PV.aI pv fun p zs e=>h3 _ _ e),.inr (h3 _ _ (s1 _ _ hta)),(bU.same hb s1).same h3,hlt,(fun T hT=>fun ss a b=>Nat.le_trans ((tabok T hT).bO ss a b) (by omega)),fun b H3 hb3 s3=>?_⟩
    refine⟨s3 _ _ h1,_,bs ++ [b],rfl,(by rw [List.map_append];rfl),aa,?_,(h3.trans s3).put na⟩
    rw [List.take_add_one,hld1]
    exact LS.jm (F:=fun (b:Bool) ld=>(b=true ↔ Met tab ld)) hb3 h2
   ·rintro ys τ H2 ⟨c1,bs,rfl,rfl,h1,h2,h3⟩
    rw [cU hv,List.take_of_length_le (Nat.le_refl _),<-hls] at h2
    refine⟨acc,bs,rfl,aP.of h1,?_⟩
    exact q _ H2 (y9 h2) (s1.trans h3)
theorem xJ {f:Addr} {fd:FuncData} (F:b4 K "stands" "stands" nz f fd) (Z:Bl mg) (O_holds:Own P w K mg base "holds" 2 ["facts", "worths"] sC) (O_entry_stands:Own P w K mg base "entry_stands" 7 ["entry", "piece", "table"] kF):bw P w K mg base bX 8 f fd ["plan", "table"] i0:=by
 refine F.ok (k:=7) xF (fun vs H Q E h=>?_) (fun cdv A outer s H vs Q E hr h=>?_)
 ·obtain⟨plv,ta,us,tab,ps,xs,m,rfl,_⟩:=h
  rfl
 ·obtain⟨plv,ta,us,tab,ps,xs,m,rfl,hp,ok,hp0,hp1,hta,hb,tabok,h62,ht0,ht1,q⟩:=h
  refine⟨_,(af (aV (aG zB (aX bh rfl Z.len cF (aJ (pv 1))) (aX bh rfl Z.len cF (aJ (pv 0))) (aK _))
   (ai (aB cN))
   aL)
   (af (aV (PW.pt (iz (bW (cO (aw aR (pv 1) ah))) (fT (nG (eX (au O_holds hr (av (aw aR (pv 1) ah) mX)))))))
   (ai (aB cN))
   aL)
   (ai (aB (aX (jd rfl) rfl Z.all nY (aJ (cP ["entry", "piece"] ["table"] [1] rfl (nR rfl Z.zip (av (pv 1) (pv 0))) rfl (by decide +kernel) (by decide +kernel) (by decide +kernel) ⟨⟨rfl,.inl rfl,rfl⟩,True.intro⟩ (fun _ _ _ _=>(iG (K:=K) (n:=2) rfl (cm (n:=2) rfl (aH (aF (i:=0) (show ((["entry", "piece"]:List Str)++(["table"]:List Str)).Nodup by decide +kernel) (hf:=Or.inr rfl)) (aH (aF (i:=1) (show ((["entry", "piece"]:List Str)++(["table"]:List Str)).Nodup by decide +kernel) (hf:=Or.inr rfl)) bR))))) (fun _ _ _ _=>dz) (fun _ _ _ _=>(au O_entry_stands hr (ft (pv 0) (pv 1) (pv 2))))))))))),?_⟩
  obtain⟨pp,pvs,rfl,hpp,rpv⟩:=bE.cB hp
  have hpl:pvs.length=ps.length:=by rw [rpv.len,List.length_map]
  have hul:=cU hb
  refine⟨_,rfl,ta,_,rfl,.inr (ar.of hta),_,rfl,pp,_,rfl,.inr (ar.of hpp),rfl,_,rfl,?_⟩
  refine b9 (fun hc=>?_) (fun hc=>?_)
  ·have hne:tab.length ≠ ps.length:=fun e=>by
    have hc:(!decide (V.int (us.length:Nat)=V.int (pvs.length:Nat)))=true:=hc
    rw [hul,hpl,e] at hc
    simp at hc
   exact q false H ⟨(fun h=>nomatch h),fun h=>absurd h.len hne⟩ (ae.refl H)
  have hl:tab.length=ps.length:=by
   by_cases e:tab.length=ps.length
   ·exact e
   ·exfalso
    refine hc ?_
    show (!decide (V.int (us.length:Nat)=V.int (pvs.length:Nat)))=true
    rw [hul,hpl,decide_eq_false fun z=>e (by have:=V.int.inj z;omega)]
    rfl
  have h0:tab[0]? = some tab[0]:=by simp [ht0]
  generalize tab[0] = o at h0
  obtain⟨ev,hev,bo⟩:=eW hb h0
  refine⟨_,rfl,ta,_,0,_,rfl,rfl,ar.of hta,bC (j:=0) hev,_,rfl,?_⟩
  cases o with
  | none =>
   have bo:ev=.aC:=bo
   subst bo
   refine bV rfl (aQ ?_)
   refine q false H ⟨(fun h=>nomatch h),fun h=>?_⟩ (ae.refl H)
   obtain⟨T,h,_⟩:=h.zero
   rw [h0] at h
   cases h
  | some T =>
   have bo:FV H ev T:=bo
   have hne:decide (ev=V.aC)=false:=by
    obtain⟨p,_,_,rfl,_⟩:=bo
    rfl
   have fewA:∀ T,some T ∈ tab->gf T 63:=fun T hT=>fun ss a b=>Nat.le_trans ((tabok T hT).bO ss a b) (by omega)
   refine aZ hne ?_
   refine⟨_,rfl,ta,_,0,_,rfl,rfl,ar.of hta,bC (j:=0) hev,fun d nd=>⟨ev,d,[],fun _=>0,T,rfl,FV.same bo (ae.new nd),aa,(fun x=>rfl),fewA T (List.mem_of_getElem? h0),fun b H1 hb1 s1=>?_⟩⟩
   have s1:=(ae.new (o:=.dK []) nd).trans s1
   refine⟨_,rfl,?_⟩
   cases b with
   | false =>
    refine aQ ?_
    refine q false H1 ⟨(fun h=>nomatch h),fun h=>?_⟩ s1
    obtain⟨T',h,hs⟩:=h.zero
    rw [h0] at h
    cases h
    exact hb1.mpr hs
   | true =>
    refine aU ?_
    have hs:=hb1.mp rfl
    refine⟨_,rfl,_,rfl,ta,pp,rfl,⟨_,ar.of (s1 _ _ hta)⟩,⟨_,ar.of (s1 _ _ hpp)⟩,fun acc na=>?_⟩
    refine rV (K:=K) (a:=ta) (b:=pp) (xs:=us) (ys:=pvs) (fun i zs τ H'=>∃ (c1 c2:Option V) (bs:List Bool),τ = [c1,c2,some (.ref ta)]/\zs=bs.map V.bl/\bs.length=i/\H' acc=some (.lst zs)/\(∀ (k:Nat) (b:Bool) (p:Piece) (o:Option (Str->Sx)),bs[k]? = some b->ps[k]? = some p->tab[k]? = some o->(b=true ↔ j5 tab o p))/\ae H1 H') ?_ ?_ ?_ ?_
    ·exact⟨none,none,[],rfl,rfl,rfl,aa,(fun k b p o h=>by simp at h),ae.new na⟩
    ·rintro i zs τ H2 hi ⟨c1,c2,bs,rfl,rfl,g1,g2,g3,g4⟩
     have s2:=s1.trans g4
     exact⟨ar.of (s2 _ _ hta),ar.of (s2 _ _ hpp),g2,fY (by rw [List.length_map];omega)⟩
    ·rintro i x y zs τ H2 u hx hy hu ⟨c1,c2,bs,rfl,rfl,g1,g2,g3,g4⟩
     have su:=ae.new (o:=.tup [x,y]) hu
     have s2:=(s1.trans g4).trans su
     refine⟨u,_,rfl,ar.of aa,rfl,_,_,rfl,_,_,rfl,rfl,?_⟩
     obtain⟨o,ho,bx⟩:=L2.fo hb hx
     have hil:i < ps.length:=by
      have:=(List.getElem?_eq_some_iff.mp hy).1
      omega
     have hpi:ps[i]? = some ps[i]:=by simp [hil]
     generalize ps[i] = pce at hpi
     obtain⟨ds,e⟩:=pce
     obtain⟨p',xs',pc,da,ea,ws,ep,e1',el',hx',e2,e3,r3,e4⟩:=iS hp hpi
     cases ep
     rw [hpp] at e1'
     cases e1'
     rw [hy] at hx'
     cases hx'
     have hm:=List.mem_of_getElem? hpi
     have eok:=ok.ends _ hm
     rw [<-hl] at eok
     generalize (upd H2 u (.tup [x,.ref pc]))=H3 at su s2 ⊢
     first | (change ∃ v,_/\_) | ((try refine cf ?_);refine fX ?_;refine aQ ?_)
     refine⟨_,rfl,_,rfl,_,rfl,x,pc,da,ea,ta,ws,us,ds,e,o,tab,xs,rfl,BV.same bx s2,s2 _ _ e2,s2 _ _ e3,r3.same s2 (b6 ds),s2 _ _ e4,s2 _ _ hta,bU.same hb s2,(fun T h=>tabok T (h ▸ List.mem_of_getElem? ho)),tabok,(ok.gS _ hm).2,eok,h62,fun b H4 hb4 s4=>?_⟩
     refine⟨s4 _ _ (su _ _ g2),_,_,bs ++ [b],rfl,(by rw [List.map_append];rfl),(by rw [List.length_append,g1];rfl),aa,fun k b' p o' h1 h2 h3=>?_,((g4.trans su).trans s4).put na⟩
     by_cases hk:k=i
     ·subst hk
      rw [List.getElem?_append_right (by omega),g1,Nat.sub_self] at h1
      cases h1
      rw [hpi] at h2
      cases h2
      rw [ho] at h3
      cases h3
      exact hb4
     ·have hkl:k < bs.length:=by
       have:=(List.getElem?_eq_some_iff.mp h1).1
       rw [List.length_append] at this
       simp at this
       omega
      rw [List.getElem?_append_left hkl] at h1
      exact g3 k b' p o' h1 h2 h3
    ·rintro zs τ H2 ⟨c1,c2,bs,rfl,rfl,g1,g2,g3,g4⟩
     refine⟨acc,bs,rfl,aP.of g2,?_⟩
     exact q _ H2 (vL hl h0 hs (by omega) g3) (s1.trans g4)
theorem xK {f:Addr} {fd:FuncData} (F:b4 K "opened" "opened" nB f fd) (Z:Bl mg) (O_is_within:Own P w K mg base "is_within" 1 ["one", "other"] (lr K)):bw P w K mg base bX 2 f fd ["stretch", "other"] (sP K):=by
 refine F.ok (k:=1) lN (fun vs H Q E h=>?_) (fun cdv A outer s H vs Q E hr h=>?_)
 ·obtain⟨p,q0,s,t,rfl,_⟩:=h
  rfl
 ·obtain⟨p,q0,s,t,rfl,hp,hq,q⟩:=h
  refine⟨_,(af (cx (pv 0) (cm rfl (aH (aF (i:=2) lN.nd) (aH (aF (i:=3) lN.nd) bR))))
   (ai (aB (aY (av (eQ (eX (au O_is_within hr (av (pv 1) (aY (av (pv 2) bH))))) (pv 2) bH) (eQ (eX (au O_is_within hr (av (pv 1) (aY (av bH (pv 3)))))) (pv 3) bH)))))),?_⟩
  refine⟨_,rfl,p,_,rfl,hp,rfl,_,_,rfl,_,_,rfl,rfl,?_⟩
  refine⟨_,rfl,_,rfl,ln2,fun t1 n1=>⟨q0,t1,t,(s.1,none),rfl,hq.same (ae.new n1),ar.of aa,_,rfl,?_⟩⟩
  have s1:=ae.new (o:=.tup [vO s.1,.aC]) n1
  cases hc:cJ t (s.1,none) with
  | true =>
   refine aQ ⟨_,rfl,?_⟩
   refine⟨_,rfl,_,rfl,ln2,fun t2 n2=>⟨q0,t2,t,(none,s.2),rfl,(hq.same s1).same (ae.new n2),ar.of aa,_,rfl,?_⟩⟩
   have s2:=s1.trans (ae.new (o:=.tup [.aC,vO s.2]) n2)
   cases hd:cJ t (none,s.2) with
   | true =>
    refine aQ ⟨_,rfl,ln2,fun t3 n3=>?_⟩
    have e:eO s t=(s.1,s.2):=by unfold eO;rw [hc,hd];rfl
    exact q _ _ ⟨t3,rfl,by rw [e];exact aa⟩ (s2.trans (ae.new n3))
   | false =>
    refine aU ⟨ln2,fun t3 n3=>?_⟩
    have e:eO s t=(s.1,none):=by unfold eO;rw [hc,hd];rfl
    exact q _ _ ⟨t3,rfl,by rw [e];exact aa⟩ (s2.trans (ae.new n3))
  | false =>
   refine aU ?_
   refine⟨_,rfl,_,rfl,ln2,fun t2 n2=>⟨q0,t2,t,(none,s.2),rfl,(hq.same s1).same (ae.new n2),ar.of aa,_,rfl,?_⟩⟩
   have s2:=s1.trans (ae.new (o:=.tup [.aC,vO s.2]) n2)
   cases hd:cJ t (none,s.2) with
   | true =>
    refine aQ ⟨_,rfl,ln2,fun t3 n3=>?_⟩
    have e:eO s t=(none,s.2):=by unfold eO;rw [hc,hd];rfl
    exact q _ _ ⟨t3,rfl,by rw [e];exact aa⟩ (s2.trans (ae.new n3))
   | false =>
    refine aU ⟨ln2,fun t3 n3=>?_⟩
    have e:eO s t=(none,none):=by unfold eO;rw [hc,hd];rfl
    exact q _ _ ⟨t3,rfl,by rw [e];exact aa⟩ (s2.trans (ae.new n3))
theorem vZ {f:Addr} {fd:FuncData} (F:b4 K "widened" "widened" lO f fd) (Z:Bl mg) {aA:Addr} (GA:gc K mg aA) (O_facts_of:Own P w K mg base "facts_of" 1 ["stretches"] (je aA)) (O_opened:Own P w K mg base "opened" 2 ["stretch", "other"] (sP K)):bw P w K mg base bX 3 f fd ["entry", "facts"] qg:=by
 refine F.ok (k:=2) oA (fun vs H Q E h=>?_) (fun cdv A outer s H vs Q E hr h=>?_)
 ·obtain⟨ev,fv,o,U,rfl,_⟩:=h
  rfl
 ·obtain⟨ev,fv,o,U,rfl,bo,hf,bO,fewU,q⟩:=h
  refine⟨_,(af (aV (bW (cO (pv 0)))
   (ai (aB (pv 1)))
   aL)
   (af (aM (i:=2) oA.nd (ba (d8 rfl) rfl Z.dict jL (aJ (pv 1))))
   (ai (aB (au O_facts_of hr (aJ (y7 ["name", "stretch"] ["stretches"] [2] rfl (dY (pv 0)) rfl (by decide +kernel) (by decide +kernel) (by decide +kernel) ⟨⟨rfl,.inl rfl,rfl⟩,True.intro⟩ (fun _ _ _ _=>(iG (K:=K) (n:=2) rfl (cm (n:=2) rfl (aH (aF (i:=0) (show ((["name", "stretch"]:List Str)++(["stretches"]:List Str)).Nodup by decide +kernel) (hf:=Or.inr rfl)) (aH (aF (i:=1) (show ((["name", "stretch"]:List Str)++(["stretches"]:List Str)).Nodup by decide +kernel) (hf:=Or.inr rfl)) bR))))) (fun _ _ _ _=>dz) (fun _ _ _ _=>(pv 0)) (fun _ _ _ _=>(au O_opened hr (av (pv 1) (cW (cZ hr) (pv 2) (pv 0) (fA (v:=.ref aA) rfl GA.mK rfl) ⟨rfl,rfl,rfl,rfl⟩))))))))))),?_⟩
  refine⟨_,rfl,_,rfl,?_⟩
  cases o with
  | none =>
   have bo:ev=.aC:=bo
   subst bo
   refine bV rfl ?_
   exact⟨_,rfl,q fv H hf (ae.refl H)⟩
  | some T =>
   have bo:FV H ev T:=bo
   have hne:decide (ev=V.aC)=false:=by
    obtain⟨p,_,_,rfl,_⟩:=bo
    rfl
   refine aZ hne ?_
   obtain⟨fp,fxs,ss,rfl,hfp,srt,hmem,rf⟩:=hf
   obtain⟨kvs,l1,l2,l3,tb⟩:=FV.tb aA srt hmem rf
   refine⟨_,rfl,fp,fxs,kvs,rfl,hfp,l1,l2,l3,fun d nd=>?_⟩
   have s1:=ae.new (o:=.dK kvs) nd
   have hd:(upd H d (.dK kvs)) d=some (.dK kvs):=aa
   have tb1:=tb.aI fun p zs e=>s1 _ _ e
   have bo1:=FV.same bo s1
   generalize (upd H d (.dK kvs))=H1 at s1 hd tb1 bo1
   obtain⟨ep,exs,es,rfl,hep,esrt,emem,erf⟩:=bo1
   refine cf ?_
   refine⟨_,rfl,ep,rfl,⟨_,ar.of hep⟩,fun acc na=>?_⟩
   have hel:exs.length=es.length:=by rw [erf.len,List.length_map]
   have hes:es.length<=63:=bO T rfl es (fun x hx=>(emem x).mp hx) esrt.nd
   refine Br (K:=K) (a:=ep) (xs:=exs) (fun i kv τ H'=>∃ (c1 c2:Option V) (ks:List Str) (W:Str->Sx),τ = [c1,c2,some (.ref d)]/\H' acc=some (.dK kv)/\Tb aA H' kv ks W/\ks.length<=i/\(∀ x,W x=if x ∈ es.take i then eO (T x) (U x) else bN)/\ae H1 H') ?_ ?_ ?_ ?_
   ·refine⟨none,none,[],fun _=>bN,rfl,aa,⟨rfl,List.nodup_nil,fun x=>.inl ⟨rfl,rfl,by simp⟩⟩,Nat.le_refl _,(fun x=>by simp),ae.new na⟩
   ·rintro i kv τ H2 hi ⟨c1,c2,ks,W,rfl,h1,h2,h3,h4,h5⟩
    have kl:kv.length=ks.length:=by have:=congrArg List.length h2.keys;simpa using this
    exact⟨ar.of (h5 _ _ hep),h1,fY (by omega)⟩
   ·rintro i x kv τ H2 hx ⟨c1,c2,ks,W,rfl,h1,h2,h3,h4,h5⟩
    have hi:i < es.length:=by
     have:=(List.getElem?_eq_some_iff.mp hx).1
     omega
    have hye:es[i]? = some es[i]:=by simp [hi]
    generalize es[i] = y at hye
    obtain⟨v,hv,rd⟩:=erf.get (i:=i) (d:=dF T y) (by rw [List.getElem?_map,hye];rfl)
    rw [hx] at hv
    cases hv
    obtain⟨t1,q1,rfl,ht1,hq1⟩:=nZ rd
    refine⟨t1,_,rfl,ar.of (h5 _ _ ht1),rfl,_,_,rfl,_,_,rfl,rfl,?_⟩
    obtain⟨u,eu,su⟩:=(tb1.aI fun p zs e=>h5 _ _ e).getD y
    obtain⟨qa,rfl,hqa⟩:=su.sq GA
    refine fX ?_
    refine aQ ?_
    refine⟨_,rfl,_,rfl,_,rfl,d,rfl,.inl ⟨kvs,.inl (h5 _ _ hd)⟩,_,rfl,_,_,cY.k (k:=Sum.inr y) (h5 _ _ hd),eu,q1,qa,T y,U y,rfl,ar.of (h5 _ _ hq1),hqa,fun v H3 sh s3=>?_⟩
    have h1':=s3 _ _ h1
    obtain⟨ks2,t2,k2,m2⟩:=(h2.aI fun p zs e=>s3 _ _ e).put y (.inl sh)
    refine⟨Sum.inr y,rfl,h1',_,_,ks2,_,rfl,aa,t2.aI (fun p zs e=>by rw [ao (bJ e h1' (by intro z;cases z))];exact e),by omega,fun x=>?_,(h5.trans s3).put na⟩
    unfold cg
    rw [List.take_add_one,hye]
    by_cases hxy:x=y
    ·rw [if_pos hxy,if_pos (List.mem_append_right _ (by rw [hxy];exact List.mem_singleton.mpr rfl)),hxy]
    ·rw [if_neg hxy,h4 x]
     have:(x ∈ es.take i++(some y).toList) ↔ x ∈ es.take i:=by simp [hxy]
     simp only [this]
   ·rintro kv τ H2 ⟨c1,c2,ks,W,rfl,h1,h2,h3,h4,h5⟩
    refine⟨acc,kv,ks,W,rfl,h1,h2,(by omega),fun v H3 f3 s3=>?_⟩
    refine q v H3 ?_ ((s1.trans h5).trans s3)
    have e:W=qd T U:=by
     rw [<-y8]
     funext x
     rw [h4 x,hel,List.take_of_length_le (Nat.le_refl _)]
     by_cases hx:T x=bN
     ·rw [if_pos hx,if_neg (fun h=>(emem x).mp h hx)]
     ·rw [if_neg hx,if_pos ((emem x).mpr hx)]
    rw [e] at f3
    exact f3
theorem tY {f:Addr} {fd:FuncData} (F:b4 K "table_of" "table_of" kd f fd) (Z:Bl mg) (O_start:Own P w K mg base "start" 4 ["plan"] uR) (O_leads_from:Own P w K mg base "leads_from" 6 ["entry", "piece"] jn) (O_is_met:Own P w K mg base "is_met" 3 ["lead", "table"] oZ) (O_widened:Own P w K mg base "widened" 3 ["entry", "facts"] qg):bw P w K mg base bX 8 f fd ["plan"] sQ:=by
  refine F.ok (k:=7) fe (fun vs H Q E h=>?_) (fun cdv A outer s H vs Q E hr h=>?_)
  · obtain⟨plv,ps,xs,m,rfl,_⟩:=h
    rfl
  · obtain⟨plv,ps,xs,m,rfl,hp,ok,hp0,hp4,h62,hal,q⟩:=h
    refine⟨_,(af (aM (i:=1) fe.nd (aS rB (b8 (aJ bH)) (aX bh rfl Z.len cF (aJ (pv 0)))))
      (af (aM (i:=2) fe.nd (aS rB (b8 (aJ cN)) (aX bh rfl Z.len cF (aJ (pv 0)))))
      (af (cx (au O_start hr (aJ (pv 0))) (eY (pv 1) ah set_list))
      (af (cx cN (eY (pv 2) ah set_list))
      (af (qX PassesOwn.never (aG pL cN (pv 2) (by with_unfolding_all rfl))
      (af (aM (i:=3) fe.nd (fg PySem.F.plainAttrs_list PySem.F.slot_list_index PySem.F.type_list_index xA (pv 2) (bG cN cz)))
      (af (cx cN (eY (pv 2) (pv 3) set_list))
      (ai (df PassesOwn.never rfl (dY (au O_leads_from hr (av (aw bL (pv 1) (pv 3)) (aw aR (pv 0) (pv 3))))) (aF (i:=4) fe.nd)
      (ai (aV (nG (eX (au O_is_met hr (av (pv 4) (pv 1)))))
      (af (aM (i:=5) fe.nd (aw aR (pv 4) ah))
      (af (cx (au O_widened hr (av (aw bL (pv 1) (pv 5)) (aw aR (pv 4) ah))) (eY (pv 1) (pv 5) set_list))
      (ai (cx cN (eY (pv 2) (pv 5) set_list)))))
      aL)))))))
      (ai (aB (ba bF rfl Z.tuple cG (aJ (pv 1)))))))))),?_⟩
    obtain⟨pp,pvs,rfl,hpp,rpv⟩:=bE.cB hp
    have hpl:pvs.length=ps.length:=by rw [rpv.len,List.length_map]
    refine⟨pO,fun p0 n0=>?_⟩
    have s0:=ae.new (o:=.lst [.aC]) n0
    refine⟨_,rfl,pp,_,rfl,.inr (ar.of (s0 _ _ hpp)),p0,_,_,rfl,rfl,aa,(by omega),(by omega),?_,fun tl ntl=>?_⟩
    · show 1 * _<=_
      exact Nat.le_of_lt (bp (by omega))
    have e1:(List.replicate ((pvs.length:Int)).toNat [V.aC]).flatten=List.replicate ps.length V.aC:=by rw [hpl,Int.toNat_natCast,List.flatten_replicate_singleton]
    have s1:=s0.trans (ae.new (o:=.lst (List.replicate ((pvs.length:Int)).toNat [V.aC]).flatten) ntl)
    have htl1:(upd (upd H p0 (.lst [.aC])) tl (.lst (List.replicate ((pvs.length:Int)).toNat [V.aC]).flatten)) tl=some (.lst (List.replicate ps.length V.aC)):=by rw [aa,e1]
    have ntl0:H tl=none:=s0.free ntl
    generalize (upd (upd H p0 (.lst [.aC])) tl (.lst (List.replicate ((pvs.length:Int)).toNat [V.aC]).flatten))=H1 at s1 htl1
    refine cf ?_
    refine⟨pO,fun p1 n1=>?_⟩
    have s1b:=ae.new (o:=.lst [.bl false]) n1
    refine⟨_,rfl,pp,_,rfl,.inr (ar.of (s1b _ _ (s1 _ _ hpp))),p1,_,_,rfl,rfl,aa,(by omega),(by omega),?_,fun wl nwl=>?_⟩
    · show 1 * _<=_
      exact Nat.le_of_lt (bp (by omega))
    have e2:(List.replicate ((pvs.length:Int)).toNat [V.bl false]).flatten=(List.replicate ps.length false).map V.bl:=by rw [hpl,Int.toNat_natCast,List.flatten_replicate_singleton,List.map_replicate]
    have s2:=s1b.trans (ae.new (o:=.lst (List.replicate ((pvs.length:Int)).toNat [V.bl false]).flatten) nwl)
    have hwl2:(upd (upd H1 p1 (.lst [.bl false])) wl (.lst (List.replicate ((pvs.length:Int)).toNat [V.bl false]).flatten)) wl=some (.lst ((List.replicate ps.length false).map V.bl)):=by rw [aa,e2]
    have nwl1:H1 wl=none:=s1b.free nwl
    have nwl0:H wl=none:=s1.free nwl1
    have ntw:tl ≠ wl:=bg htl1 nwl1
    have s02:=s1.trans s2
    have htl2:=s2 _ _ htl1
    generalize (upd (upd H1 p1 (.lst [.bl false])) wl (.lst (List.replicate ((pvs.length:Int)).toNat [V.bl false]).flatten))=H2 at s2 hwl2 s02 htl2
    refine cf ?_
    refine⟨_,rfl,.ref pp,ps,xs,m,rfl,hp.same s02 (fH ps),ok,(by omega),hal,fun sv ss H3 rsv hperm hsort s3=>?_⟩
    have htl3:=s3 _ _ htl2
    have hwl3:=s3 _ _ hwl2
    have fs:FV H3 sv (startT ps):=(yT hperm hsort).fv rsv
    refine⟨_,rfl,tl,_,0,0,rfl,rfl,htl3,eJ (by rw [List.length_replicate];exact hp0),?_⟩
    refine⟨_,rfl,wl,_,0,0,rfl,rfl,(by rw [ao ntw.symm];exact hwl3),eJ (by rw [List.length_map,List.length_replicate];exact hp0),?_⟩
    rw [o1]
    have kt:∀ p zs,H3 p=some (.tup zs)->(upd (upd H3 tl (.lst ((List.replicate ps.length V.aC).set 0 sv))) wl (.lst (((List.replicate ps.length false).set 0 true).map V.bl))) p=some (.tup zs):=fun p zs e=>by
      rw [ao (bJ e hwl3 (by intro z;cases z)),ao (bJ e htl3 (by intro z;cases z))];exact e
    have bv4:bU (upd (upd H3 tl (.lst ((List.replicate ps.length V.aC).set 0 sv))) wl (.lst (((List.replicate ps.length false).set 0 true).map V.bl))) ((List.replicate ps.length V.aC).set 0 sv) ((List.replicate ps.length none).set 0 (some (startT ps))) :=
      iD (F:=BV _) (show BV _ sv (some (startT ps)) from FV.aI fs kt) 0 (sR _)
    have htl4:(upd (upd H3 tl (.lst ((List.replicate ps.length V.aC).set 0 sv))) wl (.lst (((List.replicate ps.length false).set 0 true).map V.bl))) tl=some (.lst ((List.replicate ps.length V.aC).set 0 sv)):=by rw [ao ntw,aa]
    have hwl4:(upd (upd H3 tl (.lst ((List.replicate ps.length V.aC).set 0 sv))) wl (.lst (((List.replicate ps.length false).set 0 true).map V.bl))) wl=some (.lst (((List.replicate ps.length false).set 0 true).map V.bl)):=aa
    have s04:ae H (upd (upd H3 tl (.lst ((List.replicate ps.length V.aC).set 0 sv))) wl (.lst (((List.replicate ps.length false).set 0 true).map V.bl))):=((s02.trans s3).put ntl0).put nwl0
    generalize (upd (upd H3 tl (.lst ((List.replicate ps.length V.aC).set 0 sv))) wl (.lst (((List.replicate ps.length false).set 0 true).map V.bl)))=H4 at bv4 htl4 hwl4 s04
    clear kt fs htl3 hwl3 rsv s3
    have bO:∀ {tab:dh},TabOk xs tab->∀ T,some T ∈ tab->gf T 63:=fun {tab} h T hT=>fun ss a b=>Nat.le_trans ((h T hT).bO ss a b) (by omega)
    refine⟨fun mm σ H'=>∃ (us:List V) (tab:dh) (bs:List Bool) (u1 u2 u3:Option V),σ = [some (.ref pp),some (.ref tl),some (.ref wl),u1,u2,u3]/\H' tl=some (.lst us)/\bU H' us tab/\H' wl=some (.lst (bs.map V.bl))/\fq xs ps tab bs none/\mm=jO xs tab * (ps.length+1)+j6 bs/\ae H H',⟨_,_,_,_,_,_,_,rfl,htl4,bv4,hwl4,fq.start hp0 (yU ok) (tQ ps),rfl,s04⟩,?_⟩
    rintro mm σ H5 ⟨us,tab,bs,u1,u2,u3,rfl,htl5,bv5,hwl5,I5,rfl,s5⟩
    refine⟨_,rfl,wl,_,rfl,.inl (aP.of hwl5),rfl,ng bs,_,rfl,?_⟩
    have hin:jF (V.bl true) (bs.map V.bl)=decide (true ∈ bs):=xB true bs
    by_cases ht:true ∈ bs
    · refine bV (by show jF (V.bl true) (bs.map V.bl)=true;rw [hin];exact decide_eq_true ht) ?_
      obtain⟨at_,ha1,ha2⟩:=oh ht
      have hal:at_ < ps.length:=by rw [<-I5.jo];exact (List.getElem?_eq_some_iff.mp ha1).1
      refine⟨fun σ' H'=>∃ (us:List V) (tab':dh) (bs':List Bool) (u1 u2 u3:Option V),σ' = [some (.ref pp),some (.ref tl),some (.ref wl),u1,u2,u3]/\H' tl=some (.lst us)/\bU H' us tab'/\H' wl=some (.lst (bs'.map V.bl))/\fq xs ps tab' bs' none/\((tab' = tab/\bs' = bs.set at_ false)\/jO xs tab' < jO xs tab)/\ae H H',fun σ' H' h=>?_,?_⟩
      · obtain⟨us',tab',bs',v1,v2,v3,rfl,a1,a2,a3,a4,a5,a6⟩:=h
        refine⟨_,?_,us',tab',bs',v1,v2,v3,rfl,a1,a2,a3,a4,rfl,a6⟩
        rcases a5 with ⟨rfl,rfl⟩ | a5
        · have:=qe bs at_ ha1
          omega
        · have h1:=sO bs'
          rw [a4.jo] at h1
          have h2:(jO xs tab' + 1) * (ps.length+1)<=jO xs tab * (ps.length+1):=Nat.mul_le_mul_right _ a5
          rw [Nat.succ_mul] at h2
          omega
      refine⟨_,rfl,.inl ⟨rfl,_,aP.of hwl5⟩,wl,_,.bl true,.bl true,at_,rfl,rfl,hwl5,rfl,ng bs,(by rw [List.getElem?_map,ha1];rfl),rfl,(fun j z hj hz=>by rw [List.getElem?_map,ha2 j hj] at hz;cases hz;rfl),?_⟩
      refine⟨_,rfl,_,rfl,wl,_,_,at_,rfl,rfl,hwl5,eJ (by rw [List.length_map,I5.jo];exact hal),?_⟩
      rw [o1]
      have I6:=I5.off ha1
      have htl6:(upd H5 wl (.lst ((bs.set at_ false).map V.bl))) tl=some (.lst us):=by rw [ao ntw];exact htl5
      have hwl6:(upd H5 wl (.lst ((bs.set at_ false).map V.bl))) wl=some (.lst ((bs.set at_ false).map V.bl)):=aa
      have bv6:bU (upd H5 wl (.lst ((bs.set at_ false).map V.bl))) us tab:=bU.aI (fun p zs e=>by rw [ao (bJ e hwl5 (by intro z;cases z))];exact e) bv5
      have s6:ae H (upd H5 wl (.lst ((bs.set at_ false).map V.bl))):=s5.put nwl0
      generalize (upd H5 wl (.lst ((bs.set at_ false).map V.bl)))=H6 at htl6 hwl6 bv6 s6
      obtain⟨T,hT⟩:=I5.wait at_ ha1
      obtain⟨ev,hev,bo⟩:=eW bv6 hT
      have bo:FV H6 ev T:=bo
      have tok:=I5.ok T (List.mem_of_getElem? hT)
      have hpi:ps[at_]? = some ps[at_]:=by simp [hal]
      generalize ps[at_] = pce at hpi
      obtain⟨ds,e⟩:=pce
      have rp6:=hp.same s6 (fH ps)
      obtain⟨p',xs',pc,da,ea,ws,ep,e1',el',hx',e2',e3',r3,e4⟩:=iS rp6 hpi
      cases ep
      rw [s6 _ _ hpp] at e1'
      cases e1'
      have hm:=List.mem_of_getElem? hpi
      have dok:=(ok.gS _ hm).2
      have eok:=ok.ends _ hm
      refine⟨_,rfl,_,rfl,tl,_,_,_,rfl,rfl,aP.of htl6,bC hev,_,rfl,_,rfl,pp,_,_,_,rfl,rfl,ar.of (s6 _ _ hpp),bC hx',ev,pc,da,ea,ws,ds,e,T,xs,rfl,bo,e2',e3',r3,e4,tok,dok,h62,fun lt lvs H7 hlt hlv s7=>?_⟩
      have hlok:∀ ld ∈ de (bB T ds) e,ld.1 < ps.length/\cC xs ld.2:=fun ld h=>mq (tok.lC dok) eok ld h
      generalize hls:de (bB T ds) e=ls at hlv hlok
      have htl7:=s7 _ _ htl6
      have hwl7:=s7 _ _ hwl6
      have bv7:=bU.same bv6 s7
      have s07:=s6.trans s7
      have nlt:lt ≠ tl:=bJ hlt htl7 (by intro z;cases z)
      have nlw:lt ≠ wl:=bJ hlt hwl7 (by intro z;cases z)
      refine⟨lt,rfl,⟨_,ar.of hlt⟩,?_⟩
      refine gC (K:=K) (a:=lt) (xs:=lvs) (fun j σ H'=>∃ (us':List V) (tab':dh) (bs':List Bool) (u4 u5:Option V),σ = [some (.ref pp),some (.ref tl),some (.ref wl),some (.int (at_:Nat)),u4,u5]/\H' tl=some (.lst us')/\bU H' us' tab'/\H' wl=some (.lst (bs'.map V.bl))/\fq xs ps tab' bs' (some at_)/\(∀ ld ∈ ls.take j,Met tab' ld)/\(bs'[at_]? = some false->tab'[at_]? = some (some T))/\((tab' = tab/\bs' = bs.set at_ false)\/jO xs tab' < jO xs tab)/\(∀ p zs,H7 p=some (.tup zs)->H' p=some (.tup zs))/\ae H H') ?_ ?_ ?_ ?_
      · exact⟨us,tab,bs.set at_ false,_,_,rfl,htl7,bv7,hwl7,I6,(fun ld h=>by simp at h),(fun _=>hT),.inl ⟨rfl,rfl⟩,(fun p zs e=>e),s07⟩
      · rintro j σ H8 hj ⟨us',tab',bs',u4,u5,rfl,g1,g2,g3,g4,g5,g6,g7,g8,g9⟩
        exact ar.of (g8 _ _ hlt)
      · rintro j x σ H8 hx ⟨us',tab',bs',u4,u5,rfl,g1,g2,g3,g4,g5,g6,g7,g8,g9⟩
        obtain⟨ld,hld,pv⟩:=L2.fo hlv hx
        obtain⟨hk,hU⟩:=hlok ld (List.mem_of_getElem? hld)
        have pv8:=PV.aI pv g8
        obtain⟨k,U⟩:=ld
        have hk:k < ps.length:=hk
        have hU:cC xs U:=hU
        have htk:ls.take (j+1)=ls.take j ++ [(k,U)]:=by rw [List.take_add_one,hld];rfl
        have hkt:k < tab'.length:=by rw [g4.len];exact hk
        refine cf ?_
        refine⟨_,rfl,_,rfl,x,tl,us',tab',k,U,rfl,pv8,.inl g1,g2,hkt,bO g4.ok,fun b H9 hb9 s9=>⟨_,rfl,?_⟩⟩
        cases b with
        | true =>
          refine aZ rfl ?_
          refine⟨us',tab',bs',_,_,rfl,s9 _ _ g1,bU.same g2 s9,s9 _ _ g3,g4,fun ld h=>?_,g6,g7,(fun p zs e=>s9 _ _ (g8 p zs e)),g9.trans s9⟩
          rw [htk] at h
          rcases List.mem_append.mp h with h | h
          · exact g5 ld h
          · rw [List.mem_singleton.mp h];exact hb9.mp rfl
        | false =>
          refine bV rfl ?_
          obtain⟨lq,u,rfl,hlq,hu⟩:=PV.aI pv8 fun p zs e=>s9 _ _ e
          have hlq:H9 lq=some (.tup [.int (k:Nat),u]):=hlq
          have hu:FV H9 u U:=hu
          have nm:¬ Met tab' (k,U):=fun h=>by have:=hb9.mpr h;cases this
          have aN:tab'[k]? = some tab'[k]:=by simp [hkt]
          generalize tab'[k] = o at aN
          obtain⟨ev2,hev2,bo2⟩:=eW g2 aN
          have bo2:=BV.same bo2 s9
          have htl9:=s9 _ _ g1
          refine⟨_,rfl,lq,_,0,_,rfl,rfl,ar.of hlq,cv,?_⟩
          refine⟨_,rfl,_,rfl,tl,_,_,_,rfl,rfl,aP.of htl9,bC hev2,_,rfl,lq,_,1,_,rfl,rfl,ar.of hlq,cD,ev2,u,o,U,rfl,bo2,hu,(fun T h=>bO g4.ok T (h ▸ List.mem_of_getElem? aN)),(fun ss a b=>Nat.le_trans (hU.bO ss a b) (by omega)),fun v H10 f10 s10=>?_⟩
          have htl10:=s10 _ _ htl9
          have hwl10:=s10 _ _ (s9 _ _ g3)
          have hul:=cU g2
          refine⟨_,rfl,_,rfl,tl,_,_,k,rfl,rfl,htl10,eJ (by rw [hul];exact hkt),?_⟩
          refine⟨_,rfl,_,rfl,wl,_,_,k,rfl,rfl,(by rw [ao ntw.symm];exact hwl10),eJ (by rw [List.length_map,g4.jo];exact hk),?_⟩
          rw [o1]
          have kt:∀ p zs,H10 p=some (.tup zs)->(upd (upd H10 tl (.lst (us'.set k v))) wl (.lst ((bs'.set k true).map V.bl))) p=some (.tup zs):=fun p zs e=>by
            rw [ao (bJ e hwl10 (by intro z;cases z)),ao (bJ e htl10 (by intro z;cases z))];exact e
          have pw:=Ap (xs:=xs) aN (fun T h=>g4.ok T (h ▸ List.mem_of_getElem? aN)) nm
          refine⟨us'.set k v,tab'.set k (some (iZ o U)),bs'.set k true,_,_,rfl,(by rw [ao ntw,aa]),?_,aa,g4.put aN hU,fun ld h=>?_,fun h=>?_,.inr ?_,(fun p zs e=>kt p zs (s10 _ _ (s9 _ _ (g8 p zs e)))),(((g9.trans s9).trans s10).put ntl0).put nwl0⟩
          · exact iD (F:=BV _) (show BV _ v (some (iZ o U)) from FV.aI f10 kt) k (bU.aI kt (bU.same (bU.same g2 s9) s10))
          · rw [htk] at h
            rcases List.mem_append.mp h with h | h
            · exact (g5 ld h).up aN
            · rw [List.mem_singleton.mp h];exact Met.new aN
          · by_cases ek:k=at_
            · subst ek
              rw [List.getElem?_set_self (by rw [g4.jo];exact hk)] at h
              cases h
            · rw [List.getElem?_set_ne ek] at h ⊢
              exact g6 h
          · rcases g7 with ⟨rfl,_⟩ | g7
            · exact pw
            · omega
      · rintro σ H8 ⟨us',tab',bs',u4,u5,rfl,g1,g2,g3,g4,g5,g6,g7,g8,g9⟩
        have hll:=cU hlv
        rw [hll,List.take_of_length_le (Nat.le_refl _),<-hls] at g5
        exact⟨us',tab',bs',_,_,_,rfl,g1,g2,g3,g4.on hpi g6 g5,g7,g9⟩
    · refine aZ (by show jF (V.bl true) (bs.map V.bl)=false;rw [hin];exact decide_eq_false ht) ?_
      refine⟨_,rfl,tl,_,rfl,.inl ⟨aP.of htl5,fun t nt=>?_⟩⟩
      exact q t us tab _ aa (bU.same bv5 (ae.new nt)) I5.ok (I5.Bt ht) (s5.trans (ae.new nt))
theorem v9 {f:Addr} {fd:FuncData} (F:b4 K "_law_bag" "_law_bag" lQ f fd) (Z:Bl mg)  : bw P w K mg base bX 1 f fd ["script", "k"] (zE K):=by
 refine F.ok (k:=0) ke (fun vs H Q E h=>?_) (fun cdv A outer s H vs Q E hr h=>?_)
 ·obtain⟨a,ns,k,rfl,_⟩:=h
  rfl
 ·obtain⟨a,ns,k,rfl,hS,hk,q⟩:=h
  refine⟨_,(af (aM (i:=2) ke.nd ah)
   (af (aV (aG gR (pv 1) (aX bh rfl Z.len cF (aJ (pv 0))) (aK _))
   (ai (aM (i:=2) ke.nd (aS fU (aw bL (pv 0) (pv 1)) (aS zZ (aS nH ah ah) (aS nH ah ah)))))
   aL)
   (af (aV (aG gR (pv 2) (aS nH ah ah) (aK _))
   (ai (aB (b8 (av ah (aS cy ah (aS fU (aS cy (aS gZ (pv 2) ah) (aS gZ ah (pv 1))) ah))))))
   aL)
   (ai (aB (b8 (av (pv 2) (aS cy ah (aS fU (aS cy (pv 2) (pv 1)) ah))))))))),?_⟩
  refine⟨_,rfl,_,rfl,_,_,rfl,.inl hS,_,_,rfl,rfl,_,rfl,?_⟩
  refine b9 (fun hc=>?_) (fun hc=>?_)
  ·have hl:k < ((ns.map V.int).length:Nat):=of_decide_eq_true hc
   obtain⟨v,hv,hm⟩:=vk hk hl
   obtain⟨z,_,rfl⟩:=List.mem_map.mp hm
   refine⟨_,rfl,_,rfl,_,_,_,_,rfl,rfl,hS,hv,10,60,rfl,rfl,⟨by decide,by decide,by decide⟩,10,60,rfl,rfl,⟨by decide,by decide,by decide⟩,_,_,rfl,rfl,(by unfold IntMulOk;decide +kernel),_,_,rfl,rfl,(show (0:Int) < 10 ^ (60:Int).toNat * 10 ^ (60:Int).toNat by decide +kernel),?_⟩
   refine⟨_,rfl,10,18,rfl,rfl,⟨by decide,by decide,by decide⟩,_,_,rfl,rfl,_,rfl,?_⟩
   refine b9 (fun hd=>?_) (fun hd=>?_)
   ·refine⟨_,rfl,_,_,rfl,rfl,.inr ⟨by decide,by decide⟩,_,rfl,_,_,rfl,rfl,.inl ⟨by decide,by decide⟩,_,_,rfl,rfl,_,_,rfl,rfl,(show (0:Int) < 2147483646 by decide),_,_,rfl,rfl,ln2,fun p hp=>?_⟩
    exact q p _ hp ⟨_,_,aa,by omega,by omega⟩ (ae.new hp)
   ·refine⟨_,rfl,_,rfl,_,rfl,_,_,rfl,rfl,_,_,rfl,rfl,(show (0:Int) < 2147483646 by decide),_,_,rfl,rfl,ln2,fun p hp=>?_⟩
    exact q p _ hp ⟨_,_,aa,by omega,by omega⟩ (ae.new hp)
  ·refine⟨_,rfl,10,18,rfl,rfl,⟨by decide,by decide,by decide⟩,_,_,rfl,rfl,_,rfl,?_⟩
   refine b9 (fun hd=>?_) (fun hd=>?_)
   ·refine⟨_,rfl,_,_,rfl,rfl,.inr ⟨by decide,by decide⟩,_,rfl,_,_,rfl,rfl,.inl ⟨by decide,by decide⟩,_,_,rfl,rfl,_,_,rfl,rfl,(show (0:Int) < 2147483646 by decide),_,_,rfl,rfl,ln2,fun p hp=>?_⟩
    exact q p _ hp ⟨_,_,aa,by omega,by omega⟩ (ae.new hp)
   ·refine⟨_,rfl,_,rfl,_,rfl,_,_,rfl,rfl,_,_,rfl,rfl,(show (0:Int) < 2147483646 by decide),_,_,rfl,rfl,ln2,fun p hp=>?_⟩
    exact q p _ hp ⟨_,_,aa,by omega,by omega⟩ (ae.new hp)
theorem tZ {f:Addr} {fd:FuncData} (F:b4 K "_law_take" "_law_take" kf f fd) (Z:Bl mg)  : bw P w K mg base bX 1 f fd ["bag", "many"] fk:=by
 refine F.ok (k:=0) mR (fun vs H Q E h=>?_) (fun cdv A outer s H vs Q E hr h=>?_)
 ·obtain⟨b,m,rfl,_⟩:=h
  rfl
 ·obtain⟨b,m,rfl,⟨x,y,hb,h0,h1⟩,hm,q⟩:=h
  refine⟨_,(af (aV (aG iA (aw bL (pv 0) ah) ah (aK _))
   (af (aM (i:=2) mR.nd (aS fU (aw bL (pv 0) ah) (pv 1)))
   (af (cx (aS yh (aw bL (pv 0) ah) (pv 1)) (eY (pv 0) ah set_list))
   (ai (aB (pv 2)))))
   aL)
   (af (cx (aS fU (aS gZ (aw bL (pv 0) ah) ah) ah) (eY (pv 0) ah set_list))
   (ai (aB (aS fU (aS lU (aS fU (aS gZ (aw bL (pv 0) ah) (aw bL (pv 0) ah)) ah) ah) (pv 1)))))),?_⟩
  refine⟨_,rfl,b,_,0,_,rfl,rfl,aP.of hb,cv,_,_,rfl,rfl,_,rfl,?_⟩
  refine b9 (fun hc=>?_) (fun hc=>?_)
  ·refine⟨_,rfl,b,_,0,_,rfl,rfl,aP.of hb,cv,_,rfl,_,_,rfl,rfl,hm.1,?_⟩
   refine⟨_,rfl,b,_,0,_,rfl,rfl,aP.of hb,cv,_,rfl,_,_,rfl,rfl,hm,_,rfl,b,_,0,0,rfl,rfl,hb,rfl,?_⟩
   refine⟨_,rfl,?_⟩
   exact q _ _ (Int.emod_nonneg _ (by have:=hm.1;omega)) (Int.emod_lt_of_pos _ hm.1) ⟨_,_,aa,h0,h1⟩ Fix.zD
  ·refine⟨_,rfl,b,_,1,_,rfl,rfl,aP.of hb,cD,_,_,rfl,rfl,.inr ⟨by decide,by decide⟩,_,_,rfl,rfl,(show (0:Int) < 2147483647 by decide),_,rfl,b,_,1,1,rfl,rfl,hb,rfl,?_⟩
   refine⟨_,rfl,b,_,1,_,rfl,rfl,aP.of aa,cD,_,rfl,b,_,1,_,rfl,rfl,aP.of aa,cD,_,_,rfl,rfl,.inl ⟨by omega,by omega⟩,_,_,rfl,rfl,(show (0:Int) < 2147483629 by decide),_,_,rfl,rfl,⟨by decide,by decide⟩,_,rfl,_,_,rfl,rfl,hm.1,?_⟩
   exact q _ _ (Int.emod_nonneg _ (by have:=hm.1;omega)) (Int.emod_lt_of_pos _ hm.1) ⟨_,_,aa,by omega,by omega⟩ Fix.zD
theorem tE {f:Addr} {fd:FuncData} (F:b4 K "_law_names" "_law_names" ju f fd) (Z:Bl mg) (O_law_take:Own P w K mg base "_law_take" 1 ["bag", "many"] fk):bw P w K mg base bX 2 f fd ["bag"] uA:=by
  refine F.ok (k:=1) dn (fun vs H Q E h=>?_) (fun cdv A outer s H vs Q E hr h=>?_)
  · obtain⟨b,rfl,_⟩:=h
    rfl
  · obtain⟨b,rfl,hB,q⟩:=h
    refine⟨_,(af (aM (i:=1) dn.nd bI)
      (af (aM (i:=2) dn.nd (aS cy ah (au O_law_take hr (av (pv 0) ah))))
      (af (rG (i:=3) ["k"] ["letters", "bag"] [1,0] rfl dn.nd rfl rfl rfl (dZ rfl Z.range (aJ (aS cy ah (au O_law_take hr (av (pv 0) ah))))) rfl (by decide +kernel) (by decide +kernel) (by decide +kernel) ⟨⟨rfl,.inl rfl,rfl⟩,⟨⟨rfl,.inl rfl,rfl⟩,True.intro⟩⟩ (fun _ _ _ _=>(aF (i:=0) (show ((["k"]:List Str)++(["letters", "bag"]:List Str)).Nodup by decide +kernel) (hf:=Or.inr rfl))) (fun _ _ _ _=>dz) (fun _ _ _ _=>(aw nJ (pv 1) (au O_law_take hr (av (pv 2) ah)))))
      (af (aM (i:=4) dn.nd (au O_law_take hr (av (pv 0) (aX bh rfl Z.len cF (aJ (pv 3))))))
      (af (aM (i:=5) dn.nd (b8 cz))
      (af (df PassesOwn.never rfl (dZ rfl Z.range (aJ (pv 2))) (aF (i:=6) dn.nd)
      (af (aM (i:=7) dn.nd (ba iM rfl Z.list oM (aJ (pv 3))))
      (af (cx (aw nJ (pv 1) (au O_law_take hr (av (pv 0) ah))) (eY (pv 7) (pv 4) set_list))
      (ai (aV (aG kY (fg PySem.F.plainAttrs_str PySem.F.slot_str_join PySem.F.type_str_join uz bI (aJ (pv 7))) (pv 5) (by with_unfolding_all rfl))
      (ai (dI (fg PySem.F.plainAttrs_list PySem.F.slot_list_append PySem.F.type_list_append eN (pv 5) (aJ (fg PySem.F.plainAttrs_str PySem.F.slot_str_join PySem.F.type_str_join uz bI (aJ (pv 7)))))))
      aL)))))
      (ai (aB (pv 5))))))))),?_⟩
    refine⟨_,rfl,b,4,rfl,hB,⟨by decide,by decide +kernel⟩,fun m H1 m0 m1 B1 X1=>⟨_,_,rfl,rfl,?_⟩⟩
    refine⟨_,rfl,b,8,rfl,B1,⟨by decide,by decide +kernel⟩,fun k H2 k0 k1 B2 X2=>⟨_,_,rfl,rfl,_,rfl,(by omega),(by omega),fun acc na=>?_⟩⟩
    refine jY (lo:=0) (fun i ys τ H'=>∃ (v:Option V) (cs:List Nat),τ = [v,some (.str jI),some (.ref b)]/\ys=(cs.map one).map V.str/\cs.length=i/\(∀ c ∈ cs,97<=c/\c<=122)/\H' acc=some (.lst ys)/\bY H' b/\Fix b H2 H') ?_ ?_ ?_ ?_
    · exact⟨none,[],rfl,rfl,rfl,(fun _ h=>nomatch h),aa,B2.new na,Fix.new na⟩
    · rintro i ys τ H' hi ⟨v,cs,rfl,rfl,hl,_,ha,_⟩
      refine⟨ha,?_⟩
      rw [List.length_map,List.length_map]
      exact bp (by omega)
    · rintro i ys τ H' hi ⟨v,cs,rfl,rfl,hl,hc,ha,B',X'⟩
      refine cf ?_
      refine fX ?_
      refine aQ ?_
      refine⟨_,rfl,_,rfl,b,26,rfl,B',⟨by decide,by decide +kernel⟩,fun r H3 r0 r1 B3 X3=>?_⟩
      obtain⟨c,hat,c0,c1⟩:=nM r0 r1
      have hab:acc ≠ b:=B2.d5 na
      have ha3:=X3 acc _ ha hab
      refine⟨jI,r,c,rfl,rfl,lZ,hat,ha3,_,cs ++ [c],rfl,?_,?_,?_,aa,?_,?_⟩
      · rw [List.map_append,List.map_append];rfl
      · rw [List.length_append,hl];rfl
      · intro d hd
        rcases List.mem_append.mp hd with hd | hd
        · exact hc d hd
        · rw [List.mem_singleton.mp hd];exact⟨c0,c1⟩
      · obtain⟨x,y,e,z⟩:=B3
        exact⟨x,y,by rw [ao hab.symm];exact e,z⟩
      · intro d o hd nd
        rw [ao (bg hd na)]
        exact (X'.trans X3) d o hd nd
    · rintro ys τ H3 ⟨v,cs,rfl,rfl,hl,hc,ha,B3,X3⟩
      have hab:acc ≠ b:=B2.d5 na
      have hl1:1<=cs.length:=by omega
      have hl8:cs.length<=8:=by omega
      have F3:Fix b H H3:=(X1.trans X2).trans X3
      have el:(((cs.map one).map V.str).length:Int)=cs.length:=by simp
      refine⟨_,rfl,_,rfl,acc,_,rfl,.inl (aP.of ha),b,_,rfl,B3,⟨by omega,fm (by omega) (by omega)⟩,fun at_ H4 t0 t1 B4 X4=>?_⟩
      refine⟨(by show 0<=sizeLine;decide),fun nl nn=>?_⟩
      have hnb:nl ≠ b:=B4.d5 nn
      have ha4:H4 acc=some (.lst ((cs.map one).map V.str)):=X4 acc _ ha hab
      have hna:nl ≠ acc:=fun z=>by rw [z,ha4] at nn;cases nn
      have F4:Fix b H H4:=F3.trans X4
      refine⟨_,rfl,_,rfl,(by omega),(by omega),gY (lo:=0) (fun i σ H'=>∃ (u1 u2:Option V) (xs:List Str),σ = [some (.ref b),some (.str jI),some (.int (1+m)),some (.ref acc),some (.int at_),some (.ref nl),u1,u2] /\
        H' nl=some (.lst (xs.map V.str))/\xs.length<=i/\(0 < i->xs ≠ [])/\(∀ x ∈ xs,iP x)/\H' acc=some (.lst ((cs.map one).map V.str))/\bY H' b/\Fix b H H') ?_ ?_ ?_⟩
      · exact⟨_,_,[],rfl,aa,Nat.le_refl _,(fun h=>absurd h (Nat.lt_irrefl _)),(fun _ h=>nomatch h),(by rw [ao hna.symm];exact ha4),B4.new nn,F4.trans (Fix.new nn)⟩
      · rintro i σ H' hi ⟨u1,u2,xs,rfl,hn,hx,hx0,aN,ha',B',X'⟩
        refine⟨_,rfl,acc,_,rfl,.inl (aP.of ha'),fun nm mm=>?_⟩
        have nmb:nm ≠ b:=B'.d5 mm
        have nma:nm ≠ acc:=fun z=>by rw [z,ha'] at mm;cases mm
        have nmn:nm ≠ nl:=fun z=>by rw [z,hn] at mm;cases mm
        refine⟨_,rfl,_,rfl,b,26,rfl,B'.new mm,⟨by decide,by decide +kernel⟩,fun r H5 r0 r1 B5 X5=>?_⟩
        obtain⟨c,hat,c0,c1⟩:=nM r0 r1
        have h5:H5 nm=some (.lst ((cs.map one).map V.str)):=X5 nm _ aa nmb
        have hn5:H5 nl=some (.lst (xs.map V.str)):=X5 nl _ (by rw [ao nmn.symm];exact hn) hnb
        have ha5:H5 acc=some (.lst ((cs.map one).map V.str)):=X5 acc _ (by rw [ao nma.symm];exact ha') hab
        obtain⟨j,rfl⟩:∃ j:Nat,at_=j:=⟨at_.toNat,by omega⟩
        have hj:j < cs.length:=by omega
        have hix:kW ((cs.map one).map V.str).length (j:Int)=some j:=by
          unfold kW
          rw [if_pos (by omega),if_pos (by rw [el];omega)]
          simp
        refine⟨jI,r,c,rfl,rfl,lZ,hat,_,rfl,_,rfl,nm,_,(j:Int),j,rfl,rfl,h5,hix,?_⟩
        have eset:((cs.map one).map V.str).set j (.str ⟨#[c]⟩)=((cs.set j c).map one).map V.str:=by
          rw [List.map_set,List.map_set];rfl
        rw [eset]
        have hc':∀ d ∈ cs.set j c,97<=d/\d<=122:=fun d hd=>by
          rcases List.mem_or_eq_of_mem_set hd with hd | hd
          · exact hc d hd
          · rw [hd];exact⟨c0,c1⟩
        have hjl:(((cs.set j c).map one).map (·.length)).sum+((cs.set j c).map one).length * (Str.ofString "").length<=16777216:=by
          have e1:(Str.ofString "").length=0:=by decide +kernel
          have e2:∀ l:List Nat,((l.map one).map (·.length)).sum=l.length:=by
            intro l
            induction l with
            | nil=>rfl
            | cons a l ih=>simp only [List.map_cons,List.sum_cons,ih,List.length_cons];show 1+l.length=_;omega
          rw [e1,e2,List.length_set]
          omega
        have nk:iP (Txt.join (Str.ofString "") ((cs.set j c).map one)):=by
          rw [yj]
          have ej:=L2.join_ones (cs.set j c)
          have eL:(Txt.join Str.empty ((cs.set j c).map one)).length=(cs.set j c).length:=by
            have:=congrArg List.length ej
            rw [Array.length_toList] at this
            exact this
          refine⟨?_,?_,?_⟩
          · rw [eL,List.length_set];exact hl1
          · rw [eL,List.length_set];exact hl8
          · rw [ej];exact hc'
        have n6:upd H5 nm (.lst (((cs.set j c).map one).map V.str)) nl=some (.lst (xs.map V.str)):=by rw [ao nmn.symm];exact hn5
        have a6:upd H5 nm (.lst (((cs.set j c).map one).map V.str)) acc=some (.lst ((cs.map one).map V.str)):=by rw [ao nma.symm];exact ha5
        have B6:bY (upd H5 nm (.lst (((cs.set j c).map one).map V.str))) b:=by
          obtain⟨x,y,e,z⟩:=B5
          exact⟨x,y,by rw [ao nmb.symm];exact e,z⟩
        have F6:Fix b H (upd H5 nm (.lst (((cs.set j c).map one).map V.str))):=fun d o hd nd=>by
          have h1:=X' d o hd nd
          have nd':d ≠ nm:=fun z=>by rw [z,mm] at h1;cases h1
          rw [ao nd']
          exact X5 d o (by rw [ao nd'];exact h1) nd
        have flat:(xs.map V.str).all fC=true:=by
          rw [List.all_eq_true]
          intro v hv
          obtain⟨x,_,rfl⟩:=List.mem_map.mp hv
          rfl
        refine⟨rfl,_,rfl,_,nm,_,rfl,rfl,aP.of aa,hjl,_,rfl,nl,_,rfl,.inl (aP.of n6),rfl,flat,_,rfl,?_⟩
        refine b9 (fun hin=>?_) (fun hin=>?_)
        · refine⟨_,rfl,.inl ⟨rfl,_,aP.of n6⟩,rfl,_,rfl,_,nm,_,rfl,rfl,aP.of aa,hjl,nl,_,_,rfl,rfl,n6,?_,?_⟩
          · rw [List.length_map]
            have:i < 4:=by omega
            exact bp (by omega)
          · refine⟨_,_,xs ++ [_],rfl,(by rw [aa,List.map_append];rfl),(by rw [List.length_append];exact Nat.succ_le_succ hx),(fun _=>by simp),?_,(by rw [ao hna.symm];exact a6),?_,?_⟩
            · intro x hxm
              rcases List.mem_append.mp hxm with hxm | hxm
              · exact aN x hxm
              · rw [List.mem_singleton.mp hxm];exact nk
            · obtain⟨x,y,e,z⟩:=B6
              exact⟨x,y,by rw [ao hnb.symm];exact e,z⟩
            · intro d o hd nd
              have h1:=F6 d o hd nd
              have nd':d ≠ nl:=fun z=>by
                have h2:=F4 d o hd nd
                rw [z,nn] at h2
                cases h2
              rw [ao nd']
              exact h1
        · have hx':xs ≠ []:=by
            intro e
            subst e
            exact hin rfl
          exact⟨_,_,xs,rfl,n6,Nat.le_succ_of_le hx,fun _=>hx',aN,a6,B6,F6⟩
      · rintro σ H' ⟨u1,u2,xs,rfl,hn,hx,hx0,aN,ha',B',X'⟩
        refine⟨_,rfl,?_⟩
        have hm:(1+m).toNat<=4:=by omega
        have hm0:0 < (1+m).toNat:=by omega
        exact q nl xs H' ⟨hn,hnb,hx0 hm0,by omega,aN⟩ (Nat.le_trans hx hm) B' X'
theorem qF {f:Addr} {fd:FuncData} (F:b4 K "_law_number" "_law_number" i5 f fd) (Z:Bl mg) (O_law_take:Own P w K mg base "_law_take" 1 ["bag", "many"] fk):bw P w K mg base bX 2 f fd ["bag"] mW:=by
 refine F.ok (k:=1) qB (fun vs H Q E h=>?_) (fun cdv A outer s H vs Q E hr h=>?_)
 ·obtain⟨b,rfl,_⟩:=h
  rfl
 ·obtain⟨b,rfl,hB,q⟩:=h
  refine⟨_,(af (aV (aG bK (au O_law_take hr (av (pv 0) ah)) ah (aK _))
   (ai (aB (aS gZ (aS fj (aS fj (aS nH ah ah) ah) (au O_law_take hr (av (pv 0) ah))) (aS fj ah (aS gZ ah (au O_law_take hr (av (pv 0) ah)))))))
   aL)
   (ai (aB (aS fj (au O_law_take hr (av (pv 0) ah)) ah)))),?_⟩
  refine⟨_,rfl,b,8,rfl,hB,⟨by decide,by decide +kernel⟩,fun r H1 r0 r1 B1 X1=>⟨rfl,_,rfl,?_⟩⟩
  refine b9 (fun hc=>?_) (fun hc=>?_)
  ·refine⟨10,40,rfl,rfl,⟨by decide,by decide,by decide⟩,_,_,rfl,rfl,?_⟩
   refine⟨_,rfl,b,3,rfl,B1,⟨by decide,by decide +kernel⟩,fun r2 H2 r20 r21 B2 X2=>⟨_,_,rfl,rfl,?_⟩⟩
   refine⟨_,rfl,b,2,rfl,B2,⟨by decide,by decide +kernel⟩,fun r3 H3 r30 r31 B3 X3=>?_⟩
   refine⟨_,_,rfl,rfl,.inl ⟨by decide,by decide⟩,_,_,rfl,rfl,_,_,rfl,rfl,.inr ⟨by omega,by omega⟩,?_⟩
   refine q _ H3 ?_ B3 ((X1.trans X2).trans X3)
   have e:(10:Int) ^ (40:Int).toNat=10 ^ 40:=by decide +kernel
   rw [e]
   obtain rfl | rfl:r3=0\/r3=1:=by omega
   ·rw [show (1:Int) - 2 * 0=1 by decide,Int.mul_one];unfold jZ;omega
   ·rw [show (1:Int) - 2 * 1 = -1 by decide,Int.mul_neg,Int.mul_one];unfold jZ;omega
  ·refine⟨_,rfl,b,8,rfl,B1,⟨by decide,by decide +kernel⟩,fun r2 H2 r20 r21 B2 X2=>⟨_,_,rfl,rfl,?_⟩⟩
   exact q _ H2 (by unfold jZ;omega) B2 (X1.trans X2)
theorem t6 {f:Addr} {fd:FuncData} (F:b4 K "_law_deed" "_law_deed" kh f fd) (Z:Bl mg) (O_law_take:Own P w K mg base "_law_take" 1 ["bag", "many"] fk) (O_law_number:Own P w K mg base "_law_number" 2 ["bag"] mW):bw P w K mg base bX 3 f fd ["bag", "names"] rK:=by
 refine F.ok (k:=2) jv (fun vs H Q E h=>?_) (fun cdv A outer s H vs Q E hr h=>?_)
 ·obtain⟨b,l,xs,rfl,_⟩:=h
  rfl
 ·obtain⟨b,l,xs,rfl,hB,hN,q⟩:=h
  refine⟨_,(af (aM (i:=2) jv.nd (aw bL (b8 (bG bI (bG bI (bG bI (bG bI (bG bI (bG bI (bG bI cz)))))))) (au O_law_take hr (av (pv 0) ah))))
   (af (aM (i:=3) jv.nd (aw bL (pv 1) (au O_law_take hr (av (pv 0) (aX bh rfl Z.len cF (aJ (pv 1)))))))
   (af (aV (aG bK (pv 2) bI (aK _))
   (ai (aB (aY (ft (pv 2) (pv 3) (aw bL (pv 1) (au O_law_take hr (av (pv 0) (aX bh rfl Z.len cF (aJ (pv 1))))))))))
   aL)
   (af (aV (PW.pt (iz (aG bK (pv 2) bI (aK _)) (fT (aG bK (pv 2) bI (aK _)))))
   (ai (aB (aY (ft (pv 2) (pv 3) (au O_law_number hr (aJ (pv 0)))))))
   aL)
   (ai (aB (aY (av (pv 2) (pv 3))))))))),?_⟩
  refine⟨Dm,fun l0 m0=>?_⟩
  refine⟨_,rfl,b,7,rfl,hB.new m0,⟨by decide,by decide +kernel⟩,fun r H1 r0 r1 B1 X1=>?_⟩
  have h0:H1 l0=some (.lst [.str "put",.str "copy",.str "add",.str "read",.str "tell",.str "tell",.str "add"]):=X1 l0 _ aa (hB.d5 m0)
  have F1:Fix b H H1:=(Fix.new m0).trans X1
  have N1:=hN.fix F1
  have hw:∃ w:Str,(w = "put" \/ w = "copy" \/ w = "add" \/ w = "read" \/ w = "tell")/\fE [V.str "put",.str "copy",.str "add",.str "read",.str "tell",.str "tell",.str "add"] r=some (V.str w):=by
   obtain rfl | rfl | rfl | rfl | rfl | rfl | rfl:r=0\/r=1\/r=2\/r=3\/r=4\/r=5\/r=6:=by omega
   ·exact⟨_,.inl rfl,bC (j:=0) rfl⟩
   ·exact⟨_,.inr (.inl rfl),bC (j:=1) rfl⟩
   ·exact⟨_,.inr (.inr (.inl rfl)),bC (j:=2) rfl⟩
   ·exact⟨_,.inr (.inr (.inr (.inl rfl))),bC (j:=3) rfl⟩
   ·exact⟨_,.inr (.inr (.inr (.inr rfl))),bC (j:=4) rfl⟩
   ·exact⟨_,.inr (.inr (.inr (.inr rfl))),bC (j:=5) rfl⟩
   ·exact⟨_,.inr (.inr (.inl rfl)),bC (j:=6) rfl⟩
  obtain⟨w,hw,hat⟩:=hw
  refine⟨l0,_,r,_,rfl,rfl,aP.of h0,hat,?_⟩
  obtain⟨p0,p1⟩:=N1.pos
  refine⟨_,rfl,_,rfl,_,rfl,l,_,rfl,.inl (aP.of N1.at_),b,_,rfl,B1,⟨p0,fm p0 p1⟩,fun r2 H2 r20 r21 B2 X2=>?_⟩
  have N2:=N1.fix X2
  obtain⟨x,hx,hxm⟩:=j0 r20 r21
  refine⟨l,_,r2,_,rfl,rfl,aP.of N2.at_,hx,?_⟩
  refine⟨_,rfl,rfl,_,rfl,?_⟩
  rcases hw with rfl | rfl | rfl | rfl | rfl
  ·
   rw [show decide (V.str "put" = V.str "copy")=false by decide +kernel]
   refine aU ⟨_,rfl,rfl,_,rfl,?_⟩
   rw [show decide (V.str "put" = V.str "put")=true by decide +kernel]
   refine aQ (aQ ⟨_,rfl,_,rfl,_,rfl,b,rfl,B2,fun n H3 nk B3 X3=>⟨rD,fun t mt=>?_⟩⟩)
   exact q _ (.put x n) _ (.tup aa (.cons (.str _) (.cons (.str _) (.cons (.int _) .nil)))) ⟨hxm,nk⟩ (B3.new mt) (((F1.trans X2).trans X3).trans (Fix.new mt))
  ·
   rw [show decide (V.str "copy" = V.str "copy")=true by decide +kernel]
   obtain⟨p0,p1⟩:=N2.pos
   refine aQ ⟨_,rfl,_,rfl,_,rfl,_,rfl,_,rfl,l,_,rfl,.inl (aP.of N2.at_),b,_,rfl,B2,⟨p0,fm p0 p1⟩,fun r3 H3 r30 r31 B3 X3=>?_⟩
   have N3:=N2.fix X3
   obtain⟨y,hy,hym⟩:=j0 r30 r31
   refine⟨l,_,r3,_,rfl,rfl,aP.of N3.at_,hy,rD,fun t mt=>?_⟩
   exact q _ (.copy x y) _ (.tup aa (.cons (.str _) (.cons (.str _) (.cons (.str _) .nil)))) ⟨hxm,hym⟩ (B3.new mt) (((F1.trans X2).trans X3).trans (Fix.new mt))
  ·
   rw [show decide (V.str "add" = V.str "copy")=false by decide +kernel]
   refine aU ⟨_,rfl,rfl,_,rfl,?_⟩
   rw [show decide (V.str "add" = V.str "put")=false by decide +kernel]
   refine aU ⟨_,rfl,rfl,_,rfl,?_⟩
   rw [show decide (V.str "add" = V.str "add")=true by decide +kernel]
   refine aQ ⟨_,rfl,_,rfl,_,rfl,b,rfl,B2,fun n H3 nk B3 X3=>⟨rD,fun t mt=>?_⟩⟩
   exact q _ (.add x n) _ (.tup aa (.cons (.str _) (.cons (.str _) (.cons (.int _) .nil)))) ⟨hxm,nk⟩ (B3.new mt) (((F1.trans X2).trans X3).trans (Fix.new mt))
  ·
   rw [show decide (V.str "read" = V.str "copy")=false by decide +kernel]
   refine aU ⟨_,rfl,rfl,_,rfl,?_⟩
   rw [show decide (V.str "read" = V.str "put")=false by decide +kernel]
   refine aU ⟨_,rfl,rfl,_,rfl,?_⟩
   rw [show decide (V.str "read" = V.str "add")=false by decide +kernel]
   refine aU ⟨_,rfl,_,rfl,ln2,fun t mt=>?_⟩
   exact q _ (.read x) _ (.tup aa (.cons (.str _) (.cons (.str _) .nil))) hxm (B2.new mt) ((F1.trans X2).trans (Fix.new mt))
  ·
   rw [show decide (V.str "tell" = V.str "copy")=false by decide +kernel]
   refine aU ⟨_,rfl,rfl,_,rfl,?_⟩
   rw [show decide (V.str "tell" = V.str "put")=false by decide +kernel]
   refine aU ⟨_,rfl,rfl,_,rfl,?_⟩
   rw [show decide (V.str "tell" = V.str "add")=false by decide +kernel]
   refine aU ⟨_,rfl,_,rfl,ln2,fun t mt=>?_⟩
   exact q _ (.tell x) _ (.tup aa (.cons (.str _) (.cons (.str _) .nil))) hxm (B2.new mt) ((F1.trans X2).trans (Fix.new mt))
theorem wa {f:Addr} {fd:FuncData} (F:b4 K "_law_end" "_law_end" lR f fd) (Z:Bl mg) (O_law_take:Own P w K mg base "_law_take" 1 ["bag", "many"] fk) (O_law_number:Own P w K mg base "_law_number" 2 ["bag"] mW):bw P w K mg base bX 3 f fd ["bag", "names", "count"] rL:=by
 refine F.ok (k:=2) iF (fun vs H Q E h=>?_) (fun cdv A outer s H vs Q E hr h=>?_)
 ·obtain⟨b,l,xs,c,rfl,_⟩:=h
  rfl
 ·obtain⟨b,l,xs,c,rfl,hB,hN,c0,c1,q⟩:=h
  refine⟨_,(af (aM (i:=3) iF.nd (au O_law_take hr (av (pv 0) ah)))
   (af (aV (aG bK (pv 3) ah (aK _))
   (ai (aB (aY (aJ bI))))
   aL)
   (af (aV (aG gR (pv 3) ah (aK _))
   (ai (aB (aY (av bI (au O_law_take hr (av (pv 0) (pv 2)))))))
   aL)
   (af (aM (i:=4) iF.nd (aw bL (b8 (av bI bI)) (aS lU (au O_law_take hr (av (pv 0) ah)) ah)))
   (af (aM (i:=5) iF.nd (aw bL (pv 1) (au O_law_take hr (av (pv 0) (aX bh rfl Z.len cF (aJ (pv 1)))))))
   (ai (aB (aY (bG (pv 4) (bG (pv 5) (bG (au O_law_number hr (aJ (pv 0))) (bG (au O_law_take hr (av (pv 0) (pv 2))) (bG (au O_law_take hr (av (pv 0) (pv 2))) cz))))))))))))),?_⟩
  have ck:(0:Int) < (c:Int)/\(c:Int).natAbs.log2 < 9000:=⟨by omega,fm (by omega) (by omega)⟩
  refine⟨_,rfl,b,9,rfl,hB,⟨by decide,by decide +kernel⟩,fun r H1 r0 r1 B1 X1=>?_⟩
  refine⟨_,rfl,rfl,_,rfl,?_⟩
  refine b9 (fun hc=>?_) (fun hc=>?_)
  ·refine⟨pO,fun t mt=>?_⟩
   exact q _ .stop _ (.tup aa (.cons (.str _) .nil)) True.intro (B1.new mt) (X1.trans (Fix.new mt))
  refine⟨_,rfl,_,_,rfl,rfl,_,rfl,?_⟩
  refine b9 (fun hd=>?_) (fun hd=>?_)
  ·refine⟨_,rfl,_,rfl,b,_,rfl,B1,ck,fun p H2 p0 p1 B2 X2=>⟨ln2,fun t mt=>?_⟩⟩
   obtain⟨k,rfl⟩:∃ k:Nat,p=k:=⟨p.toNat,by omega⟩
   exact q _ (.go k) _ (.tup aa (.cons (.str _) (.cons (.int _) .nil))) (show k < c by omega) (B2.new mt) ((X1.trans X2).trans (Fix.new mt))
  ·refine⟨ln2,fun l0 m0=>?_⟩
   refine⟨_,rfl,b,3,rfl,B1.new m0,⟨by decide,by decide +kernel⟩,fun z H2 z0 z1 B2 X2=>⟨_,_,rfl,rfl,⟨by decide,by decide⟩,?_⟩⟩
   have h0:H2 l0=some (.lst [.str "less",.str "is"]):=X2 l0 _ aa (B1.d5 m0)
   have hw:∃ w:Bool,fE [V.str "less",V.str "is"] (z / 2)=some (V.str (wT w)):=by
    obtain h | h:z / 2=0\/z / 2=1:=by omega
    ·rw [h];exact⟨true,cv⟩
    ·rw [h];exact⟨false,cD⟩
   obtain⟨w,hat⟩:=hw
   refine⟨l0,_,_,_,rfl,rfl,aP.of h0,hat,?_⟩
   have F2:Fix b H H2:=(X1.trans (Fix.new m0)).trans X2
   have N2:=hN.fix F2
   obtain⟨p0,p1⟩:=N2.pos
   refine⟨_,rfl,_,rfl,_,rfl,l,_,rfl,.inl (aP.of N2.at_),b,_,rfl,B2,⟨p0,fm p0 p1⟩,fun r3 H3 r30 r31 B3 X3=>?_⟩
   have N3:=N2.fix X3
   obtain⟨x,hx,hxm⟩:=j0 r30 r31
   refine⟨l,_,r3,_,rfl,rfl,aP.of N3.at_,hx,?_⟩
   refine⟨_,rfl,_,rfl,_,rfl,b,rfl,B3,fun n H4 nk B4 X4=>?_⟩
   refine⟨_,rfl,_,rfl,b,_,rfl,B4,ck,fun p H5 p0 p1 B5 X5=>?_⟩
   refine⟨_,rfl,_,rfl,b,_,rfl,B5,ck,fun p' H6 p0' p1' B6 X6=>⟨Dl,fun t mt=>?_⟩⟩
   obtain⟨k,rfl⟩:∃ k:Nat,p=k:=⟨p.toNat,by omega⟩
   obtain⟨k',rfl⟩:∃ k:Nat,p' = k:=⟨p'.toNat,by omega⟩
   exact q _ (.dA w x n k k') _ (.tup aa (.cons (.str _) (.cons (.str _) (.cons (.int _) (.cons (.int _) (.cons (.int _) .nil)))))) ⟨hxm,nk,by omega,by omega⟩ (B6.new mt) ((((F2.trans X3).trans X4).trans (X5.trans X6)).trans (Fix.new mt))
theorem t9 {f:Addr} {fd:FuncData} (F:b4 K "_law_plan" "_law_plan" ki f fd) (Z:Bl mg) (O_law_take:Own P w K mg base "_law_take" 1 ["bag", "many"] fk) (O_law_names:Own P w K mg base "_law_names" 2 ["bag"] uA) (O_law_deed:Own P w K mg base "_law_deed" 3 ["bag", "names"] rK) (O_law_end:Own P w K mg base "_law_end" 3 ["bag", "names", "count"] rL):bw P w K mg base bX 4 f fd ["bag", "count", "most"] wJ:=by
  refine F.ok (k:=3) ff (fun vs H Q E h=>?_) (fun cdv A outer s H vs Q E hr h=>?_)
  · obtain⟨b,c,m,rfl,_⟩:=h
    rfl
  · obtain⟨b,c,m,rfl,hB,c0,c1,hm,q⟩:=h
    refine⟨_,(af (aM (i:=3) ff.nd (au O_law_names hr (aJ (pv 0))))
      (af (aM (i:=4) ff.nd (b8 cz))
      (af (df PassesOwn.never rfl (dZ rfl Z.range (aJ (pv 1))) (aF (i:=5) ff.nd)
      (af (aM (i:=6) ff.nd (au O_law_take hr (av (pv 0) (aS cy (pv 2) ah))))
      (af (aM (i:=7) ff.nd (au O_law_end hr (ft (pv 0) (pv 3) (pv 1))))
      (ai (dI (fg PySem.F.plainAttrs_list PySem.F.slot_list_append PySem.F.type_list_append eN (pv 4) (aJ (aY (av (ba bF rfl Z.tuple cG (aJ (cP ["j"] ["bag", "names"] [0,3] rfl (dZ rfl Z.range (aJ (pv 6))) rfl (by decide +kernel) (by decide +kernel) (by decide +kernel) ⟨⟨rfl,.inl rfl,rfl⟩,⟨⟨rfl,.inl rfl,rfl⟩,True.intro⟩⟩ (fun _ _ _ _=>(aF (i:=0) (show ((["j"]:List Str)++(["bag", "names"]:List Str)).Nodup by decide +kernel) (hf:=Or.inr rfl))) (fun _ _ _ _=>dz) (fun _ _ _ _=>(au O_law_deed hr (av (pv 1) (pv 2))))))) (pv 7))))))))))
      (ai (aB (ba bF rfl Z.tuple cG (aJ (pv 4)))))))),?_⟩
    refine⟨_,rfl,b,rfl,hB,fun l xs H1 N1 x4 B1 X1=>?_⟩
    refine⟨(by show 0<=sizeLine;decide),fun pl pn=>?_⟩
    have hpb:pl ≠ b:=B1.d5 pn
    refine⟨_,rfl,_,rfl,(by omega),(by omega),gY (lo:=0) (fun i σ H'=>∃ (u1 u2 u3:Option V) (ps:List Piece) (vs:List V),σ = [some (.ref b),some (.int c),some (.int m),some (.ref l),some (.ref pl),u1,u2,u3] /\
      H' pl=some (.lst vs)/\bu H' vs (ps.map eZ)/\ps.length=i/\(∀ p ∈ ps,(p.1.length<=m/\∀ d ∈ p.1,d6 xs d)/\lW xs c p.2)/\eG H' b l xs/\bY H' b/\Fix b H H'/\(∀ d o,H1 d=some o->d ≠ b->H' d=some o)) ?_ ?_ ?_⟩
    · exact⟨_,_,_,[],[],rfl,aa,.nil,rfl,(fun _ h=>nomatch h),N1.fix (Fix.new pn),B1.new pn,X1.trans (Fix.new pn),Fix.new pn⟩
    · rintro i σ H' hi ⟨u1,u2,u3,ps,vs,rfl,hp,hr,hl,aN,N',B',X',Y'⟩
      refine⟨_,rfl,_,rfl,_,_,rfl,rfl,b,_,rfl,B',⟨by omega,fm (by omega) (by omega)⟩,fun k H2 k0 k1 B2 X2=>?_⟩
      have N2:=N'.fix X2
      refine⟨_,rfl,_,rfl,_,rfl,b,l,xs,c,rfl,B2,N2,c0,(by omega),fun ev e H3 re ek B3 X3=>?_⟩
      have N3:=N2.fix X3
      have hp3:H3 pl=some (.lst vs):=(X2.trans X3) pl _ hp hpb
      have hr3:bu H3 vs (ps.map eZ):=hr.fix B' (X2.trans X3) (cc ps)
      refine⟨_,rfl,.inl ⟨rfl,_,aP.of hp3⟩,_,rfl,_,rfl,(by omega),(by omega),fun acc na=>?_⟩
      have hab:acc ≠ b:=B3.d5 na
      refine jY (lo:=0) (fun i ys τ H'=>∃ (v:Option V) (ds:List cK),τ = [v,some (.ref b),some (.ref l)]/\bu H' ys (ds.map dP)/\ds.length=i/\(∀ d ∈ ds,d6 xs d)/\H' acc=some (.lst ys)/\bY H' b/\Fix b H3 H') ?_ ?_ ?_ ?_
      · exact⟨none,[],rfl,.nil,rfl,(fun _ h=>nomatch h),aa,B3.new na,Fix.new na⟩
      · rintro i' ys τ H4 hi' ⟨v,ds,rfl,rds,hl',_,ha,_⟩
        refine⟨ha,?_⟩
        rw [rds.len,List.length_map]
        exact bp (by omega)
      · rintro i' ys τ H4 hi' ⟨v,ds,rfl,rds,hl',hdk,ha,B4,X4⟩
        refine cf ?_
        refine fX ?_
        refine aQ ?_
        refine⟨_,rfl,_,rfl,b,l,xs,rfl,B4,N3.fix X4,fun dv d H5 rd dk B5 X5=>?_⟩
        have ha5:=X5 acc _ ha hab
        refine⟨ha5,_,ds ++ [d],rfl,?_,(by rw [List.length_append,hl'];rfl),?_,aa,?_,?_⟩
        · rw [List.map_append]
          refine bu.app ((rds.fix B4 X5 (b6 ds)).put ha5 (b6 ds)) ?_
          exact rd.aI (fun p zs e=>by rw [ao (bJ e ha5 (by intro z;cases z))];exact e) (jh d)
        · intro d' hd
          rcases List.mem_append.mp hd with hd | hd
          · exact hdk d' hd
          · rw [List.mem_singleton.mp hd];exact dk
        · obtain⟨x,y,e,z⟩:=B5
          exact⟨x,y,by rw [ao hab.symm];exact e,z⟩
        · intro d' o hd nd
          rw [ao (bg hd na)]
          exact (X4.trans X5) d' o hd nd
      · rintro ys τ H4 ⟨v,ds,rfl,rds,hl',hdk,ha,B4,X4⟩
        refine⟨acc,ys,rfl,.inl ⟨aP.of ha,fun tp tn=>?_⟩⟩
        refine⟨_,rfl,ln2,fun pc pcn=>?_⟩
        have S6:ae H4 (upd (upd H4 tp (.tup ys)) pc (.tup [.ref tp,ev])):=(ae.new tn).trans (ae.new pcn)
        have hp6:(upd (upd H4 tp (.tup ys)) pc (.tup [.ref tp,ev])) pl=some (.lst vs):=S6 _ _ (X4 pl _ hp3 hpb)
        refine⟨pl,_,_,rfl,rfl,hp6,?_,?_⟩
        · rw [hr.len,List.length_map,hl]
          exact bp (by omega)
        have hpiece:bE (upd (upd H4 tp (.tup ys)) pc (.tup [.ref tp,ev])) (.ref pc) (eZ (ds,e)):=by
          refine .tup aa (.cons (.tup (ae.new pcn _ _ aa) (rds.same S6 (b6 ds))) (.cons ?_ .nil))
          exact (re.fix B3 X4 (iB e)).same S6 (iB e)
        have F6:Fix b H (upd (upd H4 tp (.tup ys)) pc (.tup [.ref tp,ev])):=((X'.trans (X2.trans X3)).trans X4).trans (Fix.of_same S6)
        have plH:∀ d o,H1 d=some o->d ≠ b->d ≠ pl:=fun d o hd nd z=>by rw [z,pn] at hd;cases hd
        refine⟨_,_,_,ps ++ [(ds,e)],vs ++ [.ref pc],rfl,aa,?_,(by rw [List.length_append,hl];rfl),?_,?_,?_,?_,?_⟩
        · rw [List.map_append]
          refine bu.app (((hr3.fix B3 X4 (cc ps)).same S6 (cc ps)).put hp6 (cc ps)) ?_
          exact hpiece.aI (fun p zs e=>by rw [ao (bJ e hp6 (by intro z;cases z))];exact e) (iQ (ds,e))
        · intro p hpm
          rcases List.mem_append.mp hpm with hpm | hpm
          · exact aN p hpm
          · rw [List.mem_singleton.mp hpm]
            exact⟨⟨by show ds.length<=m;omega,hdk⟩,ek⟩
        · have hll:l ≠ pl:=fun z=>by
            have:=N1.at_
            rw [z,pn] at this
            cases this
          have N6:=(N3.fix X4).fix (Fix.of_same (b:=b) S6)
          exact⟨by rw [ao hll];exact N6.at_,N6.ne,N6.qN,N6.bO,N6.ok⟩
        · obtain⟨x,y,e',z⟩:=B4.same S6
          exact⟨x,y,by rw [ao hpb.symm];exact e',z⟩
        · intro d o hd nd
          have h1:=X1 d o hd nd
          rw [ao (plH d o h1 nd)]
          exact F6 d o hd nd
        · intro d o hd nd
          rw [ao (plH d o hd nd)]
          exact S6 d o (X4 d o ((X2.trans X3) d o (Y' d o hd nd) nd) nd)
    · rintro σ H' ⟨u1,u2,u3,ps,vs,rfl,hp,hr,hl,aN,N',B',X',Y'⟩
      have hl':ps.length=c:=by rw [hl];omega
      refine⟨_,rfl,pl,_,rfl,.inl ⟨aP.of hp,fun tp tn=>?_⟩⟩
      refine q (.ref tp) xs ps _ (.tup aa (hr.same (ae.new tn) (cc ps))) hl' ⟨fun p hpm=>(aN p hpm).1,fun p hpm=>?_⟩ ⟨N'.ok,x4⟩ (B'.new tn) (X'.trans (Fix.new tn))
      rw [hl']
      exact (aN p hpm).2
theorem tF {f:Addr} {fd:FuncData} (F:b4 K "_law_count" "_law_count" jw f fd) (Z:Bl mg) (O_law_take:Own P w K mg base "_law_take" 1 ["bag", "many"] fk):bw P w K mg base bX 2 f fd ["bag", "most"] uB:=by
 refine F.ok (k:=1) tm (fun vs H Q E h=>?_) (fun cdv A outer s H vs Q E hr h=>?_)
 ·obtain⟨b,m,rfl,_⟩:=h
  rfl
 ·obtain⟨b,m,rfl,hB,m0,m1,q⟩:=h
  refine⟨_,(ai (aB (aw bL (b8 (ft (aS cy ah (au O_law_take hr (av (pv 0) (pv 1)))) (aS cy ah (au O_law_take hr (av (pv 0) (aX (kT rfl) rfl Z.min rC (av ah (pv 1)))))) (pv 1))) (au O_law_take hr (av (pv 0) ah))))),?_⟩
  refine⟨_,rfl,_,rfl,b,_,rfl,hB,⟨by omega,fm (by omega) (by omega)⟩,fun r H1 r0 r1 B1 X1=>⟨_,_,rfl,rfl,?_⟩⟩
  refine⟨_,rfl,_,rfl,_,_,rfl,b,_,rfl,B1,⟨(by split <;> omega),fm (by split <;> omega) (by split <;> omega)⟩,fun r2 H2 r20 r21 B2 X2=>⟨_,_,rfl,rfl,?_⟩⟩
  refine⟨_,rfl,rD,fun l0 n0=>?_⟩
  refine⟨_,rfl,b,3,rfl,B2.new n0,⟨by decide,by decide +kernel⟩,fun z H3 z0 z1 B3 X3=>?_⟩
  have h0:H3 l0=some (.lst [.int (1+r),.int (1+r2),.int m]):=X3 l0 _ aa (B2.d5 n0)
  have hr2:r2 < 4:=by
   have:=r21
   split at this <;> omega
  have F3:Fix b H H3:=((X1.trans X2).trans (Fix.new n0)).trans X3
  obtain rfl | rfl | rfl:z=0\/z=1\/z=2:=by omega
  ·refine⟨l0,_,0,_,rfl,rfl,aP.of h0,cv,?_⟩
   have e:(1+r)=(((1+r).toNat:Nat):Int):=by omega
   rw [e]
   exact q _ H3 (by omega) (by omega) B3 F3
  ·refine⟨l0,_,1,_,rfl,rfl,aP.of h0,cD,?_⟩
   have e:(1+r2)=(((1+r2).toNat:Nat):Int):=by omega
   rw [e]
   exact q _ H3 (by omega) (by omega) B3 F3
  ·refine⟨l0,_,2,_,rfl,rfl,aP.of h0,at2,?_⟩
   exact q _ H3 m0 (by omega) B3 F3
theorem ua {f:Addr} {fd:FuncData} (F:b4 K "_law_ways" "_law_ways" kj f fd) (Z:Bl mg)  : bw P w K mg base bX 1 f fd ["end"] sH:=by
 refine F.ok (k:=0) tU (fun vs H Q E h=>?_) (fun cdv A outer s H vs Q E hr h=>?_)
 ·obtain⟨ea,e,rfl,_⟩:=h
  rfl
 ·obtain⟨ea,e,rfl,he,q⟩:=h
  refine⟨_,(af (aV (aG bK (aX bh rfl Z.len cF (aJ (pv 0))) ah (aK _))
   (ai (aB (b8 (av (aw aR (pv 0) ah) (aw aR (pv 0) ah)))))
   aL)
   (ai (aB (ba iM rfl Z.list oM (aJ (rh uD (pv 0) (uw ah) uv)))))),?_⟩
  refine⟨_,rfl,ea,_,rfl,.inr (ar.of he),rfl,_,rfl,?_⟩
  cases e with
  | stop =>
   refine aZ (show decide (V.int ((1:Nat):Int)=V.int 5)=false by decide +kernel) ?_
   refine⟨_,rfl,_,rfl,ea,_,rfl,ar.of he,fun hw=>absurd hw.1 (by decide),fun _ p hp=>⟨p,_,rfl,.inr (ar.of aa),fun l nl=>q l _ ((ae.new hp).free nl) aa ((ae.new hp).trans (ae.new nl))⟩⟩
  | go p1 =>
   refine aZ (show decide (V.int ((2:Nat):Int)=V.int 5)=false by decide +kernel) ?_
   refine⟨_,rfl,_,rfl,ea,_,rfl,ar.of he,fun hw=>absurd hw.1 (by show ¬ HT.b5 2 0 (some 1)=0;decide),fun _ p hp=>⟨p,_,rfl,.inr (ar.of aa),fun l nl=>q l _ ((ae.new hp).free nl) aa ((ae.new hp).trans (ae.new nl))⟩⟩
  | dA b x n p1 p2 =>
   refine bV (show decide (V.int ((5:Nat):Int)=V.int 5)=true by decide +kernel) ?_
   refine⟨_,rfl,ea,_,3,_,rfl,rfl,ar.of he,bC (j:=3) rfl,_,rfl,ea,_,4,_,rfl,rfl,ar.of he,bC (j:=4) rfl,ln2,fun l nl=>q l _ nl aa (ae.new nl)⟩
theorem pC {f:Addr} {fd:FuncData} (F:b4 K "_law_reached" "_law_reached" iu f fd) (Z:Bl mg) (O_law_ways:Own P w K mg base "_law_ways" 1 ["end"] sH):bw P w K mg base bX 3 f fd ["plan"] qm:=by
  refine F.ok (k:=2) eM (fun vs H Q E h=>?_) (fun cdv A outer s H vs Q E hr h=>?_)
  · obtain⟨plv,ps,rfl,_⟩:=h
    rfl
  · obtain⟨plv,ps,rfl,hp,hin,hn0,hn,q⟩:=h
    refine⟨_,(af (aM (i:=1) eM.nd (b8 (aJ ah)))
      (af (aM (i:=2) eM.nd ah)
      (af (qX PassesOwn.never (aG gR (pv 2) (aX bh rfl Z.len cF (aJ (pv 1))) (aK _))
      (af (df PassesOwn.never rfl (gB (au O_law_ways hr (aJ (aw aR (aw aR (pv 0) (aw bL (pv 1) (pv 2))) ah)))) (aF (i:=3) eM.nd)
      (ai (aV (aG kY (pv 3) (pv 1) (by with_unfolding_all rfl))
      (ai (dI (fg PySem.F.plainAttrs_list PySem.F.slot_list_append PySem.F.type_list_append eN (pv 1) (aJ (pv 3)))))
      aL)))
      (ai (aM (i:=2) eM.nd (aS cy (pv 2) ah)))))
      (ai (aB (aX (o6) rfl Z.sorted h8 (aJ (pv 1)))))))),?_⟩
    obtain⟨pp,vs,rfl,e1,r1⟩:=bE.cB hp
    have hvl:=r1.len
    rw [List.length_map] at hvl
    refine⟨pO,fun fl nfl=>?_⟩
    have s1:=ae.new (o:=.lst [.int 0]) nfl
    have hf1:(upd H fl (.lst [.int 0])) fl=some (.lst (vN [0])):=aa
    generalize (upd H fl (.lst [.int 0]))=H1 at s1 hf1
    refine⟨fun m σ H'=>∃ (ks:List Nat) (at_:Nat) (u:Option V),σ = [some (.ref pp),some (.ref fl),some (.int (at_:Nat)),u]/\H' fl=some (.lst (vN ks))/\ks.Nodup/\(∀ k ∈ ks,k < ps.length)/\(∀ k ∈ ks,ip ps k)/\0 ∈ ks/\at_<=ks.length/\(∀ k ∈ ks.take at_,∀ ds e,ps[k]? = some (ds,e)->∀ j ∈ bQ e,j ∈ ks)/\m=ps.length - at_/\ae H H',⟨_,[0],0,_,rfl,hf1,by simp,(fun k hk=>by rw [List.mem_singleton.mp hk];exact hn0),(fun k hk=>by rw [List.mem_singleton.mp hk];exact .zero),by simp,Nat.zero_le _,(fun k hk=>by simp at hk),rfl,s1⟩,?_⟩
    rintro m σ H2 ⟨ks,at_,u,rfl,hf2,nd,lt,BF,h0,hak,hcl,hm,s2⟩
    have hkn:=pZ nd lt
    have hvl2:(vN ks).length=ks.length:=List.length_map ..
    refine⟨_,rfl,_,rfl,fl,_,rfl,.inl (aP.of hf2),_,_,rfl,rfl,_,rfl,?_⟩
    refine b9 (fun hc=>?_) (fun hc=>?_)
    · have hlt:at_ < ks.length:=by have:=of_decide_eq_true hc;omega
      have hki:ks[at_]? = some ks[at_]:=by simp [hlt]
      generalize ks[at_] = kk at hki
      have hkm:=List.mem_of_getElem? hki
      have hkb:=lt kk hkm
      have hps:ps[kk]? = some ps[kk]:=by simp [hkb]
      generalize ps[kk] = pce at hps
      obtain⟨ds,e⟩:=pce
      obtain⟨p',xs',pc,da,ea,wsv,ep,e1',el',hx',e2,e3,r3,e4⟩:=iS hp hps
      cases ep
      rw [e1] at e1'
      cases e1'
      refine⟨_,fun σ' H' h=>⟨ps.length - (at_+1),by omega,h⟩,?_⟩
      refine⟨_,rfl,_,rfl,_,rfl,fl,_,_,_,rfl,rfl,aP.of hf2,bC (by rw [List.getElem?_map,hki];rfl),pp,_,_,_,rfl,rfl,ar.of (s2 _ _ e1),bC hx',pc,_,1,_,rfl,rfl,ar.of (s2 _ _ e2),cD,ea,e,rfl,s2 _ _ e4,fun wl H5 nwl hwl s5=>?_⟩
      have nfw:fl ≠ wl:=bg hf2 nwl
      have hf5:=s5 _ _ hf2
      refine⟨wl,rfl,⟨_,aP.of hwl⟩,jV (K:=K) (a:=wl) (xs:=vN (bQ e)) (fun i σ H'=>∃ (ks':List Nat) (more:List Nat) (u:Option V),σ = [some (.ref pp),some (.ref fl),some (.int (at_:Nat)),u]/\H' fl=some (.lst (vN ks'))/\ks' = ks++more/\ks'.Nodup/\(∀ k ∈ ks',k < ps.length)/\(∀ k ∈ ks',ip ps k)/\(∀ k ∈ (bQ e).take i,k ∈ ks')/\(∀ c o,H5 c=some o->c ≠ fl->H' c=some o)) ?_ ?_ ?_ ?_⟩
      · exact⟨ks,[],_,rfl,hf5,by rw [List.append_nil],nd,lt,BF,(fun k hk=>by simp at hk),fun c o h _=>h⟩
      · rintro i σ H6 hi ⟨ks',more,u,rfl,g1,g2,g3,g4,g5,g6,g7⟩
        exact aP.of (g7 _ _ hwl nfw.symm)
      · rintro i y σ H6 hi ⟨ks',more,u,rfl,g1,rfl,g3,g4,g5,g6,g7⟩
        obtain⟨k0,hk0,rfl⟩:∃ k,(bQ e)[i]? = some k/\y=V.int (k:Nat):=by
          rw [List.getElem?_map] at hi
          cases z:(bQ e)[i]? with
          | none=>rw [z] at hi;cases hi
          | some k=>rw [z] at hi;exact⟨k,rfl,(Option.some.inj hi).symm⟩
        have hk0m:=List.mem_of_getElem? hk0
        have hk0b:=uT hin hps k0 hk0m
        have htk:(bQ e).take (i+1)=(bQ e).take i ++ [k0]:=by rw [List.take_add_one,hk0];rfl
        refine cf ?_
        refine⟨_,rfl,_,rfl,fl,_,rfl,.inl (aP.of g1),rfl,uL _,_,rfl,?_⟩
        rw [show (if true=true then !jF (.int (k0:Nat)) (vN (ks++more)) else jF (.int (k0:Nat)) (vN (ks++more))) = !decide (k0 ∈ ks++more) from congrArg (!·) (oW k0 _)]
        by_cases hm0:k0 ∈ ks++more
        · refine aZ (by rw [decide_eq_true hm0];rfl) ?_
          refine⟨_,more,_,rfl,g1,rfl,g3,g4,g5,fun k hk=>?_,g7⟩
          rw [htk] at hk
          rcases List.mem_append.mp hk with hk | hk
          · exact g6 k hk
          · rw [List.mem_singleton.mp hk];exact hm0
        · refine bV (by rw [decide_eq_false hm0];rfl) ?_
          have hfew:=pZ g3 g4
          refine⟨_,rfl,.inl ⟨rfl,_,aP.of g1⟩,_,rfl,fl,_,_,rfl,rfl,g1,bp (by rw [List.length_map];omega),?_⟩
          refine⟨ks++(more ++ [k0]),more ++ [k0],_,rfl,?_,rfl,?_,fun k hk=>?_,fun k hk=>?_,fun k hk=>?_,fun c o h c1=>by rw [ao c1];exact g7 c o h c1⟩
          · rw [aa]
            show _=some (HO.lst ((ks++(more ++ [k0])).map _))
            rw [<-List.append_assoc,List.map_append]
            rfl
          · rw [<-List.append_assoc,List.nodup_append]
            refine⟨g3,by simp,fun x hx y hy z=>?_⟩
            rw [List.mem_singleton.mp hy] at z
            exact hm0 (z ▸ hx)
          · rw [<-List.append_assoc] at hk
            rcases List.mem_append.mp hk with hk | hk
            · exact g4 k hk
            · rw [List.mem_singleton.mp hk];exact hk0b
          · rw [<-List.append_assoc] at hk
            rcases List.mem_append.mp hk with hk | hk
            · exact g5 k hk
            · rw [List.mem_singleton.mp hk];exact .step (BF kk hkm) hps hk0m
          · rw [htk] at hk
            rw [<-List.append_assoc]
            rcases List.mem_append.mp hk with hk | hk
            · exact List.mem_append_left _ (g6 k hk)
            · exact List.mem_append_right _ hk
      · rintro σ H6 ⟨ks',more,u,rfl,g1,rfl,g3,g4,g5,g6,g7⟩
        rw [show (vN (bQ e)).length=(bQ e).length from List.length_map ..,List.take_length] at g6
        refine⟨_,rfl,_,_,rfl,rfl,?_⟩
        refine⟨ks++more,at_+1,_,rfl,g1,g3,g4,g5,List.mem_append_left _ h0,(by rw [List.length_append];omega),fun k hk ds' e' he' j hj=>?_,rfl,fun c o h=>g7 c o (s5 _ _ (s2 c o h)) (bg h nfl)⟩
        rw [List.take_append_of_le_length (by omega),List.take_add_one,hki] at hk
        rcases List.mem_append.mp hk with hk | hk
        · exact List.mem_append_left _ (hcl k hk ds' e' he' j hj)
        · have hk:k=kk:=List.mem_singleton.mp hk
          subst hk
          rw [hps] at he'
          cases he'
          exact g6 j hj
    · have hge:ks.length<=at_:=by
        by_cases z:at_ < ks.length
        · exact absurd (decide_eq_true (by omega)) hc
        · omega
      have all:∀ k,k ∈ ks ↔ ip ps k:=fun k=>by
        refine⟨BF k,fun r=>?_⟩
        induction r with
        | zero=>exact h0
        | step r hp' hk ih=>exact hcl _ (by rw [List.take_of_length_le hge];exact ih) _ _ hp' _ hk
      refine⟨_,rfl,fl,ks.map (fun k:Nat=>(k:Int)),rfl,(by rw [<-xm];exact aP.of hf2),(by rw [List.length_map];omega),fun l ns' hperm hsrt nl=>?_⟩
      obtain⟨ms,rfl,hms⟩:=sG hperm
      rw [<-xm]
      exact q l ms _ aa (fun k=>(hms.mem_iff).trans (all k)) (fun k hk=>lt k (hms.mem_iff.mp hk)) (zj hsrt (hms.nodup_iff.mpr nd)) (s2.trans (ae.new nl))
theorem ub {f:Addr} {fd:FuncData} (F:b4 K "_law_part" "_law_part" km f fd) (Z:Bl mg)  : bw P w K mg base bX 1 f fd ["stretch", "word", "number", "side"] uS:=by
 refine F.ok (k:=0) eh (fun vs H Q E h=>?_) (fun cdv A outer s H vs Q E hr h=>?_)
 ·obtain⟨p,b,n,side,lo,hi,rfl,_⟩:=h
  rfl
 ·obtain⟨p,b,n,side,lo,hi,rfl,hp,le,q⟩:=h
  refine⟨_,(af (cx (pv 0) (cm rfl (aH (aF (i:=4) eh.nd) (aH (aF (i:=5) eh.nd) bR))))
   (af (cQ (aV (aG bK (pv 1) bI (aK _))
   (ai (aV (eX (pv 3))
   (ai (aM (i:=5) eh.nd (aw bL (b8 (av (pv 5) (aS fj (pv 2) ah))) (ba fQ rfl Z.int jG (aJ (jU (fG (cO (pv 5))) (eD (eE BP (pv 5) (pv 2) (aK _)))))))))
   (ai (aM (i:=4) eh.nd (aw bL (b8 (av (pv 4) (pv 2))) (ba fQ rfl Z.int jG (aJ (jU (fG (cO (pv 4))) (eD (eE gR (pv 4) (pv 2) (aK _)))))))))))
   (ai (aV (eX (pv 3))
   (af (aV (PW.pt (iz (PW.pt (dM (bW (cA (pv 4))) (dt (aG gR (pv 2) (pv 4) (aK _))))) (fT (PW.pt (dM (bW (cA (pv 5))) (dt (aG iA (pv 2) (pv 5) (aK _))))))))
   (ai (aB bH))
   aL)
   (ai (aB (aY (av (pv 2) (pv 2))))))
   (af (aV (aG bK (pv 4) (pv 2) (aK _))
   (ai (aM (i:=4) eh.nd (aS cy (pv 2) ah)))
   aL)
   (ai (aV (aG bK (pv 5) (pv 2) (aK _))
   (ai (aM (i:=5) eh.nd (aS fj (pv 2) ah)))
   aL)))))))
   (af (aV (PW.pt (dM (bW (cA (pv 4))) (dM (bW (cA (pv 5))) (dt (aG iA (pv 4) (pv 5) (aK _))))))
   (ai (aB bH))
   aL)
   (ai (aB (aY (av (pv 4) (pv 5)))))))),?_⟩
  refine⟨_,rfl,p,_,rfl,ar.of hp,rfl,_,_,rfl,_,_,rfl,rfl,?_⟩
  refine⟨fun σ' H'=>∃ lo' hi':Option Int,σ' = [some (.ref p),some (.str (wT b)),some (.int n),some (.bl side),some (vO lo'),some (vO hi')]/\m9 lo' hi' = di (wT b) lo hi n side/\ae H H',?_,?_⟩
  ·refine⟨_,rfl,rfl,_,rfl,?_⟩
   cases b with
   | true =>
    have ew:(wT true:Str) = "less" := rfl
    refine bV (show decide (V.str (wT true)=V.str "less")=true by decide +kernel) ?_
    refine⟨_,rfl,_,rfl,?_⟩
    cases side with
    | true =>
     have ep:∀ hi',some (ik hi n)=hi'->m9 lo hi' = di (wT true) lo hi n true:=fun hi' e=>by
      rw [<-e,xt];simp only [di,ew,if_pos,j2]
     refine aQ ?_
     refine⟨_,rfl,_,rfl,_,_,rfl,rfl,ln2,fun l hl=>?_⟩
     cases hi with
     | none =>
      refine⟨_,rfl,_,rfl,aQ (.inr ⟨_,rfl,?_⟩)⟩
      exact⟨l,_,_,_,rfl,rfl,aP.of aa,cD,lo,some (n - 1),rfl,ep _ rfl,ae.new hl⟩
     | some h =>
      refine⟨_,rfl,_,rfl,aU ⟨_,rfl,_,rfl,_,_,rfl,rfl,.inr ⟨_,rfl,?_⟩⟩⟩
      have key:∀ bb:Bool,fE [vO (some h),V.int (n - 1)] (if bb=true then 1 else 0)=some (vO (if bb=true then some (n - 1) else some h)):=fun bb=>by
       cases bb
       ·exact cv
       ·exact cD
      refine⟨l,_,_,_,rfl,rfl,aP.of aa,key _,lo,_,rfl,ep _ ?_,ae.new hl⟩
      simp only [ik]
      by_cases hc:n<=h
      ·rw [if_pos (by omega),if_pos (decide_eq_true hc)]
      ·rw [if_neg (by omega),if_neg (fun z=>hc (of_decide_eq_true z))]
    | false =>
     have ep:∀ lo',some (il lo n)=lo'->m9 lo' hi=di (wT true) lo hi n false:=fun lo' e=>by
      rw [<-e,yR];simp only [di,ew,if_pos,j2,Bool.false_eq_true,if_false]
     refine aU ?_
     refine⟨_,rfl,_,rfl,ln2,fun l hl=>?_⟩
     cases lo with
     | none =>
      refine⟨_,rfl,_,rfl,aQ (.inr ⟨_,rfl,?_⟩)⟩
      exact⟨l,_,_,_,rfl,rfl,aP.of aa,cD,some n,hi,rfl,ep _ rfl,ae.new hl⟩
     | some a =>
      refine⟨_,rfl,_,rfl,aU ⟨_,rfl,_,rfl,_,_,rfl,rfl,.inr ⟨_,rfl,?_⟩⟩⟩
      have key:∀ bb:Bool,fE [vO (some a),V.int n] (if bb=true then 1 else 0)=some (vO (if bb=true then some n else some a)):=fun bb=>by
       cases bb
       ·exact cv
       ·exact cD
      refine⟨l,_,_,_,rfl,rfl,aP.of aa,key _,_,hi,rfl,ep _ ?_,ae.new hl⟩
      simp only [il]
      by_cases hc:a < n
      ·rw [if_pos (by omega),if_pos (decide_eq_true hc)]
      ·rw [if_neg (by omega),if_neg (fun z=>hc (of_decide_eq_true z))]
   | false =>
    have ew:¬ (wT false:Str) = "less" := by decide +kernel
    refine aZ (show decide (V.str (wT false)=V.str "less")=false by decide +kernel) ?_
    refine⟨_,rfl,_,rfl,?_⟩
    cases side with
    | true =>
     refine aQ ?_
     have eq_:di (wT false) lo hi n true=kA lo hi n:=by simp only [di,if_neg ew,rP,if_true]
     rw [eq_] at q
     have yes:cE n lo hi=true->∀ t,RV (upd H t (.tup [.int n,.int n])) (.ref t) (kA lo hi n):=fun h t=>by
      unfold kA;rw [if_pos h];exact⟨t,rfl,aa⟩
     have no:cE n lo hi=false->RV H .aC (kA lo hi n):=fun h=>by
      unfold kA;rw [if_neg (by rw [h];decide)];rfl
     have fin:cE n lo hi=true->_:=fun h=>(show xQ (ij (bZ (mT 2) (bZ (mT 2) eS))) ⟨fun _ _=>False,Q,fun _ _=>False,fun _ _=>False⟩ [some (.ref p),some (.str (wT false)),some (.int n),some (.bl true),some (vO lo),some (vO hi)] H from ⟨_,rfl,_,rfl,ln2,fun t nt=>q _ _ (yes h t) (ae.new nt)⟩)
     cases lo with
     | none =>
      cases hi with
      | none =>
       refine⟨_,rfl,_,rfl,aU ⟨_,rfl,_,rfl,aU (aU ?_)⟩⟩
       exact⟨_,rfl,_,rfl,ln2,fun t nt=>q _ _ (yes rfl t) (ae.new nt)⟩
      | some h =>
       refine⟨_,rfl,_,rfl,aU ⟨_,rfl,_,rfl,aQ ⟨_,rfl,_,rfl,_,_,rfl,rfl,_,rfl,?_⟩⟩⟩
       refine b9 (fun hc=>?_) (fun hc=>?_)
       ·refine q _ _ (no ?_) (ae.refl H)
        have:h < n:=of_decide_eq_true hc
        simp [cE];omega
       ·refine⟨_,rfl,_,rfl,ln2,fun t nt=>q _ _ (yes ?_ t) (ae.new nt)⟩
        have:¬ h < n:=fun z=>hc (decide_eq_true z)
        simp [cE];omega
     | some a =>
      refine⟨_,rfl,_,rfl,aQ ⟨_,rfl,_,rfl,_,_,rfl,rfl,_,rfl,?_⟩⟩
      refine b9 (fun hc=>?_) (fun hc=>?_)
      ·refine q _ _ (no ?_) (ae.refl H)
       have:n < a:=of_decide_eq_true hc
       cases hi <;> simp [cE] <;> omega
      ·have hna:¬ n < a:=fun z=>hc (decide_eq_true z)
       cases hi with
       | none =>
        refine⟨_,rfl,_,rfl,aU (aU ?_)⟩
        refine⟨_,rfl,_,rfl,ln2,fun t nt=>q _ _ (yes ?_ t) (ae.new nt)⟩
        simp [cE];omega
       | some h =>
        refine⟨_,rfl,_,rfl,aQ ⟨_,rfl,_,rfl,_,_,rfl,rfl,_,rfl,?_⟩⟩
        refine b9 (fun hc=>?_) (fun hc=>?_)
        ·refine q _ _ (no ?_) (ae.refl H)
         have:h < n:=of_decide_eq_true hc
         simp [cE];omega
        ·refine⟨_,rfl,_,rfl,ln2,fun t nt=>q _ _ (yes ?_ t) (ae.new nt)⟩
         have:¬ h < n:=fun z=>hc (decide_eq_true z)
         simp [cE];omega
    | false =>
     refine aU ?_
     have ep:m9 (if lo=some n then some (n+1) else lo) (if hi=some n then some (n - 1) else hi)=di (wT false) lo hi n false:=by
      rw [An le];simp only [di,if_neg ew,rP,Bool.false_eq_true,if_false]
     refine⟨_,rfl,_,rfl,hZ,_,rfl,?_⟩
     rw [jb]
     refine b9 (fun hc=>?_) (fun hc=>?_)
     ·have h1:lo=some n:=of_decide_eq_true hc
      rw [if_pos h1] at ep
      refine⟨_,rfl,_,_,rfl,rfl,?_⟩
      refine⟨_,rfl,_,rfl,hZ,_,rfl,?_⟩
      rw [jb]
      refine b9 (fun hd=>?_) (fun hd=>?_)
      ·rw [if_pos (of_decide_eq_true hd)] at ep
       exact⟨_,rfl,_,_,rfl,rfl,_,_,rfl,ep,ae.refl H⟩
      ·rw [if_neg (fun z=>hd (decide_eq_true z))] at ep
       exact⟨_,_,rfl,ep,ae.refl H⟩
     ·rw [if_neg (fun z=>hc (decide_eq_true z))] at ep
      refine⟨_,rfl,_,rfl,hZ,_,rfl,?_⟩
      rw [jb]
      refine b9 (fun hd=>?_) (fun hd=>?_)
      ·rw [if_pos (of_decide_eq_true hd)] at ep
       exact⟨_,rfl,_,_,rfl,rfl,_,_,rfl,ep,ae.refl H⟩
      ·rw [if_neg (fun z=>hd (decide_eq_true z))] at ep
       exact⟨_,_,rfl,ep,ae.refl H⟩
  rintro σ' H1 ⟨lo',hi',rfl,ec,s1⟩
  rw [<-ec] at q
  cases lo' with
  | none =>
   refine⟨_,rfl,_,rfl,aU (aU ?_)⟩
   exact⟨_,rfl,_,rfl,ln2,fun t nt=>q _ _ (by cases hi' <;> exact⟨t,rfl,aa⟩) (s1.trans (ae.new nt))⟩
  | some a =>
   cases hi' with
   | none =>
    refine⟨_,rfl,_,rfl,aQ ⟨_,rfl,_,rfl,aU (aU ?_)⟩⟩
    exact⟨_,rfl,_,rfl,ln2,fun t nt=>q _ _ ⟨t,rfl,aa⟩ (s1.trans (ae.new nt))⟩
   | some h =>
    refine⟨_,rfl,_,rfl,aQ ⟨_,rfl,_,rfl,aQ ⟨_,rfl,_,rfl,_,_,rfl,rfl,_,rfl,?_⟩⟩⟩
    refine b9 (fun hc=>?_) (fun hc=>?_)
    ·have:h < a:=of_decide_eq_true hc
     exact q _ _ (by show RV H1 .aC (if h < a then none else _);rw [if_pos this];rfl) s1
    ·have:¬ h < a:=fun z=>hc (decide_eq_true z)
     exact⟨_,rfl,_,rfl,ln2,fun t nt=>q _ _ (by show RV _ (.ref t) (if h < a then none else _);rw [if_neg this];exact⟨t,rfl,aa⟩) (s1.trans (ae.new nt))⟩
theorem uc {f:Addr} {fd:FuncData} (F:b4 K "_law_with" "_law_with" ko f fd) (Z:Bl mg)  : bw P w K mg base bX 1 f fd ["facts", "name", "stretch"] mB:=by
 refine F.ok (k:=0) jx (fun vs H Q E h=>?_) (fun cdv A outer s H vs Q E hr h=>?_)
 ·obtain⟨d,T,m,x,sv,s,rfl,_⟩:=h
  rfl
 ·obtain⟨d,T,m,x,sv,s,rfl,lt,hm,sh,q⟩:=h
  refine⟨_,(af (aM (i:=3) jx.nd mX)
   (af (cQ (uM PassesOwn.never rfl (pv 0) (aF (i:=4) jx.nd)
   (ai (jK (cZ hr) (pv 3) (pv 4) (jJ (cZ hr) (pv 0) (pv 4) (fun _ _=>rfl)) rfl))))
   (af (cQ (dI (rO (pv 3) (pv 1) bH ⟨rfl,rfl,rfl,rfl⟩)))
   (af (aV (aG (A4 hr.units) (pv 2) (aY (av bH bH)) (aK _))
   (ai (jK (cZ hr) (pv 3) (pv 1) (pv 2) rfl))
   aL)
   (ai (aB (pv 3))))))),?_⟩
  obtain⟨kvs,ks,hd,tb,cl,hl⟩:=lt
  have kl:kvs.length=ks.length:=by have:=congrArg List.length tb.keys;simpa using this
  have ndk:(kvs.map (·.1)).Nodup:=by
   rw [tb.keys]
   exact List.Pairwise.map _ (fun a b n z=>n (Sum.inr.inj z)) tb.nd
  refine fun md nmd=>?_
  have ndm:d ≠ md:=bg hd nmd
  refine⟨fun σ' H'=>∃ u:Option V,σ' = [some (.ref d),some (.str x),some sv,some (.ref md),u]/\H' md=some (.dK kvs)/\ae H H',?_,?_⟩
  ·refine⟨_,rfl,d,kvs,rfl,(by rw [ao ndm];exact hd),fun ob=>⟨fun j τ H2=>∃ u:Option V,τ = [some (.ref d),some (.str x),some sv,some (.ref md),u]/\H2 d=some (.dq ob (.dK kvs))/\H2 md=some (.dK (kvs.take j))/\∀ c o,H c=some o->c ≠ d->H2 c=some o,?_,?_,?_,?_⟩⟩
   ·refine⟨none,rfl,aa,by rw [ao ndm.symm,aa];rfl,fun c o e n=>?_⟩
    rw [ao n,ao (bg e nmd)]
    exact e
   ·rintro j τ H2 ⟨u,_,h,_⟩
    exact h
   ·rintro j k v τ H2 hj ⟨u,rfl,h1,h2,h3⟩
    have hj':j < kvs.length:=(List.getElem?_eq_some_iff.mp hj).1
    refine cf ?_
    have dg:cY H2 d (kV k) (some v):=.inl ⟨kvs,k,.inr ⟨ob,h1⟩,rfl,(rR ndk (List.mem_of_getElem? hj)).symm⟩
    refine⟨_,rfl,_,rfl,d,v,rfl,dg,_,rfl,_,rfl,md,_,rfl,j1.k (k:=k) h2 (bp (by rw [List.length_take];omega)),?_⟩
    refine⟨_,rfl,by rw [ao ndm];exact h1,by rw [aa,xp ndk hj],fun c o e n=>?_⟩
    rw [ao (bg e nmd)]
    exact h3 c o e n
   ·rintro τ H2 ⟨u,rfl,h1,h2,h3⟩
    refine⟨u,rfl,by rw [ao ndm.symm,h2,List.take_length],fun c o e=>?_⟩
    by_cases z:c=d
    ·subst z
     rw [hd] at e
     cases e
     exact aa
    ·rw [ao z]
     exact h3 c o e z
  rintro σ' H1 ⟨u,rfl,hmd,s1⟩
  have tb1:Tb 0 H1 kvs ks T:=tb.aI fun p xs e=>s1 _ _ e
  have sh1:SH H1 sv s:=sh.aI fun p xs e=>s1 _ _ e
  refine⟨fun σ' H2=>∃ (kvs2:List (Key × V)) (ks2:List Str),σ' = [some (.ref d),some (.str x),some sv,some (.ref md),u]/\H2 md=some (.dK kvs2)/\Tb 0 H2 kvs2 ks2 (cg T x bN)/\(∀ y ∈ ks2,cg T x bN y ≠ bN)/\ks2.length<=m/\ae H H2,
   ⟨_,rfl,md,rfl,.inl ⟨kvs,.inl hmd⟩,_,rfl,kvs,Sum.inr x,hmd,rfl,fun v ev=>?_,fun ev=>?_⟩,?_⟩
  ·refine⟨_,_,rfl,aa,(tb1.drop x).aI (fun p xs e=>by rw [ao (bJ e hmd (by intro z;cases z))];exact e),fun y hy=>?_,Nat.le_trans (List.length_filter_le _ _) hl,s1.put nmd⟩
   obtain⟨h1,h2⟩:=List.mem_filter.mp hy
   have hne:y ≠ x:=of_decide_eq_true h2
   unfold cg
   rw [if_neg hne]
   exact cl y h1
  ·have hT:T x=bN:=by
    rcases tb.val x with ⟨_,a,_⟩ | ⟨v,a,_⟩
    ·exact a
    ·rw [ev] at a;cases a
   exact⟨kvs,ks,rfl,hmd,by rw [p8 hT];exact tb1,by rw [p8 hT];exact cl,hl,s1⟩
  rintro σ' H2 ⟨kvs2,ks2,rfl,hm2,tb2,cl2,hl2,s2⟩
  have kl2:kvs2.length=ks2.length:=by have:=congrArg List.length tb2.keys;simpa using this
  refine⟨_,rfl,ln2,fun t nt=>?_⟩
  have s3:=ae.new (o:=.tup [.aC,.aC]) nt
  have ht:(upd H2 t (.tup [.aC,.aC])) t=some (.tup [.aC,.aC]):=aa
  generalize (upd H2 t (.tup [.aC,.aC]))=H3 at s3 ht
  have sh3:SH H3 sv s:=sh.aI fun p xs e=>s3 _ _ (s2 _ _ e)
  have tb3:=tb2.aI (H':=H3) fun p xs e=>s3 _ _ e
  have hm3:=s3 _ _ hm2
  refine⟨dS s,.tuple [.none,.none],sh3.rd,.tup ht (.cons .aC (.cons .aC .nil)),zK s,rfl,(by have:=zL s;omega),_,rfl,?_⟩
  by_cases hs:s=bN
  ·refine aZ (by rw [oV,decide_eq_true hs];rfl) ?_
   subst hs
   exact⟨_,rfl,q md H3 ⟨kvs2,ks2,hm3,tb3,cl2,Nat.le_succ_of_le hl2⟩ nmd (s2.trans s3)⟩
  ·refine bV (by rw [oV,decide_eq_false hs];rfl) ?_
   refine⟨_,rfl,_,rfl,_,rfl,md,_,rfl,j1.k (k:=Sum.inr x) hm3 (bp (by omega)),?_⟩
   obtain⟨ks4,tb4,k4,m4⟩:=tb3.put x (.inl sh3)
   rw [xo] at tb4
   refine⟨_,rfl,q md _ ⟨_,ks4,aa,tb4.aI (fun p xs e=>by rw [ao (bJ e hm3 (by intro z;cases z))];exact e),fun y hy=>?_,by omega⟩ nmd ((s2.trans s3).put nmd)⟩
   unfold cg
   by_cases e:y=x
   ·rw [if_pos e];exact hs
   ·rw [if_neg e]
    have h1:=cl2 y (((m4 y).mp hy).elim id fun z=>absurd z e)
    unfold cg at h1
    rw [if_neg e] at h1
    exact h1
theorem ud {f:Addr} {fd:FuncData} (F:b4 K "_law_told" "_law_told" kq f fd) (Z:Bl mg)  : bw P w K mg base bX 1 f fd ["facts"] oX:=by
 refine F.ok (k:=0) tV (fun vs H Q E h=>?_) (fun cdv A outer s H vs Q E hr h=>?_)
 ·obtain⟨d,T,rfl,_⟩:=h
  rfl
 ·obtain⟨d,T,rfl,lt,q⟩:=h
  refine⟨_,(ai (aB (ba bF rfl Z.tuple cG (aJ (cP ["name"] ["facts"] [0] rfl (gB (aX (iU rfl) rfl Z.sorted h8 (aJ (pv 0)))) rfl (by decide +kernel) (by decide +kernel) (by decide +kernel) ⟨⟨rfl,.inl rfl,rfl⟩,True.intro⟩ (fun _ _ _ _=>(aF (i:=0) (show ((["name"]:List Str)++(["facts"]:List Str)).Nodup by decide +kernel) (hf:=Or.inr rfl))) (fun _ _ _ _=>dz) (fun _ _ _ _=>(aY (av (pv 0) (jJ (cZ hr) (pv 1) (pv 0) (fun _ _=>rfl)))))))))),?_⟩
  obtain⟨kvs,ks,hd,tb,cl,hl⟩:=lt
  refine⟨_,rfl,d,kvs,ks,rfl,hd,tb.keys,(by omega),fun l ss hp hs hn=>?_⟩
  have srt:cI ss:=⟨ll hs,hp.nodup_iff.mpr tb.nd⟩
  have hl1:(upd H l (.lst (ss.map V.str))) l=some (.lst (ss.map V.str)):=aa
  have s1:ae H (upd H l (.lst (ss.map V.str))):=ae.new hn
  have hssl:ss.length < 64:=by rw [hp.length_eq];omega
  generalize (upd H l (.lst (ss.map V.str)))=H1 at hl1 s1
  refine⟨l,rfl,⟨_,aP.of hl1⟩,fun acc na=>?_⟩
  refine oP (K:=K) (a:=l) (xs:=ss.map V.str) (fun i ys τ H'=>∃ c:Option V,τ = [c,some (.ref d)]/\bu H' ys ((ss.take i).map (dF T))/\H' acc=some (.lst ys)/\ae H1 H') ?_ ?_ ?_ ?_
  ·exact⟨none,rfl,.nil,aa,ae.new na⟩
  ·rintro i ys τ H2 hi ⟨c,rfl,r,ha,s2⟩
   refine⟨aP.of (s2 _ _ hl1),ha,?_⟩
   have h1:=r.len
   rw [List.length_map,List.length_take] at h1
   exact bp (by omega)
  ·rintro i x ys τ H2 hi ⟨c,rfl,r,ha,s2⟩
   obtain⟨y,hy,rfl⟩:∃ y,ss[i]? = some y/\x=V.str y:=by
    rw [List.getElem?_map] at hi
    cases e:ss[i]? with
    | none=>rw [e] at hi;cases hi
    | some k=>rw [e] at hi;exact⟨k,rfl,(Option.some.inj hi).symm⟩
   have hym:y ∈ ks:=hp.mem_iff.mp (List.mem_of_getElem? hy)
   have tk:ss.take (i+1)=ss.take i ++ [y]:=by rw [List.take_add_one,hy];rfl
   obtain⟨v,ev,sv⟩:∃ v,bS kvs (Sum.inr y)=some v/\SH H v (T y):=by
    rcases tb.val y with ⟨_,_,c⟩ | ⟨v,a,b,_⟩
    ·exact absurd hym c
    ·rcases b with b | ⟨_,b⟩
     ·exact⟨v,a,b⟩
     ·exact absurd b (cl y hym)
   have hd2:H2 d=some (.dK kvs):=s2 _ _ (s1 _ _ hd)
   have dg:cY H2 d (.str y) (some v):=by
    have:=cY.k (k:=Sum.inr y) hd2
    rw [ev] at this
    exact this
   refine cf ?_
   refine fX ?_
   refine aQ ?_
   refine⟨_,rfl,_,rfl,_,rfl,d,v,rfl,dg,ln2,fun t nt=>?_⟩
   have s3:=ae.new (o:=.tup [.str y,v]) nt
   have ht:(upd H2 t (.tup [.str y,v])) t=some (.tup [.str y,v]):=aa
   generalize (upd H2 t (.tup [.str y,v]))=H3 at s3 ht
   have sh:SH H3 v (T y):=sv.aI fun p xs e=>s3 _ _ (s2 _ _ (s1 _ _ e))
   have ha3:=s3 _ _ ha
   refine⟨ha3,_,rfl,?_,aa,(s2.trans s3).put na⟩
   rw [tk,List.map_append]
   refine bu.app ((r.same s3 (gd T _)).put ha3 (gd T _)) ?_
   refine bE.aI (H:=H3) (fun p zs e=>by rw [ao (bJ e ha3 (by intro z;cases z))];exact e) (.tup ht (.cons (.str y) (.cons sh.rd .nil))) ?_
   have:=gd T [y]
   simpa [cH] using this
  ·rintro ys τ H2 ⟨c,rfl,r,ha,s2⟩
   rw [List.length_map,List.take_length] at r
   refine⟨acc,ys,rfl,.inl ⟨aP.of ha,fun t nt=>?_⟩⟩
   refine q _ _ ⟨t,ys,ss,rfl,aa,srt,fun x=>?_,r.same (ae.new nt) (gd T _)⟩ ((s1.trans s2).trans (ae.new nt))
   rw [hp.mem_iff]
   constructor
   ·exact cl x
   ·intro h
    rcases tb.val x with ⟨_,a,_⟩ | ⟨_,_,_,a⟩
    ·exact absurd a h
    ·exact a
theorem qG {f:Addr} {fd:FuncData} (F:b4 K "_law_behind" "_law_behind" i6 f fd) (Z:Bl mg) (O_law_with:Own P w K mg base "_law_with" 1 ["facts", "name", "stretch"] mB):bw P w K mg base bX 2 f fd ["facts", "deeds"] uX:=by
 refine F.ok (k:=1) b7 (fun vs H Q E h=>?_) (fun cdv A outer s H vs Q E hr h=>?_)
 ·obtain⟨d,p,T,m,ws,ds,pool,rfl,_⟩:=h
  rfl
 ·obtain⟨d,p,T,m,ws,ds,pool,rfl,lt,hp,r,hm,hmp,tok,dok,q⟩:=h
  refine⟨_,(af (df PassesOwn.never rfl (dY (pv 1)) (aF (i:=2) b7.nd)
   (af (cQ (aM (i:=3) b7.nd (cW (cZ hr) (pv 0) (aw aR (pv 2) ah) (aY (av bH bH)) ⟨rfl,rfl,rfl,rfl⟩)))
   (af (aV (aG bK (aw aR (pv 2) ah) bI (aK _))
   (ai (aM (i:=3) b7.nd (aY (av (aw aR (pv 2) ah) (aw aR (pv 2) ah)))))
   aL)
   (af (aV (aG bK (aw aR (pv 2) ah) bI (aK _))
   (ai (aM (i:=3) b7.nd (cW (cZ hr) (pv 0) (aw aR (pv 2) ah) (aY (av bH bH)) ⟨rfl,rfl,rfl,rfl⟩)))
   aL)
   (af (aV (aG bK (aw aR (pv 2) ah) bI (aK _))
   (ai (aM (i:=3) b7.nd (aY (av bH bH))))
   aL)
   (af (aV (aG bK (aw aR (pv 2) ah) bI (aK _))
   (af (cx (pv 3) (cm rfl (aH (aF (i:=4) b7.nd) (aH (aF (i:=5) b7.nd) bR))))
   (af (cQ (aV (bW (cA (pv 4)))
   (ai (aM (i:=4) b7.nd (aS cy (pv 4) (aw aR (pv 2) ah))))
   aL))
   (af (cQ (aV (bW (cA (pv 5)))
   (ai (aM (i:=5) b7.nd (aS cy (pv 5) (aw aR (pv 2) ah))))
   aL))
   (ai (aM (i:=3) b7.nd (aY (av (pv 4) (pv 5))))))))
   aL)
   (ai (aM (i:=0) b7.nd (au O_law_with hr (ft (pv 0) (aw aR (pv 2) ah) (pv 3)))))))))))
   (ai (aB (pv 0)))),?_⟩
  refine⟨_,rfl,p,rfl,⟨_,ar.of hp⟩,gC (K:=K) (a:=p) (xs:=ws) (fun i σ H'=>∃ (u0 u1 u2 u3:Option V) (dc:Addr),σ = [some (.ref dc),some (.ref p),u0,u1,u2,u3]/\LT H' dc (bB T (ds.take i)) m/\(dc=d\/H dc=none)/\ae H H') ?_ ?_ ?_ ?_⟩
  ·exact⟨_,_,_,_,d,rfl,lt,.inl rfl,ae.refl H⟩
  ·rintro i σ H1 hi ⟨u0,u1,u2,u3,dc,rfl,lt1,fr1,s1⟩
   exact ar.of (s1 _ _ hp)
  ·rintro i y σ H1 hi ⟨u0,u1,u2,u3,dc,rfl,lt1,fr1,s1⟩
   have hil:i < ds.length:=by
    have:=(List.getElem?_eq_some_iff.mp hi).1
    rw [r.len,List.length_map] at this
    exact this
   have hdi:ds[i]? = some ds[i]:=by simp [hil]
   generalize ds[i] = dd at hdi
   obtain⟨v,hv,rd⟩:=r.get (i:=i) (d:=dP dd) (by rw [List.getElem?_map,hdi];rfl)
   rw [hi] at hv
   cases hv
   have tkb:bB T (ds.take (i+1))=vG (bB T (ds.take i)) dd:=by
    unfold bB
    rw [List.take_add_one,hdi,Option.toList_some,List.foldl_append]
    rfl
   have tokI:=(tok.lC (fun d hd=>dok d (List.mem_of_mem_take hd)):cC pool (bB T (ds.take i))).Cz (dok dd (List.mem_of_getElem? hdi))
   refine cf ?_
   cases dd
   case put x n =>
    obtain⟨dp,rfl,hdp⟩:=gJ rd
    obtain⟨kvs1,ks1,hd1,tb1,cl1,hl1⟩:=id lt1
    refine⟨fun σ' H2=>∃ v:V,σ' = [some (.ref dc),some (.ref p),some (.ref dp),some v,u2,u3]/\SH H2 v (bB T (ds.take i) x)/\ae H1 H2,⟨_,rfl,dc,rfl,.inl ⟨kvs1,.inl hd1⟩,_,rfl,dp,_,1,_,rfl,rfl,ar.of (s1 _ _ hdp),cD,ln2,fun t nt=>?_⟩,?_⟩
    ·obtain⟨v,ev,sv⟩:=LT.get (tb1.aI fun p xs e=>ae.new (o:=.tup [.aC,.aC]) nt _ _ e) cl1 aa x
     exact⟨_,v,cY.k (k:=Sum.inr x) (ae.new nt _ _ hd1),ev,v,rfl,sv,ae.new nt⟩
    rintro σ' H2 ⟨v,rfl,sv,s2⟩
    have lt2:=lt1.same s2
    have hdp2:=s2 _ _ (s1 _ _ hdp)
    refine⟨_,rfl,dp,_,0,_,rfl,rfl,ar.of hdp2,cv,rfl,_,rfl,?_⟩
    refine bV (show decide (V.str "put" = V.str "put")=true by decide +kernel) ?_
    refine⟨_,rfl,dp,_,2,_,rfl,rfl,ar.of hdp2,at2,_,rfl,dp,_,2,_,rfl,rfl,ar.of hdp2,at2,ln2,fun t nt=>?_⟩
    have s3:=ae.new (o:=.tup [.int n,.int n]) nt
    have ht:(upd H2 t (.tup [.int n,.int n])) t=some (.tup [.int n,.int n]):=aa
    generalize (upd H2 t (.tup [.int n,.int n]))=H3 at s3 ht
    have hdp3:=s3 _ _ hdp2
    refine⟨_,rfl,dp,_,0,_,rfl,rfl,ar.of hdp3,cv,rfl,_,rfl,?_⟩
    refine aZ (show decide (V.str "put" = V.str "copy")=false by decide +kernel) ?_
    refine⟨_,rfl,dp,_,0,_,rfl,rfl,ar.of hdp3,cv,rfl,_,rfl,?_⟩
    refine aZ (show decide (V.str "put" = V.str "read")=false by decide +kernel) ?_
    refine⟨_,rfl,dp,_,0,_,rfl,rfl,ar.of hdp3,cv,rfl,_,rfl,?_⟩
    refine aZ (show decide (V.str "put" = V.str "add")=false by decide +kernel) ?_
    refine⟨_,rfl,_,rfl,dp,_,1,_,rfl,rfl,ar.of hdp3,cD,_,rfl,dc,_,m,x,_,m8 (bB T (ds.take i)) (.put x n),rfl,lt2.same s3,(by omega),⟨t,rfl,ht⟩,fun d' H' lt' nd' s'=>?_⟩
    refine⟨_,_,_,_,d',rfl,?_,.inr (((s1.trans s2).trans s3).free nd'),(s1.trans s2).trans (s3.trans s')⟩
    rw [tkb]
    exact lt'.mw (by rw [hmp];exact tokI.bO)
   case copy x y =>
    obtain⟨dp,rfl,hdp⟩:=gJ rd
    obtain⟨kvs1,ks1,hd1,tb1,cl1,hl1⟩:=id lt1
    refine⟨fun σ' H2=>∃ v:V,σ' = [some (.ref dc),some (.ref p),some (.ref dp),some v,u2,u3]/\SH H2 v (bB T (ds.take i) x)/\ae H1 H2,⟨_,rfl,dc,rfl,.inl ⟨kvs1,.inl hd1⟩,_,rfl,dp,_,1,_,rfl,rfl,ar.of (s1 _ _ hdp),cD,ln2,fun t nt=>?_⟩,?_⟩
    ·obtain⟨v,ev,sv⟩:=LT.get (tb1.aI fun p xs e=>ae.new (o:=.tup [.aC,.aC]) nt _ _ e) cl1 aa x
     exact⟨_,v,cY.k (k:=Sum.inr x) (ae.new nt _ _ hd1),ev,v,rfl,sv,ae.new nt⟩
    rintro σ' H2 ⟨v,rfl,sv,s2⟩
    have lt2:=lt1.same s2
    have hdp2:=s2 _ _ (s1 _ _ hdp)
    refine⟨_,rfl,dp,_,0,_,rfl,rfl,ar.of hdp2,cv,rfl,_,rfl,?_⟩
    refine aZ (show decide (V.str "copy" = V.str "put")=false by decide +kernel) ?_
    refine⟨_,rfl,dp,_,0,_,rfl,rfl,ar.of hdp2,cv,rfl,_,rfl,?_⟩
    refine bV (show decide (V.str "copy" = V.str "copy")=true by decide +kernel) ?_
    obtain⟨kvs2,ks2,hd2,tb2,cl2,hl2⟩:=id lt2
    refine⟨_,rfl,dc,rfl,.inl ⟨kvs2,.inl hd2⟩,_,rfl,dp,_,2,_,rfl,rfl,ar.of hdp2,at2,ln2,fun t nt=>?_⟩
    obtain⟨v2,ev2,sv2⟩:=LT.get (tb2.aI fun p xs e=>ae.new (o:=.tup [.aC,.aC]) nt _ _ e) cl2 aa y
    refine⟨_,v2,cY.k (k:=Sum.inr y) (ae.new nt _ _ hd2),ev2,?_⟩
    have s3:=ae.new (o:=.tup [.aC,.aC]) nt
    clear ev2
    generalize (upd H2 t (.tup [.aC,.aC]))=H3 at s3 sv2
    have hdp3:=s3 _ _ hdp2
    refine⟨_,rfl,dp,_,0,_,rfl,rfl,ar.of hdp3,cv,rfl,_,rfl,?_⟩
    refine aZ (show decide (V.str "copy" = V.str "read")=false by decide +kernel) ?_
    refine⟨_,rfl,dp,_,0,_,rfl,rfl,ar.of hdp3,cv,rfl,_,rfl,?_⟩
    refine aZ (show decide (V.str "copy" = V.str "add")=false by decide +kernel) ?_
    refine⟨_,rfl,_,rfl,dp,_,1,_,rfl,rfl,ar.of hdp3,cD,_,rfl,dc,_,m,x,_,m8 (bB T (ds.take i)) (.copy x y),rfl,lt2.same s3,(by omega),sv2,fun d' H' lt' nd' s'=>?_⟩
    refine⟨_,_,_,_,d',rfl,?_,.inr (((s1.trans s2).trans s3).free nd'),(s1.trans s2).trans (s3.trans s')⟩
    rw [tkb]
    exact lt'.mw (by rw [hmp];exact tokI.bO)
   case read x =>
    obtain⟨dp,rfl,hdp⟩:=gJ rd
    obtain⟨kvs1,ks1,hd1,tb1,cl1,hl1⟩:=id lt1
    refine⟨fun σ' H2=>∃ v:V,σ' = [some (.ref dc),some (.ref p),some (.ref dp),some v,u2,u3]/\SH H2 v (bB T (ds.take i) x)/\ae H1 H2,⟨_,rfl,dc,rfl,.inl ⟨kvs1,.inl hd1⟩,_,rfl,dp,_,1,_,rfl,rfl,ar.of (s1 _ _ hdp),cD,ln2,fun t nt=>?_⟩,?_⟩
    ·obtain⟨v,ev,sv⟩:=LT.get (tb1.aI fun p xs e=>ae.new (o:=.tup [.aC,.aC]) nt _ _ e) cl1 aa x
     exact⟨_,v,cY.k (k:=Sum.inr x) (ae.new nt _ _ hd1),ev,v,rfl,sv,ae.new nt⟩
    rintro σ' H2 ⟨v,rfl,sv,s2⟩
    have lt2:=lt1.same s2
    have hdp2:=s2 _ _ (s1 _ _ hdp)
    refine⟨_,rfl,dp,_,0,_,rfl,rfl,ar.of hdp2,cv,rfl,_,rfl,?_⟩
    refine aZ (show decide (V.str "read" = V.str "put")=false by decide +kernel) ?_
    refine⟨_,rfl,dp,_,0,_,rfl,rfl,ar.of hdp2,cv,rfl,_,rfl,?_⟩
    refine aZ (show decide (V.str "read" = V.str "copy")=false by decide +kernel) ?_
    refine⟨_,rfl,dp,_,0,_,rfl,rfl,ar.of hdp2,cv,rfl,_,rfl,?_⟩
    refine bV (show decide (V.str "read" = V.str "read")=true by decide +kernel) ?_
    refine⟨ln2,fun t nt=>?_⟩
    have s3:=ae.new (o:=.tup [.aC,.aC]) nt
    have ht:(upd H2 t (.tup [.aC,.aC])) t=some (.tup [.aC,.aC]):=aa
    generalize (upd H2 t (.tup [.aC,.aC]))=H3 at s3 ht
    have hdp3:=s3 _ _ hdp2
    refine⟨_,rfl,dp,_,0,_,rfl,rfl,ar.of hdp3,cv,rfl,_,rfl,?_⟩
    refine aZ (show decide (V.str "read" = V.str "add")=false by decide +kernel) ?_
    refine⟨_,rfl,_,rfl,dp,_,1,_,rfl,rfl,ar.of hdp3,cD,_,rfl,dc,_,m,x,_,m8 (bB T (ds.take i)) (.read x),rfl,lt2.same s3,(by omega),⟨t,rfl,ht⟩,fun d' H' lt' nd' s'=>?_⟩
    refine⟨_,_,_,_,d',rfl,?_,.inr (((s1.trans s2).trans s3).free nd'),(s1.trans s2).trans (s3.trans s')⟩
    rw [tkb]
    exact lt'.mw (by rw [hmp];exact tokI.bO)
   case add x n =>
    obtain⟨dp,rfl,hdp⟩:=gJ rd
    obtain⟨kvs1,ks1,hd1,tb1,cl1,hl1⟩:=id lt1
    refine⟨fun σ' H2=>∃ v:V,σ' = [some (.ref dc),some (.ref p),some (.ref dp),some v,u2,u3]/\SH H2 v (bB T (ds.take i) x)/\ae H1 H2,⟨_,rfl,dc,rfl,.inl ⟨kvs1,.inl hd1⟩,_,rfl,dp,_,1,_,rfl,rfl,ar.of (s1 _ _ hdp),cD,ln2,fun t nt=>?_⟩,?_⟩
    ·obtain⟨v,ev,sv⟩:=LT.get (tb1.aI fun p xs e=>ae.new (o:=.tup [.aC,.aC]) nt _ _ e) cl1 aa x
     exact⟨_,v,cY.k (k:=Sum.inr x) (ae.new nt _ _ hd1),ev,v,rfl,sv,ae.new nt⟩
    rintro σ' H2 ⟨v,rfl,sv,s2⟩
    have lt2:=lt1.same s2
    have hdp2:=s2 _ _ (s1 _ _ hdp)
    refine⟨_,rfl,dp,_,0,_,rfl,rfl,ar.of hdp2,cv,rfl,_,rfl,?_⟩
    refine aZ (show decide (V.str "add" = V.str "put")=false by decide +kernel) ?_
    refine⟨_,rfl,dp,_,0,_,rfl,rfl,ar.of hdp2,cv,rfl,_,rfl,?_⟩
    refine aZ (show decide (V.str "add" = V.str "copy")=false by decide +kernel) ?_
    refine⟨_,rfl,dp,_,0,_,rfl,rfl,ar.of hdp2,cv,rfl,_,rfl,?_⟩
    refine aZ (show decide (V.str "add" = V.str "read")=false by decide +kernel) ?_
    refine⟨_,rfl,dp,_,0,_,rfl,rfl,ar.of hdp2,cv,rfl,_,rfl,?_⟩
    refine bV (show decide (V.str "add" = V.str "add")=true by decide +kernel) ?_
    obtain⟨sq,rfl,hsq⟩:=id sv
    refine⟨_,rfl,sq,_,rfl,ar.of hsq,rfl,_,_,rfl,_,_,rfl,rfl,?_⟩
    refine⟨fun σ' H'=>σ' = [some (.ref dc),some (.ref p),some (.ref dp),some (.ref sq),some (vO (iW (bB T (ds.take i) x).1 n)),some (vO (bB T (ds.take i) x).2)]/\H2=H',?_,?_⟩
    ·cases (bB T (ds.take i) x).1 with
     | none=>exact⟨_,rfl,_,rfl,aU ⟨rfl,rfl⟩⟩
     | some z=>exact⟨_,rfl,_,rfl,aQ ⟨_,rfl,_,rfl,dp,_,2,_,rfl,rfl,ar.of hdp2,at2,_,_,rfl,rfl,rfl,rfl⟩⟩
    rintro σ' H' ⟨rfl,rfl⟩
    refine⟨fun σ' H'=>σ' = [some (.ref dc),some (.ref p),some (.ref dp),some (.ref sq),some (vO (iW (bB T (ds.take i) x).1 n)),some (vO (iW (bB T (ds.take i) x).2 n))]/\H2=H',?_,?_⟩
    ·cases (bB T (ds.take i) x).2 with
     | none=>exact⟨_,rfl,_,rfl,aU ⟨rfl,rfl⟩⟩
     | some z=>exact⟨_,rfl,_,rfl,aQ ⟨_,rfl,_,rfl,dp,_,2,_,rfl,rfl,ar.of hdp2,at2,_,_,rfl,rfl,rfl,rfl⟩⟩
    rintro σ' H' ⟨rfl,rfl⟩
    refine⟨_,rfl,_,rfl,ln2,fun t nt=>?_⟩
    have s3:=ae.new (o:=.tup [vO (iW (bB T (ds.take i) x).1 n),vO (iW (bB T (ds.take i) x).2 n)]) nt
    have ht:(upd H2 t (.tup [vO (iW (bB T (ds.take i) x).1 n),vO (iW (bB T (ds.take i) x).2 n)])) t=some (.tup [vO (iW (bB T (ds.take i) x).1 n),vO (iW (bB T (ds.take i) x).2 n)]):=aa
    generalize (upd H2 t (.tup [vO (iW (bB T (ds.take i) x).1 n),vO (iW (bB T (ds.take i) x).2 n)]))=H3 at s3 ht
    have hdp3:=s3 _ _ hdp2
    refine⟨_,rfl,_,rfl,dp,_,1,_,rfl,rfl,ar.of hdp3,cD,_,rfl,dc,_,m,x,_,m8 (bB T (ds.take i)) (.add x n),rfl,lt2.same s3,(by omega),⟨t,rfl,ht⟩,fun d' H' lt' nd' s'=>?_⟩
    refine⟨_,_,_,_,d',rfl,?_,.inr (((s1.trans s2).trans s3).free nd'),(s1.trans s2).trans (s3.trans s')⟩
    rw [tkb]
    exact lt'.mw (by rw [hmp];exact tokI.bO)
   case tell x =>
    obtain⟨dp,rfl,hdp⟩:=gJ rd
    obtain⟨kvs1,ks1,hd1,tb1,cl1,hl1⟩:=id lt1
    refine⟨fun σ' H2=>∃ v:V,σ' = [some (.ref dc),some (.ref p),some (.ref dp),some v,u2,u3]/\SH H2 v (bB T (ds.take i) x)/\ae H1 H2,⟨_,rfl,dc,rfl,.inl ⟨kvs1,.inl hd1⟩,_,rfl,dp,_,1,_,rfl,rfl,ar.of (s1 _ _ hdp),cD,ln2,fun t nt=>?_⟩,?_⟩
    ·obtain⟨v,ev,sv⟩:=LT.get (tb1.aI fun p xs e=>ae.new (o:=.tup [.aC,.aC]) nt _ _ e) cl1 aa x
     exact⟨_,v,cY.k (k:=Sum.inr x) (ae.new nt _ _ hd1),ev,v,rfl,sv,ae.new nt⟩
    rintro σ' H2 ⟨v,rfl,sv,s2⟩
    have lt2:=lt1.same s2
    have hdp2:=s2 _ _ (s1 _ _ hdp)
    refine⟨_,rfl,dp,_,0,_,rfl,rfl,ar.of hdp2,cv,rfl,_,rfl,?_⟩
    refine aZ (show decide (V.str "tell" = V.str "put")=false by decide +kernel) ?_
    refine⟨_,rfl,dp,_,0,_,rfl,rfl,ar.of hdp2,cv,rfl,_,rfl,?_⟩
    refine aZ (show decide (V.str "tell" = V.str "copy")=false by decide +kernel) ?_
    refine⟨_,rfl,dp,_,0,_,rfl,rfl,ar.of hdp2,cv,rfl,_,rfl,?_⟩
    refine aZ (show decide (V.str "tell" = V.str "read")=false by decide +kernel) ?_
    refine⟨_,rfl,dp,_,0,_,rfl,rfl,ar.of hdp2,cv,rfl,_,rfl,?_⟩
    refine aZ (show decide (V.str "tell" = V.str "add")=false by decide +kernel) ?_
    refine⟨_,rfl,_,rfl,dp,_,1,_,rfl,rfl,ar.of hdp2,cD,_,rfl,dc,_,m,x,_,m8 (bB T (ds.take i)) (.tell x),rfl,lt2.same (ae.refl H2),(by omega),sv,fun d' H' lt' nd' s'=>?_⟩
    refine⟨_,_,_,_,d',rfl,?_,.inr ((s1.trans s2).free nd'),(s1.trans s2).trans ((ae.refl H2).trans s')⟩
    rw [tkb]
    exact lt'.mw (by rw [hmp];exact tokI.bO)
  ·rintro σ H1 ⟨u0,u1,u2,u3,dc,rfl,lt1,fr1,s1⟩
   have hwl:ws.length=ds.length:=by rw [r.len,List.length_map]
   rw [hwl,List.take_length] at lt1
   exact⟨_,rfl,q dc H1 lt1 fr1 s1⟩
theorem tG {f:Addr} {fd:FuncData} (F:b4 K "_law_leads" "_law_leads" jy f fd) (Z:Bl mg) (O_law_part:Own P w K mg base "_law_part" 1 ["stretch", "word", "number", "side"] uS) (O_law_with:Own P w K mg base "_law_with" 1 ["facts", "name", "stretch"] mB):bw P w K mg base bX 3 f fd ["facts", "end"] qi:=by
 refine F.ok (k:=2) gu (fun vs H Q E h=>?_) (fun cdv A outer s H vs Q E hr h=>?_)
 ·obtain⟨d,ea,T,e,m,rfl,_⟩:=h
  rfl
 ·obtain⟨d,ea,T,e,m,rfl,lt,hm,le,he,q⟩:=h
  refine⟨_,(af (aV (aG bK (aw aR (pv 1) ah) bI (aK _))
   (ai (aB (b8 cz)))
   aL)
   (af (aV (aG bK (aw aR (pv 1) ah) bI (aK _))
   (ai (aB (b8 (aJ (aY (ft bH (aw aR (pv 1) ah) (pv 0)))))))
   aL)
   (af (aM (i:=2) gu.nd (b8 cz))
   (af (df PassesOwn.never rfl (gB (b8 (av cN cN))) (aF (i:=3) gu.nd)
   (af (cQ (aM (i:=4) gu.nd (au O_law_part hr (BD (cW (cZ hr) (pv 0) (aw aR (pv 1) ah) (aY (av bH bH)) ⟨rfl,rfl,rfl,rfl⟩) (aw aR (pv 1) ah) (aw aR (pv 1) ah) (pv 3)))))
   (ai (aV (bW (cA (pv 4)))
   (ai (dI (fg PySem.F.plainAttrs_list PySem.F.slot_list_append PySem.F.type_list_append eN (pv 2) (aJ (aY (ft (pv 3) (aw aR (pv 1) (aS fj ah (ba fQ rfl Z.int jG (aJ (pv 3))))) (au O_law_with hr (ft (pv 0) (aw aR (pv 1) ah) (pv 4)))))))))
   aL))))
   (ai (aB (pv 2))))))),?_⟩
  refine⟨_,rfl,ea,_,0,_,rfl,rfl,ar.of he,(by cases e <;> exact cv:fE (gI e) 0=some (V.str (wE e))),rfl,_,rfl,?_⟩
  cases e with
  | stop =>
   refine bV (show decide (V.str "stop" = V.str "stop")=true by decide +kernel) ?_
   exact⟨(by show 0<=sizeLine;decide),fun l hl=>q l [] _ aa hl .nil (ae.new hl)⟩
  | go p =>
   refine aZ (show decide (V.str "go" = V.str "stop")=false by decide +kernel) ?_
   refine⟨_,rfl,ea,_,0,_,rfl,rfl,ar.of he,cv,rfl,_,rfl,?_⟩
   refine bV (show decide (V.str "go" = V.str "go")=true by decide +kernel) ?_
   refine⟨_,rfl,ea,_,1,_,rfl,rfl,ar.of he,cD,_,rfl,rD,fun t nt=>⟨pO,fun l hl=>?_⟩⟩
   have q1:=ae.new (o:=.tup [.aC,.int (p:Nat),.ref d]) nt
   have q2:=ae.new (o:=.lst [V.ref t]) hl
   exact q l _ _ aa (q1.free hl) (.cons ⟨t,.aC,d,rfl,q2 _ _ aa,((lt.same q1).same q2).up (Nat.le_succ _),.inl rfl⟩ .nil) (q1.trans q2)
  | dA b x n p r =>
   refine aZ (show decide (V.str (wT b)=V.str "stop")=false by cases b <;> decide +kernel) ?_
   refine⟨_,rfl,ea,_,0,_,rfl,rfl,ar.of he,cv,rfl,_,rfl,?_⟩
   refine aZ (show decide (V.str (wT b)=V.str "go")=false by cases b <;> decide +kernel) ?_
   refine⟨(by show 0<=sizeLine;decide),fun fl hfl=>?_⟩
   have s1:=ae.new (o:=.lst []) hfl
   have hfl1:(upd H fl (.lst [])) fl=some (.lst []):=aa
   generalize (upd H fl (.lst []))=H1 at s1 hfl1
   refine⟨ln2,fun sl hsl=>⟨sl,rfl,⟨_,aP.of aa⟩,?_⟩⟩
   have s2:=ae.new (o:=.lst [.bl true,.bl false]) hsl
   have hsl2:(upd H1 sl (.lst [.bl true,.bl false])) sl=some (.lst [.bl true,.bl false]):=aa
   have nsl:sl ≠ fl:=(bg hfl1 hsl).symm
   have hfl2:=s2 _ _ hfl1
   generalize (upd H1 sl (.lst [.bl true,.bl false]))=H2 at s2 hsl2 hfl2
   refine jV (K:=K) (a:=sl) (xs:=[.bl true,.bl false]) (fun i σ H'=>∃ (u1 u2:Option V) (vs:List V),σ = [some (.ref d),some (.ref ea),some (.ref fl),u1,u2]/\H' fl=some (.lst vs)/\H' sl=some (.lst [.bl true,.bl false])/\jq (m+1) (fun a=>a=d\/H a=none) H' vs ((((bQ (.dA b x n p r)).zip (gg T (.dA b x n p r))).take i).filterMap fun p=>p.2.map fun U=>(p.1,U))/\vs.length<=i/\ae H H') ?_ ?_ ?_ ?_
   ·exact⟨_,_,[],rfl,hfl2,hsl2,.nil,Nat.le_refl _,s1.trans s2⟩
   ·rintro i σ H3 hi ⟨u1,u2,vs,rfl,h1,h2,tv,hvl,s3⟩
    exact aP.of h2
   ·rintro i y σ H3 hi ⟨u1,u2,vs,rfl,h1,h2,tv,hvl,s3⟩
    obtain⟨side,rfl,hwy,hby,hi2⟩:∃ side:Bool,y=.bl side/\(bQ (.dA b x n p r))[i]? = some (if side=true then p else r)/\(gg T (.dA b x n p r))[i]? = some ((e7 T b x n side).map (cg T x))/\i < 2:=by
     match i,hi with
     | 0,hi=>cases hi;exact⟨true,rfl,rfl,rfl,by omega⟩
     | 1,hi=>cases hi;exact⟨false,rfl,rfl,rfl,by omega⟩
     | i+2,hi=>simp at hi
    have hnext:=qc (T:=T) (e:=.dA b x n p r) hwy hby
    have he3:=s3 _ _ he
    have lt3:=lt.same s3
    obtain⟨kvs,ks,hd3,tb3,cl3,hl3⟩:=id lt3
    refine cf ?_
    refine⟨fun σ' H'=>∃ v:V,σ' = [some (.ref d),some (.ref ea),some (.ref fl),some (.bl side),some v]/\RV H' v (e7 T b x n side)/\ae H3 H',?_,?_⟩
    ·refine⟨_,rfl,d,rfl,.inl ⟨kvs,.inl hd3⟩,_,rfl,ea,_,1,_,rfl,rfl,ar.of he3,cD,ln2,fun t nt=>?_⟩
     have s4:=ae.new (o:=.tup [.aC,.aC]) nt
     obtain⟨v,ev,sv⟩:=LT.get (tb3.aI fun p xs e=>ae.new (o:=.tup [.aC,.aC]) nt _ _ e) cl3 aa x
     obtain⟨sq,rfl,hsq⟩:=id sv
     refine⟨_,_,cY.k (k:=Sum.inr x) (s4 _ _ hd3),ev,?_⟩
     refine⟨_,rfl,ea,_,0,_,rfl,rfl,ar.of (s4 _ _ he3),cv,_,rfl,ea,_,2,_,rfl,rfl,ar.of (s4 _ _ he3),at2,_,rfl,sq,b,n,side,_,_,rfl,hsq,le x,fun v H5 r5 s5=>?_⟩
     exact⟨v,rfl,r5,s4.trans s5⟩
    rintro σ' H4 ⟨v,rfl,rv,s4⟩
    have h14:=s4 _ _ h1
    have h24:=s4 _ _ h2
    have tv4:=tv.same s4
    refine⟨_,rfl,_,rfl,?_⟩
    cases hp:e7 T b x n side with
    | none =>
     rw [hp] at rv hnext
     cases (show v=V.aC from rv)
     refine aU ?_
     refine⟨_,_,vs,rfl,h14,h24,?_,Nat.le_succ_of_le hvl,s3.trans s4⟩
     rw [hnext]
     simpa using tv4
    | some sx =>
     rw [hp] at rv hnext
     have shv:SH H4 v sx:=by
      obtain⟨a1,b1⟩:=sx
      obtain⟨yp,e,h⟩:=rv
      exact⟨yp,e,h⟩
     obtain⟨yp,rfl,hyp⟩:=id shv
     refine aQ ?_
     have he4:=s4 _ _ he3
     have hat:fE (gI (.dA b x n p r)) (4 - (if side=true then 1 else 0))=some (V.int ((if side=true then p else r:Nat):Nat)):=by
      cases side
      ·exact bC (j:=4) rfl
      ·exact bC (j:=3) rfl
     refine⟨_,rfl,.inl ⟨rfl,_,aP.of h14⟩,_,rfl,_,rfl,_,rfl,.inr ⟨_,rfl,_,_,rfl,rfl,ea,_,_,_,rfl,rfl,ar.of he4,hat,?_⟩⟩
     refine⟨_,rfl,_,rfl,ea,_,1,_,rfl,rfl,ar.of he4,cD,_,rfl,d,T,m,x,.ref yp,sx,rfl,lt3.same s4,(by omega),shv,fun d' H5 lt5 nd5 s5=>⟨rD,fun t nt=>?_⟩⟩
     have s6:=ae.new (o:=.tup [.bl side,.int ((if side=true then p else r:Nat):Nat),.ref d']) nt
     have h16:=s6 _ _ (s5 _ _ h14)
     refine⟨fl,vs,_,rfl,rfl,h16,bp (by omega),?_⟩
     refine⟨_,_,vs ++ [.ref t],rfl,aa,by rw [ao nsl];exact s6 _ _ (s5 _ _ h24),?_,(by rw [List.length_append];show _+1<=_;omega),((s3.trans s4).trans (s5.trans s6)).put hfl⟩
     rw [hnext]
     refine d9 (((tv4.same s5).same s6).put h16) (.cons ⟨t,.bl side,d',rfl,?_,(lt5.same s6).put h16,.inr ((s3.trans s4).free nd5)⟩ .nil)
     have ht:(upd H5 t (.tup [.bl side,.int ((if side=true then p else r:Nat):Nat),.ref d'])) t=some (.tup [.bl side,.int ((if side=true then p else r:Nat):Nat),.ref d']):=aa
     rw [ao (bJ ht h16 (by intro z;cases z))]
     exact ht
   ·rintro σ H3 ⟨u1,u2,vs,rfl,h1,h2,tv,hvl,s3⟩
    exact⟨_,rfl,q fl vs H3 h1 hfl tv s3⟩
theorem qH {f:Addr} {fd:FuncData} (F:b4 K "_law_covers" "_law_covers" i7 f fd) (Z:Bl mg)  : bw P w K mg base bX 1 f fd ["one", "other"] qh:=by
 refine F.ok (k:=0) dX (fun vs H Q E h=>?_) (fun cdv A outer s H vs Q E hr h=>?_)
 ·obtain⟨d,e,T,U,m,rfl,_⟩:=h
  rfl
 ·obtain⟨d,e,T,U,m,rfl,lt,lu,q⟩:=h
  refine⟨_,(af (cQ (uM PassesOwn.never rfl (pv 0) (aF (i:=2) dX.nd)
   (af (cx (jJ (cZ hr) (pv 0) (pv 2) (fun _ _=>rfl)) (cm rfl (aH (aF (i:=3) dX.nd) (aH (aF (i:=4) dX.nd) bR))))
   (af (cx (cW (cZ hr) (pv 1) (pv 2) (aY (av bH bH)) ⟨rfl,rfl,rfl,rfl⟩) (cm rfl (aH (aF (i:=5) dX.nd) (aH (aF (i:=6) dX.nd) bR))))
   (af (aV (PW.pt (dM (bW (cA (pv 3))) (dt (PW.pt (iz (bW (cO (pv 5))) (fT (aG gR (pv 5) (pv 3) (aK _))))))))
   (ai (aB cN))
   aL)
   (ai (aV (PW.pt (dM (bW (cA (pv 4))) (dt (PW.pt (iz (bW (cO (pv 6))) (fT (aG iA (pv 6) (pv 4) (aK _))))))))
   (ai (aB cN))
   aL)))))))
   (ai (aB cN))),?_⟩
  obtain⟨kvs,ks,hd,tb,cl,hl⟩:=lt
  obtain⟨kvu,ku,he,tu,cu,hu⟩:=lu
  have ndk:(kvs.map (·.1)).Nodup:=by
   rw [tb.keys]
   exact List.Pairwise.map _ (fun a b n z=>n (Sum.inr.inj z)) tb.nd
  refine⟨fun σ' H'=>(∀ x ∈ ks,cJ (U x) (T x)=true)/\ae H H',?_,?_⟩
  ·refine⟨_,rfl,d,kvs,rfl,hd,fun ob=>⟨fun j τ H2=>∃ u0 u1 u2 u3 u4:Option V,τ = [some (.ref d),some (.ref e),u0,u1,u2,u3,u4]/\H2 d=some (.dq ob (.dK kvs))/\(∀ c o,H c=some o->c ≠ d->H2 c=some o)/\(∀ x ∈ ks.take j,cJ (U x) (T x)=true),?_,?_,?_,?_⟩⟩
   ·exact⟨_,_,_,_,_,rfl,aa,(fun c o e n=>by rw [ao n];exact e),(fun x hx=>by simp at hx)⟩
   ·rintro j τ H2 ⟨u0,u1,u2,u3,u4,_,h,_⟩
    exact h
   ·rintro j k v τ H2 hj ⟨u0,u1,u2,u3,u4,rfl,h1,h2,h3⟩
    obtain⟨x,hx,rfl⟩:∃ x,ks[j]? = some x/\k=Sum.inr x:=by
     have e1:(kvs.map (·.1))[j]? = some k:=by rw [List.getElem?_map,hj];rfl
     rw [tb.keys,List.getElem?_map] at e1
     cases e2:ks[j]? with
     | none=>rw [e2] at e1;cases e1
     | some y=>rw [e2] at e1;exact⟨y,rfl,(Option.some.inj e1).symm⟩
    have hxm:x ∈ ks:=List.mem_of_getElem? hx
    have hvv:=rR ndk (List.mem_of_getElem? hj)
    obtain⟨q2,rfl,hq2⟩:SH H v (T x):=by
     rcases tb.val x with ⟨a,_,_⟩ | ⟨w,a,b,c⟩
     ·rw [hvv] at a;cases a
     ·rw [hvv] at a
      cases a
      rcases b with b | ⟨_,b⟩
      ·exact b
      ·exact absurd b (cl x c)
    have q2d:q2 ≠ d:=bJ hq2 hd (by intro z;cases z)
    have hq22:=h2 _ _ hq2 q2d
    have he2:H2 e=some (.dK kvu)\/∃ ob,H2 e=some (.dq ob (.dK kvu)):=by
     by_cases z:e=d
     ·subst z
      rw [hd] at he
      cases he
      exact .inr ⟨ob,h1⟩
     ·exact .inl (h2 _ _ he z)
    have ktu:∀ p zs,H p=some (.tup zs)->H2 p=some (.tup zs):=fun p zs e=>h2 p _ e (bJ e hd (by intro z;cases z))
    have dg:cY H2 d (.str x) (some (.ref q2)):=.inl ⟨kvs,Sum.inr x,.inr ⟨ob,h1⟩,rfl,hvv.symm⟩
    generalize eT:T x=tt at hq2 hq22
    obtain⟨lo,hi⟩:=tt
    refine cf ?_
    refine⟨_,rfl,_,rfl,d,_,rfl,dg,q2,_,rfl,ar.of hq22,rfl,_,_,rfl,_,_,rfl,rfl,?_⟩
    refine⟨_,rfl,e,rfl,.inl ⟨kvu,he2⟩,_,rfl,ln2,fun t nt=>?_⟩
    have s3:=ae.new (o:=.tup [.aC,.aC]) nt
    obtain⟨w,ew,q3,rfl,hq3⟩:=LT.get ((tu.aI ktu).aI fun p zs e=>s3 _ _ e) cu aa x
    generalize eU:U x=uu at hq3
    obtain⟨lo2,hi2⟩:=uu
    refine⟨_,_,.inl ⟨kvu,Sum.inr x,he2.imp (fun h=>s3 _ _ h) (fun ⟨ob,h⟩=>⟨ob,s3 _ _ h⟩),rfl,rfl⟩,ew,q3,_,rfl,ar.of hq3,rfl,_,_,rfl,_,_,rfl,rfl,?_⟩
    clear ew
    have h1':=s3 _ _ h1
    have h2':∀ c o,H c=some o->c ≠ d->(upd H2 t (.tup [.aC,.aC])) c=some o:=fun c o e n=>s3 _ _ (h2 c o e n)
    clear s3 hq3
    generalize (upd H2 t (.tup [.aC,.aC]))=H3 at h1' h2' ⊢
    have sm:ae H (upd H3 d (.dK kvs)):=fun c o e=>by
     by_cases z:c=d
     ·subst z;rw [hd] at e;cases e;exact aa
     ·rw [ao z];exact h2' c o e z
    have bad:cJ (U x) (T x)=false->Q (.bl false) (upd H3 d (.dK kvs)):=fun h=>q false _ ⟨(fun z=>by cases z),(fun z=>by rw [z x] at h;cases h)⟩ sm
    have tky:∀ y ∈ ks.take (j+1),y ∈ ks.take j\/y=x:=fun y hy=>by
     rw [List.take_add_one,hx] at hy
     rcases List.mem_append.mp hy with h | h
     ·exact .inl h
     ·exact .inr (by simpa using h)
    cases lo with
    | none =>
     have hlw:cT lo2 none=true:=by cases lo2 <;> rfl
     refine⟨_,rfl,_,rfl,aU (aU ?_)⟩
     cases hi with
     | none =>
      have hhw:cn hi2 none=true:=by cases hi2 <;> rfl
      exact⟨_,rfl,_,rfl,aU (aU (by exact⟨_,_,_,_,_,rfl,h1',h2',fun y hy=>(tky y hy).elim (h3 y) fun z=>by rw [z,eT,eU];show (cT lo2 none && cn hi2 none)=true;rw [hlw,hhw];rfl⟩))⟩
     | some f =>
      cases hi2 with
      | none=>exact⟨_,rfl,_,rfl,aQ ⟨_,rfl,_,rfl,aQ (aQ ⟨ob,h1',bad (by rw [eT,eU];exact Bool.and_false _)⟩)⟩⟩
      | some g =>
       refine⟨_,rfl,_,rfl,aQ ⟨_,rfl,_,rfl,aU ⟨_,rfl,_,rfl,_,_,rfl,rfl,_,rfl,?_⟩⟩⟩
       refine b9 (fun hc=>?_) (fun hc=>?_)
       ·have hlt:f < g:=of_decide_eq_true hc
        have hhw:cn (some g) (some f)=false:=decide_eq_false (by omega)
        exact⟨ob,h1',bad (by rw [eT,eU];show (cT lo2 none && cn (some g) (some f))=false;rw [hhw];exact Bool.and_false _)⟩
       ·have hlt:¬ f < g:=fun z=>hc (decide_eq_true z)
        have hhw:cn (some g) (some f)=true:=decide_eq_true (by omega)
        exact⟨_,_,_,_,_,rfl,h1',h2',fun y hy=>(tky y hy).elim (h3 y) fun z=>by rw [z,eT,eU];show (cT lo2 none && cn (some g) (some f))=true;rw [hlw,hhw];rfl⟩
    | some a =>
     cases lo2 with
     | none=>exact⟨_,rfl,_,rfl,aQ ⟨_,rfl,_,rfl,aQ (aQ ⟨ob,h1',bad (by rw [eT,eU];rfl)⟩)⟩⟩
     | some c =>
      refine⟨_,rfl,_,rfl,aQ ⟨_,rfl,_,rfl,aU ⟨_,rfl,_,rfl,_,_,rfl,rfl,_,rfl,?_⟩⟩⟩
      refine b9 (fun hc=>?_) (fun hc=>?_)
      ·have hlt:c < a:=of_decide_eq_true hc
       have hlw:cT (some c) (some a)=false:=decide_eq_false (by omega)
       exact⟨ob,h1',bad (by rw [eT,eU];show (cT (some c) (some a) && cn hi2 hi)=false;rw [hlw];rfl)⟩
      ·have hlt:¬ c < a:=fun z=>hc (decide_eq_true z)
       have hlw:cT (some c) (some a)=true:=decide_eq_true (by omega)
       cases hi with
       | none =>
        have hhw:cn hi2 none=true:=by cases hi2 <;> rfl
        exact⟨_,rfl,_,rfl,aU (aU (by exact⟨_,_,_,_,_,rfl,h1',h2',fun y hy=>(tky y hy).elim (h3 y) fun z=>by rw [z,eT,eU];show (cT (some c) (some a) && cn hi2 none)=true;rw [hlw,hhw];rfl⟩))⟩
       | some f =>
        cases hi2 with
        | none=>exact⟨_,rfl,_,rfl,aQ ⟨_,rfl,_,rfl,aQ (aQ ⟨ob,h1',bad (by rw [eT,eU];exact Bool.and_false _)⟩)⟩⟩
        | some g =>
         refine⟨_,rfl,_,rfl,aQ ⟨_,rfl,_,rfl,aU ⟨_,rfl,_,rfl,_,_,rfl,rfl,_,rfl,?_⟩⟩⟩
         refine b9 (fun hc=>?_) (fun hc=>?_)
         ·have hlt:f < g:=of_decide_eq_true hc
          have hhw:cn (some g) (some f)=false:=decide_eq_false (by omega)
          exact⟨ob,h1',bad (by rw [eT,eU];show (cT (some c) (some a) && cn (some g) (some f))=false;rw [hhw];exact Bool.and_false _)⟩
         ·have hlt:¬ f < g:=fun z=>hc (decide_eq_true z)
          have hhw:cn (some g) (some f)=true:=decide_eq_true (by omega)
          exact⟨_,_,_,_,_,rfl,h1',h2',fun y hy=>(tky y hy).elim (h3 y) fun z=>by rw [z,eT,eU];show (cT (some c) (some a) && cn (some g) (some f))=true;rw [hlw,hhw];rfl⟩
   ·rintro τ H2 ⟨u0,u1,u2,u3,u4,rfl,h1,h2,h3⟩
    have hkl:kvs.length=ks.length:=by have:=congrArg List.length tb.keys;simpa using this
    rw [hkl,List.take_length] at h3
    refine⟨h3,fun c o e=>?_⟩
    by_cases z:c=d
    ·subst z;rw [hd] at e;cases e;exact aa
    ·rw [ao z];exact h2 c o e z
  rintro σ' H1 ⟨hall,s1⟩
  refine q true H1 ⟨fun _ x=>?_,fun _=>rfl⟩ s1
  by_cases hT:T x=bN
  ·rw [hT];exact mn _
  ·refine hall x ?_
   rcases tb.val x with ⟨_,a,_⟩ | ⟨_,_,_,a⟩
   ·exact absurd a hT
   ·exact a
theorem oD {f:Addr} {fd:FuncData} (F:b4 K "_law_table_of" "_law_table_of" gQ f fd) (Z:Bl mg)  : bw P w K mg base bX 1 f fd ["facts"] j8:=by
 refine F.ok (k:=0) fh (fun vs H Q E h=>?_) (fun cdv A outer s H vs Q E hr h=>?_)
 ·obtain⟨fv,T,m,rfl,_⟩:=h
  rfl
 ·obtain⟨fv,T,m,rfl,hf,bO,hm,q⟩:=h
  refine⟨_,(af (aM (i:=1) fh.nd mX)
   (af (df PassesOwn.never rfl (dY (pv 0)) (cm rfl (aH (aF (i:=2) fh.nd) (aH (aF (i:=3) fh.nd) bR)))
   (ai (jK (cZ hr) (pv 1) (pv 2) (pv 3) rfl)))
   (ai (aB (pv 1))))),?_⟩
  obtain⟨p,xs,ss,rfl,hp,srt,hss,r⟩:=hf
  have hl:=r.len
  rw [List.length_map] at hl
  have hsl:ss.length<=m:=bO ss (fun x hx=>(hss x).mp hx) srt.nd
  refine fun d nd=>?_
  have s0:=ae.new (o:=.dK []) nd
  refine⟨_,rfl,p,rfl,⟨_,ar.of (s0 _ _ hp)⟩,gC (K:=K) (a:=p) (xs:=xs) (fun i σ H'=>∃ (kvs:List (Key × V)) (ks:List Str) (u1 u2:Option V),σ = [some (.ref p),some (.ref d),u1,u2]/\H' d=some (.dK kvs)/\Tb 0 H' kvs ks (nc T (ss.take i))/\(∀ x,x ∈ ks ↔ x ∈ ss.take i)/\ks.length<=i/\ae H H') ?_ ?_ ?_ ?_⟩
  ·refine⟨[],[],_,_,rfl,aa,⟨rfl,List.nodup_nil,fun x=>.inl ⟨rfl,?_,by simp⟩⟩,fun x=>by simp,Nat.le_refl _,s0⟩
   unfold nc
   rw [if_neg (by simp)]
  ·rintro i σ H1 hi ⟨kvs,ks,u1,u2,rfl,h1,h2,h3,h4,s1⟩
   exact ar.of (s1 _ _ hp)
  ·rintro i y σ H1 hi ⟨kvs,ks,u1,u2,rfl,h1,h2,h3,h4,s1⟩
   have hil:i < ss.length:=by have:=(List.getElem?_eq_some_iff.mp hi).1;omega
   have hsi:ss[i]? = some ss[i]:=by simp [hil]
   generalize ss[i] = x at hsi
   obtain⟨v,hv,rv⟩:=r.get (i:=i) (d:=dF T x) (by rw [List.getElem?_map,hsi];rfl)
   rw [hi] at hv
   cases hv
   obtain⟨qa,qvs,rfl,hqa,rq⟩:=bE.cB rv
   obtain⟨y1,t1,rfl,q1,rq⟩:=rq.cons_inv
   obtain⟨y2,t2,rfl,q2,rq⟩:=rq.cons_inv
   have z:=rq.nil_inv
   subst z
   have ey1:=q1.str_inv
   subst ey1
   refine⟨qa,_,rfl,ar.of (s1 _ _ hqa),rfl,_,_,rfl,_,_,rfl,rfl,?_⟩
   have kl:kvs.length=ks.length:=by have:=congrArg List.length h2.keys;simpa using this
   obtain⟨sp,rfl,hsp⟩:=yX q2
   refine⟨_,rfl,_,rfl,_,rfl,d,_,rfl,j1.k (k:=Sum.inr x) h1 (bp (by omega)),?_⟩
   obtain⟨ks2,tb2,kl2,km2⟩:=h2.put x (v:=.ref sp) (s:=T x) (.inl ⟨sp,rfl,s1 _ _ hsp⟩)
   rw [yV] at tb2
   have htk:ss.take (i+1)=ss.take i ++ [x]:=by rw [List.take_add_one,hsi];rfl
   refine⟨_,ks2,_,_,rfl,aa,?_,fun y=>?_,by omega,s1.put nd⟩
   ·rw [htk]
    exact tb2.aI fun p zs e=>by rw [ao (bJ e h1 (by intro z;cases z))];exact e
   ·rw [km2,h3,htk,List.mem_append,List.mem_singleton]
  ·rintro σ H1 ⟨kvs,ks,u1,u2,rfl,h1,h2,h3,h4,s1⟩
   rw [hl,List.take_length] at h2 h3
   rw [yW hss] at h2
   exact⟨_,rfl,q d H1 nd ⟨kvs,ks,h1,h2,fun x hx=>(hss x).mp ((h3 x).mp hx),by omega⟩ s1⟩
theorem qI {f:Addr} {fd:FuncData} (F:b4 K "_law_stands" "_law_stands" i8 f fd) (Z:Bl mg) (O_law_leads:Own P w K mg base "_law_leads" 3 ["facts", "end"] qi) (O_law_behind:Own P w K mg base "_law_behind" 2 ["facts", "deeds"] uX) (O_law_table_of:Own P w K mg base "_law_table_of" 1 ["facts"] j8) (O_law_covers:Own P w K mg base "_law_covers" 1 ["one", "other"] qh):bw P w K mg base bX 5 f fd ["plan", "table"] i0:=by
 refine F.ok (k:=4) cX (fun vs H Q E h=>?_) (fun cdv A outer s H vs Q E hr h=>?_)
 ·obtain⟨plv,ta,us,tab,ps,xs,m,rfl,_⟩:=h
  rfl
 ·obtain⟨plv,ta,us,tab,ps,xs,m,rfl,hp,ok,hp0,hp1,hta,hb,tabok,h62,ht0,ht1,q⟩:=h
  refine⟨_,(af (aV (PW.pt (iz (aG zB (aX bh rfl Z.len cF (aJ (pv 1))) (aX bh rfl Z.len cF (aJ (pv 0))) (aK _)) (fT (bW (cO (aw aR (pv 1) ah))))))
   (ai (aB cN))
   aL)
   (af (df PassesOwn.never rfl (dY (aw aR (pv 1) ah)) (cm rfl (aH (aF (i:=2) cX.nd) (aH (aF (i:=3) cX.nd) bR)))
   (ai (aV (PW.pt (iz (PW.pt (dM (bW (cA (aw aR (pv 3) ah))) (dt (aG iA (aw aR (pv 3) ah) ah (aK _))))) (fT (PW.pt (dM (bW (cA (aw aR (pv 3) ah))) (dt (aG gR (aw aR (pv 3) ah) ah (aK _))))))))
   (ai (aB cN))
   aL)))
   (af (df PassesOwn.never rfl (nR rfl Z.zip (av (pv 0) (pv 1))) (cm rfl (aH (aF (i:=4) cX.nd) (aH (aF (i:=5) cX.nd) bR)))
   (ai (aV (bW (cA (pv 5)))
   (ai (df PassesOwn.never rfl (gB (au O_law_leads hr (av (au O_law_behind hr (av (au O_law_table_of hr (aJ (pv 5))) (aw aR (pv 4) ah))) (aw aR (pv 4) ah)))) (cm rfl (aH (aF (i:=6) cX.nd) (aH (aF (i:=7) cX.nd) (aH (aF (i:=8) cX.nd) bR))))
   (ai (aV (PW.pt (iz (bW (cO (aw aR (pv 1) (pv 7)))) (fT (nG (eX (au O_law_covers hr (av (au O_law_table_of hr (aJ (aw aR (pv 1) (pv 7)))) (pv 8))))))))
   (ai (aB cN))
   aL))))
   aL)))
   (ai (aB cN))))),?_⟩
  obtain⟨pp,vs,rfl,hpp,rvs⟩:=bE.cB hp
  have hvl:vs.length=ps.length:=by have:=rvs.len;rw [List.length_map] at this;exact this
  have hbl:us.length=tab.length:=cU hb
  have no:¬ ie ps tab->∀ H',ae H H'->Q (.bl false) H':=fun h H' s=>q false H' ⟨(fun z=>by cases z),fun z=>absurd z h⟩ s
  refine⟨_,rfl,ta,_,rfl,.inr (ar.of hta),_,rfl,pp,_,rfl,.inr (ar.of hpp),rfl,_,rfl,?_⟩
  by_cases h1:tab.length=ps.length
  rotate_left
  ·exact bV (by rw [decide_eq_false (fun z=>h1 (by have:=V.int.inj z;omega))];rfl) (aQ (no (fun z=>h1 z.len) _ (ae.refl H)))
  refine aZ (by rw [decide_eq_true (congrArg V.int (by omega))];rfl) ?_
  have ho0:tab[0]? = some tab[0]:=List.getElem?_eq_getElem ht0
  generalize tab[0] = o0 at ho0
  obtain⟨v0,hv0,b0⟩:=eW hb ho0
  refine⟨_,rfl,ta,_,0,_,rfl,rfl,ar.of hta,bC (j:=0) hv0,_,rfl,?_⟩
  cases o0 with
  | none =>
   have b0:v0=.aC:=b0
   subst b0
   refine bV rfl (no (fun z=>?_) _ (ae.refl H))
   obtain⟨T,e,_⟩:=z.zero
   rw [ho0] at e
   cases e
  | some T =>
  have b0:FV H v0 T:=b0
  obtain⟨fp,fxs,ss,rfl,hfp,srt,hmem,rf⟩:=b0
  refine aZ rfl ?_
  refine⟨_,rfl,ta,_,0,_,rfl,rfl,ar.of hta,bC (j:=0) hv0,fp,rfl,⟨_,ar.of hfp⟩,gC (K:=K) (a:=fp) (xs:=fxs) (fun i σ H'=>∃ (u1 u2 u3 u4 u5 u6 u7:Option V),σ = [some (.ref pp),some (.ref ta),u1,u2,u3,u4,u5,u6,u7]/\(∀ j < i,∀ y,ss[j]? = some y->cE 0 (T y).1 (T y).2=true)/\ae H H') ?_ ?_ ?_ ?_⟩
  ·exact⟨_,_,_,_,_,_,_,rfl,(fun j hj=>absurd hj (Nat.not_lt_zero j)),ae.refl H⟩
  ·rintro i σ H1 hi ⟨u1,u2,u3,u4,u5,u6,u7,rfl,g1,s1⟩
   exact ar.of (s1 _ _ hfp)
  ·rintro i x σ H1 hx ⟨u1,u2,u3,u4,u5,u6,u7,rfl,g1,s1⟩
   have hi:i < ss.length:=by
    have:=(List.getElem?_eq_some_iff.mp hx).1
    rw [rf.len,List.length_map] at this
    exact this
   have hye:ss[i]? = some ss[i]:=by simp [hi]
   generalize ss[i] = y at hye
   obtain⟨v,hv,rd⟩:=rf.get (i:=i) (d:=dF T y) (by rw [List.getElem?_map,hye];rfl)
   rw [hx] at hv
   cases hv
   obtain⟨t1,q1,rfl,ht1,hq1⟩:=nZ rd
   refine⟨t1,_,rfl,ar.of (s1 _ _ ht1),rfl,_,_,rfl,_,_,rfl,rfl,?_⟩
   have hq:=s1 _ _ hq1
   have on:cE 0 (T y).1 (T y).2=true->∃ (u1' u2' u3' u4' u5' u6' u7':Option V),[some (.ref pp),some (.ref ta),some (.str y),some (.ref q1),u3,u4,u5,u6,u7] = [some (.ref pp),some (.ref ta),u1',u2',u3',u4',u5',u6',u7']/\(∀ j < i+1,∀ y,ss[j]? = some y->cE 0 (T y).1 (T y).2=true)/\ae H H1:=fun hl=>by
    refine⟨_,_,_,_,_,_,_,rfl,fun j hj z hz=>?_,s1⟩
    rcases Nat.lt_succ_iff_lt_or_eq.mp hj with hj | rfl
    ·exact g1 j hj z hz
    ·rw [hye] at hz
     cases hz
     exact hl
   have off:cE 0 (T y).1 (T y).2=false->Q (.bl false) H1:=fun hl=>no (fun z=>by
    obtain⟨T',e,hs⟩:=z.zero
    rw [ho0] at e
    cases e
    rw [hs y] at hl
    cases hl) H1 s1
   generalize T y=sx at hq on off
   obtain⟨lo,hi⟩:=sx
   refine⟨_,rfl,q1,_,0,_,rfl,rfl,ar.of hq,cv,_,rfl,?_⟩
   cases lo with
   | none =>
    refine aZ rfl (aU ?_)
    refine⟨_,rfl,q1,_,1,_,rfl,rfl,ar.of hq,cD,_,rfl,?_⟩
    cases hi with
    | none =>
     refine aZ rfl ?_
     exact on (by rfl)
    | some c =>
     refine bV rfl ?_
     refine⟨_,rfl,q1,_,1,_,rfl,rfl,ar.of hq,cD,_,_,rfl,rfl,_,rfl,?_⟩
     by_cases hc:c < 0
     ·refine bV (decide_eq_true hc) ?_
      exact off (by show (true && decide ((0:Int)<=c))=false;rw [decide_eq_false (by omega)];rfl)
     ·refine aZ (decide_eq_false hc) ?_
      exact on (by show (true && decide ((0:Int)<=c))=true;rw [decide_eq_true (by omega)];rfl)
   | some a =>
    refine bV rfl ?_
    refine⟨_,rfl,q1,_,0,_,rfl,rfl,ar.of hq,cv,_,_,rfl,rfl,_,rfl,?_⟩
    by_cases ha:0 < a
    ·refine bV (decide_eq_true ha) ?_
     exact aQ (off (by show (decide (a<=(0:Int)) && _)=false;rw [decide_eq_false (by omega)];rfl))
    refine aZ (decide_eq_false ha) ?_
    refine⟨_,rfl,q1,_,1,_,rfl,rfl,ar.of hq,cD,_,rfl,?_⟩
    cases hi with
    | none =>
     refine aZ rfl ?_
     exact on (by show (decide (a<=(0:Int)) && true)=true;rw [decide_eq_true (by omega)];rfl)
    | some c =>
     refine bV rfl ?_
     refine⟨_,rfl,q1,_,1,_,rfl,rfl,ar.of hq,cD,_,_,rfl,rfl,_,rfl,?_⟩
     by_cases hc:c < 0
     ·refine bV (decide_eq_true hc) ?_
      exact off (by show (decide (a<=(0:Int)) && decide ((0:Int)<=c))=false;rw [decide_eq_false (show ¬ (0:Int)<=c by omega),Bool.and_false])
     ·refine aZ (decide_eq_false hc) ?_
      exact on (by show (decide (a<=(0:Int)) && decide ((0:Int)<=c))=true;rw [decide_eq_true (show a<=0 by omega),decide_eq_true (show (0:Int)<=c by omega)];rfl)
  rintro σ H1 ⟨u1,u2,u3,u4,u5,u6,u7,rfl,g1,s1⟩
  have snd:Sound T fun _=>0:=BE hmem (fun j hj y hy=>g1 j (by rw [rf.len,List.length_map];exact hj) y hy)
  clear g1
  refine⟨_,rfl,_,rfl,pp,ta,rfl,⟨_,ar.of (s1 _ _ hpp)⟩,⟨_,ar.of (s1 _ _ hta)⟩,zk (K:=K) (a:=pp) (b:=ta) (xs:=vs) (ys:=us) (by omega) (fun i σ H'=>∃ (u1 u2 u3 u4 u5 u6 u7:Option V),σ = [some (.ref pp),some (.ref ta),u1,u2,u3,u4,u5,u6,u7]/\(∀ j < i,∀ p o,ps[j]? = some p->tab[j]? = some o->j5 tab o p)/\ae H H') ?_ ?_ ?_ ?_⟩
  ·exact⟨_,_,_,_,_,_,_,rfl,(fun j hj=>absurd hj (Nat.not_lt_zero j)),s1⟩
  ·rintro i σ H2 hi ⟨u1,u2,u3,u4,u5,u6,u7,rfl,g1,s2⟩
   exact⟨ar.of (s2 _ _ hpp),ar.of (s2 _ _ hta)⟩
  ·rintro i x y σ H2 t hx hy nt ⟨u1,u2,u3,u4,u5,u6,u7,rfl,g1,s2⟩
   have hi:i < ps.length:=by
    have:=(List.getElem?_eq_some_iff.mp hx).1
    omega
   have hps:ps[i]? = some ps[i]:=List.getElem?_eq_getElem hi
   generalize ps[i] = pce at hps
   obtain⟨ds,e⟩:=pce
   obtain⟨p',xs',pc,da,ea,wsv,ep,e1',el',hx',e2,e3,r3,e4⟩:=iS hp hps
   cases ep
   rw [hpp] at e1'
   cases e1'
   rw [hx] at hx'
   cases hx'
   obtain⟨o,ho,bo⟩:=L2.fo hb hy
   have st:=s2.trans (ae.new (o:=.tup [.ref pc,y]) nt)
   have next:j5 tab o (ds,e)->∀ j < i+1,∀ p o,ps[j]? = some p->tab[j]? = some o->j5 tab o p:=fun hm j hj p o' hp' ho'=>by
    rcases Nat.lt_succ_iff_lt_or_eq.mp hj with hj | rfl
    ·exact g1 j hj p o' hp' ho'
    ·rw [hps] at hp'
     rw [ho] at ho'
     cases hp'
     cases ho'
     exact hm
   refine⟨t,_,rfl,ar.of aa,rfl,_,_,rfl,_,_,rfl,rfl,?_⟩
   generalize (upd H2 t (.tup [.ref pc,y]))=H3 at st ⊢
   cases o with
   | none =>
    have bo:y=.aC:=bo
    subst bo
    refine⟨_,rfl,_,rfl,aZ rfl ?_⟩
    exact⟨_,_,_,_,_,_,_,rfl,next (fun T h=>by cases h),st⟩
   | some T =>
   have bo:FV H y T:=bo
   have hne:decide (y=V.aC)=false:=by
    obtain⟨p,_,_,rfl,_⟩:=bo
    rfl
   refine⟨_,rfl,_,rfl,bV (by rw [hne];rfl) ?_⟩
   have hmm:=List.mem_of_getElem? hps
   have dok:=(ok.gS _ hmm).2
   have eok:=ok.ends _ hmm
   have tok:=tabok T (List.mem_of_getElem? ho)
   have tokb:=tok.lC dok
   refine⟨_,rfl,y,T,xs.length,rfl,bo.same st,tok.bO,h62,fun d1 H4 nd1 lt1 s4=>?_⟩
   have s04:=st.trans s4
   refine⟨_,rfl,pc,_,0,_,rfl,rfl,ar.of (s04 _ _ e2),cv,d1,da,T,xs.length,wsv,ds,xs,rfl,lt1,s04 _ _ e3,r3.same s04 (b6 ds),h62,rfl,tok,dok,fun d2 H5 lt2 fr2 s5=>?_⟩
   have s05:=s04.trans s5
   refine⟨_,rfl,pc,_,1,_,rfl,rfl,ar.of (s05 _ _ e2),cD,d2,ea,bB T ds,e,xs.length,rfl,lt2,h62,tokb.le,s05 _ _ e4,fun l lvs H6 hl nl tv s6=>?_⟩
   have s06:=s05.trans s6
   have hlok:∀ ld ∈ de (bB T ds) e,ld.1 < ps.length/\cC xs ld.2:=fun ld h=>mq tokb eok ld h
   generalize hls:de (bB T ds) e=ls at tv hlok
   have hlen:=cU tv
   refine⟨l,rfl,⟨_,aP.of hl⟩,jV (K:=K) (a:=l) (xs:=lvs) (fun j σ H'=>∃ (u5 u6 u7:Option V),σ = [some (.ref pp),some (.ref ta),u1,u2,some (.ref pc),some y,u5,u6,u7]/\(∀ k < j,∀ ld,ls[k]? = some ld->Met tab ld)/\ae H6 H') ?_ ?_ ?_ ?_⟩
   ·exact⟨_,_,_,rfl,(fun j hj=>absurd hj (Nat.not_lt_zero j)),ae.refl H6⟩
   ·rintro j σ H7 hj ⟨u5,u6,u7,rfl,k1,s7⟩
    exact aP.of (s7 _ _ hl)
   ·rintro j x σ H7 hxj ⟨u5,u6,u7,rfl,k1,s7⟩
    obtain⟨ld,hld,pq,sv,dm,rfl,hpq,ltm,_⟩:=L2.fo tv hxj
    obtain⟨hk,hU⟩:=hlok ld (List.mem_of_getElem? hld)
    obtain⟨k,U⟩:=ld
    have hk:k < ps.length:=hk
    have hU:cC xs U:=hU
    have s07:=s06.trans s7
    have hot:tab[k]? = some tab[k]:=List.getElem?_eq_getElem (by omega)
    generalize tab[k] = o2 at hot
    obtain⟨ev,hev,bo2⟩:=eW hb hot
    have bad:¬ Met tab (k,U)->∀ H8,ae H7 H8->Q (.bl false) H8:=fun hm H8 s8=>no (fun z=>hm (z.met i (ds,e) (some T) hps ho T rfl (k,U) (by rw [hls];exact List.mem_of_getElem? hld))) H8 (s07.trans s8)
    have good:Met tab (k,U)->∀ k' < j+1,∀ ld,ls[k']? = some ld->Met tab ld:=fun hm k' hk' ld hl'=>by
     rcases Nat.lt_succ_iff_lt_or_eq.mp hk' with hk' | rfl
     ·exact k1 k' hk' ld hl'
     ·rw [hld] at hl'
      cases hl'
      exact hm
    refine⟨pq,_,rfl,ar.of (s7 _ _ hpq),rfl,_,_,rfl,_,_,rfl,_,_,rfl,rfl,?_⟩
    refine⟨_,rfl,_,rfl,ta,_,_,_,rfl,rfl,ar.of (s07 _ _ hta),bC hev,_,rfl,?_⟩
    cases o2 with
    | none =>
     have bo2:ev=.aC:=bo2
     subst bo2
     refine bV rfl (aQ (bad (fun z=>?_) H7 (ae.refl H7)))
     obtain⟨T',e',_⟩:=z
     rw [show tab[(k,U).1]? = tab[k]? from rfl,hot] at e'
     cases e'
    | some T2 =>
    have bo2:FV H ev T2:=bo2
    have hne2:decide (ev=V.aC)=false:=by
     obtain⟨p,_,_,rfl,_⟩:=bo2
     rfl
    refine aZ hne2 ?_
    have tok2:=tabok T2 (List.mem_of_getElem? hot)
    refine⟨_,rfl,_,rfl,ta,_,_,_,rfl,rfl,ar.of (s07 _ _ hta),bC hev,ev,T2,xs.length,rfl,bo2.same s07,tok2.bO,h62,fun d3 H8 nd3 lt3 s8=>?_⟩
    refine⟨_,rfl,d3,dm,T2,U,xs.length,rfl,lt3,(ltm.same (s7.trans s8)).mw hU.bO,fun bb H9 hbb s9=>⟨_,rfl,?_⟩⟩
    have s79:=s8.trans s9
    have hmet:bb=true ↔ Met tab (k,U):=hbb.trans ⟨fun h=>⟨T2,hot,h⟩,fun ⟨T',h,h'⟩=>by
     have h:tab[k]? = some (some T'):=h
     rw [hot] at h
     cases h
     exact h'⟩
    cases bb with
    | false=>exact aQ (bad (fun z=>by have:=hmet.mpr z;cases this) H9 s79)
    | true=>exact aU ⟨_,_,_,rfl,good (hmet.mp rfl),s7.trans s79⟩
   ·rintro σ H7 ⟨u5,u6,u7,rfl,k1,s7⟩
    refine⟨_,_,_,_,_,_,_,rfl,next (fun T' h ld hld=>?_),s06.trans s7⟩
    cases h
    obtain⟨k',hk',e'⟩:=List.getElem_of_mem (show ld ∈ ls by rw [<-hls];exact hld)
    exact k1 k' (by rw [hlen];exact hk') ld (by rw [List.getElem?_eq_getElem hk',e'])
  ·rintro σ H2 ⟨u1,u2,u3,u4,u5,u6,u7,rfl,g1,s2⟩
   exact q true H2 ⟨fun _=>⟨h1,⟨T,ho0,snd⟩,fun k p o hp' ho'=>g1 k (by rw [hvl];exact (List.getElem?_eq_some_iff.mp hp').1) p o hp' ho'⟩,fun _=>rfl⟩ s2
theorem kL {f:Addr} {fd:FuncData} (F:b4 K "_law_facts_spoilt" "_law_facts_spoilt" fw f fd) (Z:Bl mg) (O_law_table_of:Own P w K mg base "_law_table_of" 1 ["facts"] j8) (O_law_take:Own P w K mg base "_law_take" 1 ["bag", "many"] fk) (O_law_told:Own P w K mg base "_law_told" 1 ["facts"] oX) (O_law_with:Own P w K mg base "_law_with" 1 ["facts", "name", "stretch"] mB):bw P w K mg base bX 4 f fd ["bag", "facts"] ox:=by
 refine F.ok (k:=3) bf (fun vs H Q E h=>?_) (fun cdv A outer s H vs Q E hr h=>?_)
 ·obtain⟨b,fv,T,xs,rfl,_⟩:=h
  rfl
 ·obtain⟨b,fv,T,xs,rfl,hB,hf,tok,hzz,h50,q⟩:=h
  refine⟨_,(af (aM (i:=2) bf.nd (au O_law_table_of hr (aJ (pv 1))))
   (af (aM (i:=3) bf.nd (aS A0 (aX (iU rfl) rfl Z.sorted h8 (aJ (pv 2))) (b8 (aJ bI))))
   (af (aM (i:=4) bf.nd (aw bL (pv 3) (au O_law_take hr (av (pv 0) (aX bh rfl Z.len cF (aJ (pv 3)))))))
   (af (cx (cW (cZ hr) (pv 2) (pv 4) (aY (bG bH (bG bH cz))) ⟨rfl,rfl,rfl,rfl⟩) (cm rfl (aH (aF (i:=5) bf.nd) (aH (aF (i:=6) bf.nd) bR))))
   (af (aM (i:=7) bf.nd (au O_law_take hr (av (pv 0) ah)))
   (af (aV (aG bK (pv 7) ah (aK _))
   (af (dI (rO (pv 2) (pv 4) bH ⟨rfl,rfl,rfl,rfl⟩))
   (ai (aB (au O_law_told hr (aJ (pv 2))))))
   aL)
   (af (cQ (aV (aG bK (pv 7) ah (aK _))
   (ai (aM (i:=5) bf.nd bH))
   aL))
   (af (cQ (aV (aG bK (pv 7) ah (aK _))
   (ai (aM (i:=6) bf.nd bH))
   aL))
   (af (cQ (aV (PW.pt (dM (aG bK (pv 7) ah (aK _)) (dt (bW (cA (pv 5))))))
   (ai (aM (i:=5) bf.nd (aS fj (pv 5) ah)))
   aL))
   (af (cQ (aV (PW.pt (dM (aG bK (pv 7) ah (aK _)) (dt (bW (cA (pv 6))))))
   (ai (aM (i:=6) bf.nd (aS cy (pv 6) ah)))
   aL))
   (af (cQ (aV (aG bK (pv 7) ah (aK _))
   (ai (wk (i:=5) (j:=6) rfl bf.nd rfl rfl (by decide) rfl rfl (av ah (aS cy ah (au O_law_take hr (av (pv 0) ah)))) rfl))
   aL))
   (af (cQ (aV (aG bK (pv 7) ah (aK _))
   (ai (cx (aw bL (b8 (av (aY (av ah (aS cy ah (au O_law_take hr (av (pv 0) ah))))) (aY (av (zA wq ah) (zA wq ah))))) (au O_law_take hr (av (pv 0) ah))) (cm rfl (aH (aF (i:=5) bf.nd) (aH (aF (i:=6) bf.nd) bR)))))
   aL))
   (ai (aB (au O_law_told hr (aJ (au O_law_with hr (ft (pv 2) (pv 4) (aY (av (pv 5) (pv 6))))))))))))))))))))),?_⟩
  refine⟨_,rfl,fv,T,xs.length,rfl,hf,tok.bO,(by omega),fun d H1 nd lt1 s1=>?_⟩
  have hf1:=hf.same s1
  have B1:=hB.same s1
  obtain⟨kvs,ks,hd,tb,cl,hl⟩:=lt1
  have lt1:LT H1 d T xs.length:=⟨kvs,ks,hd,tb,cl,hl⟩
  refine⟨_,rfl,d,kvs,ks,rfl,hd,tb.keys,(by omega),fun l1 ss hperm hsort nl1=>?_⟩
  have s2:=ae.new (o:=.lst (ss.map V.str)) nl1
  have hl1:(upd H1 l1 (.lst (ss.map V.str))) l1=some (.lst (ss.map V.str)):=aa
  generalize (upd H1 l1 (.lst (ss.map V.str)))=H2 at s2 hl1
  have hsl:=hperm.length_eq
  refine⟨pO,fun l2 n2=>⟨l1,l2,_,_,rfl,rfl,ae.new n2 _ _ hl1,aa,(by rw [List.length_map];exact Nat.le_of_lt (bp (by show _+1<=1000;omega))),fun l3 n3=>?_⟩⟩
  have hl3:(upd (upd H2 l2 (.lst [.str "zz"])) l3 (.lst (ss.map V.str ++ [.str "zz"]))) l3=some (.lst ((ss ++ [("zz" : Str)]).map V.str)):=by rw [aa,List.map_append];rfl
  have s3:=(ae.new (o:=.lst [.str "zz"]) n2).trans (ae.new (o:=.lst (ss.map V.str ++ [.str "zz"])) n3)
  generalize (upd (upd H2 l2 (.lst [.str "zz"])) l3 (.lst (ss.map V.str ++ [.str "zz"])))=H3 at s3 hl3
  have s03:=s1.trans (s2.trans s3)
  have s13:=s2.trans s3
  have B3:=B1.same s13
  have el:(((ss ++ [("zz" : Str)]).map V.str).length:Int)=ss.length+1:=by simp
  refine⟨_,rfl,_,rfl,_,rfl,l3,_,rfl,.inl (aP.of hl3),b,_,rfl,B3,⟨by omega,fm (by omega) (by omega)⟩,fun r H4 r0 r1 B4 X4=>?_⟩
  have nl3:l3 ≠ b:=by
   obtain⟨x,y',e,_⟩:=B3
   rintro rfl
   rw [hl3] at e
   cases ss <;> simp at e
  obtain⟨x,hx,hxm⟩:=j0 (xs:=ss ++ [("zz" : Str)]) r0 r1
  refine⟨l3,_,r,_,rfl,rfl,aP.of (X4 _ _ hl3 nl3),hx,?_⟩
  have hxp:x ∈ xs:=by
   rcases List.mem_append.mp hxm with h | h
   ·exact tok.sup x (cl x (hperm.mem_iff.mp h))
   ·rw [List.mem_singleton.mp h];exact hzz
  have lt4:=(lt1.same s13).fix B3 X4
  have F4:Fix b H H4:=(Fix.of_same s03).trans X4
  obtain⟨kvs,ks,hd,tb,cl,hl⟩:=lt4
  have lt4:LT H4 d T xs.length:=⟨kvs,ks,hd,tb,cl,hl⟩
  refine⟨_,rfl,d,rfl,.inl ⟨kvs,.inl hd⟩,_,rfl,ln2,fun t0 n0=>?_⟩
  have s5:=ae.new (o:=.tup [.aC,.aC]) n0
  have ht0:(upd H4 t0 (.tup [.aC,.aC])) t0=some (.tup [.aC,.aC]):=aa
  generalize (upd H4 t0 (.tup [.aC,.aC]))=H5 at s5 ht0
  obtain⟨v,ev,qv,rfl,hqv⟩:=LT.get (tb.aI fun p zs e=>s5 _ _ e) cl ht0 x
  refine⟨_,_,cY.k (k:=Sum.inr x) (s5 _ _ hd),ev,qv,_,rfl,ar.of hqv,rfl,_,_,rfl,_,_,rfl,rfl,?_⟩
  have lt5:=lt4.same s5
  have B5:=B4.same s5
  have F5:=F4.trans (Fix.of_same s5)
  have hle:=tok.le x
  generalize T x=s0 at hqv hle
  refine⟨_,rfl,b,7,rfl,B5,⟨by decide,by decide +kernel⟩,fun way H6 w0 w1 B6 X6=>?_⟩
  have lt6:=lt5.fix B5 X6
  have F6:=F5.trans X6
  have ndb:d ≠ b:=lt6.Bp B6
  clear hqv ht0 s5 n0
  refine⟨_,rfl,rfl,_,rfl,?_⟩
  refine b9 (fun hc=>?_) (fun hc=>?_)
  ·obtain⟨kvs,ks,hd,tb,cl,hl⟩:=lt6
   have cl2:∀ (T':Str->Sx) (H7:Hp),cC xs T'->LT H7 d T' xs.length->bY H7 b->Fix b H H7->xQ (qL oX [] E0 (bZ (mT 2) eS)) { nx:=fun x H'=>Q V.aC H',rt:=Q } [some (.ref b),some fv,some (.ref d),some (.ref l3),some (.str x),some (vO s0.1),some (vO s0.2),some (.int way)] H7:=fun T' H7 a1 a2 a3 a4=>by
    refine⟨_,rfl,d,T',rfl,a2.up (by omega),fun v H8 f8 s8=>?_⟩
    exact q v T' H8 f8 a1 (a3.same s8) (a4.trans (Fix.of_same s8))
   refine⟨_,rfl,d,rfl,.inl ⟨kvs,.inl hd⟩,_,rfl,kvs,Sum.inr x,hd,rfl,fun v ev=>?_,fun ev=>?_⟩
   ·have F7:Fix b H (upd H6 d (.dK (eC kvs (Sum.inr x)))):=fun c o e ne=>by
     rw [ao (bg e nd)]
     exact F6 c o e ne
    refine cl2 (cg T x bN) _ (tok.set hxp True.intro) ⟨_,_,aa,(tb.drop x).aI (fun p zs e=>by rw [ao (bJ e hd (by intro z;cases z))];exact e),fun y hy=>?_,Nat.le_trans (List.length_filter_le _ _) hl⟩ (B6.put ndb.symm) F7
    obtain⟨h1,h2⟩:=List.mem_filter.mp hy
    have hne:y ≠ x:=of_decide_eq_true h2
    unfold cg
    rw [if_neg hne]
    exact cl y h1
   ·exact cl2 T H6 tok ⟨kvs,ks,hd,tb,cl,hl⟩ B6 F6
  refine⟨fun σ' H'=>∃ s:Sx,σ' = [some (.ref b),some fv,some (.ref d),some (.ref l3),some (.str x),some (vO s.1),some (vO s.2),some (.int way)]/\fZ s.1 s.2/\LT H' d T xs.length/\bY H' b/\Fix b H H',?_,?_⟩
  ·refine⟨_,rfl,rfl,_,rfl,?_⟩
   refine b9 (fun hc=>?_) (fun hc=>?_)
   ·exact⟨(none,s0.2),rfl,True.intro,lt6,B6,F6⟩
   ·exact⟨s0,rfl,hle,lt6,B6,F6⟩
  rintro σ' H7 ⟨s,rfl,le7,lt7,B7,F7⟩
  refine⟨fun σ' H'=>∃ s:Sx,σ' = [some (.ref b),some fv,some (.ref d),some (.ref l3),some (.str x),some (vO s.1),some (vO s.2),some (.int way)]/\fZ s.1 s.2/\LT H' d T xs.length/\bY H' b/\Fix b H H',?_,?_⟩
  ·refine⟨_,rfl,rfl,_,rfl,?_⟩
   refine b9 (fun hc=>?_) (fun hc=>?_)
   ·exact⟨(s.1,none),rfl,(by show fZ s.1 none;cases s.1 <;> exact True.intro),lt7,B7,F7⟩
   ·exact⟨s,rfl,le7,lt7,B7,F7⟩
  rintro σ' H7 ⟨s,rfl,le7,lt7,B7,F7⟩
  refine⟨fun σ' H'=>∃ s:Sx,σ' = [some (.ref b),some fv,some (.ref d),some (.ref l3),some (.str x),some (vO s.1),some (vO s.2),some (.int way)]/\fZ s.1 s.2/\LT H' d T xs.length/\bY H' b/\Fix b H H',?_,?_⟩
  ·refine⟨_,rfl,rfl,_,rfl,?_⟩
   refine b9 (fun hc=>?_) (fun hc=>?_)
   ·obtain⟨lo,hi⟩:=s
    refine⟨_,rfl,_,rfl,?_⟩
    cases lo with
    | none=>exact aZ rfl ⟨(none,hi),rfl,le7,lt7,B7,F7⟩
    | some a =>
     refine bV rfl ?_
     refine⟨_,rfl,_,_,rfl,rfl,?_⟩
     refine⟨(some (a - 1),hi),rfl,?_,lt7,B7,F7⟩
     cases hi with
     | none=>exact True.intro
     | some c=>have le7:a<=c:=le7;show a - 1<=c;omega
   ·exact aU ⟨s,rfl,le7,lt7,B7,F7⟩
  rintro σ' H7 ⟨s,rfl,le7,lt7,B7,F7⟩
  refine⟨fun σ' H'=>∃ s:Sx,σ' = [some (.ref b),some fv,some (.ref d),some (.ref l3),some (.str x),some (vO s.1),some (vO s.2),some (.int way)]/\fZ s.1 s.2/\LT H' d T xs.length/\bY H' b/\Fix b H H',?_,?_⟩
  ·refine⟨_,rfl,rfl,_,rfl,?_⟩
   refine b9 (fun hc=>?_) (fun hc=>?_)
   ·obtain⟨lo,hi⟩:=s
    refine⟨_,rfl,_,rfl,?_⟩
    cases hi with
    | none=>exact aZ rfl ⟨(lo,none),rfl,le7,lt7,B7,F7⟩
    | some a =>
     refine bV rfl ?_
     refine⟨_,rfl,_,_,rfl,rfl,?_⟩
     refine⟨(lo,some (a+1)),rfl,?_,lt7,B7,F7⟩
     cases lo with
     | none=>exact True.intro
     | some c=>have le7:c<=a:=le7;show c<=a+1;omega
   ·exact aU ⟨s,rfl,le7,lt7,B7,F7⟩
  rintro σ' H7 ⟨s,rfl,le7,lt7,B7,F7⟩
  refine⟨fun σ' H'=>∃ s:Sx,σ' = [some (.ref b),some fv,some (.ref d),some (.ref l3),some (.str x),some (vO s.1),some (vO s.2),some (.int way)]/\fZ s.1 s.2/\LT H' d T xs.length/\bY H' b/\Fix b H H',?_,?_⟩
  ·refine⟨_,rfl,rfl,_,rfl,?_⟩
   refine b9 (fun hc=>?_) (fun hc=>?_)
   ·refine⟨_,rfl,b,3,rfl,B7,⟨by decide,by decide +kernel⟩,fun r H8 r0 r1 B8 X8=>⟨_,_,rfl,rfl,?_⟩⟩
    refine⟨_,_,rfl,(some 0,some (1+r)),rfl,(show (0:Int)<=1+r by omega),lt7.fix B7 X8,B8,F7.trans X8⟩
   ·exact⟨s,rfl,le7,lt7,B7,F7⟩
  rintro σ' H7 ⟨s,rfl,le7,lt7,B7,F7⟩
  refine⟨fun σ' H'=>∃ s:Sx,σ' = [some (.ref b),some fv,some (.ref d),some (.ref l3),some (.str x),some (vO s.1),some (vO s.2),some (.int way)]/\fZ s.1 s.2/\LT H' d T xs.length/\bY H' b/\Fix b H H',?_,?_⟩
  ·refine⟨_,rfl,rfl,_,rfl,?_⟩
   refine b9 (fun hc=>?_) (fun hc=>?_)
   ·refine⟨_,rfl,b,3,rfl,B7,⟨by decide,by decide +kernel⟩,fun r H8 r0 r1 B8 X8=>⟨_,_,rfl,rfl,ln2,fun t1 n1=>?_⟩⟩
    refine⟨3,rfl,1,rfl,ln2,fun t2 n2=>⟨ln2,fun l4 n4=>?_⟩⟩
    have q1:=ae.new (o:=.tup [.int 1,.int (1+r)]) n1
    have q2:=ae.new (o:=.tup [.int (-3),.int (-1)]) n2
    have q3:=ae.new (o:=.lst [.ref t1,.ref t2]) n4
    have ht1:=q3 _ _ (q2 _ _ (show (upd H8 t1 (.tup [.int 1,.int (1+r)])) t1=_ from aa))
    have ht2:=q3 _ _ (show (upd (upd H8 t1 (.tup [.int 1,.int (1+r)])) t2 (.tup [.int (-3),.int (-1)])) t2=_ from aa)
    have hl4:(upd (upd (upd H8 t1 (.tup [.int 1,.int (1+r)])) t2 (.tup [.int (-3),.int (-1)])) l4 (.lst [.ref t1,.ref t2])) l4=some (.lst [.ref t1,.ref t2]):=aa
    have q13:=(q1.trans q2).trans q3
    generalize (upd (upd (upd H8 t1 (.tup [.int 1,.int (1+r)])) t2 (.tup [.int (-3),.int (-1)])) l4 (.lst [.ref t1,.ref t2]))=H9 at ht1 ht2 hl4 q13
    have B9:=B8.same q13
    have lt9:=(lt7.fix B7 X8).same q13
    have F9:=(F7.trans X8).trans (Fix.of_same q13)
    refine⟨_,rfl,b,2,rfl,B9,⟨by decide,by decide +kernel⟩,fun r2 H10 r20 r21 B10 X10=>?_⟩
    have nl4:l4 ≠ b:=by
     obtain⟨x',y',e,_⟩:=B9
     rintro rfl
     rw [hl4] at e
     simp at e
    have hl10:=X10 _ _ hl4 nl4
    have lt10:=lt9.fix B9 X10
    have F10:=F9.trans X10
    obtain rfl | rfl:r2=0\/r2=1:=by omega
    ·refine⟨l4,_,0,_,rfl,rfl,aP.of hl10,cv,t1,_,rfl,ar.of (X10 _ _ ht1 (B9.fV ht1)),rfl,_,_,rfl,_,_,rfl,rfl,?_⟩
     exact⟨(some 1,some (1+r)),rfl,(show (1:Int)<=1+r by omega),lt10,B10,F10⟩
    ·refine⟨l4,_,1,_,rfl,rfl,aP.of hl10,cD,t2,_,rfl,ar.of (X10 _ _ ht2 (B9.fV ht2)),rfl,_,_,rfl,_,_,rfl,rfl,?_⟩
     exact⟨(some (-3),some (-1)),rfl,(show (-3:Int) <= -1 by decide),lt10,B10,F10⟩
   ·exact⟨s,rfl,le7,lt7,B7,F7⟩
  rintro σ' H7 ⟨s,rfl,le7,lt7,B7,F7⟩
  refine⟨_,rfl,_,rfl,_,rfl,_,rfl,ln2,fun t1 n1=>?_⟩
  have s8:=ae.new (o:=.tup [vO s.1,vO s.2]) n1
  refine⟨d,T,xs.length,x,.ref t1,s,rfl,lt7.same s8,(by omega),⟨t1,rfl,aa⟩,fun d2 H9 lt9 _ s9=>?_⟩
  have s79:=s8.trans s9
  refine⟨d2,_,rfl,lt9.up (by omega),fun v H10 f10 s10=>?_⟩
  have s710:=s79.trans s10
  exact q v _ H10 f10 (tok.set hxp le7) (B7.same s710) (F7.trans (Fix.of_same s710))
theorem kM {f:Addr} {fd:FuncData} (F:b4 K "_law_table_spoilt" "_law_table_spoilt" fz f fd) (Z:Bl mg) (O_law_take:Own P w K mg base "_law_take" 1 ["bag", "many"] fk) (O_law_facts_spoilt:Own P w K mg base "_law_facts_spoilt" 4 ["bag", "facts"] ox):bw P w K mg base bX 5 f fd ["bag", "table"] oy:=by
 refine F.ok (k:=4) dQ (fun vs H Q E h=>?_) (fun cdv A outer s H vs Q E hr h=>?_)
 ·obtain⟨b,ta,us,tab,xs,rfl,_⟩:=h
  rfl
 ·obtain⟨b,ta,us,tab,xs,rfl,hB,hta,hb,tok,hzz,h50,h0,h400,q⟩:=h
  refine⟨_,(af (aM (i:=2) dQ.nd (ba iM rfl Z.list oM (aJ (pv 1))))
   (af (aM (i:=3) dQ.nd (aS gZ (au O_law_take hr (av (pv 0) (aX bh rfl Z.len cF (aJ (pv 2))))) (ba fQ rfl Z.int jG (aJ (eE iA (au O_law_take hr (av (pv 0) ah)) ah (aK _))))))
   (af (aM (i:=4) dQ.nd (au O_law_take hr (av (pv 0) ah)))
   (af (cQ (aV (aG bK (pv 4) ah (aK _))
   (ai (mr bH (eY (pv 2) (pv 3) set_list)))
   (ai (aV (aG bK (pv 4) ah (aK _))
   (ai (mr (aw bL (pv 2) (au O_law_take hr (av (pv 0) (aX bh rfl Z.len cF (aJ (pv 2)))))) (eY (pv 2) (pv 3) set_list)))
   (ai (aV (PW.pt (dM (aG bK (pv 4) ah (aK _)) (dt (aG iA (aX bh rfl Z.len cF (aJ (pv 2))) ah (aK _)))))
   (ai (dI (fg PySem.F.plainAttrs_list PySem.F.slot_list_pop PySem.F.type_list_pop ye (pv 2) (bG (pv 3) cz))))
   (ai (aV (PW.pt (dM (aG bK (pv 4) ah (aK _)) (dt (aG gR (aX bh rfl Z.len cF (aJ (pv 2))) ah (aK _)))))
   (ai (dI (fg PySem.F.plainAttrs_list PySem.F.slot_list_insert PySem.F.type_list_insert zc (pv 2) (av (pv 3) (aw bL (pv 2) (pv 3))))))
   (ai (aV (PW.pt (iz (aG bK (pv 4) ah (aK _)) (fT (bW (cO (aw bL (pv 2) (pv 3)))))))
   (As Cj (wG O_law_take (hr.mono (by decide)) rfl (bG (pv 0) (bG ah cz))) (fun _ _=>rfl) (eY (pv 2) (pv 3) set_list))
   (ai (mr (au O_law_facts_spoilt hr (av (pv 0) (aw bL (pv 2) (pv 3)))) (eY (pv 2) (pv 3) set_list)))))))))))))
   (ai (aB (ba bF rfl Z.tuple cG (aJ (pv 2))))))))),?_⟩
  have hul:=cU hb
  refine⟨_,rfl,ta,_,rfl,.inr (ar.of hta),fun so nso=>?_⟩
  have s1:=ae.new (o:=.lst us) nso
  have hso:(upd H so (.lst us)) so=some (.lst us):=aa
  generalize (upd H so (.lst us))=H1 at s1 hso
  have B1:=hB.same s1
  have hb1:=bU.same hb s1
  have nsb:so ≠ b:=hB.d5 nso
  refine⟨_,rfl,_,rfl,so,_,rfl,.inl (aP.of hso),b,_,rfl,B1,⟨by omega,fm (by omega) (by omega)⟩,fun r H2 r0 r1 B2 X2=>?_⟩
  refine⟨_,rfl,b,4,rfl,B2,⟨by decide,by decide +kernel⟩,fun r2 H3 r20 r21 B3 X3=>?_⟩
  refine⟨_,_,rfl,rfl,?_⟩
  refine .inr ⟨_,rfl,?_⟩
  obtain⟨k,hkr,hkt⟩:∃ k:Nat,r * (if decide (0 < r2)=true then 1 else 0)=(k:Int)/\k < tab.length:=by
   cases decide (0 < r2)
   ·exact⟨0,by simp,h0⟩
   ·exact⟨r.toNat,by simp;omega,by omega⟩
  refine⟨_,_,rfl,rfl,(by cases decide (0 < r2) <;> exact .inr ⟨by decide,by decide⟩),?_⟩
  have e0:((fun i j:Int=>V.int (i * j)) r (if decide (0 < r2)=true then 1 else 0))=V.int (k:Int):=congrArg V.int hkr
  first | rw [e0] | rw [hkr]
  refine⟨_,rfl,b,8,rfl,B3,⟨by decide,by decide +kernel⟩,fun way H4 w0 w1 B4 X4=>?_⟩
  have X14:Fix b H1 H4:=(X2.trans X3).trans X4
  have F4:Fix b H H4:=(Fix.of_same s1).trans X14
  have hso4:=X14 _ _ hso nsb
  have hb4:bU H4 us tab:=hb1.vM B1 X14
  have hokk:tab[k]? = some tab[k]:=by simp [hkt]
  generalize tab[k] = o at hokk
  obtain⟨v,hv,bo⟩:=eW hb4 hokk
  have oko:∀ T,o=some T->cC xs T:=fun T h=>tok T (h ▸ List.mem_of_getElem? hokk)
  have fin:∀ (H5:Hp) (v:V) (o:Option (Str->Sx)),H5 so=some (.lst us)->bU H5 us tab->bY H5 b->Fix b H H5->BV H5 v o->(∀ T,o=some T->cC xs T)->∃ (us':List V) (tab':dh),([some (.ref b),some (.ref ta),some (.ref so),some (.int (k:Nat)),some (.int way)]:List (Option V)) = [some (.ref b),some (.ref ta),some (.ref so),some (.int (k:Nat)),some (.int way)]/\(upd H5 so (.lst (us.set k v))) so=some (.lst us')/\bU (upd H5 so (.lst (us.set k v))) us' tab'/\TabOk xs tab'/\0 < tab'.length/\tab'.length<=400/\bY (upd H5 so (.lst (us.set k v))) b/\Fix b H (upd H5 so (.lst (us.set k v))):=fun H5 v o a1 a2 a3 a4 a5 a6=>by
   have kt:∀ p zs,H5 p=some (.tup zs)->(upd H5 so (.lst (us.set k v))) p=some (.tup zs):=fun p zs e=>by rw [ao (bJ e a1 (by intro z;cases z))];exact e
   refine⟨us.set k v,tab.set k o,rfl,aa,iD (F:=BV _) (a5.aI kt) k (bU.aI kt a2),tok.set k a6,(by rw [List.length_set];exact h0),(by rw [List.length_set];exact h400),a3.put nsb.symm,fun c oo e ne=>?_⟩
   rw [ao (bg e nso)]
   exact a4 c oo e ne
  refine⟨fun σ' H'=>∃ (us':List V) (tab':dh),σ' = [some (.ref b),some (.ref ta),some (.ref so),some (.int (k:Nat)),some (.int way)]/\H' so=some (.lst us')/\bU H' us' tab'/\TabOk xs tab'/\0 < tab'.length/\tab'.length<=400/\bY H' b/\Fix b H H',?_,?_⟩
  ·refine⟨_,rfl,rfl,_,rfl,?_⟩
   refine b9 (fun hc=>?_) (fun hc=>?_)
   ·refine⟨_,rfl,_,rfl,so,_,_,k,rfl,rfl,hso4,eJ (by rw [hul];exact hkt),?_⟩
    exact fin H4 .aC none hso4 hb4 B4 F4 rfl (fun T h=>nomatch h)
   refine⟨_,rfl,rfl,_,rfl,?_⟩
   refine b9 (fun hc=>?_) (fun hc=>?_)
   ·refine⟨_,rfl,_,rfl,_,rfl,so,_,rfl,.inl (aP.of hso4),b,_,rfl,B4,⟨by omega,fm (by omega) (by omega)⟩,fun r3 H5 r30 r31 B5 X5=>?_⟩
    obtain⟨k3,rfl⟩:∃ k:Nat,r3=k:=⟨r3.toNat,by omega⟩
    have hk3:k3 < tab.length:=by omega
    have hok3:tab[k3]? = some tab[k3]:=by simp [hk3]
    generalize tab[k3] = o3 at hok3
    obtain⟨v3,hv3,bo3⟩:=eW hb4 hok3
    have hso5:=X5 _ _ hso4 nsb
    refine⟨so,_,_,_,rfl,rfl,aP.of hso5,bC hv3,?_⟩
    refine⟨_,rfl,_,rfl,so,_,_,k,rfl,rfl,hso5,eJ (by rw [hul];exact hkt),?_⟩
    exact fin H5 v3 o3 hso5 (hb4.vM B4 X5) B5 (F4.trans X5) (bo3.aI fun p zs e=>X5 _ _ e (B4.fV e)) (fun T h=>tok T (h ▸ List.mem_of_getElem? hok3))
   refine⟨_,rfl,rfl,_,rfl,?_⟩
   have upto:∀ (us':List V) (tab':dh),Paired (BV H4) us' tab'->TabOk xs tab'->0 < tab'.length->tab'.length<=400->∃ (us'':List V) (tab':dh),([some (.ref b),some (.ref ta),some (.ref so),some (.int (k:Nat)),some (.int way)]:List (Option V)) = [some (.ref b),some (.ref ta),some (.ref so),some (.int (k:Nat)),some (.int way)]/\(upd H4 so (.lst us')) so=some (.lst us'')/\bU (upd H4 so (.lst us')) us'' tab'/\TabOk xs tab'/\0 < tab'.length/\tab'.length<=400/\bY (upd H4 so (.lst us')) b/\Fix b H (upd H4 so (.lst us')):=fun us' tab' a1 a2 a3 a4=>by
    have kt:∀ p zs,H4 p=some (.tup zs)->(upd H4 so (.lst us')) p=some (.tup zs):=fun p zs e=>by rw [ao (bJ e hso4 (by intro z;cases z))];exact e
    refine⟨us',tab',rfl,aa,bU.aI kt a1,a2,a3,a4,B4.put nsb.symm,fun c oo e ne=>?_⟩
    rw [ao (bg e nso)]
    exact F4 c oo e ne
   refine xC ?_ (fun rest hc=>?_)
   rotate_left
   ·refine⟨_,rfl,so,_,rfl,.inl (aP.of hso4),_,_,rfl,rfl,_,rfl,?_⟩
    refine b9 (fun hd=>?_) (fun hd=>?_)
    ·have h2:1 < tab.length:=by
      have hd:decide (((us.length:Nat):Int) > 1)=true:=hd
      have:=of_decide_eq_true hd
      omega
     refine⟨_,rfl,.inl ⟨rfl,_,aP.of hso4⟩,_,rfl,so,_,_,k,v,rfl,rfl,hso4,(by omega),(by omega),(oG (eJ (by rw [hul];exact hkt))).1,hv,?_⟩
     have hlen:(tab.eraseIdx k).length=tab.length - 1:=by rw [List.length_eraseIdx];rw [if_pos hkt]
     exact upto _ (tab.eraseIdx k) (kG k hb4) (fun T hT=>tok T (List.mem_of_mem_eraseIdx hT)) (by omega) (by omega)
    ·exact rest
   refine⟨_,rfl,rfl,_,rfl,?_⟩
   refine xC ?_ (fun rest hc=>?_)
   rotate_left
   ·refine⟨_,rfl,so,_,rfl,.inl (aP.of hso4),_,_,rfl,rfl,_,rfl,?_⟩
    refine b9 (fun hd=>?_) (fun hd=>?_)
    ·have h2:tab.length < 400:=by
      have hd:decide (((us.length:Nat):Int) < 400)=true:=hd
      have:=of_decide_eq_true hd
      omega
     refine⟨_,rfl,.inl ⟨rfl,_,aP.of hso4⟩,_,rfl,_,rfl,_,rfl,so,_,_,_,rfl,rfl,aP.of hso4,bC hv,so,_,_,k,v,rfl,rfl,rfl,hso4,(by omega),(by omega),?_⟩
     have hlen:(tab.take k++o :: tab.drop k).length=tab.length+1:=by simp;omega
     refine upto _ (tab.take k++o :: tab.drop k) (L2.d9 (mP k hb4) (.cons bo (mQ k hb4))) (fun T hT=>?_) (by omega) (by omega)
     rcases List.mem_append.mp hT with h | h
     ·exact tok T (List.mem_of_mem_take h)
     ·rcases List.mem_cons.mp h with h | h
      ·exact oko T h.symm
      ·exact tok T (List.mem_of_mem_drop h)
    ·exact rest
   refine⟨_,rfl,rfl,_,rfl,?_⟩
   refine Cn ?_ (fun body hc=>?_)
   ·skip
    refine⟨(by show 0<=sizeLine;decide),fun t0 n0=>⟨ln2,fun t1 n1=>⟨ln2,fun t2 n2=>⟨pO,fun t3 n3=>⟨ln2,fun l4 n4=>?_⟩⟩⟩⟩⟩
    have q0:=ae.new (o:=.tup []) n0
    have q1:=ae.new (o:=.tup [.int 0,.int 2]) n1
    have q2:=ae.new (o:=.tup [.str "zz",.ref t1]) n2
    have q3:=ae.new (o:=.tup [.ref t2]) n3
    have q4:=ae.new (o:=.lst [.ref t0,.ref t3]) n4
    have g0:=q4 _ _ (q3 _ _ (q2 _ _ (q1 _ _ (show (upd H4 t0 (.tup [])) t0=_ from aa))))
    have g1:=q4 _ _ (q3 _ _ (q2 _ _ (show (upd (upd H4 t0 (.tup [])) t1 (.tup [.int 0,.int 2])) t1=_ from aa)))
    have g2:=q4 _ _ (q3 _ _ (show (upd (upd (upd H4 t0 (.tup [])) t1 (.tup [.int 0,.int 2])) t2 (.tup [.str "zz",.ref t1])) t2=_ from aa))
    have g3:=q4 _ _ (show (upd (upd (upd (upd H4 t0 (.tup [])) t1 (.tup [.int 0,.int 2])) t2 (.tup [.str "zz",.ref t1])) t3 (.tup [.ref t2])) t3=_ from aa)
    have g4:(upd (upd (upd (upd (upd H4 t0 (.tup [])) t1 (.tup [.int 0,.int 2])) t2 (.tup [.str "zz",.ref t1])) t3 (.tup [.ref t2])) l4 (.lst [.ref t0,.ref t3])) l4=some (.lst [.ref t0,.ref t3]):=aa
    have q04:=(((q0.trans q1).trans q2).trans q3).trans q4
    generalize (upd (upd (upd (upd (upd H4 t0 (.tup [])) t1 (.tup [.int 0,.int 2])) t2 (.tup [.str "zz",.ref t1])) t3 (.tup [.ref t2])) l4 (.lst [.ref t0,.ref t3]))=H5 at g0 g1 g2 g3 g4 q04
    have B5:=B4.same q04
    refine⟨_,rfl,b,2,rfl,B5,⟨by decide,by decide +kernel⟩,fun r5 H6 r50 r51 B6 X6=>?_⟩
    have nl4:l4 ≠ b:=by
     obtain⟨x',y',e,_⟩:=B5
     rintro rfl
     rw [g4] at e
     simp at e
    have hl6:=X6 _ _ g4 nl4
    have kt6:∀ p zs,H5 p=some (.tup zs)->H6 p=some (.tup zs):=fun p zs e=>X6 _ _ e (B5.fV e)
    have hso6:=X6 _ _ (q04 _ _ hso4) nsb
    have F6:Fix b H H6:=(F4.trans (Fix.of_same q04)).trans X6
    have bv6:bU H6 us tab:=(bU.same hb4 q04).vM B5 X6
    obtain rfl | rfl:r5=0\/r5=1:=by omega
    ·refine⟨l4,_,0,_,rfl,rfl,aP.of hl6,cv,?_⟩
     refine⟨_,rfl,_,rfl,so,_,_,k,rfl,rfl,hso6,eJ (by rw [hul];exact hkt),?_⟩
     exact fin H6 (.ref t0) (some T0) hso6 bv6 B6 F6 (show FV H6 (.ref t0) T0 from FD.zero.fv (.tup (kt6 _ _ g0) .nil)) (fun T h=>by cases h;exact cC.zero)
    ·refine⟨l4,_,1,_,rfl,rfl,aP.of hl6,cD,?_⟩
     refine⟨_,rfl,_,rfl,so,_,_,k,rfl,rfl,hso6,eJ (by rw [hul];exact hkt),?_⟩
     exact fin H6 (.ref t3) (some sT) hso6 bv6 B6 F6 (show FV H6 (.ref t3) sT from Ck (kt6 _ _ g3) (kt6 _ _ g2) (kt6 _ _ g1)) (fun T h=>by cases h;exact Cm hzz)
   ·refine⟨_,rfl,_,rfl,so,_,_,_,rfl,rfl,aP.of hso4,bC hv,_,rfl,?_⟩
    cases o with
    | none =>
     have bo:v=.aC:=bo
     subst bo
     exact bV rfl body
    | some T =>
     have bo:FV H4 v T:=bo
     have hne:decide (v=V.aC)=false:=by
      obtain⟨p,_,_,rfl,_⟩:=bo
      rfl
     refine aZ hne ?_
     refine⟨_,rfl,_,rfl,_,rfl,so,_,_,_,rfl,rfl,aP.of hso4,bC hv,b,v,T,xs,rfl,B4,bo,oko T rfl,hzz,h50,fun v' T' H5 f5 tok5 B5 X5=>?_⟩
     have hso5:=X5 _ _ hso4 nsb
     refine⟨_,rfl,_,rfl,so,_,_,k,rfl,rfl,hso5,eJ (by rw [hul];exact hkt),?_⟩
     exact fin H5 v' (some T') hso5 (hb4.vM B4 X5) B5 (F4.trans X5) f5 (fun T h=>by cases h;exact tok5)
  rintro σ' H5 ⟨us',tab',rfl,a1,a2,a3,a4,a5,a6,a7⟩
  refine⟨_,rfl,so,_,rfl,.inl ⟨aP.of a1,fun t nt=>?_⟩⟩
  exact q t us' tab' _ aa (bU.same a2 (ae.new nt)) a3 a4 a5 (a6.new nt) (a7.trans (Fix.new nt))
theorem nF {f:Addr} {fd:FuncData} (F:b4 K "_law_wide_plan" "_law_wide_plan" gx f fd) (Z:Bl mg) (O_law_take:Own P w K mg base "_law_take" 1 ["bag", "many"] fk) (O_law_deed:Own P w K mg base "_law_deed" 3 ["bag", "names"] rK) (O_law_end:Own P w K mg base "_law_end" 3 ["bag", "names", "count"] rL):bw P w K mg base bX 4 f fd ["bag", "count"] sU:=by
  refine F.ok (k:=3) cq (fun vs H Q E h=>?_) (fun cdv A outer s H vs Q E hr h=>?_)
  · obtain⟨b,c,rfl,_⟩:=h
    rfl
  · obtain⟨b,c,rfl,hB,c0,c1,q⟩:=h
    refine⟨_,(af (aM (i:=2) cq.nd bI)
      (af (aM (i:=3) cq.nd (au O_law_take hr (av (pv 0) ah)))
      (af (aM (i:=4) cq.nd (b8 cz))
      (af (df PassesOwn.never rfl (dZ rfl Z.range (aJ (aS cy ah (au O_law_take hr (av (pv 0) ah))))) (aF (i:=5) cq.nd)
      (af (aM (i:=6) cq.nd (aw nJ (pv 2) (aS fU (aS cy (aS gZ ah (pv 5)) (pv 3)) ah)))
      (ai (dI (fg PySem.F.plainAttrs_list PySem.F.slot_list_append PySem.F.type_list_append eN (pv 4) (aJ (aS vd (pv 6) (aS Au (aw nJ (pv 2) (aS lU (pv 5) ah)) (aS cy ah (aS fU (pv 5) ah))))))))))
      (af (aM (i:=7) cq.nd (b8 cz))
      (af (df PassesOwn.never rfl (dZ rfl Z.range (aJ (pv 1))) (aF (i:=5) cq.nd)
      (af (aM (i:=8) cq.nd (ba bF rfl Z.tuple cG (aJ (cP ["j"] ["bag", "names"] [0,4] rfl (dZ rfl Z.range (aJ (au O_law_take hr (av (pv 0) ah)))) rfl (by decide +kernel) (by decide +kernel) (by decide +kernel) ⟨⟨rfl,.inl rfl,rfl⟩,⟨⟨rfl,.inl rfl,rfl⟩,True.intro⟩⟩ (fun _ _ _ _=>(aF (i:=0) (show ((["j"]:List Str)++(["bag", "names"]:List Str)).Nodup by decide +kernel) (hf:=Or.inr rfl))) (fun _ _ _ _=>dz) (fun _ _ _ _=>(au O_law_deed hr (av (pv 1) (pv 2))))))))
      (ai (dI (fg PySem.F.plainAttrs_list PySem.F.slot_list_append PySem.F.type_list_append eN (pv 7) (aJ (aY (av (pv 8) (au O_law_end hr (ft (pv 0) (pv 4) (pv 1)))))))))))
      (ai (aB (ba bF rfl Z.tuple cG (aJ (pv 7))))))))))),?_⟩
    refine⟨_,rfl,b,26,rfl,hB,⟨by decide,by decide +kernel⟩,fun sh H1 sh0 sh1 B1 X1=>?_⟩
    refine⟨(by show 0<=sizeLine;decide),fun l nn=>?_⟩
    have hlb:l ≠ b:=B1.d5 nn
    refine⟨_,rfl,b,41,rfl,B1.new nn,⟨by decide,by decide +kernel⟩,fun mm H2 mm0 mm1 B2 X2=>⟨_,_,rfl,rfl,?_⟩⟩
    have hl2:H2 l=some (.lst []):=X2 l _ aa hlb
    have F2:Fix b H H2:=(X1.trans (Fix.new nn)).trans X2
    have nnl:∀ d o,H d=some o->d ≠ b->d ≠ l:=fun d o hd nd z=>by
      have:=X1 d o hd nd
      rw [z,nn] at this;cases this
    refine⟨_,rfl,(by omega),(by omega),gY (lo:=0) (fun i σ H'=>∃ (u1 u2 u3 u4:Option V) (xs:List Str),σ = [some (.ref b),some (.int c),some (.str jI),some (.int sh),some (.ref l),u1,u2,u3,u4]/\H' l=some (.lst (xs.map V.str))/\xs.length=i/\(∀ x ∈ xs,iP x)/\bY H' b/\Fix b H H') ?_ ?_ ?_⟩
    · exact⟨_,_,_,_,[],rfl,hl2,rfl,(fun _ h=>nomatch h),B2,F2⟩
    · rintro i σ H3 hi ⟨u1,u2,u3,u4,xs,rfl,h1,h2,h3,B3,X3⟩
      refine cf ?_
      obtain⟨ca,hat,ca0,ca1⟩:=nM (r:=(7 * (0+(i:Int))+sh) % 26) (Int.emod_nonneg _ (by decide)) (Int.emod_lt_of_pos _ (by decide))
      obtain⟨cb,hbt,cb0,cb1⟩:=nM (r:=(0+(i:Int)) / 26) (by omega) (by omega)
      obtain⟨mk,ml,nk⟩:=zd (c0:=ca) (c:=cb) (n:=1+(0+(i:Int)) % 4) ⟨ca0,ca1⟩ ⟨cb0,cb1⟩ (by omega) (by omega)
      refine⟨_,rfl,_,rfl,_,_,rfl,rfl,.inl ⟨by decide,by decide⟩,_,rfl,_,_,rfl,rfl,_,_,rfl,rfl,(show (0:Int) < 26 by decide),jI,_,ca,rfl,rfl,lZ,hat,?_⟩
      refine⟨_,rfl,.inl ⟨rfl,_,aP.of h1⟩,_,rfl,_,rfl,_,rfl,_,_,rfl,rfl,⟨by decide,by decide⟩,jI,_,cb,rfl,rfl,lZ,hbt,_,rfl,_,_,rfl,rfl,(show (0:Int) < 4 by decide),_,_,rfl,rfl,_,_,rfl,rfl,mk,_,_,rfl,rfl,?_,l,_,_,rfl,rfl,h1,?_,?_⟩
      · have:(⟨#[ca]⟩:Str).length=1:=rfl
        rw [this]
        exact Nat.le_of_lt (bp (by omega))
      · rw [List.length_map]
        exact bp (by omega)
      refine⟨_,_,_,_,xs ++ [_],rfl,(by rw [aa,List.map_append];rfl),(by rw [List.length_append,h2];rfl),?_,B3.put hlb.symm,?_⟩
      · intro x hxm
        rcases List.mem_append.mp hxm with hxm | hxm
        · exact h3 x hxm
        · rw [List.mem_singleton.mp hxm];exact nk
      · intro d o hd nd
        rw [ao (nnl d o hd nd)]
        exact X3 d o hd nd
    · rintro σ H3 ⟨u1,u2,u3,u4,xs,rfl,h1,h2,h3,B3,X3⟩
      have N3:eG H3 b l xs:=⟨h1,hlb,(by intro z;rw [z] at h2;simp at h2;omega),(by omega),h3⟩
      have x4:xs.length<=60:=by omega
      refine⟨(by show 0<=sizeLine;decide),fun pl pn=>?_⟩
      have hpb:pl ≠ b:=B3.d5 pn
      refine⟨_,rfl,_,rfl,(by omega),(by omega),gY (lo:=0) (fun i σ H'=>∃ (u1 u2 u3:Option V) (ps:List Piece) (vs:List V),σ = [some (.ref b),some (.int c),some (.str jI),some (.int sh),some (.ref l),u1,u2,some (.ref pl),u3] /\
        H' pl=some (.lst vs)/\bu H' vs (ps.map eZ)/\ps.length=i/\(∀ p ∈ ps,(p.1.length<=4/\∀ d ∈ p.1,d6 xs d)/\lW xs c p.2)/\eG H' b l xs/\bY H' b/\Fix b H H'/\(∀ d o,H3 d=some o->d ≠ b->H' d=some o)) ?_ ?_ ?_⟩
      · exact⟨_,_,_,[],[],rfl,aa,.nil,rfl,(fun _ h=>nomatch h),N3.fix (Fix.new pn),B3.new pn,X3.trans (Fix.new pn),Fix.new pn⟩
      · rintro i σ H' hi ⟨v1,v2,v3,ps,vs,rfl,hp,hr,hl,aN,N',B',X',Y'⟩
        refine cf ?_
        refine⟨_,rfl,b,5,rfl,B',⟨by decide,by decide +kernel⟩,fun k H4 k0 k1 B4 X4=>?_⟩
        have N4:=N'.fix X4
        have hp4:H4 pl=some (.lst vs):=X4 pl _ hp hpb
        have hr4:bu H4 vs (ps.map eZ):=hr.fix B' X4 (cc ps)
        refine⟨_,rfl,(by omega),(by omega),fun acc na=>?_⟩
        have hab:acc ≠ b:=B4.d5 na
        refine jY (lo:=0) (fun i ys τ H'=>∃ (v:Option V) (ds:List cK),τ = [v,some (.ref b),some (.ref l)]/\bu H' ys (ds.map dP)/\ds.length=i/\(∀ d ∈ ds,d6 xs d)/\H' acc=some (.lst ys)/\bY H' b/\Fix b H4 H') ?_ ?_ ?_ ?_
        · exact⟨none,[],rfl,.nil,rfl,(fun _ h=>nomatch h),aa,B4.new na,Fix.new na⟩
        · rintro i' ys τ H5 hi' ⟨v,ds,rfl,rds,hl',_,ha,_⟩
          refine⟨ha,?_⟩
          rw [rds.len,List.length_map]
          exact bp (by omega)
        · rintro i' ys τ H5 hi' ⟨v,ds,rfl,rds,hl',hdk,ha,B5,X5⟩
          refine cf ?_
          refine fX ?_
          refine aQ ?_
          refine⟨_,rfl,_,rfl,b,l,xs,rfl,B5,N4.fix X5,fun dv d H6 rd dk B6 X6=>?_⟩
          have ha6:=X6 acc _ ha hab
          refine⟨ha6,_,ds ++ [d],rfl,?_,(by rw [List.length_append,hl'];rfl),?_,aa,?_,?_⟩
          · rw [List.map_append]
            refine bu.app ((rds.fix B5 X6 (b6 ds)).put ha6 (b6 ds)) ?_
            exact rd.aI (fun p zs e=>by rw [ao (bJ e ha6 (by intro z;cases z))];exact e) (jh d)
          · intro d' hd
            rcases List.mem_append.mp hd with hd | hd
            · exact hdk d' hd
            · rw [List.mem_singleton.mp hd];exact dk
          · obtain⟨x,y,e,z⟩:=B6
            exact⟨x,y,by rw [ao hab.symm];exact e,z⟩
          · intro d' o hd nd
            rw [ao (bg hd na)]
            exact (X5.trans X6) d' o hd nd
        · rintro ys τ H5 ⟨v,ds,rfl,rds,hl',hdk,ha,B5,X5⟩
          refine⟨acc,ys,rfl,.inl ⟨aP.of ha,fun tp tn=>?_⟩⟩
          have S5:=ae.new (o:=.tup ys) tn
          have htp:(upd H5 tp (.tup ys)) tp=some (.tup ys):=aa
          have rds5:=rds.same S5 (b6 ds)
          have B5':=B5.same S5
          have X45:Fix b H4 (upd H5 tp (.tup ys)):=X5.trans (Fix.of_same S5)
          generalize (upd H5 tp (.tup ys))=H6 at S5 htp rds5 B5' X45
          have hp6:=X45 pl _ hp4 hpb
          refine⟨_,rfl,.inl ⟨rfl,_,aP.of hp6⟩,_,rfl,_,rfl,_,rfl,_,rfl,b,l,xs,c,rfl,B5',N4.fix X45,c0,(by omega),fun ev e H7 re ek B7 X7=>⟨ln2,fun pc pcn=>?_⟩⟩
          have S7:=ae.new (o:=.tup [.ref tp,ev]) pcn
          have hp7:(upd H7 pc (.tup [.ref tp,ev])) pl=some (.lst vs):=S7 _ _ (X7 pl _ hp6 hpb)
          have htpb:tp ≠ b:=B5'.fV htp
          refine⟨pl,_,_,rfl,rfl,hp7,?_,?_⟩
          · rw [hr.len,List.length_map,hl]
            exact bp (by omega)
          have hpiece:bE (upd H7 pc (.tup [.ref tp,ev])) (.ref pc) (eZ (ds,e)) :=
            .tup aa (.cons (.tup (S7 _ _ (X7 _ _ htp htpb)) ((rds5.fix B5' X7 (b6 ds)).same S7 (b6 ds))) (.cons (re.same S7 (iB e)) .nil))
          have X47:Fix b H4 (upd H7 pc (.tup [.ref tp,ev])):=(X45.trans X7).trans (Fix.of_same S7)
          have F7:Fix b H (upd H7 pc (.tup [.ref tp,ev])):=(X'.trans X4).trans X47
          have plH:∀ d o,H3 d=some o->d ≠ b->d ≠ pl:=fun d o hd nd z=>by rw [z,pn] at hd;cases hd
          have N7:=N4.fix X47
          refine⟨_,_,_,ps ++ [(ds,e)],vs ++ [.ref pc],rfl,aa,?_,(by rw [List.length_append,hl];rfl),?_,?_,?_,?_,?_⟩
          · rw [List.map_append]
            refine bu.app ((hr4.fix B4 X47 (cc ps)).put hp7 (cc ps)) ?_
            exact hpiece.aI (fun p zs e=>by rw [ao (bJ e hp7 (by intro z;cases z))];exact e) (iQ (ds,e))
          · intro p hpm
            rcases List.mem_append.mp hpm with hpm | hpm
            · exact aN p hpm
            · rw [List.mem_singleton.mp hpm]
              exact⟨⟨by show ds.length<=4;omega,hdk⟩,ek⟩
          · have hll:l ≠ pl:=fun z=>by
              have:=N3.at_
              rw [z,pn] at this
              cases this
            exact⟨by rw [ao hll];exact N7.at_,N7.ne,N7.qN,N7.bO,N7.ok⟩
          · obtain⟨x,y,e',z⟩:=B7.same S7
            exact⟨x,y,by rw [ao hpb.symm];exact e',z⟩
          · intro d o hd nd
            rw [ao (plH d o (X3 d o hd nd) nd)]
            exact F7 d o hd nd
          · intro d o hd nd
            rw [ao (plH d o hd nd)]
            exact X47 d o (X4 d o (Y' d o hd nd) nd) nd
      · rintro σ H' ⟨v1,v2,v3,ps,vs,rfl,hp,hr,hl,aN,N',B',X',Y'⟩
        have hl':ps.length=c:=by rw [hl];omega
        refine⟨_,rfl,pl,_,rfl,.inl ⟨aP.of hp,fun tp tn=>?_⟩⟩
        refine q (.ref tp) xs ps _ (.tup aa (hr.same (ae.new tn) (cc ps))) hl' ⟨fun p hpm=>(aN p hpm).1,fun p hpm=>?_⟩ ⟨N'.ok,x4⟩ (B'.new tn) (X'.trans (Fix.new tn))
        rw [hl']
        exact (aN p hpm).2
theorem tH {f:Addr} {fd:FuncData} (F:b4 K "_law_right" "_law_right" jA f fd) (Z:Bl mg) (O_stands:Own P w K mg base "stands" 8 ["plan", "table"] i0) (O_law_stands:Own P w K mg base "_law_stands" 5 ["plan", "table"] i0):bw P w K mg base bX 9 f fd ["plan", "table"] qo:=by
 refine F.ok (k:=8) lS (fun vs H Q E h=>?_) (fun cdv A outer s H vs Q E hr h=>?_)
 ·obtain⟨plv,ta,us,tab,ps,xs,m,rfl,_⟩:=h
  rfl
 ·obtain⟨plv,ta,us,tab,ps,xs,m,rfl,hp,ok,hp0,hp1,hta,hb,tabok,h62,ht0,ht1,q⟩:=h
  refine⟨_,(af (aM (i:=2) lS.nd (au O_stands hr (av (pv 0) (pv 1))))
   (ai (aB (jB (aX yi rfl Z.isinstance qr (av (pv 2) (zO (v:=.ty "bool") rfl Z.bool z5 rfl))) (eD (eE bK (pv 2) (au O_law_stands hr (av (pv 0) (pv 1))) (aK _))))))),?_⟩
  refine⟨_,rfl,_,rfl,plv,ta,us,tab,ps,xs,m,rfl,hp,ok,hp0,hp1,hta,hb,tabok,h62,ht0,ht1,fun b H1 hb1 s1=>?_⟩
  refine⟨_,rfl,_,_,_,_,rfl,.bl b,rfl,_,rfl,aQ ?_⟩
  refine⟨_,rfl,_,rfl,_,rfl,plv,ta,us,tab,ps,xs,m,rfl,hp.same s1 (fH ps),ok,hp0,hp1,s1 _ _ hta,bU.same hb s1,tabok,h62,ht0,ht1,fun b2 H2 hb2 s2=>⟨rfl,?_⟩⟩
  obtain rfl:b2=b:=Bool.eq_iff_iff.mpr (hb2.trans hb1.symm)
  have:=q H2 (s1.trans s2)
  rw [<-show decide (V.bl b2=V.bl b2)=true from decide_eq_true rfl] at this
  exact this
theorem BG {f:Addr} {fd:FuncData} (F:b4 K "law" "law" mE f fd) (Z:Bl mg) (O_law_bag:Own P w K mg base "_law_bag" 1 ["script", "k"] (zE K)) (O_law_take:Own P w K mg base "_law_take" 1 ["bag", "many"] fk) (O_law_plan:Own P w K mg base "_law_plan" 4 ["bag", "count", "most"] wJ) (O_law_count:Own P w K mg base "_law_count" 2 ["bag", "most"] uB) (O_law_wide_plan:Own P w K mg base "_law_wide_plan" 4 ["bag", "count"] sU) (O_law_reached:Own P w K mg base "_law_reached" 3 ["plan"] qm) (O_table_of:Own P w K mg base "table_of" 8 ["plan"] sQ) (O_stands:Own P w K mg base "stands" 8 ["plan", "table"] i0) (O_law_table_spoilt:Own P w K mg base "_law_table_spoilt" 5 ["bag", "table"] oy) (O_law_right:Own P w K mg base "_law_right" 9 ["plan", "table"] qo):bw P w K mg base bX 12 f fd ["script"] (qM K):=by
  refine F.ok (k:=11) fc (fun vs H Q E h=>?_) (fun cdv A outer s H vs Q E hr h=>?_)
  · obtain⟨a,ns,rfl,_⟩:=h
    rfl
  · obtain⟨a,ns,rfl,hS,hlen,q⟩:=h
    refine⟨_,(af (aM (i:=1) fc.nd (au O_law_bag hr (av (pv 0) ah)))
      (af (aM (i:=2) fc.nd (au O_law_plan hr (ft (pv 1) (aw bL (b8 (av (au O_law_count hr (av (pv 1) ah)) ah)) (ba fQ rfl Z.int jG (aJ (eE bK (au O_law_take hr (av (pv 1) ah)) ah (aK _))))) ah)))
      (af (cQ (aV (aG bK (au O_law_take hr (av (pv 1) ah)) ah (aK _))
      (ai (aM (i:=2) fc.nd (au O_law_wide_plan hr (av (pv 1) (aS cy ah (au O_law_take hr (av (pv 1) ah)))))))
      aL))
      (af (aM (i:=3) fc.nd (au O_law_reached hr (aJ (pv 2))))
      (af (aM (i:=4) fc.nd (b8 (av (au O_table_of hr (aJ (pv 2))) (ba bF rfl Z.tuple cG (aJ (aS rB (b8 (aJ (aY cz))) (aX bh rfl Z.len cF (aJ (pv 2)))))))))
      (af (dI (fg PySem.F.plainAttrs_list PySem.F.slot_list_append PySem.F.type_list_append eN (pv 4) (aJ (ba bF rfl Z.tuple cG (aJ (cP ["k"] ["there"] [3] rfl (dZ rfl Z.range (aJ (aX bh rfl Z.len cF (aJ (pv 2))))) rfl (by decide +kernel) (by decide +kernel) (by decide +kernel) ⟨⟨rfl,.inl rfl,rfl⟩,True.intro⟩ (fun _ _ _ _=>(aF (i:=0) (show ((["k"]:List Str)++(["there"]:List Str)).Nodup by decide +kernel) (hf:=Or.inr rfl))) (fun _ _ _ _=>dz) (fun _ _ _ _=>(aw (yP (K:=K) rfl) (b8 (av bH (aY cz))) (ba fQ rfl Z.int jG (aJ (eE (Bx (K:=K) rfl) (pv 0) (pv 1) (by with_unfolding_all rfl))))))))))))
      (af (df PassesOwn.never rfl (gB (pv 4)) (aF (i:=5) fc.nd)
      (ai (aV (aG wI (au O_stands hr (av (pv 2) (pv 5))) cN (aK _))
      (ai (aB cN))
      aL)))
      (af (df PassesOwn.never rfl (dZ rfl Z.range (aJ (aS cy ah (aX (kT rfl) rfl Z.min rC (av (aX bh rfl Z.len cF (aJ (pv 0))) ah))))) (aF (i:=6) fc.nd)
      (af (aM (i:=7) fc.nd (au O_law_bag hr (av (pv 0) (pv 6))))
      (af (aM (i:=8) fc.nd (eE bK (au O_law_take hr (av (pv 7) ah)) ah (aK _)))
      (af (aM (i:=5) fc.nd (au O_law_table_spoilt hr (av (pv 7) (aw bL (pv 4) (aS lU (au O_law_take hr (av (pv 7) ah)) ah)))))
      (af (cQ (aV (eX (pv 8))
      (ai (aM (i:=5) fc.nd (au O_law_table_spoilt hr (av (pv 7) (pv 5)))))
      aL))
      (ai (aV (nG (eX (au O_law_right hr (av (pv 2) (pv 5)))))
      (ai (aB cN))
      aL)))))))
      (ai (aB cN)))))))))),?_⟩
    refine⟨_,rfl,a,ns,0,rfl,hS,(by decide),fun b H1 nb B1 s1=>?_⟩
    refine⟨_,rfl,_,rfl,b,20,rfl,B1,(by omega),(by omega),fun c H2 c0 c1 B2 X2=>?_⟩
    refine⟨ln2,fun l0 n0=>?_⟩
    have h0:(upd H2 l0 (.lst [.int c,.int 400])) l0=some (.lst [.int c,.int 400]):=aa
    refine⟨_,rfl,b,6,rfl,B2.new n0,⟨by decide,by decide +kernel⟩,fun z H3 z0 z1 B3 X3=>⟨rfl,?_⟩⟩
    have h0:=X3 _ _ h0 (B2.d5 n0)
    obtain⟨g,hg,hg2⟩:∃ g:Nat,fE [V.int c,V.int 400] (if decide (V.int z=V.int 0)=true then 1 else 0)=some (V.int g)/\(0 < g/\g<=400):=by
      cases decide (V.int z=V.int 0)
      · exact⟨c,cv,by omega⟩
      · exact⟨400,cD,by omega⟩
    refine .inr ⟨_,rfl,l0,_,_,_,rfl,rfl,aP.of h0,hg,?_⟩
    refine⟨b,g,3,rfl,B3,hg2.1,(by omega),(by omega),fun plv xs ps H4 r4 hc4 pok xok B4 X4=>?_⟩
    have s4:ae H H4:=ae.nL s1 nb (((X2.trans (Fix.new n0)).trans X3).trans X4)
    refine⟨fun σ' H'=>∃ (plv:V) (ps:List Piece) (xs:List Str) (u1:Option V),σ' = [some (.ref a),u1,some plv,none,none,none,none,none,none]/\bE H' plv (fW ps)/\cR xs 4 ps/\xs.length<=60/\0 < ps.length/\ps.length<=400/\ae H H',?_,?_⟩
    · refine⟨_,rfl,b,6,rfl,B4,⟨by decide,by decide +kernel⟩,fun z2 H5 z20 z21 B5 X5=>⟨rfl,_,rfl,?_⟩⟩
      have s5:ae H H5:=fun c o e=>X5 c o (s4 c o e) (bg e nb)
      refine b9 (fun hc=>?_) (fun hc=>?_)
      · refine⟨_,rfl,_,rfl,b,40,rfl,B5,⟨by decide,by decide +kernel⟩,fun z3 H6 z30 z31 B6 X6=>⟨_,_,rfl,rfl,?_⟩⟩
        obtain⟨k,rfl⟩:∃ k:Nat,z3=k:=⟨z3.toNat,by omega⟩
        refine⟨b,1+k,congrArg (fun z=>[V.ref b,V.int z]) (show (1:Int)+(k:Int)=((1+k:Nat):Int) by omega),B6,(by omega),(by omega),fun plv xs ps H7 r7 hc7 pok xok B7 X7=>?_⟩
        exact⟨plv,ps,xs,_,rfl,r7,pok,xok.2,(by omega),(by omega),fun c o e=>X7 c o (X6 c o (s5 c o e) (bg e nb)) (bg e nb)⟩
      · exact⟨plv,ps,xs,_,rfl,r4.fix B4 X5 (fH ps),⟨fun p hp=>⟨Nat.le_trans (pok.gS p hp).1 (by decide),(pok.gS p hp).2⟩,pok.ends⟩,(by have:=xok.2;omega),(by omega),(by omega),s5⟩
    clear r4 pok hc4 s4 B4 B3 B2 B1 X2 X3 X4 h0 hg n0 nb s1 xok
    rintro σ' H5 ⟨plv,ps,xs0,u1,rfl,r5,pok0,hx60,hpc,hp4,s5⟩
    have hin:nP ps:=pok0.wR
    have hal:(bM ps).length<=4000:=by
      have:=xl pok0
      have h2:ps.length * (2 * 4+1)<=400 * 9:=Nat.mul_le_mul (by omega) (by omega)
      omega
    have pok:=pok0.Du [("zz" : Str)]
    have hx61:(xs0 ++ [("zz" : Str)]).length<=61:=by rw [List.length_append];show _+1<=61;omega
    have hzz:("zz" : Str) ∈ xs0 ++ [("zz" : Str)]:=List.mem_append_right _ (List.mem_singleton.mpr rfl)
    generalize xs0 ++ [("zz" : Str)] = xs at pok hx61 hzz
    have nol:=fH ps
    obtain⟨pp,vs,rfl,e5,rp⟩:=bE.cB r5
    have hvl:vs.length=ps.length:=by rw [rp.len,List.length_map]
    refine⟨_,rfl,_,ps,rfl,r5,hin,hpc,hp4,fun tl ks H6 htl hks hkl hsrt s6=>?_⟩
    refine⟨_,rfl,_,ps,xs,4,rfl,r5.same s6 nol,pok,hpc,hp4,(by omega),hal,fun ta1 us1 tab1 H7 ht1 bv1 Bm st1 s7=>?_⟩
    have s57:=s6.trans s7
    refine⟨(by show 0<=sizeLine;decide),fun t0 nt0=>⟨pO,fun l1 n1=>?_⟩⟩
    have q12:=(ae.new (o:=.tup []) nt0).trans (ae.new (o:=.lst [.ref t0]) n1)
    have ht0:=(ae.new (o:=.lst [.ref t0]) n1) _ _ (show (upd H7 t0 (.tup [])) t0=some (.tup []) from aa)
    have hl1:(upd (upd H7 t0 (.tup [])) l1 (.lst [.ref t0])) l1=some (.lst [.ref t0]):=aa
    generalize (upd (upd H7 t0 (.tup [])) l1 (.lst [.ref t0]))=H8 at q12 ht0 hl1 ⊢
    refine⟨_,rfl,pp,_,rfl,.inr (ar.of (q12 _ _ (s57 _ _ e5))),l1,_,_,rfl,rfl,hl1,(by omega),(by omega),?_,fun l2 n2=>?_⟩
    · show 1 * _<=_
      exact Nat.le_of_lt (bp (by omega))
    have e2:(List.replicate ((vs.length:Int)).toNat [V.ref t0]).flatten=List.replicate ps.length (V.ref t0):=by rw [hvl,Int.toNat_natCast,List.flatten_replicate_singleton]
    have q3:=ae.new (o:=.lst (List.replicate ((vs.length:Int)).toNat [V.ref t0]).flatten) n2
    have hl2:(upd H8 l2 (.lst (List.replicate ((vs.length:Int)).toNat [V.ref t0]).flatten)) l2=some (.lst (List.replicate ps.length (V.ref t0))):=by rw [aa,e2]
    generalize (upd H8 l2 (.lst (List.replicate ((vs.length:Int)).toNat [V.ref t0]).flatten))=H9 at q3 hl2 ⊢
    refine⟨l2,_,rfl,.inl ⟨aP.of hl2,fun ta3 n3=>⟨ln2,fun l4 n4=>?_⟩⟩⟩
    have q4:=ae.new (o:=.tup (List.replicate ps.length (V.ref t0))) n3
    have q5:=ae.new (o:=.lst [.ref ta1,.ref ta3]) n4
    have ht3:=q5 _ _ (show (upd H9 ta3 (.tup (List.replicate ps.length (V.ref t0)))) ta3=_ from aa)
    have hl4:(upd (upd H9 ta3 (.tup (List.replicate ps.length (V.ref t0)))) l4 (.lst [.ref ta1,.ref ta3])) l4=some (.lst [.ref ta1,.ref ta3]):=aa
    have q35:=(q3.trans q4).trans q5
    have q75:=q12.trans q35
    have ht0:=q35 _ _ ht0
    have nl4:H7 l4=none:=(q12.trans (q3.trans q4)).free n4
    generalize (upd (upd H9 ta3 (.tup (List.replicate ps.length (V.ref t0)))) l4 (.lst [.ref ta1,.ref ta3]))=H10 at ht3 hl4 q75 ht0 q35 ⊢
    have s510:=s57.trans q75
    have bv3:bU H10 (List.replicate ps.length (V.ref t0)) (List.replicate ps.length (some T0)):=by
      have f0:FV H10 (.ref t0) T0:=FD.zero.fv (.tup ht0 .nil)
      generalize ps.length=n
      induction n with
      | zero=>exact .nil
      | succ n ih=>exact .cons f0 ih
    have tk3:TabOk xs (List.replicate ps.length (some T0)):=fun T hT=>by
      have:=(List.mem_replicate.mp hT).2
      cases this
      exact cC.zero
    refine⟨_,rfl,.inl ⟨rfl,_,aP.of hl4⟩,?_⟩
    refine⟨_,rfl,pp,_,rfl,.inr (ar.of (s510 _ _ e5)),_,rfl,(by omega),(by omega),fun acc na=>?_⟩
    have htl10:=q75 _ _ (s7 _ _ htl)
    have nal:acc ≠ l4:=fun z=>by rw [z,hl4] at na;cases na
    refine jY (lo:=0) (fun i ys τ H'=>∃ v:Option V,τ = [v,some (.ref tl)]/\bU H' ys ((j9 ps).take i)/\H' acc=some (.lst ys)/\ae H10 H') ?_ ?_ ?_ ?_
    · exact⟨none,rfl,.nil,aa,ae.new na⟩
    · rintro i ys τ H11 hi ⟨v,rfl,g1,g2,g3⟩
      refine⟨g2,?_⟩
      rw [cU g1,List.length_take]
      exact bp (by omega)
    · rintro i ys τ H11 hi ⟨v,rfl,g1,g2,g3⟩
      have hi:i < ps.length:=by omega
      refine cf ?_
      refine fX ?_
      refine aQ ?_
      refine⟨(by show 0<=sizeLine;decide),fun t5 n5=>⟨ln2,fun l5 n6=>?_⟩⟩
      have r12:=(ae.new (o:=.tup []) n5).trans (ae.new (o:=.lst [.aC,.ref t5]) n6)
      have ht5:=(ae.new (o:=.lst [.aC,.ref t5]) n6) _ _ (show (upd H11 t5 (.tup [])) t5=some (.tup []) from aa)
      have hl5:(upd (upd H11 t5 (.tup [])) l5 (.lst [.aC,.ref t5])) l5=some (.lst [.aC,.ref t5]):=aa
      generalize (upd (upd H11 t5 (.tup [])) l5 (.lst [.aC,.ref t5]))=H12 at r12 ht5 hl5 ⊢
      refine⟨_,rfl,_,rfl,tl,_,rfl,.inl (aP.of (r12 _ _ (g3 _ _ htl10))),rfl,uL _,?_⟩
      have hin2:jF (.int (0+(i:Int))) (vN ks)=decide (i ∈ ks):=by rw [Int.zero_add];exact oW i ks
      have ha12:=r12 _ _ g2
      have hTi:=jQ hi
      obtain⟨w,hat,hbv⟩:∃ w,fE [V.aC,V.ref t5] (if jF (.int (0+(i:Int))) (vN ks)=true then 1 else 0)=some w/\∀ H',ae H12 H'->∃ o,(j9 ps)[i]? = some o/\BV H' w o:=by
        rw [hin2]
        by_cases hm:i ∈ ks
        · refine⟨.ref t5,(by rw [decide_eq_true hm];exact cD),fun H' s'=>⟨some T0,?_,FD.zero.fv (.tup (s' _ _ ht5) .nil)⟩⟩
          rw [hTi,if_pos ((hks i).mp hm)]
        · refine⟨.aC,(by rw [decide_eq_false hm];exact cv),fun H' s'=>⟨none,?_,rfl⟩⟩
          rw [hTi,if_neg (fun z=>hm ((hks i).mpr z))]
      refine .inr ⟨_,rfl,l5,_,_,_,rfl,rfl,aP.of hl5,hat,ha12,_,rfl,?_,aa,(g3.trans r12).put na⟩
      obtain⟨o,ho,hb⟩:=hbv H12 (ae.refl H12)
      rw [List.take_add_one,ho]
      refine d9 (bU.aI (fun p zs e=>by rw [ao (bJ e ha12 (by intro z;cases z))];exact e) (bU.same g1 r12)) (.cons ?_ .nil)
      exact hb.aI fun p zs e=>by rw [ao (bJ e ha12 (by intro z;cases z))];exact e
    rintro ys τ H11 ⟨v,rfl,g1,g2,g3⟩
    rw [List.take_of_length_le (by rw [nj];omega)] at g1
    refine⟨acc,_,rfl,.inl ⟨aP.of g2,fun ta4 n7=>?_⟩⟩
    have q6:=g3.trans (ae.new (o:=.tup ys) n7)
    have hl46:=q6 _ _ hl4
    refine⟨l4,_,_,rfl,rfl,hl46,fY (by show 2<=1000000;decide),?_⟩
    have ht4:(upd (upd H11 ta4 (.tup ys)) l4 (.lst ([.ref ta1,.ref ta3] ++ [.ref ta4]))) ta4=some (.tup ys):=by rw [ao (fun z=>by rw [z,g3 _ _ hl4] at n7;cases n7)];exact aa
    have hl7:(upd (upd H11 ta4 (.tup ys)) l4 (.lst ([.ref ta1,.ref ta3] ++ [.ref ta4]))) l4=some (.lst [.ref ta1,.ref ta3,.ref ta4]):=aa
    have q7:ae H7 (upd (upd H11 ta4 (.tup ys)) l4 (.lst ([.ref ta1,.ref ta3] ++ [.ref ta4]))):=(q75.trans q6).put nl4
    have kt7:∀ p zs,H10 p=some (.tup zs)->(upd (upd H11 ta4 (.tup ys)) l4 (.lst ([.ref ta1,.ref ta3] ++ [.ref ta4]))) p=some (.tup zs):=fun p zs e=>by
      rw [ao (bJ e hl4 (by intro z;cases z))]
      exact q6 _ _ e
    have bv4:bU (upd (upd H11 ta4 (.tup ys)) l4 (.lst ([.ref ta1,.ref ta3] ++ [.ref ta4]))) ys (j9 ps):=bU.aI (fun p zs e=>by
      rw [ao (bJ e (g3 _ _ hl4) (by intro z;cases z))]
      exact (ae.new (o:=.tup ys) n7) _ _ e) g1
    have tk4:TabOk xs (j9 ps):=fun T hT=>by
      obtain⟨k,hk,e⟩:=List.getElem_of_mem hT
      have h1:=jQ (ps:=ps) (k:=k) (by rw [<-nj];exact hk)
      rw [List.getElem?_eq_getElem hk,e] at h1
      split at h1
      · cases h1;exact cC.zero
      · cases h1
    have ht3:=kt7 _ _ ht3
    have bv3:=bU.aI kt7 bv3
    generalize (upd (upd H11 ta4 (.tup ys)) l4 (.lst ([.ref ta1,.ref ta3] ++ [.ref ta4])))=H12 at ht4 hl7 q7 bv4 ht3 bv3 ⊢
    have tabs:∀ (k:Nat) (v:V),[V.ref ta1,V.ref ta3,V.ref ta4][k]? = some v->∃ (ta:Addr) (us:List V) (tab:dh),v=.ref ta/\H12 ta=some (.tup us)/\bU H12 us tab/\TabOk xs tab/\ie ps tab:=fun k v hv=>by
      match k,hv with
      | 0,hv=>cases hv;exact⟨ta1,us1,tab1,rfl,q7 _ _ ht1,bU.same bv1 q7,Bm,st1⟩
      | 1,hv=>cases hv;exact⟨ta3,_,_,rfl,ht3,bv3,tk3,tR pok hpc⟩
      | 2,hv=>cases hv;exact⟨ta4,_,_,rfl,ht4,bv4,tk4,vR pok hpc⟩
      | k+3,hv=>simp at hv
    have s12:=s57.trans q7
    have r12:=r5.same s12 nol
    have sH12:=s5.trans s12
    refine⟨_,rfl,l4,rfl,⟨_,aP.of hl7⟩,jV (K:=K) (a:=l4) (xs:=[V.ref ta1,V.ref ta3,V.ref ta4]) (fun i σ H'=>∃ (u5:Option V),σ = [some (.ref a),u1,some (.ref pp),some (.ref tl),some (.ref l4),u5,none,none,none]/\ae H12 H') ?_ ?_ ?_ ?_⟩
    · exact⟨_,rfl,ae.refl H12⟩
    · rintro i σ H13 hi ⟨u5,rfl,s13⟩
      exact aP.of (s13 _ _ hl7)
    · rintro i x σ H13 hx ⟨u5,rfl,s13⟩
      obtain⟨ta,us,tab,rfl,hta,hbv,htk,hst⟩:=tabs i x hx
      have hl:=hst.len
      refine cf ?_
      refine⟨_,rfl,_,rfl,_,ta,us,tab,ps,xs,4,rfl,r12.same s13 nol,pok,hpc,(by omega),s13 _ _ hta,bU.same hbv s13,htk,(by omega),(by omega),(by omega),fun bb H14 hbb s14=>?_⟩
      obtain rfl:=hbb.mpr hst
      exact⟨true,true,rfl,rfl,_,rfl,aZ rfl ⟨_,rfl,s13.trans s14⟩⟩
    rintro σ H13 ⟨u5,rfl,s13⟩
    refine⟨_,rfl,a,_,rfl,.inl ((sH12.trans s13).seq hS),_,_,rfl,_,_,rfl,rfl,_,rfl,(by split <;> (try rw [List.length_map]) <;> omega),(by split <;> (try rw [List.length_map]) <;> omega),gY (lo:=0) (fun i σ H'=>∃ (u5 u6 u7 u8:Option V),σ = [some (.ref a),u1,some (.ref pp),some (.ref tl),some (.ref l4),u5,u6,u7,u8]/\ae H12 H') ?_ ?_ ?_⟩
    · exact⟨_,_,_,_,rfl,s13⟩
    · clear s13 H13
      rintro i σ H13 hi ⟨u5,u6,u7,u8,rfl,s13⟩
      refine cf ?_
      refine⟨_,rfl,_,rfl,a,ns,(0+(i:Int)),rfl,(sH12.trans s13).seq hS,(by omega),fun b H14 nb B14 s14=>?_⟩
      refine⟨_,rfl,b,3,rfl,B14,⟨by decide,by decide +kernel⟩,fun tw H15 tw0 tw1 B15 X15=>⟨rfl,?_⟩⟩
      refine⟨_,rfl,_,rfl,_,rfl,b,5,rfl,B15,⟨by decide,by decide +kernel⟩,fun z H16 z0 z1 B16 X16=>⟨_,_,rfl,rfl,⟨by decide,by decide⟩,?_⟩⟩
      have s16:ae H12 H16:=s13.trans (ae.nL s14 nb (X15.trans X16))
      obtain⟨j,hj,hj3⟩:∃ j:Nat,z / 2=(j:Int)/\j < 3:=⟨(z / 2).toNat,by omega,by omega⟩
      have hjv:[V.ref ta1,V.ref ta3,V.ref ta4][j]? = some ([V.ref ta1,V.ref ta3,V.ref ta4][j]'hj3):=List.getElem?_eq_getElem hj3
      generalize ([V.ref ta1,V.ref ta3,V.ref ta4][j]'hj3)=vj at hjv
      obtain⟨ta,us,tab,rfl,hta,hbv,htk,hst⟩:=tabs j vj hjv
      have hl:=hst.len
      refine⟨l4,_,_,_,rfl,rfl,aP.of (s16 _ _ hl7),(by rw [hj];exact bC hjv),?_⟩
      refine⟨b,ta,us,tab,xs,rfl,B16,s16 _ _ hta,bU.same hbv s16,htk,hzz,hx61,(by omega),(by omega),fun t2 us2 tab2 H17 ht2 bv2 tk2 h20 h24 B17 X17=>?_⟩
      have s17:ae H12 H17:=s13.trans (ae.nL s14 nb ((X15.trans X16).trans X17))
      refine⟨fun σ' H'=>∃ (t2:Addr) (us2:List V) (tab2:dh) (u6 u7 u8:Option V),σ' = [some (.ref a),u1,some (.ref pp),some (.ref tl),some (.ref l4),some (.ref t2),u6,u7,u8]/\H' t2=some (.tup us2)/\bU H' us2 tab2/\TabOk xs tab2/\0 < tab2.length/\tab2.length<=400/\ae H12 H',?_,?_⟩
      · refine⟨_,rfl,_,rfl,?_⟩
        refine b9 (fun hc=>?_) (fun hc=>?_)
        · refine⟨_,rfl,_,rfl,b,t2,us2,tab2,xs,rfl,B17,ht2,bv2,tk2,hzz,hx61,h20,h24,fun t3 us3 tab3 H18 ht3 bv3 tk3 h30 h34 B18 X18=>?_⟩
          exact⟨t3,us3,tab3,_,_,_,rfl,ht3,bv3,tk3,h30,h34,s13.trans (ae.nL s14 nb (((X15.trans X16).trans X17).trans X18))⟩
        · exact⟨t2,us2,tab2,_,_,_,rfl,ht2,bv2,tk2,h20,h24,s17⟩
      rintro σ' H18 ⟨t3,us3,tab3,v6,v7,v8,rfl,ht3,bv3,tk3,h30,h34,s18⟩
      refine⟨_,rfl,_,rfl,_,t3,us3,tab3,ps,xs,4,rfl,r12.same s18 nol,pok,hpc,(by omega),ht3,bv3,tk3,(by omega),h30,(by omega),fun H19 s19=>⟨_,rfl,aU ?_⟩⟩
      exact⟨_,_,_,_,rfl,s18.trans s19⟩
    · rintro σ H14 ⟨v5,u6,u7,u8,rfl,s14⟩
      exact q _
end
theorem all_mk {l:PySem.W.OpenLaw} {w:World} {K:PySem.W.Frag} {h:Heap} {mg:Str->Option Value} {fa:Addr} (X:K.In h) (G:h.Ns mainGlobals mg) (hfa:mg "law" = some (.ref fa))
  {f0 f1 f2 f3 f4 f5 f6 f7 f8 f9 f10 f11 f12 f13 f14 f15 f16 f17 f18 f19 f20 f21 f22 f23 f24 f25 f26 f27 f28 f29 f30 f31 f32 f33 f34 f35 f36 f37 f38 f39 f40 f41 f42 f43 f44 f45 f46 f47 f48 f49 f50:Addr} {g0 g1 g2 g3 g4 g5 g6 g7 g8 g9 g10 g11 g12 g13 g14 g15 g16 g17 g18 g19 g20 g21 g22 g23 g24 g25 g26 g27 g28 g29 g30 g31 g32 g33 g34 g35 g36 g37 g38 g39 g40 g41 g42 g43 g44 g45 g46 g47 g48 g49 g50:FuncData}
  {aA:Addr} {dcA:Option Addr} {nA:Nat} {slA:Array (Option Value)}
  {aE:Addr} {epE:Nat} {s0:Addr} {hsE0:Int} {tkE0:Tok} {dcE0:Option Addr} {nnE0:Nat} {slE0:Array (Option Value)}  {s1:Addr} {hsE1:Int} {tkE1:Tok} {dcE1:Option Addr} {nnE1:Nat} {slE1:Array (Option Value)} {ttE1_0:Tok} {s2:Addr} {hsE2:Int} {tkE2:Tok} {dcE2:Option Addr} {nnE2:Nat} {slE2:Array (Option Value)} {ttE2_0:Tok} {ttE2_1:Tok} {ttE2_2:Tok} {ttE2_3:Tok} {s3:Addr} {hsE3:Int} {tkE3:Tok} {dcE3:Option Addr} {nnE3:Nat} {slE3:Array (Option Value)} {ttE3_0:Tok} {ttE3_1:Tok} {ttE3_2:Tok} {ttE3_3:Tok}
  {aD:Addr} {epD:Nat} {d0:Addr} {hsD0:Int} {tkD0:Tok} {dcD0:Option Addr} {nnD0:Nat} {slD0:Array (Option Value)} {ttD0_0:Tok} {ttD0_1:Tok} {d1:Addr} {hsD1:Int} {tkD1:Tok} {dcD1:Option Addr} {nnD1:Nat} {slD1:Array (Option Value)} {ttD1_0:Tok} {ttD1_1:Tok} {d2:Addr} {hsD2:Int} {tkD2:Tok} {dcD2:Option Addr} {nnD2:Nat} {slD2:Array (Option Value)} {ttD2_0:Tok} {ttD2_1:Tok} {d3:Addr} {hsD3:Int} {tkD3:Tok} {dcD3:Option Addr} {nnD3:Nat} {slD3:Array (Option Value)} {ttD3_0:Tok} {d4:Addr} {hsD4:Int} {tkD4:Tok} {dcD4:Option Addr} {nnD4:Nat} {slD4:Array (Option Value)} {ttD4_0:Tok}
  (z_len:PySem.W.nsIn K mainGlobals "len" = some none)
  (z_zip:PySem.W.nsIn K mainGlobals "zip" = some none)
  (z_tuple:PySem.W.nsIn K mainGlobals "tuple" = some none)
  (z_sorted:PySem.W.nsIn K mainGlobals "sorted" = some none)
  (z_set:PySem.W.nsIn K mainGlobals "set" = some none)
  (z_dict:PySem.W.nsIn K mainGlobals "dict" = some none)
  (z_min:PySem.W.nsIn K mainGlobals "min" = some none)
  (z_max:PySem.W.nsIn K mainGlobals "max" = some none)
  (z_range:PySem.W.nsIn K mainGlobals "range" = some none)
  (z_list:PySem.W.nsIn K mainGlobals "list" = some none)
  (z_int:PySem.W.nsIn K mainGlobals "int" = some none)
  (z_all:PySem.W.nsIn K mainGlobals "all" = some none)
  (z_isinstance:PySem.W.nsIn K mainGlobals "isinstance" = some none)
  (z_bool:PySem.W.nsIn K mainGlobals "bool" = some none)
  (gA:PySem.W.nsIn K mainGlobals "ALL" = some (some (.ref aA))) (lA:K.lookup aA=some ⟨.type "tuple",dcA,.seq #[.none,.none] nA,slA⟩)
  (gE:PySem.W.nsIn K mainGlobals "END_PARTS" = some (some (.ref aE))) (lE:K.lookup aE=some ⟨.type "dict",none,.dict #[⟨hsE0,.str "stop" tkE0,.ref s0⟩,⟨hsE1,.str "go" tkE1,.ref s1⟩,⟨hsE2,.str "less" tkE2,.ref s2⟩,⟨hsE3,.str "is" tkE3,.ref s3⟩] epE,#[]⟩) (qE0:K.lookup s0=some ⟨.type "tuple",dcE0,.seq #[] nnE0,slE0⟩) (qE1:K.lookup s1=some ⟨.type "tuple",dcE1,.seq #[.str "piece" ttE1_0] nnE1,slE1⟩) (qE2:K.lookup s2=some ⟨.type "tuple",dcE2,.seq #[.str "name" ttE2_0,.str "number" ttE2_1,.str "piece" ttE2_2,.str "piece" ttE2_3] nnE2,slE2⟩) (qE3:K.lookup s3=some ⟨.type "tuple",dcE3,.seq #[.str "name" ttE3_0,.str "number" ttE3_1,.str "piece" ttE3_2,.str "piece" ttE3_3] nnE3,slE3⟩)
  (gD:PySem.W.nsIn K mainGlobals "DEED_PARTS" = some (some (.ref aD))) (lD:K.lookup aD=some ⟨.type "dict",none,.dict #[⟨hsD0,.str "put" tkD0,.ref d0⟩,⟨hsD1,.str "copy" tkD1,.ref d1⟩,⟨hsD2,.str "add" tkD2,.ref d2⟩,⟨hsD3,.str "read" tkD3,.ref d3⟩,⟨hsD4,.str "tell" tkD4,.ref d4⟩] epD,#[]⟩) (qD0:K.lookup d0=some ⟨.type "tuple",dcD0,.seq #[.str "name" ttD0_0,.str "number" ttD0_1] nnD0,slD0⟩) (qD1:K.lookup d1=some ⟨.type "tuple",dcD1,.seq #[.str "name" ttD1_0,.str "name" ttD1_1] nnD1,slD1⟩) (qD2:K.lookup d2=some ⟨.type "tuple",dcD2,.seq #[.str "name" ttD2_0,.str "number" ttD2_1] nnD2,slD2⟩) (qD3:K.lookup d3=some ⟨.type "tuple",dcD3,.seq #[.str "name" ttD3_0] nnD3,slD3⟩) (qD4:K.lookup d4=some ⟨.type "tuple",dcD4,.seq #[.str "name" ttD4_0] nnD4,slD4⟩)
  (D0:br K "parts_of_kind" gn f0 g0)
  (D1:br K "ways_on" lI f1 g1)
  (D2:br K "names_of" ka f2 g2)
  (D3:br K "lies_in" lJ f3 g3)
  (D4:br K "part_below" i2 f4 g4)
  (D5:br K "part_from" jr f5 g5)
  (D6:br K "part_at" lK f6 g6)
  (D7:br K "part_beside" iq f7 g7)
  (D8:br K "part_of" lL f8 g8)
  (D9:br K "is_within" jt f9 g9)
  (D10:br K "facts_of" kc f10 g10)
  (D11:br K "known" o7 f11 g11)
  (D12:br K "with_known" i3 f12 g12)
  (D13:br K "holds" o8 f13 g13)
  (D14:br K "covers" nr f14 g14)
  (D15:br K "moved" o9 f15 g15)
  (D16:br K "stretch_behind" fP f16 g16)
  (D17:br K "behind" nv f17 g17)
  (D18:br K "known_beyond" gO f18 g18)
  (D19:br K "leads" ph f19 g19)
  (D20:br K "start" pA f20 g20)
  (D21:br K "is_met" ny f21 g21)
  (D22:br K "leads_from" i4 f22 g22)
  (D23:br K "entry_stands" gP f23 g23)
  (D24:br K "stands" nz f24 g24)
  (D25:br K "opened" nB f25 g25)
  (D26:br K "widened" lO f26 g26)
  (D27:br K "table_of" kd f27 g27)
  (D28:br K "_law_bag" lQ f28 g28)
  (D29:br K "_law_take" kf f29 g29)
  (D30:br K "_law_names" ju f30 g30)
  (D31:br K "_law_number" i5 f31 g31)
  (D32:br K "_law_deed" kh f32 g32)
  (D33:br K "_law_end" lR f33 g33)
  (D34:br K "_law_plan" ki f34 g34)
  (D35:br K "_law_count" jw f35 g35)
  (D36:br K "_law_ways" kj f36 g36)
  (D37:br K "_law_reached" iu f37 g37)
  (D38:br K "_law_part" km f38 g38)
  (D39:br K "_law_with" ko f39 g39)
  (D40:br K "_law_told" kq f40 g40)
  (D41:br K "_law_behind" i6 f41 g41)
  (D42:br K "_law_leads" jy f42 g42)
  (D43:br K "_law_covers" i7 f43 g43)
  (D44:br K "_law_table_of" gQ f44 g44)
  (D45:br K "_law_stands" i8 f45 g45)
  (D46:br K "_law_facts_spoilt" fw f46 g46)
  (D47:br K "_law_table_spoilt" fz f47 g47)
  (D48:br K "_law_wide_plan" gx f48 g48)
  (D49:br K "_law_right" jA f49 g49)
  (D50:br K "law" mE f50 g50) :
  ∃ fd:FuncData,(∀ (s:Shared) (v:Value),BindsTo s fd ⟨[v],[]⟩ [("script",v)])/\∀ base:Heap,K.In base->base.Ns mainGlobals mg->bw l.prog w K mg base bX 12 fa fd ["script"] (qM K):=by
 have e:=hfa.symm.trans (PySem.W.mg_of X G D50.a)
 cases e
 have Z:Bl mg:=⟨PySem.W.mg_none_of X G z_len,PySem.W.mg_none_of X G z_zip,PySem.W.mg_none_of X G z_tuple,PySem.W.mg_none_of X G z_sorted,PySem.W.mg_none_of X G z_set,PySem.W.mg_none_of X G z_dict,PySem.W.mg_none_of X G z_min,PySem.W.mg_none_of X G z_max,PySem.W.mg_none_of X G z_range,PySem.W.mg_none_of X G z_list,PySem.W.mg_none_of X G z_int,PySem.W.mg_none_of X G z_all,PySem.W.mg_none_of X G z_isinstance,PySem.W.mg_none_of X G z_bool⟩
 have GA:gc K mg aA:=⟨PySem.W.mg_of X G gA,_,_,_,lA⟩
 have GE:rW K mg aE s0 s1 s2 s3:=⟨⟨PySem.W.mg_of X G gE,_,_,lE,(.cons rfl rfl (.cons rfl rfl (.cons rfl rfl (.cons rfl rfl .nil))))⟩,⟨_,_,_,qE0,rfl,rfl,(by show 0<=sizeLine;decide),.nil⟩,⟨_,_,_,qE1,rfl,rfl,(by show 1<=sizeLine;decide),(.cons ⟨_,rfl⟩ .nil)⟩,⟨_,_,_,qE2,rfl,rfl,(by show 4<=sizeLine;decide),(.cons ⟨_,rfl⟩ (.cons ⟨_,rfl⟩ (.cons ⟨_,rfl⟩ (.cons ⟨_,rfl⟩ .nil))))⟩,⟨_,_,_,qE3,rfl,rfl,(by show 4<=sizeLine;decide),(.cons ⟨_,rfl⟩ (.cons ⟨_,rfl⟩ (.cons ⟨_,rfl⟩ (.cons ⟨_,rfl⟩ .nil))))⟩⟩
 have GD:qP K mg aD d0 d1 d2 d3 d4:=⟨⟨PySem.W.mg_of X G gD,_,_,lD,(.cons rfl rfl (.cons rfl rfl (.cons rfl rfl (.cons rfl rfl (.cons rfl rfl .nil)))))⟩,⟨_,_,_,qD0,rfl,rfl,(by show 2<=sizeLine;decide),(.cons ⟨_,rfl⟩ (.cons ⟨_,rfl⟩ .nil))⟩,⟨_,_,_,qD1,rfl,rfl,(by show 2<=sizeLine;decide),(.cons ⟨_,rfl⟩ (.cons ⟨_,rfl⟩ .nil))⟩,⟨_,_,_,qD2,rfl,rfl,(by show 2<=sizeLine;decide),(.cons ⟨_,rfl⟩ (.cons ⟨_,rfl⟩ .nil))⟩,⟨_,_,_,qD3,rfl,rfl,(by show 1<=sizeLine;decide),(.cons ⟨_,rfl⟩ .nil)⟩,⟨_,_,_,qD4,rfl,rfl,(by show 1<=sizeLine;decide),(.cons ⟨_,rfl⟩ .nil)⟩⟩
 obtain⟨oc,od,kV,dc,pm,an,cd,ct,sl,rfl,lk,hcd⟩:=D50.F.ex
 refine⟨PySem.W.fnOf "law" "law" (dW mE) (dJ mE) (ay mE) .none kV dc pm an cd ct,fun s v=>.of_eq rfl,fun base _ _=>?_⟩
 have O_parts_of_kind:=aW l.prog w base X G D0 (nE D0.F Z) (uZ fun _ _ _ _ _ _ _ _ _=>rfl)
 have O_ways_on:=aW l.prog w base X G D1 (vV D1.F Z GE O_parts_of_kind) (lH fun _ _ _ _ _ _ _=>rfl)
 have O_names_of:=aW l.prog w base X G D2 (tW D2.F Z GD GE O_parts_of_kind) (lH fun _ _ _ _ _ _ _=>rfl)
 have O_lies_in:=aW l.prog w base X G D3 (vW D3.F Z) (dN fun _ _ _ _ _ _ _ _=>rfl)
 have O_part_below:=aW l.prog w base X G D4 (qC D4.F Z) (dN fun _ _ _ _ _ _ _ _=>rfl)
 have O_part_from:=aW l.prog w base X G D5 (tq D5.F Z) (dN fun _ _ _ _ _ _ _ _=>rfl)
 have O_part_at:=aW l.prog w base X G D6 (vX D6.F Z O_lies_in) (dN fun _ _ _ _ _ _ _ _=>rfl)
 have O_part_beside:=aW l.prog w base X G D7 (pB D7.F Z) (dN fun _ _ _ _ _ _ _ _=>rfl)
 have O_part_of:=aW l.prog w base X G D8 (vY D8.F Z O_part_below O_part_from O_part_at O_part_beside) (CB fun _ _ _ _ _ _ _ _ _ _=>rfl)
 have O_is_within:=aW l.prog w base X G D9 (tD D9.F Z) (dN fun _ _ _ _ _ _ _ _=>rfl)
 have O_facts_of:=aW l.prog w base X G D10 (tX D10.F Z GA) (lH fun _ _ _ _ _ _ _=>rfl)
 have O_known:=aW l.prog w base X G D11 (zp D11.F Z GA) (dN fun _ _ _ _ _ _ _ _=>rfl)
 have O_with_known:=aW l.prog w base X G D12 (qD D12.F Z GA O_facts_of) (uZ fun _ _ _ _ _ _ _ _ _=>rfl)
 have O_holds:=aW l.prog w base X G D13 (zq D13.F Z O_lies_in) (dN fun _ _ _ _ _ _ _ _=>rfl)
 have O_covers:=aW l.prog w base X G D14 (xG D14.F Z GA O_is_within) (dN fun _ _ _ _ _ _ _ _=>rfl)
 have O_moved:=aW l.prog w base X G D15 (zr D15.F Z) (dN fun _ _ _ _ _ _ _ _=>rfl)
 have O_stretch_behind:=aW l.prog w base X G D16 (mH D16.F Z GA O_moved) (dN fun _ _ _ _ _ _ _ _=>rfl)
 have O_behind:=aW l.prog w base X G D17 (xH D17.F Z GA O_stretch_behind O_facts_of) (dN fun _ _ _ _ _ _ _ _=>rfl)
 have O_known_beyond:=aW l.prog w base X G D18 (oB D18.F Z GA O_ways_on O_known O_part_of O_with_known) (dN fun _ _ _ _ _ _ _ _=>rfl)
 have O_leads:=aW l.prog w base X G D19 (zt D19.F Z O_known_beyond O_ways_on) (dN fun _ _ _ _ _ _ _ _=>rfl)
 have O_start:=aW l.prog w base X G D20 (zu D20.F Z O_names_of) (lH fun _ _ _ _ _ _ _=>rfl)
 have O_is_met:=aW l.prog w base X G D21 (xI D21.F Z O_covers) (dN fun _ _ _ _ _ _ _ _=>rfl)
 have O_leads_from:=aW l.prog w base X G D22 (qE D22.F Z O_leads O_behind) (dN fun _ _ _ _ _ _ _ _=>rfl)
 have O_entry_stands:=aW l.prog w base X G D23 (oC D23.F Z O_is_met O_leads_from) (uZ fun _ _ _ _ _ _ _ _ _=>rfl)
 have O_stands:=aW l.prog w base X G D24 (xJ D24.F Z O_holds O_entry_stands) (dN fun _ _ _ _ _ _ _ _=>rfl)
 have O_opened:=aW l.prog w base X G D25 (xK D25.F Z O_is_within) (dN fun _ _ _ _ _ _ _ _=>rfl)
 have O_widened:=aW l.prog w base X G D26 (vZ D26.F Z GA O_facts_of O_opened) (dN fun _ _ _ _ _ _ _ _=>rfl)
 have O_table_of:=aW l.prog w base X G D27 (tY D27.F Z O_start O_leads_from O_is_met O_widened) (lH fun _ _ _ _ _ _ _=>rfl)
 have O_law_bag:=aW l.prog w base X G D28 (v9 D28.F Z) (dN fun _ _ _ _ _ _ _ _=>rfl)
 have O_law_take:=aW l.prog w base X G D29 (tZ D29.F Z) (dN fun _ _ _ _ _ _ _ _=>rfl)
 have O_law_names:=aW l.prog w base X G D30 (tE D30.F Z O_law_take) (lH fun _ _ _ _ _ _ _=>rfl)
 have O_law_number:=aW l.prog w base X G D31 (qF D31.F Z O_law_take) (lH fun _ _ _ _ _ _ _=>rfl)
 have O_law_deed:=aW l.prog w base X G D32 (t6 D32.F Z O_law_take O_law_number) (dN fun _ _ _ _ _ _ _ _=>rfl)
 have O_law_end:=aW l.prog w base X G D33 (wa D33.F Z O_law_take O_law_number) (uZ fun _ _ _ _ _ _ _ _ _=>rfl)
 have O_law_plan:=aW l.prog w base X G D34 (t9 D34.F Z O_law_take O_law_names O_law_deed O_law_end) (uZ fun _ _ _ _ _ _ _ _ _=>rfl)
 have O_law_count:=aW l.prog w base X G D35 (tF D35.F Z O_law_take) (dN fun _ _ _ _ _ _ _ _=>rfl)
 have O_law_ways:=aW l.prog w base X G D36 (ua D36.F Z) (lH fun _ _ _ _ _ _ _=>rfl)
 have O_law_reached:=aW l.prog w base X G D37 (pC D37.F Z O_law_ways) (lH fun _ _ _ _ _ _ _=>rfl)
 have O_law_part:=aW l.prog w base X G D38 (ub D38.F Z) (CB fun _ _ _ _ _ _ _ _ _ _=>rfl)
 have O_law_with:=aW l.prog w base X G D39 (uc D39.F Z) (uZ fun _ _ _ _ _ _ _ _ _=>rfl)
 have O_law_told:=aW l.prog w base X G D40 (ud D40.F Z) (lH fun _ _ _ _ _ _ _=>rfl)
 have O_law_behind:=aW l.prog w base X G D41 (qG D41.F Z O_law_with) (dN fun _ _ _ _ _ _ _ _=>rfl)
 have O_law_leads:=aW l.prog w base X G D42 (tG D42.F Z O_law_part O_law_with) (dN fun _ _ _ _ _ _ _ _=>rfl)
 have O_law_covers:=aW l.prog w base X G D43 (qH D43.F Z) (dN fun _ _ _ _ _ _ _ _=>rfl)
 have O_law_table_of:=aW l.prog w base X G D44 (oD D44.F Z) (lH fun _ _ _ _ _ _ _=>rfl)
 have O_law_stands:=aW l.prog w base X G D45 (qI D45.F Z O_law_leads O_law_behind O_law_table_of O_law_covers) (dN fun _ _ _ _ _ _ _ _=>rfl)
 have O_law_facts_spoilt:=aW l.prog w base X G D46 (kL D46.F Z O_law_table_of O_law_take O_law_told O_law_with) (dN fun _ _ _ _ _ _ _ _=>rfl)
 have O_law_table_spoilt:=aW l.prog w base X G D47 (kM D47.F Z O_law_take O_law_facts_spoilt) (dN fun _ _ _ _ _ _ _ _=>rfl)
 have O_law_wide_plan:=aW l.prog w base X G D48 (nF D48.F Z O_law_take O_law_deed O_law_end) (dN fun _ _ _ _ _ _ _ _=>rfl)
 have O_law_right:=aW l.prog w base X G D49 (tH D49.F Z O_stands O_law_stands) (dN fun _ _ _ _ _ _ _ _=>rfl)
 exact BG D50.F Z O_law_bag O_law_take O_law_plan O_law_count O_law_wide_plan O_law_reached O_table_of O_stands O_law_table_spoilt O_law_right
theorem walk {l:PySem.W.OpenLaw} {q:Program} {loose:List Str} {XP:(Str->Option Value)->Heap->Prop} {YP:World->Heap->Prop} {d:DefRec} {K:Params->PySem.W.Frag} (hn:l.most=some 63) (hdf:d.params.defaults = [])
  (hY:∀ (w:World) (h:Heap),YP w h->(K w.params).In h)
  (F:∀ (w:World) (mg:Str->Option Value) (fa:Addr) (h:Heap),(K w.params).In h->h.Ns mainGlobals mg->mg d.name=some (.ref fa) ->
   ∃ fd:FuncData,(∀ (s:Shared) (u:Value),BindsTo s fd ⟨[u],[]⟩ [("script",u)])/\∀ base:Heap,(K w.params).In base->base.Ns mainGlobals mg->bw l.prog w (K w.params) mg base bX 12 fa fd ["script"] (qM (K w.params))) :
  PySem.W.WalkO q loose XP YP l.row.toRowW d [] (fun f vs=>PySem.call f vs) :=
 L2.zY (n:=63) (k:=12) (x := "script") (CX:=fun _=>bX) (sp:=fun w=>qM (K w.params)) hn (by decide) hdf ⟨rfl,by decide,by decide⟩ hY F (fun _ _ a ns hl _ hS=>⟨a,ns,rfl,hS,hl,fun _=>rfl⟩) fun _ _ _ _ _ z=>z
end My
theorem PySem.W.Fast.tw1824764550734246333:True:=trivial
theorem PySem.W.Fast.tw17814240013183780555:True:=trivial
theorem PySem.W.Fast.tw1248576967032597894:True:=trivial
theorem PySem.W.Fast.tw6938132660994106263:True:=trivial
theorem PySem.W.Fast.tw9994309244100506919:True:=trivial
theorem PySem.W.Fast.tw18173209386792286177:True:=trivial
theorem PySem.W.Fast.tw7320718838499275521:True:=trivial
theorem PySem.W.Fast.tw11000102001257806718:True:=trivial
theorem PySem.W.Fast.tw252844434792101158:True:=trivial
theorem PySem.W.Fast.tw15131217184640995657:True:=trivial
theorem PySem.W.Fast.tw13522831319424804764:True:=trivial
theorem PySem.W.Fast.tw6632115586229790207:True:=trivial
theorem PySem.W.Fast.tw12835582440464225767:True:=trivial
theorem PySem.W.Fast.tw12236022979842645986:True:=trivial
theorem PySem.W.Fast.tw7407356901423404817:True:=trivial
theorem PySem.W.Fast.tw16832864587616438279:True:=trivial
theorem PySem.W.Fast.tw11675996222456107880:True:=trivial
theorem PySem.W.Fast.tw5610076302528318239:True:=trivial
theorem PySem.W.Fast.tw1381714857103498833:True:=trivial
theorem PySem.W.Fast.tw517349533249282903:True:=trivial
theorem PySem.W.Fast.tw1864342468996630254:True:=trivial
theorem PySem.W.Fast.tw12093360009613827162:True:=trivial
theorem PySem.W.Fast.tw14714539142795239693:True:=trivial
theorem PySem.W.Fast.tw16484165939363284096:True:=trivial
theorem PySem.W.Fast.tw710412596823611585:True:=trivial
theorem PySem.W.Fast.tw16232878903351341016:True:=trivial
theorem PySem.W.Fast.tw17701499345584641865:True:=trivial
theorem PySem.W.Fast.tw10753752030759349549:True:=trivial
theorem PySem.W.Fast.tw1289401442859302186:True:=trivial
theorem PySem.W.Fast.tw4248653577290894858:True:=trivial
theorem PySem.W.Fast.tw12683419579330549910:True:=trivial
theorem PySem.W.Fast.tw16177311700437011798:True:=trivial
theorem PySem.W.Fast.tw14175848991112564139:True:=trivial
theorem PySem.W.Fast.tw8407901060329144248:True:=trivial
theorem PySem.W.Fast.tw1104964575930257559:True:=trivial
theorem PySem.W.Fast.tw626439525710166615:True:=trivial
theorem PySem.W.Fast.tw11761863905526221542:True:=trivial
theorem PySem.W.Fast.tw10714104943602798676:True:=trivial
theorem PySem.W.Fast.tw4309634917755782687:True:=trivial
theorem PySem.W.Fast.tw14964573579295503972:True:=trivial
theorem PySem.W.Fast.tw8538626853796436130:True:=trivial
theorem PySem.W.Fast.tw14527114670932367048:True:=trivial
theorem PySem.W.Fast.tw3815502376035415179:True:=trivial
theorem PySem.W.Fast.tw14117635808114890507:True:=trivial
theorem PySem.W.Fast.tw10782641690994096871:True:=trivial
theorem PySem.W.Fast.tw13771426550493978297:True:=trivial
theorem PySem.W.Fast.tw13371777304014316246:True:=trivial
theorem PySem.W.Fast.tw11088109361719432091:True:=trivial
theorem PySem.W.Fast.tw8781798374553001526:True:=trivial
theorem PySem.W.Fast.tw1239778897877495745:True:=trivial
theorem PySem.W.Fast.tw643679558508413000:True:=trivial
theorem PySem.W.Fast.tw8491515614152535954:True:=trivial
theorem PySem.W.Fast.tw15880605352239377489:True:=trivial
theorem PySem.W.Fast.tw11360841365258491709:True:=trivial
theorem PySem.W.Fast.tw4060854200179752604:True:=trivial
theorem PySem.W.Fast.tw5644429744585347160:True:=trivial
theorem PySem.W.Fast.tw15893144443470523815:True:=trivial
theorem PySem.W.Fast.tw11882254766854581519:True:=trivial
theorem PySem.W.Fast.tw9359381250201306724:True:=trivial
theorem PySem.W.Fast.tw17512596340595772523:True:=trivial
theorem PySem.W.Fast.tw13285690498270420608:True:=trivial
theorem PySem.W.Fast.tw17206831006690766757:True:=trivial
theorem PySem.W.Fast.tw765040703452626900:True:=trivial
theorem PySem.W.Fast.tw3601375601016690885:True:=trivial
theorem PySem.W.Fast.tw16851234994023879805:True:=trivial
theorem PySem.W.Fast.tw1509458819253616582:True:=trivial
theorem PySem.W.Fast.tw1311322439025929668:True:=trivial
theorem PySem.W.Fast.tw1351301372705072950:True:=trivial
theorem PySem.W.Fast.tw18289788030257476582:True:=trivial
theorem PySem.W.Fast.tw11735548111144906510:True:=trivial
theorem PySem.W.Fast.tw9781885535430832606:True:=trivial
theorem PySem.W.Fast.tw16780352461954124749:True:=trivial
theorem PySem.W.Fast.tw9709766513954514591:True:=trivial
theorem PySem.W.Fast.tw4635061400069480805:True:=trivial
theorem PySem.W.Fast.tw10208121728947045255:True:=trivial
theorem PySem.W.Fast.tw14097557313166575528:True:=trivial
theorem PySem.W.Fast.tw680538609143241296:True:=trivial
theorem PySem.W.Fast.tw14551009078641964121:True:=trivial
theorem PySem.W.Fast.tw12682647941420575016:True:=trivial
theorem PySem.W.Fast.tw10660665494969752162:True:=trivial
theorem PySem.W.Fast.tw10314147097327098669:True:=trivial
theorem PySem.W.Fast.tw3062213729457909671:True:=trivial
theorem PySem.W.Fast.tw18207436888190520333:True:=trivial
theorem PySem.W.Fast.tw17778307659690465243:True:=trivial
theorem PySem.W.Fast.tw12174892771346713905:True:=trivial
theorem PySem.W.Fast.tw12086395022679235382:True:=trivial
theorem PySem.W.Fast.tw2859471113716686543:True:=trivial
theorem PySem.W.Fast.tw495905140487178:True:=trivial
theorem PySem.W.Fast.tw5797386547054820415:True:=trivial
theorem PySem.W.Fast.tw12382456313011631592:True:=trivial
theorem PySem.W.Fast.tw4931565977505630305:True:=trivial
theorem PySem.W.Fast.tw6814853943506184809:True:=trivial
theorem PySem.W.Fast.tw2013625782776583721:True:=trivial
theorem PySem.W.Fast.tw5525352028430225358:True:=trivial
theorem PySem.W.Fast.tw5961193479669562174:True:=trivial
theorem PySem.W.Fast.tw862820017260734014:True:=trivial
theorem PySem.W.Fast.tw1002706951643663771:True:=trivial
theorem PySem.W.Fast.tw1500528466260726366:True:=trivial
theorem PySem.W.Fast.tw12826794978809629257:True:=trivial
theorem PySem.W.Fast.tw11024288349408975713:True:=trivial
theorem PySem.W.Fast.tw2695708889460482493:True:=trivial
theorem PySem.W.Fast.tw7488501018877169423:True:=trivial
theorem PySem.W.Fast.tw14506841273865713480:True:=trivial
theorem PySem.W.Fast.tw7436762321713562864:True:=trivial
theorem PySem.W.Fast.tw17109379704002356867:True:=trivial
theorem PySem.W.Fast.tw2598428310861738374:True:=trivial
theorem PySem.W.Fast.tw17251532932189331204:True:=trivial
theorem PySem.W.Fast.tw1176291551348251360:True:=trivial
theorem PySem.W.Fast.tw5144806588462397202:True:=trivial
theorem PySem.W.Fast.tw1353050532808581315:True:=trivial
theorem PySem.W.Fast.tw13077750890100474173:True:=trivial
theorem PySem.W.Fast.tw16163316906278601291:True:=trivial
theorem PySem.W.Fast.tw494521766945551594:True:=trivial
theorem PySem.W.Fast.tw6627646093060507538:True:=trivial
theorem PySem.W.Fast.tw1818230348628510693:True:=trivial
theorem PySem.W.Fast.tw15019041262839663662:True:=trivial
theorem PySem.W.Fast.tw18089205684221732503:True:=trivial
theorem PySem.W.Fast.tw3467189566953938804:True:=trivial
theorem PySem.W.Fast.tw15793821565040270613:True:=trivial
theorem PySem.W.Fast.tw4692155770387378594:True:=trivial
open PySem PySem.W PyProof.Rows
set_option maxRecDepth 100000 in
set_option maxHeartbeats 0 in
theorem PySem.Challenge.cw_ledpast_k32_tables_looked_at_holds : PySem.Challenge.rw_ledpast_k32_tables_looked_at.Holds := by
 w_on; o_law; k_head; (case hw => w_witness2)
 k_fill
 refine My.walk (l := PySem.Challenge.rw_ledpast_k32_tables_looked_at) rfl rfl (fun w h Y => PySem.W.kIn_of Y) ?F
 case F =>
  intro w mg fa h KX G hmg
  refine' My.all_mk KX G hmg ?z_len ?z_zip ?z_tuple ?z_sorted ?z_set ?z_dict ?z_min ?z_max ?z_range ?z_list ?z_int ?z_all ?z_isinstance ?z_bool ?gA ?lA ?gE ?lE ?qE0 ?qE1 ?qE2 ?qE3 ?gD ?lD ?qD0 ?qD1 ?qD2 ?qD3 ?qD4 (L2.def_mk ?a0 ?l0 ?c0 ?k0) (L2.def_mk ?a1 ?l1 ?c1 ?k1) (L2.def_mk ?a2 ?l2 ?c2 ?k2) (L2.def_mk ?a3 ?l3 ?c3 ?k3) (L2.def_mk ?a4 ?l4 ?c4 ?k4) (L2.def_mk ?a5 ?l5 ?c5 ?k5) (L2.def_mk ?a6 ?l6 ?c6 ?k6) (L2.def_mk ?a7 ?l7 ?c7 ?k7) (L2.def_mk ?a8 ?l8 ?c8 ?k8) (L2.def_mk ?a9 ?l9 ?c9 ?k9) (L2.def_mk ?a10 ?l10 ?c10 ?k10) (L2.def_mk ?a11 ?l11 ?c11 ?k11) (L2.def_mk ?a12 ?l12 ?c12 ?k12) (L2.def_mk ?a13 ?l13 ?c13 ?k13) (L2.def_mk ?a14 ?l14 ?c14 ?k14) (L2.def_mk ?a15 ?l15 ?c15 ?k15) (L2.def_mk ?a16 ?l16 ?c16 ?k16) (L2.def_mk ?a17 ?l17 ?c17 ?k17) (L2.def_mk ?a18 ?l18 ?c18 ?k18) (L2.def_mk ?a19 ?l19 ?c19 ?k19) (L2.def_mk ?a20 ?l20 ?c20 ?k20) (L2.def_mk ?a21 ?l21 ?c21 ?k21) (L2.def_mk ?a22 ?l22 ?c22 ?k22) (L2.def_mk ?a23 ?l23 ?c23 ?k23) (L2.def_mk ?a24 ?l24 ?c24 ?k24) (L2.def_mk ?a25 ?l25 ?c25 ?k25) (L2.def_mk ?a26 ?l26 ?c26 ?k26) (L2.def_mk ?a27 ?l27 ?c27 ?k27) (L2.def_mk ?a28 ?l28 ?c28 ?k28) (L2.def_mk ?a29 ?l29 ?c29 ?k29) (L2.def_mk ?a30 ?l30 ?c30 ?k30) (L2.def_mk ?a31 ?l31 ?c31 ?k31) (L2.def_mk ?a32 ?l32 ?c32 ?k32) (L2.def_mk ?a33 ?l33 ?c33 ?k33) (L2.def_mk ?a34 ?l34 ?c34 ?k34) (L2.def_mk ?a35 ?l35 ?c35 ?k35) (L2.def_mk ?a36 ?l36 ?c36 ?k36) (L2.def_mk ?a37 ?l37 ?c37 ?k37) (L2.def_mk ?a38 ?l38 ?c38 ?k38) (L2.def_mk ?a39 ?l39 ?c39 ?k39) (L2.def_mk ?a40 ?l40 ?c40 ?k40) (L2.def_mk ?a41 ?l41 ?c41 ?k41) (L2.def_mk ?a42 ?l42 ?c42 ?k42) (L2.def_mk ?a43 ?l43 ?c43 ?k43) (L2.def_mk ?a44 ?l44 ?c44 ?k44) (L2.def_mk ?a45 ?l45 ?c45 ?k45) (L2.def_mk ?a46 ?l46 ?c46 ?k46) (L2.def_mk ?a47 ?l47 ?c47 ?k47) (L2.def_mk ?a48 ?l48 ?c48 ?k48) (L2.def_mk ?a49 ?l49 ?c49 ?k49) (L2.def_mk ?a50 ?l50 ?c50 ?k50)
  case gA | lA | gE | lE | qE0 | qE1 | qE2 | qE3 | gD | lD | qD0 | qD1 | qD2 | qD3 | qD4 | a0 | l0 | c0 | k0 | a1 | l1 | c1 | k1 | a2 | l2 | c2 | k2 | a3 | l3 | c3 | k3 | a4 | l4 | c4 | k4 | a5 | l5 | c5 | k5 | a6 | l6 | c6 | k6 | a7 | l7 | c7 | k7 | a8 | l8 | c8 | k8 | a9 | l9 | c9 | k9 | a10 | l10 | c10 | k10 | a11 | l11 | c11 | k11 | a12 | l12 | c12 | k12 | a13 | l13 | c13 | k13 | a14 | l14 | c14 | k14 | a15 | l15 | c15 | k15 | a16 | l16 | c16 | k16 | a17 | l17 | c17 | k17 | a18 | l18 | c18 | k18 | a19 | l19 | c19 | k19 | a20 | l20 | c20 | k20 | a21 | l21 | c21 | k21 | a22 | l22 | c22 | k22 | a23 | l23 | c23 | k23 | a24 | l24 | c24 | k24 | a25 | l25 | c25 | k25 | a26 | l26 | c26 | k26 | a27 | l27 | c27 | k27 | a28 | l28 | c28 | k28 | a29 | l29 | c29 | k29 | a30 | l30 | c30 | k30 | a31 | l31 | c31 | k31 | a32 | l32 | c32 | k32 | a33 | l33 | c33 | k33 | a34 | l34 | c34 | k34 | a35 | l35 | c35 | k35 | a36 | l36 | c36 | k36 | a37 | l37 | c37 | k37 | a38 | l38 | c38 | k38 | a39 | l39 | c39 | k39 | a40 | l40 | c40 | k40 | a41 | l41 | c41 | k41 | a42 | l42 | c42 | k42 | a43 | l43 | c43 | k43 | a44 | l44 | c44 | k44 | a45 | l45 | c45 | k45 | a46 | l46 | c46 | k46 | a47 | l47 | c47 | k47 | a48 | l48 | c48 | k48 | a49 | l49 | c49 | k49 | a50 | l50 | c50 | k50 | z_len | z_zip | z_tuple | z_sorted | z_set | z_dict | z_min | z_max | z_range | z_list | z_int | z_all | z_isinstance | z_bool => k_is
