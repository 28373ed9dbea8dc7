import PyProof.Rows.All
import Wide.All
import OpenK.AllK
import Wide.FinOn
import Lean
import PyProof.EqAt
import PyProof.EqKinds
import PyProof.TupleCall
import PyProof.NeData
import Wide.Seal
import Wide.OfPy
import KE.KSetDisp
import PySem.Challenge.RW_ledpast_k10_copies_by_hand
set_option maxHeartbeats 8000000
set_option Elab.async false
set_option linter.all false
set_option maxRecDepth 100000
namespace L2
open PySem PySem.Spec PyProof.Rows
abbrev Key:=Sum Int Str
def iq:Key->Value->Bool
 | .inl k,v=>Value.isInt k v
 | .inr x,v=>Value.isStrOf x v
def BW (w:World):Key->Int
 | .inl k=>hashInt k
 | .inr x=>hashStr w x
theorem cI:∀ {k:Key} {v:Value},iq k v=true->(∃ i t,k=Sum.inl i/\v=Value.int i t)\/(∃ x t,k=Sum.inr x/\v=Value.str x t)
 | .inl i,v,h=>by
  obtain⟨t,e⟩:=Value.isInt_shape (k:=i) (v:=v) h
  exact .inl ⟨i,t,rfl,e⟩
 | .inr x,v,h=>by
  obtain⟨t,e⟩:=Value.isStrOf_shape (x:=x) (v:=v) h
  exact .inr ⟨x,t,rfl,e⟩
theorem vA (i:Int) (t:Tok):iq (.inl i) (.int i t)=true:=by simp [iq,Value.isInt]
theorem vB (x:Str) (t:Tok):iq (.inr x) (.str x t)=true:=by simp [iq,Value.isStrOf]
theorem Aa (a b:Int):decide ((Sum.inl a:Key)=Sum.inl b)=(a == b):=by
 by_cases e:a=b
 ·subst e;simp
 ·have h:¬ (Sum.inl a:Key)=Sum.inl b:=fun q=>e (Sum.inl.inj q)
  rw [decide_eq_false h]
  exact (beq_eq_false_iff_ne.mpr e).symm
theorem Ab (a b:Str):decide ((Sum.inr a:Key)=Sum.inr b)=decide (a=b):=by
 by_cases e:a=b
 ·subst e;simp
 ·have h:¬ (Sum.inr a:Key)=Sum.inr b:=fun q=>e (Sum.inr.inj q)
  rw [decide_eq_false h,decide_eq_false e]
theorem Ac (a:Int) (b:Str):decide ((Sum.inl a:Key)=Sum.inr b)=false:=decide_eq_false (fun q=>nomatch q)
theorem Ad (a:Str) (b:Int):decide ((Sum.inr a:Key)=Sum.inl b)=false:=decide_eq_false (fun q=>nomatch q)
def aL (prog:Program) (w:World):PySem.KeyKind prog w Key where
 is:=iq
 hash:=BW w
 inj:=fun v a b ha hb=>by
  rcases cI ha with ⟨i,t,rfl,rfl⟩ | ⟨x,t,rfl,rfl⟩
  ·rcases cI hb with ⟨j,u,rfl,e⟩ | ⟨y,u,rfl,e⟩
   ·injection e with e1 _;rw [e1]
   ·exact nomatch e
  ·rcases cI hb with ⟨j,u,rfl,e⟩ | ⟨y,u,rfl,e⟩
   ·exact nomatch e
   ·injection e with e1 _;rw [e1]
 byValue:=fun k v h=>by
  rcases cI h with ⟨i,t,rfl,rfl⟩ | ⟨x,t,rfl,rfl⟩ <;> rfl
 pyHash:=fun hv h=>by
  rcases cI hv with ⟨i,t,rfl,rfl⟩ | ⟨x,t,rfl,rfl⟩
  ·exact wpAny_pyHash_int h
  ·exact wpAny_pyHash_str h
 eqBool:=fun hu hv h=>by
  rcases cI hu with ⟨i,t,rfl,rfl⟩ | ⟨x,t,rfl,rfl⟩
  ·rcases cI hv with ⟨j,u,rfl,rfl⟩ | ⟨y,u,rfl,rfl⟩
   ·rw [Aa] at h;exact wpAny_eqBool_int h
   ·rw [Ac] at h;exact SeqAt.EqAt.int_str i t y u _ _ _ _ h
  ·rcases cI hv with ⟨j,u,rfl,rfl⟩ | ⟨y,u,rfl,rfl⟩
   ·rw [Ad] at h;exact SeqAt.EqAt.str_int x t j u _ _ _ _ h
   ·rw [Ab] at h;exact wpAny_eqBool_str h
 «strs»:=fun k x t v h=>by
  rcases cI h with ⟨i,u,rfl,e⟩ | ⟨y,u,rfl,e⟩
  ·exact nomatch e
  ·injection e with e1 _
   subst e1
   cases v <;> rfl
theorem mI (prog:Program) (w:World) (i:Int) (t:Tok):(aL prog w).is (.inl i) (.int i t)=true:=vA i t
theorem mJ (prog:Program) (w:World) (x:Str) (t:Tok):(aL prog w).is (.inr x) (.str x t)=true:=vB x t
inductive V where
 | bf | bl (b:Bool) | int (i:Int) | str (x:Str) | jI (b:Array UInt8) | vC (b:UInt64) | ref (a:Addr) | ty (n:String)
 deriving DecidableEq
def RelV:V->Value->Prop
 | .bf,u=>u=Value.none
 | .bl b,u=>u=Value.bool b
 | .int i,u=>∃ t,u=Value.int i t
 | .str x,u=>∃ t,u=Value.str x t
 | .jI b,u=>∃ t,u=Value.bytes b t
 | .vC b,u=>∃ t,u=Value.float b t
 | .ref a,u=>u=Value.ref a
 | .ty n,u=>u=Value.type n
abbrev Vals:List V->List Value->Prop:=Paired RelV
theorem Vals.length {xs:List V} {us:List Value} (r:Vals xs us):xs.length=us.length:=Paired.length r
theorem Vals.get:∀ {xs:List V} {us:List Value} {i:Nat} {x:V},Vals xs us->xs[i]? = some x->∃ u,us[i]? = some u/\RelV x u
 | _,_,_,_,.nil,e=>by simp at e
 | _,_,0,_,.cons r _,e=>by simp at e;subst e;exact⟨_,rfl,r⟩
 | _,_,i+1,x,.cons _ t,e=>by
  obtain⟨u,h1,h2⟩:=Vals.get (i:=i) (x:=x) t (by simpa using e)
  exact⟨u,by simpa using h1,h2⟩
theorem Vals.set {x:V} {u:Value} (r:RelV x u):∀ {xs:List V} {us:List Value} (i:Nat),Vals xs us->Vals (xs.set i x) (us.set i u)
 | _,_,_,.nil=>.nil
 | _,_,0,.cons _ t=>.cons r t
 | _,_,i+1,.cons q t=>.cons q (Vals.set r i t)
theorem Vals.append:∀ {xs ys:List V} {us ws:List Value},Vals xs us->Vals ys ws->Vals (xs++ys) (us++ws)
 | _,_,_,_,.nil,s=>s
 | _,_,_,_,.cons r t,s=>.cons r (Vals.append t s)
theorem Vals.take:∀ {xs:List V} {us:List Value} (n:Nat),Vals xs us->Vals (xs.take n) (us.take n)
 | _,_,0,_=>.nil
 | _,_,_+1,.nil=>.nil
 | _,_,n+1,.cons r t=>.cons r (Vals.take n t)
theorem Vals.drop:∀ {xs:List V} {us:List Value} (n:Nat),Vals xs us->Vals (xs.drop n) (us.drop n)
 | _,_,0,r=>r
 | _,_,_+1,.nil=>.nil
 | _,_,n+1,.cons _ t=>Vals.drop n t
def eQ:Option V->Option Value->Prop
 | some v,some u=>RelV v u
 | none,none=>True
 | _,_=>False
def KV {κ : Type}:List (κ × V)->List (κ × Value)->Prop:=Paired fun (p:κ × V) (q:κ × Value)=>p.1=q.1/\RelV p.2 q.2
def kV:Key->V
 | .inl i=>.int i
 | .inr x=>.str x
inductive HO where
 | lst (xs:List V)
 | tup (xs:List V)
 | dK (kvs:List (Key × V)) | dT (kvs:List (List Key × V))
 | set (S:Int->Bool) (n:Nat)
 | ins (C dx:Addr) (fs:List (Str × V))
 | own (x:Addr)
 | xd (fs:List (Str × V))
 | met (f x:Addr)
 | Ae (lo hi:Int)
 | eJ (o:Obj) (u:HO)
 | kK (ps:Array Value)
 | ext (φ : Heap->Prop)
abbrev Hp:=Addr->Option HO
def upd (H:Hp) (a:Addr) (o:HO):Hp:=fun b=>if b=a then some o else H b
theorem ae {H:Hp} {a:Addr} {o:HO}:upd H a o a=some o:=by unfold upd;rw [if_pos rfl]
theorem au {H:Hp} {a b:Addr} {o:HO} (h:b ≠ a):upd H a o b=H b:=by unfold upd;rw [if_neg h]
theorem zb {H:Hp} {a:Addr} {o u:HO}:upd (upd H a o) a u=upd H a u:=by
 funext b;unfold upd;split <;> rfl
theorem bg {H:Hp} {a b:Addr} {o u:HO} (h:H a=some o) (h':H b=some u) (d:o ≠ u):a ≠ b:=by
 intro e;subst e;rw [h] at h';exact d (Option.some.inj h')
theorem aw {H:Hp} {a b:Addr} {o:HO} (h:H a=some o) (h':H b=none):a ≠ b:=by
 intro e;subst e;rw [h] at h';cases h'
section
variable (P:Program) (w:World)
def bM (H:Hp) (h:Heap) (a:Addr):HO->Prop
 | .lst xs=>xs.length<=sizeLine/\∃ (its:List Value) (n:Nat),Vals xs its/\h.get? a=some { cls:=.type "list",data:=.seq its.toArray n }
 | .tup xs=>xs.length<=sizeLine/\∃ its:List Value,Vals xs its/\∃ o,h.get? a=some o/\o.cls=.type "tuple" /\ ∃ n,o.data=.seq its.toArray n/\o.dict=none
 | .dK kvs=>kvs.length<=sizeLine/\(a == sysModules)=false/\∃ vs,KV kvs vs/\h.DictOf (aL P w) a vs
 | .dT kvs=>kvs.length<=sizeLine/\(a == sysModules)=false/\∃ xs:List (List Key × Addr × Value),
   Paired (fun (p:List Key × V) (q:List Key × Addr × Value)=>p.1=q.1/\H q.2.1=some (.tup (p.1.map kV))/\RelV p.2 q.2.2) kvs xs /\
   ∃ o es ep,h.get? a=some o/\o.ExactDict/\o.data=.dict es ep/\es.toList=xs.map (entryOfKey (tupleKind (aL P w)))/\(xs.map (·.1)).Nodup
 | .set S n=>h.SetOf (intKind P w) a S n
 | .ins C dx fs=>H dx=some (.own a)/\fs.length<=1000/\dx ≠ a/\h.get? a=some (PySem.W.instObj C dx) /\
   ∃ mA,h.Ns1 dx mA/\(∀ f,eQ (fs.lookup f) (mA f))/\PySem.Within mA (fs.map (·.1))
 | .own _=>∃ o,h.get? a=some o
 | .xd fs=>∃ mA,h.Ns1 a mA/\∀ f,eQ (fs.lookup f) (mA f)
 | .Ae lo hi=>∃ t u v,h.get? a=some { cls:=.type "range",data:=.fields #[.int lo t,.int hi u,.int 1 v] }
 | .eJ o u=>h.get? a=some o/\bM H h a u
 | .kK ps=>h.get? a=some { cls:=.none,data:=.fields ps }
 | .met f x=>h.get? a=some (PySem.W.methodObj (.ref f) (.ref x))
 | .ext φ=>φ h/\(∃ o,h.get? a=some o)/\∀ h1 h2:Heap,φ h1->(∀ o,h1.get? a=some o->h2.get? a=some o)->φ h2
def dz (H:Hp) (h:Heap):Prop:=∀ a o,H a=some o->bM P w H h a o
end
section
variable {P:Program} {w:World} {H H':Hp} {h h':Heap} {a:Addr} {o:HO}
theorem bM.lt (x:bM P w H h a o):a < h.objs.size:=by
 cases o with
 | lst xs=>obtain⟨_,_,_,_,e⟩:=x;exact Heap.lt_size e
 | tup xs=>obtain⟨_,_,_,p⟩:=x;exact (let ⟨o,e,_⟩:=p;Heap.lt_size e)
 | dK kvs=>obtain⟨_,_,_,_,o,_,_,e,_⟩:=x;exact Heap.lt_size e
 | dT kvs=>obtain⟨_,_,_,_,o,_,_,e,_⟩:=x;exact Heap.lt_size e
 | set S n=>obtain⟨o,_,_,_,e,_⟩:=x;exact Heap.lt_size e
 | ins C dx fs=>obtain⟨_,_,_,e,_⟩:=x;exact Heap.lt_size e
 | own y=>obtain⟨_,e⟩:=x;exact Heap.lt_size e
 | xd fs=>obtain⟨_,⟨_,_,_,e,_⟩,_⟩:=x;exact Heap.lt_size e
 | Ae lo hi=>obtain⟨_,_,_,e⟩:=x;exact Heap.lt_size e
 | eJ ob u=>obtain⟨e,_⟩:=x;exact Heap.lt_size e
 | kK ps=>exact Heap.lt_size (show h.get? a=some _ from x)
 | met f y=>exact Heap.lt_size (show h.get? a=some _ from x)
 | ext φ=>obtain⟨_,⟨_,e⟩,_⟩:=x;exact Heap.lt_size e
theorem Paired.xi {α β : Type} {F G:α->β->Prop}:∀ {l₁ : List α} {l₂ : List β},Paired F l₁ l₂->(∀ a b,F a b->G a b)->Paired G l₁ l₂
 | _,_,.nil,_=>.nil
 | _,_,.cons r t,f=>.cons (f _ _ r) (Paired.xi t f)
theorem bM.m5 (x:bM P w H h a o) (k:∀ b u,(b=a\/H b=some (.own a))->h.get? b=some u->h'.get? b=some u)
  (ho:∀ b,H b=some (.own a)->H' b=some (.own a)) (ht:∀ b xs,H b=some (.tup xs)->H' b=some (.tup xs)):bM P w H' h' a o:=by
 induction o with
 | lst xs=>obtain⟨z,its,n,r,e⟩:=x;exact⟨z,its,n,r,k _ _ (.inl rfl) e⟩
 | tup xs=>obtain⟨z,its,r,ob,e,c⟩:=x;exact⟨z,its,r,ob,k _ _ (.inl rfl) e,c⟩
 | dK kvs=>obtain⟨z,y,vs,r,ob,es,ep,e,c⟩:=x;exact⟨z,y,vs,r,ob,es,ep,k _ _ (.inl rfl) e,c⟩
 | dT kvs =>
  obtain⟨z,y,xs,r,ob,es,ep,e,c⟩:=x
  exact⟨z,y,xs,Paired.xi r fun p q z=>⟨z.1,ht _ _ z.2.1,z.2.2⟩,ob,es,ep,k _ _ (.inl rfl) e,c⟩
 | set S n=>obtain⟨ob,es,ep,t,e,c⟩:=x;exact⟨ob,es,ep,t,k _ _ (.inl rfl) e,c⟩
 | ins C dx fs =>
  obtain⟨d,z,ne,e,mA,⟨od,es,ep,e2,c⟩,r⟩:=x
  exact⟨ho _ d,z,ne,k _ _ (.inl rfl) e,mA,⟨od,es,ep,k _ _ (.inr d) e2,c⟩,r⟩
 | own y=>obtain⟨ob,e⟩:=x;exact⟨ob,k _ _ (.inl rfl) e⟩
 | xd fs=>obtain⟨mA,⟨od,es,ep,e,c⟩,r⟩:=x;exact⟨mA,⟨od,es,ep,k _ _ (.inl rfl) e,c⟩,r⟩
 | Ae lo hi=>obtain⟨t,u,v,e⟩:=x;exact⟨t,u,v,k _ _ (.inl rfl) e⟩
 | eJ ob u ih=>obtain⟨e,q⟩:=x;exact⟨k _ _ (.inl rfl) e,ih q⟩
 | kK ps =>
  have e:h.get? a=some { cls:=.none,data:=.fields ps }:=x
  show h'.get? a=some { cls:=.none,data:=.fields ps }
  exact k a _ (.inl rfl) e
 | met f y =>
  have e:h.get? a=some (PySem.W.methodObj (.ref f) (.ref y)):=x
  show h'.get? a=some (PySem.W.methodObj (.ref f) (.ref y))
  exact k a _ (.inl rfl) e
 | ext φ=>obtain⟨p,⟨o,e⟩,st⟩:=x;exact⟨st _ _ p fun o q=>k _ _ (.inl rfl) q,⟨o,k _ _ (.inl rfl) e⟩,st⟩
theorem dz.lt (x:dz P w H h) (e:H a=some o):a < h.objs.size:=(x a o e).lt
theorem dz.fresh (x:dz P w H h) (e:h.objs.size<=a):H a=none:=by
 cases q:H a with
 | none=>rfl
 | some u=>exact absurd (Nat.lt_of_lt_of_le (x.lt q) e) (Nat.lt_irrefl _)
theorem dz.kept (x:dz P w H h) (k:∀ b u,h.get? b=some u->h'.get? b=some u):dz P w H h':=fun a o e =>
 (x a o e).m5 (fun b u _ q=>k b u q) (fun _ q=>q) fun _ _ q=>q
theorem dz.laid (x:dz P w H h) (k:∀ b u,h.get? b=some u->h'.get? b=some u) (hp:h.objs.size<=a) (new:bM P w (upd H a o) h' a o):dz P w (upd H a o) h':=fun b u e=>by
 have hn:=x.fresh hp
 by_cases hb:b=a
 ·subst hb;rw [ae] at e;cases e;exact new
 ·rw [au hb] at e
  exact (x b u e).m5 (fun c v _ q=>k c v q) (fun c q=>by rw [au (aw q hn)];exact q) fun c xs q=>by rw [au (aw q hn)];exact q
end
def Rd (H:Hp) (a:Addr) (u:HO):Prop:=H a=some u\/∃ o,H a=some (.eJ o u)
theorem Rd.ok {P:Program} {w:World} {H:Hp} {h:Heap} {a:Addr} {u:HO} (r:Rd H a u) (x:dz P w H h):bM P w H h a u:=by
 rcases r with r | ⟨o,r⟩
 ·exact x a u r
 ·obtain⟨_,q⟩:=x a _ r
  exact q
def vD:Option HO->Prop
 | some (.lst _)=>True
 | some (.dK _)=>True
 | some (.dT _)=>True
 | some (.set _ _)=>True
 | some (.ins _ _ _)=>True
 | some (.ext _)=>True
 | _=>False
section
variable {P:Program} {w:World} {H:Hp} {h h':Heap} {x e:Addr} {o':HO}
theorem dz.write (ok:dz P w H h) (mu:vD (H x)) (he:e=x\/H e=some (.own x)) (k:∀ b u,b ≠ e->h.get? b=some u->h'.get? b=some u) (heo:∃ u,h'.get? e=some u)
  (new:bM P w (upd H x o') h' x o'):dz P w (upd H x o') h':=fun b u q=>by
 have nown:∀ c y,H c=some (.own y)->c ≠ x:=fun c y r z=>by subst z;rw [r] at mu;exact mu
 have ntup:∀ c xs,H c=some (.tup xs)->c ≠ x:=fun c xs r z=>by subst z;rw [r] at mu;exact mu
 by_cases hb:b=x
 ·subst hb;rw [ae] at q;cases q;exact new
 ·rw [au hb] at q
  by_cases hbe:b=e
  ·have q':H b=some (.own x):=by
    rcases he with z | z
    ·exact absurd (hbe.trans z) hb
    ·rw [hbe];exact z
   rw [q] at q';cases q'
   obtain⟨v,hv⟩:=heo
   exact⟨v,by rw [hbe];exact hv⟩
  ·refine (ok b u q).m5 (fun c v hc r=>k c v ?_ r) (fun c r=>by rw [au (nown c b r)];exact r) fun c xs r=>by rw [au (ntup c xs r)];exact r
   rcases hc with rfl | hc
   ·exact hbe
   ·rintro rfl
    rcases he with z | z
    ·exact nown c b hc z
    ·rw [hc] at z;cases z;exact hb rfl
end
structure Un (fs ex:List Addr) (H H':Hp) (h h':Heap):Prop where
 keep:∀ b o,h.get? b=some o->H b=none->b ∉ fs->b ∉ ex->h'.get? b=some o
 slot:∀ b o,h.get? b=some o->H b=none->b ∈ fs->b ∉ ex->∃ sl,h'.get? b=some { o with slots:=sl }
 free:∀ b o,h.get? b=some o->H b=none->b ∉ ex->H' b=none
 there:∀ b o,h.get? b=some o->b ∉ ex->∃ o',h'.get? b=some o'
 aJ:∀ b xs,H b=some (.tup xs)->H' b=some (.tup xs)
 iH:∀ b o u,H b=some (.eJ o u)->H' b=some (.eJ o u)
 ja:∀ b ps,H b=some (.kK ps)->∃ more,H' b=some (.kK (ps++more))
section
variable {fs fs' ex ex':List Addr} {H H1 H2:Hp} {h h1 h2 h':Heap} {a x e:Addr} {o:HO}
theorem Un.any (u:Un fs ex H H1 h h1) {b:Addr} {ob:Obj} (q:h.get? b=some ob) (n:H b=none) (hx:b ∉ ex):∃ sl,h1.get? b=some { ob with slots:=sl }:=by
 by_cases hb:b ∈ fs
 ·exact u.slot b ob q n hb hx
 ·exact⟨ob.slots,u.keep b ob q n hb hx⟩
theorem Un.kept (k:∀ b u,h.get? b=some u->h'.get? b=some u):Un fs ex H H h h' :=
 ⟨fun b ob q _ _ _=>k b ob q,fun b ob q _ _ _=>⟨ob.slots,k b ob q⟩,fun _ _ _ n _=>n,fun b ob q _=>⟨ob,k b ob q⟩,fun _ _ q=>q,fun _ _ _ q=>q,fun _ ps q=>⟨#[],by rw [q];simp⟩⟩
theorem Un.refl:Un fs ex H H h h:=Un.kept fun _ _ q=>q
theorem Un.laid (k:∀ b u,h.get? b=some u->h'.get? b=some u) (hp:h.objs.size<=a) (hn:H a=none):Un fs ex H (upd H a o) h h' where
 keep:=fun b u q _ _ _=>k b u q
 slot:=fun b u q _ _ _=>⟨u.slots,k b u q⟩
 free:=fun b u q n _=>by rw [au (Nat.ne_of_lt (Nat.lt_of_lt_of_le (Heap.lt_size q) hp))];exact n
 there:=fun b u q _=>⟨u,k b u q⟩
 aJ:=fun b xs q=>by rw [au (aw q hn)];exact q
 iH:=fun b u xs q=>by rw [au (aw q hn)];exact q
 ja:=fun b ps q=>⟨#[],by rw [au (aw q hn),q];simp⟩
theorem Un.write (mu:vD (H x)) (he:e=x\/H e=some (.own x)) (k:∀ b u,b ≠ e->h.get? b=some u->h'.get? b=some u) (heo:∃ u,h'.get? e=some u):Un fs ex H (upd H x o) h h':=by
  have hx:∀ b,H b=none->b ≠ x:=fun b n z=>by subst z;rw [n] at mu;exact mu
  have hb:∀ b,H b=none->b ≠ e:=fun b n z=>by
    subst z
    rcases he with r | r
    · exact hx b n r
    · rw [n] at r;cases r
  have hm:∀ b u,H b=some u->¬ vD (some u)->b ≠ x:=fun b u q nm z=>by subst z;rw [q] at mu;exact nm mu
  refine⟨fun b u q n _ _=>k b u (hb b n) q,fun b u q n _ _=>⟨u.slots,k b u (hb b n) q⟩,fun b u q n _=>by rw [au (hx b n)];exact n,fun b u q _=>?_,
    fun b xs q=>by rw [au (hm b _ q fun z=>z)];exact q,fun b u xs q=>by rw [au (hm b _ q fun z=>z)];exact q,fun b ps q=>⟨#[],by rw [au (hm b _ q fun z=>z),q];simp⟩⟩
  by_cases hbe:b=e
  · subst hbe;exact heo
  · exact⟨u,k b u hbe q⟩
end
def yL (h:Heap) (H:Hp):List Addr:=(List.range h.objs.size).filter fun a=>(H a).isSome
def jV (h:Heap) (H:Hp):Heap:=PySem.W.hideAll h (yL h H)
theorem vE (h:Heap) (H:Hp):(jV h H).objs.size=h.objs.size:=PySem.W.hideAll_size _ _
theorem xj {h:Heap} {H:Hp} {b:Addr} {o:Obj} (e:h.get? b=some o) (n:H b=none):(jV h H).get? b=some o :=
 PySem.W.hideAll_get _ e fun hm=>by
  have q:(H b).isSome=true:=(List.mem_filter.mp hm).2
  rw [n] at q;simp at q
theorem zc {h:Heap} {H:Hp} {b:Addr} {o:Obj} (e:(jV h H).get? b=some o):h.get? b=some o/\H b=none:=by
 have e':h.get? b=some o:=PySem.W.of_hideAll (yL h H) e
 refine⟨e',?_⟩
 cases q:H b with
 | none=>rfl
 | some x =>
  have hm:b ∈ yL h H:=List.mem_filter.mpr ⟨List.mem_range.mpr (Heap.lt_size e'),by simp [q]⟩
  have z:(jV h H).get? b=none:=PySem.W.hideAll_none (yL h H) hm
  rw [z] at e;cases e
def zd (g h:Heap) (L:Addr):List (Addr × Obj):=(List.range h.objs.size).filterMap fun a=>if a=L\/(g.get? a).isSome=true then none else (h.get? a).map fun o=>(a,o)
def rest (g h:Heap) (L d:Addr):List (Addr × Obj):=(zd g h L).filter fun p=>decide (p.1 ≠ d)
structure Mod (K:PySem.W.Frag) (mg:Str->Option Value) (base:Heap):Prop where
 jJ:K.In base
 glob:base.Ns mainGlobals mg
 blt:∃ mb,base.Ns builtinsNs mb/\∀ x:Str,x ≠ "__name__" -> mb x=bootBuiltins x
 nolimit:base.NoLimit
structure Cx where
 prog:Program
 w:World
 K:PySem.W.Frag
 mg:Str->Option Value
 base:Heap
 A:Around
 N:List Str
 dD:Shared
 jW:Hp
 env:Env
 outer:List Env
 stack:List Env
 ex:List Addr
 fn:Str->Bool
 calm:Bool
 pn:List (Addr × Obj)
 xe:Value->Shared->Prop
def kL (l:List Env):List Addr:=l.filterMap (·.frame)
abbrev Cx.fs (X:Cx):List Addr:=kL X.outer
def Af (sc:Scope) (x:Str):Prop:=sc.names.lookup x=some .local\/sc.names.lookup x=some .cell\/sc.names.lookup x=some .free
def Loc (sc:Scope) (x:Str):Prop:=sc.names.lookup x=some .local\/sc.names.lookup x=some .cell
def Look (env:Env) (h:Heap) (m:Str->Option Value) (x:Str) (u:Value):Prop :=
 (env.kindOf x=some .local/\m x=some u)\/((env.kindOf x=some .cell\/env.kindOf x=some .free)/\∃ c,env.cells.lookup x=some c/\h.IsCell c (some u))
structure Cx.Ok (X:Cx):Prop where
 mod:Mod X.K X.mg X.base
 kind:X.env.scope.kind=.function
 glob:X.env.globals=mainGlobals
 blt:X.env.builtins=builtinsNs
 above:X.dD.heap.objs.size<=X.env.locals
 inj:∀ x y c,X.env.cells.lookup x=some c->X.env.cells.lookup y=some c->x=y
 has:∀ x,(X.env.kindOf x=some .cell\/X.env.kindOf x=some .free)->∃ c,X.env.cells.lookup x=some c
 vF:∀ x c,X.fn x=true->X.env.cells.lookup x=some c->X.dD.heap.objs.size<=c
 hd:X.calm=true->X.A.handled=none
 frames:X.A.frames=some X.stack
 yM:X.stack=X.outer\/(X.stack=X.env :: X.outer/\X.env.frame=some X.env.locals)
 BL:∀ b ∈ X.ex,b ≠ X.env.locals/\∀ x c,X.env.cells.lookup x=some c->c ≠ b
 bs:∀ b o,X.base.get? b=some o->X.dD.heap.get? b=some o/\X.jW b=none
 nN:X.base.objs.size<=X.dD.heap.objs.size
 qU:∀ b o,X.base.get? b=some o->b ∉ X.ex
 uy:∀ b ∈ X.ex,b ∉ X.fs
 iI:X.dD.heap.FunFrames X.base X.outer
 qV:∀ b ∈ X.fs,X.jW b=none
structure Inv (X:Cx) (pins:List (Addr × Obj)) (σ : List (Option V)) (H:Hp) (s:Shared):Prop where
 ok:X.Ok
 os:s.os=X.dD.os
 bare:AllBare s.gens
 base:Un X.fs X.ex X.jW H X.dD.heap s.heap
 loc:∃ m,s.heap.Ns X.env.locals m/\∀ (i:Nat) (x:Str) (v:V),X.N[i]? = some x->σ[i]? = some (some v)->Af X.env.scope x->∃ u,RelV v u/\Look X.env s.heap m x u
 cell:∀ x c,X.env.cells.lookup x=some c->∃ v,s.heap.IsCell c v
 free:H X.env.locals=none
 fc:∀ x c,X.env.cells.lookup x=some c->H c=none
 pin:∀ p ∈ X.pn++pins,s.heap.get? p.1=some p.2/\H p.1=none/\p.1 ≠ X.env.locals/\p.1 ∉ X.fs/\∀ v,p.2.data ≠ .cell v
 aN:dz X.prog X.w H s.heap
 len:σ.length=X.N.length
section
variable {X:Cx} {pins:List (Addr × Obj)} {σ : List (Option V)} {H H':Hp} {s:Shared} {h':Heap}
theorem Cx.Ok.BX (ok:X.Ok) {b:Addr} {o:Obj} (e:X.base.get? b=some o):b ∉ X.fs:=fun hb=>by
 have:=(ok.iI.mem hb).1
 rw [e] at this;cases this
theorem Inv.bs (I:Inv X pins σ H s):∀ b o,X.base.get? b=some o->s.heap.get? b=some o/\H b=none:=fun b o e =>
 ⟨I.base.keep b o (I.ok.bs b o e).1 (I.ok.bs b o e).2 (I.ok.BX e) (I.ok.qU b o e),I.base.free b o (I.ok.bs b o e).1 (I.ok.bs b o e).2 (I.ok.qU b o e)⟩
theorem Inv.bk (I:Inv X pins σ H s):∀ b o,X.base.get? b=some o->s.heap.get? b=some o:=fun b o e=>(I.bs b o e).1
theorem Inv.mod (I:Inv X pins σ H s):Mod X.K X.mg X.base:=I.ok.mod
theorem Inv.iQ (I:Inv X pins σ H s):X.K.In s.heap:=I.ok.mod.jJ.keeps I.bk
theorem Inv.lt (I:Inv X pins σ H s):X.env.locals < s.heap.objs.size:=let ⟨_,hn,_⟩:=I.loc;hn.lt
theorem Inv.sz (I:Inv X pins σ H s):X.dD.heap.objs.size<=s.heap.objs.size:=Nat.le_trans I.ok.above (Nat.le_of_lt I.lt)
theorem Inv.BY (I:Inv X pins σ H s) {a:Addr} (h:s.heap.objs.size<=a):a ∉ X.fs:=fun hb=>by
 obtain⟨_,o,ho,_⟩:=I.ok.iI.mem hb
 exact absurd (Nat.lt_of_lt_of_le (Heap.lt_size ho) (Nat.le_trans I.sz h)) (Nat.lt_irrefl _)
theorem Inv.qW (I:Inv X pins σ H s):∀ x c,X.env.cells.lookup x=some c->c ≠ X.env.locals:=fun x c e z=>by
 obtain⟨v,o,ho,hd⟩:=I.cell x c e
 obtain⟨m,⟨o',es,ep,ho',hd',_⟩,_⟩:=I.loc
 rw [z,ho'] at ho;cases ho;rw [hd'] at hd;cases hd
theorem Inv.iI (I:Inv X pins σ H s):s.heap.FunFrames X.base X.outer:=by
 have all:∀ (l:List Env),(∀ b ∈ kL l,b ∈ X.fs)->X.dD.heap.FunFrames X.base l->s.heap.FunFrames X.base l:=by
  intro l
  induction l with
  | nil=>intro _ _;trivial
  | cons env r ih =>
   intro hs hl
   obtain⟨hk,⟨L,o,hf,hn,ho,hd⟩,hr⟩:=hl
   have hL:L ∈ X.fs:=hs L (by unfold kL;rw [List.filterMap_cons,hf];exact List.mem_cons_self)
   obtain⟨sl,e⟩:=I.base.slot L o ho (I.ok.qV L hL) hL fun z=>I.ok.uy L z hL
   exact⟨hk,⟨L,_,hf,hn,e,hd⟩,ih (fun b hb=>hs b (by unfold kL;rw [List.filterMap_cons,hf];exact List.mem_cons_of_mem _ hb)) hr⟩
 exact all X.outer (fun _ hb=>hb) I.ok.iI
theorem Inv.stack (I:Inv X pins σ H s):s.heap.FunFrames X.base X.stack:=by
 rcases I.ok.yM with e | ⟨e,hf⟩
 ·rw [e];exact I.iI
 ·rw [e]
  obtain⟨m,hn,_⟩:=I.loc
  refine .cons (by rw [I.ok.kind];decide) hf hn ?_ I.iI
  exact Heap.get?_none_of_le (Nat.le_trans I.ok.nN I.ok.above)
theorem Inv.nO (I:Inv X pins σ H s):∀ b ∈ kL X.stack,b ∈ X.env.locals :: X.fs:=fun b hb=>by
 rcases I.ok.yM with e | ⟨e,hf⟩
 ·rw [e] at hb;exact List.mem_cons_of_mem _ hb
 ·rw [e] at hb
  unfold kL at hb
  rw [List.filterMap_cons,hf] at hb
  exact hb
theorem Inv.tR (I:Inv X pins σ H s):∀ b ∈ kL X.stack,H b=none:=fun b hb=>by
 rcases List.mem_cons.mp (I.nO b hb) with e | hb
 ·rw [e];exact I.free
 ·obtain⟨_,o,ho,_⟩:=I.ok.iI.mem hb
  exact I.base.free b o ho (I.ok.qV b hb) fun z=>I.ok.uy b z hb
theorem Inv.step {g':Array GenState} {t':Nat} {d':Drawn} {ch:List Addr} (I:Inv X pins σ H s)
  (hch:∀ b ∈ ch,(b ∈ X.ex\/X.dD.heap.objs.size<=b)/\b ≠ X.env.locals/\(∀ x c,X.env.cells.lookup x=some c->c ≠ b)/\∀ p ∈ X.pn++pins,p.1 ≠ b)
  (keep:∀ b o,b ≠ X.env.locals->b ∉ X.fs->b ∉ ch->s.heap.get? b=some o->H b=none->h'.get? b=some o)
  (slot:∀ b o,b ≠ X.env.locals->b ∈ X.fs->b ∉ ch->s.heap.get? b=some o->H b=none->∃ sl,h'.get? b=some { o with slots:=sl }) (free:∀ b o,b ∉ ch->s.heap.get? b=some o->H b=none->H' b=none)
  (there:∀ b o,b ∉ ch->s.heap.get? b=some o->∃ o',h'.get? b=some o')
  (aJ:∀ b xs,H b=some (.tup xs)->H' b=some (.tup xs)) (iH:∀ b o u,H b=some (.eJ o u)->H' b=some (.eJ o u)) (ja:∀ b ps,H b=some (.kK ps)->∃ more,H' b=some (.kK (ps++more)))
  (ns:∀ m,s.heap.Ns X.env.locals m->h'.Ns X.env.locals m) (aN:dz X.prog X.w H' h') (hg:AllBare g') :
  Inv X pins σ H' { s with heap:=h',gens:=g',drawn:=d',toks:=t' }:=by
 have neL:∀ b o,X.dD.heap.get? b=some o->b ≠ X.env.locals:=fun b o e=>Nat.ne_of_lt (Nat.lt_of_lt_of_le (Heap.lt_size e) I.ok.above)
 have neC:∀ b o,X.dD.heap.get? b=some o->b ∉ X.ex->b ∉ ch:=fun b o e hx hb=>by
  rcases (hch b hb).1 with z | z
  ·exact hx z
  ·exact absurd (Nat.lt_of_lt_of_le (Heap.lt_size e) z) (Nat.lt_irrefl _)
 have cellK:∀ x c,X.env.cells.lookup x=some c->∀ v,s.heap.IsCell c v->h'.IsCell c v:=fun x c e v ⟨o,ho,hd⟩=>by
  have nch:c ∉ ch:=fun z=>(hch c z).2.2.1 x c e rfl
  by_cases hc:c ∈ X.fs
  ·obtain⟨sl,q⟩:=slot c o (I.qW x c e) hc nch ho (I.fc x c e)
   exact⟨_,q,hd⟩
  ·exact⟨o,keep c o (I.qW x c e) hc nch ho (I.fc x c e),hd⟩
 refine⟨I.ok,I.os,hg,⟨fun b o e n hb hx=>?_,fun b o e n hb hx=>?_,fun b o e n hx=>?_,fun b o e hx=>?_,fun b xs e=>aJ b xs (I.base.aJ b xs e),fun b o xs e=>iH b o xs (I.base.iH b o xs e),fun b ps e=>?_⟩,?_,fun x c e=>?_,?_,fun x c e=>?_,fun p hp=>?_,aN,I.len⟩
 ·exact keep b o (neL b o e) hb (neC b o e hx) (I.base.keep b o e n hb hx) (I.base.free b o e n hx)
 ·obtain⟨sl,e1⟩:=I.base.slot b o e n hb hx
  obtain⟨sl',e2⟩:=slot b _ (neL b o e) hb (neC b o e hx) e1 (I.base.free b o e n hx)
  exact⟨sl',e2⟩
 ·obtain⟨o',e1⟩:=I.base.there b o e hx
  exact free b o' (neC b o e hx) e1 (I.base.free b o e n hx)
 ·obtain⟨o',e1⟩:=I.base.there b o e hx
  exact there b o' (neC b o e hx) e1
 ·obtain⟨m1,e1⟩:=I.base.ja b ps e
  obtain⟨m2,e2⟩:=ja b _ e1
  exact⟨m1++m2,by rw [e2,Array.append_assoc]⟩
 ·obtain⟨m,hn,hl⟩:=I.loc
  refine⟨m,ns m hn,fun i x v e1 e2 e3=>?_⟩
  obtain⟨u,r,l⟩:=hl i x v e1 e2 e3
  refine⟨u,r,?_⟩
  rcases l with l | ⟨k,c,e,z⟩
  ·exact .inl l
  ·exact .inr ⟨k,c,e,cellK x c e _ z⟩
 ·obtain⟨v,z⟩:=I.cell x c e
  exact⟨v,cellK x c e v z⟩
 ·obtain⟨m,⟨o,_,_,ho,_⟩,_⟩:=I.loc
  exact free _ o (fun z=>(hch _ z).2.1 rfl) ho I.free
 ·obtain⟨v,o,ho,hd⟩:=I.cell x c e
  exact free c o (fun z=>(hch c z).2.2.1 x c e rfl) ho (I.fc x c e)
 ·obtain⟨e,n,ne,nf,d⟩:=I.pin p hp
  have nch:p.1 ∉ ch:=fun z=>(hch p.1 z).2.2.2 p hp rfl
  exact⟨keep p.1 p.2 ne nf nch e n,free p.1 p.2 nch e n,ne,nf,d⟩
theorem Inv.un {t':Nat} (I:Inv X pins σ H s) (u:Un X.fs [] H H' s.heap h') (aN:dz X.prog X.w H' h'):Inv X pins σ H' { s with heap:=h',toks:=t' }:=by
  obtain⟨m,⟨o,es,ep,ho,r⟩,_⟩:=id I.loc
  obtain⟨sl,hL⟩:=u.any ho I.free (by simp)
  exact I.step (g':=s.gens) (d':=s.drawn) (ch:=[]) (fun _ z=>nomatch z) (fun b o _ hb _ e n=>u.keep b o e n hb (by simp)) (fun b o _ hb _ e n=>u.slot b o e n hb (by simp)) (fun b o _ e n=>u.free b o e n (by simp)) (fun b o _ e=>u.there b o e (by simp)) u.aJ u.iH u.ja (fun m' hm=>by
    obtain⟨o',es',ep',ho',r'⟩:=hm
    rw [ho] at ho';cases ho'
    exact⟨_,es',ep',hL,r'⟩) aN I.bare
theorem Inv.call {g':Array GenState} {t':Nat} {d':Drawn} {ch:List Addr} (I:Inv X pins σ H s) (u:Un (kL X.stack) ch H H' s.heap h') (aN:dz X.prog X.w H' h') (hg:AllBare g')
  (hch:∀ b ∈ ch,(b ∈ X.ex\/X.dD.heap.objs.size<=b)/\b ≠ X.env.locals/\(∀ x c,X.env.cells.lookup x=some c->c ≠ b)/\∀ p ∈ X.pn++pins,p.1 ≠ b) :
  Inv X pins σ H' { s with heap:=h',gens:=g',drawn:=d',toks:=t' }:=by
 obtain⟨m,⟨o,es,ep,ho,r⟩,_⟩:=id I.loc
 obtain⟨sl,hL⟩:=u.any ho I.free fun z=>(hch _ z).2.1 rfl
 exact I.step (ch:=ch) hch (fun b o hL hb hc e n=>u.keep b o e n (fun z=>(List.mem_cons.mp (I.nO b z)).elim hL hb) hc) (fun b o _ _ hc e n=>u.any e n hc) (fun b o hc e n=>u.free b o e n hc) (fun b o hc e=>u.there b o e hc) u.aJ u.iH u.ja (fun m' hm=>by
  obtain⟨o',es',ep',ho',r'⟩:=hm
  rw [ho] at ho';cases ho'
  exact⟨_,es',ep',hL,r'⟩) aN hg
theorem Inv.turned {t':Nat} {it:Addr} (I:Inv X pins σ H s) (k:∀ b o,b ≠ it->s.heap.get? b=some o->h'.get? b=some o) (hn:H it=none) (hL:it ≠ X.env.locals)
  (h1:it ∈ X.ex\/X.dD.heap.objs.size<=it) (h2:∀ x c,X.env.cells.lookup x=some c->c ≠ it) (h3:∀ p ∈ X.pn++pins,p.1 ≠ it):Inv X pins σ H { s with heap:=h',toks:=t' }:=by
 have nit:∀ b u,H b=some u->b ≠ it:=fun b u e z=>by rw [z,hn] at e;cases e
 refine I.step (g':=s.gens) (d':=s.drawn) (ch:=[it]) (fun b hb=>?_) (fun b o _ _ hc e _=>k b o (fun z=>hc (by simp [z])) e) (fun b o _ _ hc e _=>⟨o.slots,k b o (fun z=>hc (by simp [z])) e⟩) (fun _ _ _ _ n=>n)
  (fun b o hc e=>⟨o,k b o (fun z=>hc (by simp [z])) e⟩) (fun _ _ e=>e) (fun _ _ _ e=>e) (fun b ps e=>⟨#[],by rw [e];simp⟩) (fun m hm=>?_) (fun b u e=>?_) I.bare
 ·have e:b=it:=by simpa using hb
  subst e
  exact⟨h1,hL,h2,h3⟩
 ·obtain⟨o,es,ep,ho,r⟩:=hm
  exact⟨o,es,ep,k _ o (Ne.symm hL) ho,r⟩
 ·refine (I.aN b u e).m5 (fun c v hc q=>k c v ?_ q) (fun _ q=>q) fun _ _ q=>q
  rcases hc with z | z
  ·rw [z];exact nit b u e
  ·exact nit c _ z
theorem Inv.tok (I:Inv X pins σ H s) (t:Nat):Inv X pins σ H { s with toks:=t }:=I.un (h':=s.heap) (t':=t) Un.refl I.aN
theorem Inv.kept {t':Nat} (I:Inv X pins σ H s) (k:∀ b u,s.heap.get? b=some u->h'.get? b=some u):Inv X pins σ H { s with heap:=h',toks:=t' }:=I.un (Un.kept k) (I.aN.kept k)
theorem Inv.laid {a:Addr} {o:HO} {t':Nat} (I:Inv X pins σ H s) (k:∀ b u,s.heap.get? b=some u->h'.get? b=some u) (hp:s.heap.objs.size<=a) (new:bM X.prog X.w (upd H a o) h' a o) :
  Inv X pins σ (upd H a o) { s with heap:=h',toks:=t' }:=I.un (Un.laid k hp (I.aN.fresh hp)) (I.aN.laid k hp new)
theorem Inv.write {x e:Addr} {o:HO} {t':Nat} (I:Inv X pins σ H s) (mu:vD (H x)) (he:e=x\/H e=some (.own x)) (k:∀ b u,b ≠ e->s.heap.get? b=some u->h'.get? b=some u) (heo:∃ u,h'.get? e=some u)
  (new:bM X.prog X.w (upd H x o) h' x o):Inv X pins σ (upd H x o) { s with heap:=h',toks:=t' }:=I.un (Un.write mu he k heo) (I.aN.write mu he k heo new)
theorem Inv.tS {pins':List (Addr × Obj)} (I:Inv X pins σ H s) (h:∀ p ∈ pins',s.heap.get? p.1=some p.2/\H p.1=none/\p.1 ≠ X.env.locals/\p.1 ∉ X.fs/\∀ v,p.2.data ≠ .cell v):Inv X pins' σ H s :=
 ⟨I.ok,I.os,I.bare,I.base,I.loc,I.cell,I.free,I.fc,fun p hp=>(List.mem_append.mp hp).elim (fun z=>I.pin p (List.mem_append_left _ z)) (h p),I.aN,I.len⟩
theorem qX {N:List Str} (hN:N.Nodup) {i j:Nat} {x:Str} (a:N[i]? = some x) (b:N[j]? = some x):i=j:=by
 obtain⟨h1,e1⟩:=List.getElem?_eq_some_iff.mp a
 obtain⟨h2,e2⟩:=List.getElem?_eq_some_iff.mp b
 exact (List.getElem_inj hN).mp (e1.trans e2.symm)
theorem pR {M:Model} {A:Around} {E:Value->Shared->Prop} {i:Nat} {x:Str} {v:V} {u:Value} {Q:Unit->Shared->Prop} (I:Inv X pins σ H s) (hN:X.N.Nodup) (hi:X.N[i]? = some x) (hx:Loc X.env.scope x) (r:RelV v u)
  (h:∀ s',Inv X pins (σ.set i (some v)) H s'->(∃ a,Heap.SameBut a s.heap s'.heap/\(a=X.env.locals\/X.env.cells.lookup x=some a))->Q () s') (hf:X.fn x=true\/X.env.scope.names.lookup x=some .local:=by first | exact .inl rfl | exact .inr rfl | assumption):wpAny M A (storeName X.env x u) Q E s:=by
 obtain⟨m,hn,hl⟩:=id I.loc
 have hcls:(X.env.scope.kind == .class || (X.env.scope.kind == .module && X.env.locals != X.env.globals))=false:=by rw [I.ok.kind];rfl
 have hiσ : i < σ.length:=by rw [I.len];exact (List.getElem?_eq_some_iff.mp hi).1
 have qW:=I.qW
 have tracked:∀ {a:Addr} {h':Heap},(∃ o,s.heap.get? a=some o/\H a=none)->Heap.SameBut a s.heap h'->dz X.prog X.w H h':=fun {a h'} ha hs b ob e=>by
  obtain⟨_,_,hfree⟩:=ha
  refine (I.aN b ob e).m5 (fun c w' hc q=>(hs.2 c ?_).trans q) (fun _ q=>q) fun _ _ q=>q
  rintro rfl
  rcases hc with rfl | hc
  ·rw [hfree] at e;cases e
  ·rw [hfree] at hc;cases hc
 rcases hx with hk | hk
 ·refine wpAny_storeName_local hk hn (fun h' hn' hs=>?_) hcls
  obtain⟨oL,_,_,hoL,_⟩:=id hn
  refine h _ ⟨I.ok,I.os,I.bare,⟨fun b o e n hb hx=>?_,fun b o e n hb hx=>?_,I.base.free,fun b o e hx=>?_,I.base.aJ,I.base.iH,I.base.ja⟩,⟨_,hn',fun j y v' e1 e2 e3=>?_⟩,fun y c e=>?_,I.free,I.fc,fun p hp=>?_,tracked ⟨oL,hoL,I.free⟩ hs,by simpa using I.len⟩ ⟨_,hs,.inl rfl⟩
  ·exact (hs.2 b (Nat.ne_of_lt (Nat.lt_of_lt_of_le (Heap.lt_size e) I.ok.above))).trans (I.base.keep b o e n hb hx)
  ·obtain⟨sl,e1⟩:=I.base.slot b o e n hb hx
   exact⟨sl,(hs.2 b (Nat.ne_of_lt (Nat.lt_of_lt_of_le (Heap.lt_size e) I.ok.above))).trans e1⟩
  ·obtain⟨o',e1⟩:=I.base.there b o e hx
   exact⟨o',(hs.2 b (Nat.ne_of_lt (Nat.lt_of_lt_of_le (Heap.lt_size e) I.ok.above))).trans e1⟩
  ·by_cases hj:j=i
   ·subst hj
    rw [hi] at e1;cases e1
    rw [List.getElem?_set_self hiσ] at e2
    cases e2
    exact⟨u,r,.inl ⟨hk,by simp⟩⟩
   ·rw [List.getElem?_set_ne (Ne.symm hj)] at e2
    obtain⟨u',r',q⟩:=hl j y v' e1 e2 e3
    refine⟨u',r',?_⟩
    rcases q with ⟨k,e⟩ | ⟨k,c,e,z⟩
    ·refine .inl ⟨k,?_⟩
     have:y ≠ x:=fun e=>hj (qX hN e1 (e ▸ hi))
     simp [this,e]
    ·exact .inr ⟨k,c,e,z.sameBut hs (qW y c e)⟩
  ·obtain⟨w',z⟩:=I.cell y c e
   exact⟨w',z.sameBut hs (qW y c e)⟩
  ·obtain⟨e,n,ne,nf,d⟩:=I.pin p hp
   exact⟨(hs.2 p.1 ne).trans e,n,ne,nf,d⟩
 ·have hfn:X.fn x=true:=by
   rcases hf with z | z
   ·exact z
   ·rw [z] at hk;cases hk
  obtain⟨c,hc⟩:=I.ok.has x (.inl hk)
  obtain⟨w',z⟩:=I.cell x c hc
  refine wpAny_storeName_cell I.ok.kind hk hc z (fun h' hc' hs=>?_)
  obtain⟨oc,hoc,hocd⟩:=id z
  refine h { s with heap:=h' } ⟨I.ok,I.os,I.bare,⟨fun b o e n hb hx=>?_,fun b o e n hb hx=>?_,I.base.free,fun b o e hx=>?_,I.base.aJ,I.base.iH,I.base.ja⟩,⟨m,hn.sameBut hs (Ne.symm (qW x c hc)),fun j y v' e1 e2 e3=>?_⟩,fun y c' e=>?_,I.free,I.fc,fun p hp=>?_,tracked ⟨oc,hoc,I.fc x c hc⟩ hs,by simpa using I.len⟩ ⟨c,hs,.inr hc⟩
  ·exact (hs.2 b (Nat.ne_of_lt (Nat.lt_of_lt_of_le (Heap.lt_size e) (I.ok.vF x c hfn hc)))).trans (I.base.keep b o e n hb hx)
  ·obtain⟨sl,e1⟩:=I.base.slot b o e n hb hx
   exact⟨sl,(hs.2 b (Nat.ne_of_lt (Nat.lt_of_lt_of_le (Heap.lt_size e) (I.ok.vF x c hfn hc)))).trans e1⟩
  ·obtain⟨o',e1⟩:=I.base.there b o e hx
   exact⟨o',(hs.2 b (Nat.ne_of_lt (Nat.lt_of_lt_of_le (Heap.lt_size e) (I.ok.vF x c hfn hc)))).trans e1⟩
  ·by_cases hj:j=i
   ·subst hj
    rw [hi] at e1;cases e1
    rw [List.getElem?_set_self hiσ] at e2
    cases e2
    exact⟨u,r,.inr ⟨.inl hk,c,hc,hc'⟩⟩
   ·rw [List.getElem?_set_ne (Ne.symm hj)] at e2
    obtain⟨u',r',q⟩:=hl j y v' e1 e2 e3
    refine⟨u',r',?_⟩
    rcases q with q | ⟨k,c',e,z'⟩
    ·exact .inl q
    ·refine .inr ⟨k,c',e,z'.sameBut hs ?_⟩
     rintro rfl
     exact hj (qX hN e1 (I.ok.inj _ _ _ e hc ▸ hi))
  ·by_cases hcc:c' = c
   ·subst hcc;exact⟨_,hc'⟩
   ·obtain⟨w2,z2⟩:=I.cell y c' e
    exact⟨w2,z2.sameBut hs hcc⟩
  ·obtain⟨e,n,ne,nf,d⟩:=I.pin p hp
   refine⟨(hs.2 p.1 ?_).trans e,n,ne,nf,d⟩
   intro q
   rw [q,hoc] at e
   have q':oc=p.2:=Option.some.inj e
   exact d w' (by rw [<-q'];exact hocd)
theorem jX {M:Model} {A:Around} {E:Value->Shared->Prop} {i:Nat} {x:Str} {v:V} {u:Value} {Q:Unit->Shared->Prop} (I:Inv X pins σ H s) (hN:X.N.Nodup) (hi:X.N[i]? = some x) (hx:Loc X.env.scope x) (r:RelV v u)
  (h:∀ s',Inv X pins (σ.set i (some v)) H s'->Q () s') (hf:X.fn x=true\/X.env.scope.names.lookup x=some .local:=by first | exact .inl rfl | exact .inr rfl | assumption):wpAny M A (storeName X.env x u) Q E s :=
 pR I hN hi hx r (fun s' I' _=>h s' I') hf
theorem Inv.Bm {s':Shared} {ch:List Addr} (I:Inv X pins σ H s) (ho:s'.os=s.os) (u:Un (kL X.stack) ch H H' s.heap s'.heap) (aN:dz X.prog X.w H' s'.heap) (hg:AllBare s'.gens)
  (hch:∀ b ∈ ch,(b ∈ X.ex\/X.dD.heap.objs.size<=b)/\b ≠ X.env.locals/\(∀ x c,X.env.cells.lookup x=some c->c ≠ b)/\∀ p ∈ X.pn++pins,p.1 ≠ b):Inv X pins σ H' s':=by
 obtain⟨h',g',d',t',o'⟩:=s'
 have e:o' = s.os:=ho
 subst e
 exact I.call (g':=g') (t':=t') (d':=d') u aN hg hch
end
abbrev XK:=Value->Option Addr->Hp->Prop
abbrev St:=List (Option V)
abbrev VK:=V->Hp->Prop
abbrev TE:=St->Hp->VK->Prop
abbrev TT:=St->Hp->(Bool->Hp->Prop)->Prop
abbrev TA:=St->Hp->(List V->Hp->Prop)->Prop
structure Ends where
 nx:St->Hp->Prop
 rt:VK
 bk:St->Hp->Prop:=fun _ _=>False
 ct:St->Hp->Prop:=fun _ _=>False
abbrev TS:=Ends->St->Hp->Prop
def EP (X:Cx) (pins:List (Addr × Obj)) (σ : St) (Q:VK) (u:Value) (s':Shared):Prop:=∃ v H',Inv X pins σ H' s'/\RelV v u/\Q v H'
def TP (X:Cx) (pins:List (Addr × Obj)) (σ : St) (Q:Bool->Hp->Prop) (b:Bool) (s':Shared):Prop:=∃ H',Inv X pins σ H' s'/\Q b H'
def AP (X:Cx) (pins:List (Addr × Obj)) (σ : St) (Q:List V->Hp->Prop) (us:List Value) (s':Shared):Prop:=∃ vs H',Inv X pins σ H' s'/\Vals vs us/\Q vs H'
def SP (X:Cx) (pins:List (Addr × Obj)) (D:Ends) (f:Flow) (s':Shared):Prop :=
 match f with
 | .next=>∃ σ' H',Inv X pins σ' H' s'/\D.nx σ' H'
 | .brk=>∃ σ' H',Inv X pins σ' H' s'/\D.bk σ' H'
 | .cont=>∃ σ' H',Inv X pins σ' H' s'/\D.ct σ' H'
 | .ret u=>∃ v σ' H',Inv X pins σ' H' s'/\RelV v u/\D.rt v H'
def PE (X:Cx) (e:Expr) (t:TE):Prop :=
 ∀ (pins:List (Addr × Obj)) (s:Shared) (σ : St) (H:Hp) (Q:VK),Inv X pins σ H s->t σ H Q->wpAny (model X.prog X.w) X.A (eval e X.env) (EP X pins σ Q) X.xe s
def PT (X:Cx) (e:Expr) (t:TT):Prop :=
 ∀ (pins:List (Addr × Obj)) (s:Shared) (σ : St) (H:Hp) (Q:Bool->Hp->Prop),Inv X pins σ H s->t σ H Q->wpAny (model X.prog X.w) X.A (isTrue e X.env (eval e X.env)) (TP X pins σ Q) X.xe s
def PW (X:Cx) (e:Expr) (t:TT):Prop :=
 ∀ (whole:Sem Value) (pins:List (Addr × Obj)) (s:Shared) (σ : St) (H:Hp) (Q:Bool->Hp->Prop),Inv X pins σ H s->t σ H Q->wpAny (model X.prog X.w) X.A (isTrue e X.env whole) (TP X pins σ Q) X.xe s
theorem PW.pt {X:Cx} {e:Expr} {t:TT} (h:PW X e t):PT X e t:=h _
def PA (X:Cx) (es:List Expr) (t:TA):Prop :=
 ∀ (pos:Pos) (pins:List (Addr × Obj)) (s:Shared) (σ : St) (H:Hp) (Q:List V->Hp->Prop),Inv X pins σ H s->t σ H Q->wpAny (model X.prog X.w) X.A (spliced (backTo pos (starEach es X.env))) (AP X pins σ Q) X.xe s
def PS (X:Cx) (st:Stmt) (t:TS):Prop :=
 ∀ (pins:List (Addr × Obj)) (s:Shared) (σ : St) (H:Hp) (D:Ends),Inv X pins σ H s->t D σ H->wpAny (model X.prog X.w) X.A (exec st X.env) (SP X pins D) X.xe s
def jb (X:Cx) (st:List Stmt) (t:TS):Prop :=
 ∀ (pins:List (Addr × Obj)) (s:Shared) (σ : St) (H:Hp) (D:Ends),Inv X pins σ H s->t D σ H->wpAny (model X.prog X.w) X.A (execs st X.env) (SP X pins D) X.xe s
theorem br {α : Type} {t:Sem α} {Q Q':α->Shared->Prop} {M:Model} {A:Around} {E:Value->Shared->Prop} {s:Shared} (h:wpAny M A t Q E s) (hQ:∀ a s,Q a s->Q' a s):wpAny M A t Q' E s:=wpAny_mono h hQ fun _ _ x=>x
section
variable {X:Cx}
def oR (i:Nat):TE:=fun σ H Q=>∃ v,σ[i]? = some (some v)/\Q v H
def tC (v:V):TE:=fun _ H Q=>Q v H
theorem Ag {i:Nat} {x:Str} {pos:Pos} (hN:X.N[i]? = some x) (hv:Af X.env.scope x) (hd:(x == ("__debug__" : Str))=false:=by decide) (hcd:(x == ("__classdict__" : Str))=false:=by decide):PE X (.Name x pos) (oR i):=by
 intro pins s σ H Q I h
 obtain⟨v,e,h⟩:=h
 obtain⟨m,hn,hl⟩:=I.loc
 obtain⟨u,r,l⟩:=hl i x v hN e hv
 have fin:EP X pins σ Q u s:=⟨v,H,I,r,h⟩
 rcases l with ⟨hk,hm⟩ | ⟨hk,c,hc,hcell⟩
 ·exact wpAny_Name (wpAny_loadName_local I.ok.kind hk hn hm fin) hd
 ·rcases hk with hk | hk
  ·exact wpAny_Name (wpAny_loadName_cell I.ok.kind hk hc hcell fin) hd
  ·exact wpAny_Name (wpAny_loadName_free I.ok.kind hk hc hcell fin hcd) hd
theorem ao {i j pos}:PE X (.Constant (.int i) j pos) (tC (.int i)):=fun _ _ _ H _ I h=>wpAny_Constant_int ⟨.int i,H,I.tok _,⟨_,rfl⟩,h⟩
theorem iT {b j pos}:PE X (.Constant (.bool b) j pos) (tC (.bl b)):=fun _ _ _ H _ I h=>Constant_bool ⟨.bl b,H,I,rfl,h⟩
theorem cJ {j pos}:PE X (.Constant .none j pos) (tC .bf):=fun _ _ _ H _ I h=>Constant_none ⟨.bf,H,I,rfl,h⟩
theorem bH {x j pos}:PE X (.Constant (.str x) j pos) (tC (.str x)):=fun _ _ _ H _ I h=>Calls.Constant_str ⟨.str x,H,I.tok _,⟨_,rfl⟩,h⟩
def Gl (X:Cx) (x:Str):Prop:=X.env.kindOf x=some .globalImplicit
theorem oS {E:Value->Shared->Prop} {pins:List (Addr × Obj)} {s:Shared} {σ : St} {H:Hp} {x:Str} {u:Value} {pos:Pos} {Q:Value->Shared->Prop} (I:Inv X pins σ H s) (hg:Gl X x) (hm:X.mg x=some u) (h:Q u s)
  (hd:(x == ("__debug__" : Str))=false:=by decide):wpAny (model X.prog X.w) X.A (eval (.Name x pos) X.env) Q E s :=
 Calls.Name_function_global I.ok.kind hg (Calls.loadGlobal_global (by rw [I.ok.glob];exact I.mod.glob.keeps I.bk) hm h) hd
theorem kM {E:Value->Shared->Prop} {pins:List (Addr × Obj)} {s:Shared} {σ : St} {H:Hp} {x:Str} {u:Value} {pos:Pos} {Q:Value->Shared->Prop} (I:Inv X pins σ H s) (hg:Gl X x) (hm:X.mg x=none) (hv:bootBuiltins x=some u) (h:Q u s)
  (hn:x ≠ "__name__" := by decide) (hd:(x == ("__debug__" : Str))=false:=by decide):wpAny (model X.prog X.w) X.A (eval (.Name x pos) X.env) Q E s:=by
 obtain⟨mb,h1,h2⟩:=I.mod.blt
 exact Calls.Name_function_global I.ok.kind hg (Calls.loadGlobal_builtin (by rw [I.ok.glob];exact I.mod.glob.keeps I.bk) hm (by rw [I.ok.blt];exact h1.keeps I.bk) ((h2 x hn).trans hv) h) hd
theorem gu {x:Str} {v:V} {u:Value} {pos:Pos} (hg:Gl X x) (hm:X.mg x=some u) (r:RelV v u) (hd:(x == ("__debug__" : Str))=false:=by decide):PE X (.Name x pos) (tC v) :=
 fun _ _ _ H _ I h=>oS I hg hm ⟨v,H,I,r,h⟩ hd
variable {a b:Expr} {ta tb:TE} {pos:Pos}
def PC (X:Cx) (op:CmpOp) (a b:Expr) (t:TE):Prop :=
 ∀ (pins:List (Addr × Obj)) (s:Shared) (σ : St) (H:Hp) (Q:VK),Inv X pins σ H s->t σ H Q ->
  wpAny (model X.prog X.w) X.A (eval a X.env) (fun v s₁=>wpAny (model X.prog X.w) X.A (eval b X.env) (fun u s₂=>wpAny (model X.prog X.w) X.A (compareOp op v u) (EP X pins σ Q) X.xe s₂) X.xe s₁) X.xe s
theorem qY (b:Expr) {op:CmpOp} (h:op ≠ .In) (h2:op ≠ .NotIn):behindInMarks op b=false:=by
 have e1:(op == CmpOp.In)=false:=by cases op <;> first | rfl | exact absurd rfl h
 have e2:(op == CmpOp.NotIn)=false:=by cases op <;> first | rfl | exact absurd rfl h2
 cases b <;> simp [behindInMarks,e1,e2]
def BZ (ta:TE):TE:=fun σ H Q=>ta σ H fun x H1=>Q (.bl (decide (x=.bf))) H1
def Bn (ta:TE):TE:=fun σ H Q=>ta σ H fun x H1=>Q (.bl (!decide (x=.bf))) H1
theorem RelV.qZ {x:V} {v:Value} (r:RelV x v):(v == Value.none)=decide (x=.bf):=by
 cases x with
 | bf=>cases r;rfl
 | bl _=>cases r;rfl
 | int _=>obtain⟨t,rfl⟩:=r;rfl
 | str _=>obtain⟨t,rfl⟩:=r;rfl
 | jI _=>obtain⟨t,rfl⟩:=r;rfl
 | vC _=>obtain⟨t,rfl⟩:=r;rfl
 | ref _=>cases r;rfl
 | ty _=>cases r;rfl
theorem gM {j pos'} (ha:PE X a ta):PC X .Is a (.Constant .none j pos') (BZ ta):=by
 intro pins s σ H Q I h
 refine br (ha pins s σ H _ I h) fun v s1 ⟨x,H1,I1,r1,q1⟩=>?_
 exact Constant_none (is_none_gen ⟨.bl _,H1,I1,by rw [r1.qZ];rfl,q1⟩)
theorem fo {j pos'} (ha:PE X a ta):PC X .IsNot a (.Constant .none j pos') (Bn ta):=by
 intro pins s σ H Q I h
 refine br (ha pins s σ H _ I h) fun v s1 ⟨x,H1,I1,r1,q1⟩=>?_
 exact Constant_none (isnot_none_gen ⟨.bl _,H1,I1,by rw [r1.qZ];rfl,q1⟩)
def tB (t:TE):TT:=fun σ H Q=>t σ H fun x H1=>∃ c,x=.bl c/\Q c H1
theorem nP {op:CmpOp} {t:TE} (h:PC X op a b t) (h1:behindInMarks op b=false:=by first | exact qY _ (by decide) (by decide) | rfl):PE X (.Compare a [op] [b] pos) t:=fun pins s σ H Q I hw=>wpAny_Compare1 (h pins s σ H Q I hw) h1
theorem dP {op:CmpOp} {t:TE} (h:PC X op a b t) (h1:behindInMarks op b=false:=by first | exact qY _ (by decide) (by decide) | rfl):PT X (.Compare a [op] [b] pos) (tB t):=by
 intro pins s σ H Q I hw
 refine wpAny_isTrue_Compare1 (br (h pins s σ H _ I hw) fun v s1 h1=>br h1 fun u s2 h2=>br h2 fun c s3 ⟨x,H1,I1,r1,q1⟩=>?_) h1
 obtain⟨d,rfl,q⟩:=q1
 cases r1
 exact wpAny_truthy_bool ⟨H1,I1,q⟩
theorem kN {e:Expr} {t:TE} (h:PE X e t) (he:∀ whole,isTrue e X.env whole=(do let v <-whole;standAt e.pos;holding [v] (truthy v)):=by intro _;rfl):PT X e (tB t):=by
 intro pins s σ H Q I hw
 refine isTrue_plain (br (h pins s σ H _ I hw) fun v s1 ⟨x,H1,I1,r1,q1⟩=>?_) (he _)
 obtain⟨d,rfl,q⟩:=q1
 cases r1
 exact wpAny_truthy_bool ⟨H1,I1,q⟩
variable {tA tB':TT} {rest:List Expr}
def B0 (t u:TT):TT:=fun σ H Q=>t σ H fun c H1=>if c=true then u σ H1 Q else Q false H1
def CH (t u:TT):TT:=fun σ H Q=>t σ H fun c H1=>if c=true then Q true H1 else u σ H1 Q
theorem hX (ha:PT X a tA):PW X (.BoolOp .And [a] pos) tA:=by
 intro wh pins s σ H Q I h
 refine isTrue_and (br (ha pins s σ H Q I h) fun c s1 e=>?_)
 cases c with
 | true=>exact isTrue_and_nil e
 | false=>exact e
theorem rg (ha:PT X a tA):PW X (.BoolOp .Or [a] pos) tA:=by
 intro wh pins s σ H Q I h
 refine isTrue_or (br (ha pins s σ H Q I h) fun c s1 e=>?_)
 cases c with
 | false=>exact isTrue_or_nil e
 | true=>exact e
theorem iw (ha:PT X a tA) (hb:PW X (.BoolOp .And (b :: rest) pos) tB'):PW X (.BoolOp .And (a :: b :: rest) pos) (B0 tA tB'):=by
 intro wh pins s σ H Q I h
 refine isTrue_and (br (ha pins s σ H _ I h) fun c s1 ⟨H1,I1,q1⟩=>?_)
 cases c with
 | true=>exact hb wh pins s1 σ H1 Q I1 q1
 | false=>exact⟨H1,I1,q1⟩
theorem uz (ha:PT X a tA) (hb:PW X (.BoolOp .Or (b :: rest) pos) tB'):PW X (.BoolOp .Or (a :: b :: rest) pos) (CH tA tB'):=by
 intro wh pins s σ H Q I h
 refine isTrue_or (br (ha pins s σ H _ I h) fun c s1 ⟨H1,I1,q1⟩=>?_)
 cases c with
 | true=>exact⟨H1,I1,q1⟩
 | false=>exact hb wh pins s1 σ H1 Q I1 q1
def Bo (ta tb:TE):TE:=fun σ H Q=>ta σ H fun x H1=>∃ c,x=.bl c/\if c=true then tb σ H1 Q else Q (.bl false) H1
def Ca (ta tb:TE):TE:=fun σ H Q=>ta σ H fun x H1=>∃ c,x=.bl c/\if c=true then Q (.bl true) H1 else tb σ H1 Q
theorem jK {op} {t:TE} (h:PE X a t):PE X (.BoolOp op [a] pos) t:=fun pins s σ H Q I hw=>BoolOp_one (h pins s σ H Q I hw)
theorem vG (ha:PE X a ta) (hb:PE X (.BoolOp .And (b :: rest) pos) tb):PE X (.BoolOp .And (a :: b :: rest) pos) (Bo ta tb):=by
 intro pins s σ H Q I h
 refine BoolOp_and (br (ha pins s σ H _ I h) fun v s1 ⟨x,H1,I1,r1,q1⟩=>?_)
 obtain⟨c,rfl,q1⟩:=q1
 cases r1
 refine wpAny_truthy_bool ?_
 cases c with
 | true=>exact hb pins s1 σ H1 Q I1 q1
 | false=>exact⟨.bl false,H1,I1,rfl,q1⟩
theorem qK (ha:PE X a ta) (hb:PE X (.BoolOp .Or (b :: rest) pos) tb):PE X (.BoolOp .Or (a :: b :: rest) pos) (Ca ta tb):=by
 intro pins s σ H Q I h
 refine BoolOp_or (br (ha pins s σ H _ I h) fun v s1 ⟨x,H1,I1,r1,q1⟩=>?_)
 obtain⟨c,rfl,q1⟩:=q1
 cases r1
 refine wpAny_truthy_bool ?_
 cases c with
 | false=>exact hb pins s1 σ H1 Q I1 q1
 | true=>exact⟨.bl true,H1,I1,rfl,q1⟩
def CI (t:TT) (ta tb:TE):TE:=fun σ H Q=>t σ H fun c H1=>if c=true then ta σ H1 Q else tb σ H1 Q
theorem fG {c:Expr} (hc:PT X c tA) (ha:PE X a ta) (hb:PE X b tb):PE X (.IfExp c a b pos) (CI tA ta tb):=by
 intro pins s σ H Q I h
 refine wpAny_IfExp (br (hc pins s σ H _ I h) fun d s1 ⟨H1,I1,q1⟩=>?_)
 cases d with
 | true=>exact ha pins s1 σ H1 Q I1 q1
 | false=>exact hb pins s1 σ H1 Q I1 q1
end
def aI (K:PySem.W.Frag) (H:Hp) (a:Addr) (xs:List V):Prop :=
 Rd H a (.lst xs) \/
  ∃ (o:Obj) (its:Array Value) (n:Nat),K.lookup a=some o/\o.cls=.type "list" /\ o.dict=none/\o.data=.seq its n/\its.size<=sizeLine/\Vals xs its.toList
def ay (K:PySem.W.Frag) (H:Hp) (a:Addr) (xs:List V):Prop :=
 Rd H a (.tup xs) \/
  ∃ (o:Obj) (its:Array Value) (n:Nat),K.lookup a=some o/\o.cls=.type "tuple" /\ o.data=.seq its n/\its.size<=sizeLine/\Vals xs its.toList
def Cb:Value->Option V
 | .none=>some .bf
 | .bool b=>some (.bl b)
 | .int i _=>some (.int i)
 | .str x _=>some (.str x)
 | .bytes b _=>some (.jI b)
 | .float b _=>some (.vC b)
 | .ref a=>some (.ref a)
 | .type n=>some (.ty n)
 | _=>none
theorem RelV.abs {x:V} {u:Value} (r:RelV x u):Cb u=some x:=by
 cases x with
 | bf=>cases r;rfl
 | bl _=>cases r;rfl
 | int _=>obtain⟨t,rfl⟩:=r;rfl
 | str _=>obtain⟨t,rfl⟩:=r;rfl
 | jI _=>obtain⟨t,rfl⟩:=r;rfl
 | vC _=>obtain⟨t,rfl⟩:=r;rfl
 | ref _=>cases r;rfl
 | ty _=>cases r;rfl
theorem RelV.inj {x y:V} {u:Value} (r:RelV x u) (q:RelV y u):x=y:=Option.some.inj (r.abs.symm.trans q.abs)
theorem Vals.inj:∀ {xs ys:List V} {us:List Value},Vals xs us->Vals ys us->xs=ys
 | _,_,_,.nil,.nil=>rfl
 | _,_,_,.cons r t,.cons r' t'=>by rw [r.inj r',Vals.inj t t']
section
variable {X:Cx} {pins:List (Addr × Obj)} {σ : St} {H:Hp} {s:Shared} {a:Addr} {xs ys:List V}
theorem aI.of {K:PySem.W.Frag} (h:H a=some (.lst xs)):aI K H a xs:=.inl (.inl h)
theorem ay.of {K:PySem.W.Frag} (h:H a=some (.tup xs)):ay K H a xs:=.inl (.inl h)
theorem Inv.list (I:Inv X pins σ H s) (h:aI X.K H a xs):∃ its:List Value,Vals xs its/\PlainL s.heap a its.toArray/\xs.length<=sizeLine:=by
 rcases h with h | ⟨o,its,n,hk,hc,hd,hs,hz,r⟩
 ·obtain⟨z,its,n,r,e⟩:=h.ok I.aN
  exact⟨its,r,⟨_,n,e,rfl,rfl,rfl⟩,z⟩
 ·refine⟨its.toList,r,⟨o,n,I.iQ a o hk,hc,hd,by simpa using hs⟩,?_⟩
  have e:=r.length
  simp only [Array.length_toList] at e
  omega
theorem Inv.tuple (I:Inv X pins σ H s) (h:ay X.K H a xs):∃ its:List Value,Vals xs its/\IsTup s.heap a its.toArray/\xs.length<=sizeLine:=by
 rcases h with h | ⟨o,its,n,hk,hc,hs,hz,r⟩
 ·obtain⟨z,its,r,o,e,c,n,d,_⟩:=h.ok I.aN
  exact⟨its,r,⟨o,e,c,n,d⟩,z⟩
 ·refine⟨its.toList,r,⟨o,I.iQ a o hk,hc,n,by simpa using hs⟩,?_⟩
  have e:=r.length
  simp only [Array.length_toList] at e
  omega
theorem Inv.xk (I:Inv X pins σ H s) (h:aI X.K H a xs) (h':aI X.K H a ys):xs=ys:=by
 obtain⟨its,r,⟨o,n,e,_,_,d⟩,_⟩:=I.list h
 obtain⟨its',r',⟨o',n',e',_,_,d'⟩,_⟩:=I.list h'
 rw [e] at e';cases e'
 rw [d] at d'
 injection d' with d1 _
 have:its=its':=by simpa using congrArg Array.toList d1
 subst this
 exact r.inj r'
theorem Inv.kO (I:Inv X pins σ H s) (h:ay X.K H a xs) (h':ay X.K H a ys):xs=ys:=by
 obtain⟨its,r,⟨o,e,_,n,d⟩,_⟩:=I.tuple h
 obtain⟨its',r',⟨o',e',_,n',d'⟩,_⟩:=I.tuple h'
 rw [e] at e';cases e'
 rw [d] at d'
 injection d' with d1 _
 have:its=its':=by simpa using congrArg Array.toList d1
 subst this
 exact r.inj r'
end
abbrev Cx.jB (X:Cx) (E:Value->Shared->Prop):Cx:={ X with xe:=E }
abbrev Cx.tT (X:Cx):Cx:=X.jB fun _ _=>False
theorem Cx.Ok.jB {X:Cx} (ok:X.Ok) (E:Value->Shared->Prop):(X.jB E).Ok :=
 ⟨ok.mod,ok.kind,ok.glob,ok.blt,ok.above,ok.inj,ok.has,ok.vF,ok.hd,ok.frames,ok.yM,ok.BL,ok.bs,ok.nN,ok.qU,ok.uy,ok.iI,ok.qV⟩
theorem Cx.Ok.ix {X:Cx} {E:Value->Shared->Prop} (ok:(X.jB E).Ok):X.Ok :=
 ⟨ok.mod,ok.kind,ok.glob,ok.blt,ok.above,ok.inj,ok.has,ok.vF,ok.hd,ok.frames,ok.yM,ok.BL,ok.bs,ok.nN,ok.qU,ok.uy,ok.iI,ok.qV⟩
section
variable {X:Cx} {pins:List (Addr × Obj)} {σ : St} {H:Hp} {s:Shared} {E:Value->Shared->Prop}
theorem Inv.jB (I:Inv X pins σ H s) (E:Value->Shared->Prop):Inv (X.jB E) pins σ H s:=⟨I.ok.jB E,I.os,I.bare,I.base,I.loc,I.cell,I.free,I.fc,I.pin,I.aN,I.len⟩
theorem Inv.ix (I:Inv (X.jB E) pins σ H s):Inv X pins σ H s:=⟨I.ok.ix,I.os,I.bare,I.base,I.loc,I.cell,I.free,I.fc,I.pin,I.aN,I.len⟩
theorem SP.ix {D:Ends} {f:Flow} {s':Shared} (h:SP (X.jB E) pins D f s'):SP X pins D f s':=by
 cases f with
 | next=>obtain⟨σ',H',I,q⟩:=h;exact⟨σ',H',I.ix,q⟩
 | brk=>obtain⟨σ',H',I,q⟩:=h;exact⟨σ',H',I.ix,q⟩
 | cont=>obtain⟨σ',H',I,q⟩:=h;exact⟨σ',H',I.ix,q⟩
 | ret u=>obtain⟨v,σ',H',I,r,q⟩:=h;exact⟨v,σ',H',I.ix,r,q⟩
theorem jb.tT {st:List Stmt} {t:TS} (h:jb X.tT st t):jb X st t:=fun pins s σ H D I hw =>
 wpAny_mono (h pins s σ H D (I.jB _) hw) (fun _ _ q=>q.ix) fun _ _ z=>False.elim z
end
section
variable {X:Cx} {st:Stmt} {rest:List Stmt} {t u:TS} {e:Expr} {te:TE} {pos:Pos}
def Bp:TS:=fun D σ H=>D.nx σ H
def Cc (t u:TS):TS:=fun D σ H=>t { D with nx:=u D } σ H
theorem aM:jb X [] Bp:=fun _ _ σ H _ I h=>wpAny_execs_nil ⟨σ,H,I,h⟩
theorem ai (h1:PS X st t) (h2:jb X rest u):jb X (st :: rest) (Cc t u):=by
 intro pins s σ H D I h
 refine wpAny_execs_cons (br (h1 pins s σ H { D with nx:=u D } I h) fun f s1 q=>?_)
 cases f with
 | next =>
  obtain⟨σ',H',I',q⟩:=q
  exact h2 pins s1 σ' H' D I' q
 | ret v=>exact q
 | brk=>exact q
 | cont=>exact q
theorem ar (h1:PS X st t):jb X [st] t:=by
 intro pins s σ H D I h
 refine wpAny_execs_cons (br (h1 pins s σ H D I h) fun f s1 q=>?_)
 cases f with
 | next=>exact wpAny_execs_nil q
 | ret v=>exact q
 | brk=>exact q
 | cont=>exact q
theorem Inv.quiet {pins:List (Addr × Obj)} {σ : St} {H:Hp} {s:Shared} (I:Inv X pins σ H s):interactive X.env=false:=by simp [interactive,I.ok.kind]
def Bq (te:TE):TS:=fun D σ H=>te σ H fun _ H1=>D.nx σ H1
theorem cX (he:PE X e te) (hs:swapsWith e none pos.line X.env=pure false:=by rfl):PS X (.Expr e pos) (Bq te):=by
 intro pins s σ H D I h
 exact wpAny_Expr_any (br (he pins s σ H _ I h) fun v s1 ⟨x,H1,I1,r1,q1⟩=>⟨σ,H1,I1,q1⟩) I.quiet hs
def Ah (te:TE):TS:=fun D σ H=>te σ H D.rt
theorem aF (he:PE X e te):PS X (.Return (some e) pos) (Ah te):=by
 intro pins s σ H D I h
 exact wpAny_Return_some (br (he pins s σ H _ I h) fun v s1 ⟨x,H1,I1,r1,q1⟩=>⟨x,σ,H1,I1,r1,q1⟩)
def Cd (c:TT) (t u:TS):TS:=fun D σ H=>c σ H fun b H1=>if b=true then t D σ H1 else u D σ H1
theorem bu {c:Expr} {a b:List Stmt} {tc:TT} (hc:PT X c tc) (ha:jb X a t) (hb:jb X b u):PS X (.If c a b pos) (Cd tc t u):=by
 intro pins s σ H D I h
 refine wpAny_If (br (hc pins s σ H _ I h) fun d s1 ⟨H1,I1,q1⟩=>?_)
 cases d with
 | true=>exact ha pins s1 σ H1 D I1 q1
 | false=>exact hb pins s1 σ H1 D I1 q1
def Ai:TS:=fun _ _ _=>False
theorem xl:PS X st Ai:=fun _ _ _ _ _ _ h=>h.elim
end
abbrev TG:=V->St->Hp->(St->Hp->Prop)->Prop
abbrev pS:=List V->St->Hp->(St->Hp->Prop)->Prop
def PG (X:Cx) (target:Expr) (t:TG):Prop :=
 ∀ (pins:List (Addr × Obj)) (s:Shared) (σ : St) (H:Hp) (v:V) (u:Value) (Q:St->Hp->Prop),Inv X pins σ H s->RelV v u->t v σ H Q ->
  wpAny (model X.prog X.w) X.A (assign target X.env u) (fun _ s'=>∃ σ' H',Inv X pins σ' H' s'/\Q σ' H') X.xe s
def yN (X:Cx) (ts:List Expr) (t:pS):Prop :=
 ∀ (pins:List (Addr × Obj)) (s:Shared) (σ : St) (H:Hp) (vs:List V) (us:List Value) (Q:St->Hp->Prop),Inv X pins σ H s->Vals vs us->t vs σ H Q ->
  wpAny (model X.prog X.w) X.A (assignInOrder ((assignEach ts X.env).map (·.2)) us) (fun _ s'=>∃ σ' H',Inv X pins σ' H' s'/\Q σ' H') X.xe s
abbrev xm:=V->V->V->Hp->(Hp->Prop)->Prop
def xn (X:Cx) (t:xm):Prop :=
 ∀ (pins:List (Addr × Obj)) (s:Shared) (σ : St) (H:Hp) (o i v:V) (ov iv u:Value) (Q:Hp->Prop),Inv X pins σ H s->RelV o ov->RelV i iv->RelV v u->t o i v H Q ->
  wpAny (model X.prog X.w) X.A (setItem ov iv u) (fun _ s'=>∃ H',Inv X pins σ H' s'/\Q H') X.xe s
section
variable {X:Cx} {pos:Pos}
def qL (i:Nat):TG:=fun v σ H Q=>Q (σ.set i (some v)) H
theorem aC {i:Nat} {x:Str} (hN:X.N.Nodup) (hi:X.N[i]? = some x) (hx:Loc X.env.scope x) (hf:X.fn x=true\/X.env.scope.names.lookup x=some .local:=by first | exact .inl rfl | exact .inr rfl | assumption):PG X (.Name x pos) (qL i):=by
 intro pins s σ H v u Q I r h
 exact wpAny_assign_Name (jX I hN hi hx r (fun s' I'=>⟨_,H,I',h⟩) hf)
def Ce:pS:=fun vs σ H Q=>vs = []/\Q σ H
def Br (t:TG) (u:pS):pS:=fun vs σ H Q=>∃ v r,vs=v :: r/\t v σ H fun σ' H'=>u r σ' H' Q
theorem cE:yN X [] Ce:=by
 intro pins s σ H vs us Q I r h
 obtain⟨e,h⟩:=h
 subst e
 cases r
 exact assignInOrder_nil ⟨σ,H,I,h⟩
theorem aY {e:Expr} {es:List Expr} {t:TG} {u:pS} (h1:PG X e t) (h2:yN X es u)
  (hs:(assignEach (e :: es) X.env).map (·.2)=assign e X.env :: (assignEach es X.env).map (·.2):=by rfl):yN X (e :: es) (Br t u):=by
 intro pins s σ H vs us Q I r h
 obtain⟨v,vr,e1,h⟩:=h
 subst e1
 cases r with
 | cons r rr =>
  rw [hs]
  refine assignInOrder_cons (br (h1 pins s σ H _ _ _ I r h) fun _ s1 ⟨σ1,H1,I1,q1⟩=>?_)
  exact h2 pins s1 σ1 H1 _ _ Q I1 rr q1
def xo (K:PySem.W.Frag) (n:Nat) (t:pS):TG:=fun v σ H Q=>∃ a xs,v=.ref a/\ay K H a xs/\xs.length=n/\t xs σ H Q
theorem cT {es:List Expr} {k:Nat} {t:pS} {n:Nat} (hc:X.calm=true) (h:yN X es t)
  (hn:(assignEach es X.env).length=n:=by rfl) (hst:(assignEach es X.env).findIdx? (·.1)=none:=by rfl):PG X (.Tuple es k pos) (xo X.K n t):=by
 intro pins s σ H v u Q I r hw
 obtain⟨a,xs,e1,hq,hl,hw⟩:=hw
 subst e1
 cases r
 obtain⟨its,rv,ht,hz⟩:=I.tuple hq
 refine assign_Tuple_tuple (I.ok.hd hc) ht (by simp [hn,<-hl,rv.length]) hst fun h' hx=>?_
 have I1:Inv X pins σ H { s with heap:=h' }:=I.kept (t':=s.toks) fun b o e=>hx b o (Nat.ne_of_lt (Heap.lt_size e)) e
 exact h pins _ σ H xs _ Q I1 (by simpa using rv) hw
def Cf (to ti:TE) (t:xm):TG:=fun v σ H Q=>to σ H fun o H1=>ti σ H1 fun i H2=>t o i v H2 fun H3=>Q σ H3
theorem nQ {o i:Expr} {to ti:TE} {t:xm} (ho:PE X o to) (hi:PE X i ti) (hs:xn X t)
  (ha:∀ v,assign (.Subscript o i pos) X.env v=(do
   let ov <-holding [v] (eval o X.env)
   let iv <-holding [v,ov] (eval i X.env)
   standAt pos
   holding [v,ov,iv] (setItem ov iv v)
   release [v,ov,iv] []):=by intro _;rfl):PG X (.Subscript o i pos) (Cf to ti t):=by
 intro pins s σ H v u Q I r h
 rw [ha]
 refine wpAny_bind (wpAny_holding (br (ho pins s σ H _ I h) fun ov s1 ⟨x,H1,I1,r1,q1⟩=>?_))
 refine wpAny_bind (wpAny_holding (br (hi pins s1 σ H1 _ I1 q1) fun iv s2 ⟨y,H2,I2,r2,q2⟩=>?_))
 refine wpAny_bind (wpAny_standAt (wpAny_bind (wpAny_holding (br (hs pins s2 σ H2 x y v ov iv u _ I2 r1 r2 r q2) fun _ s3 ⟨H3,I3,q3⟩=>?_))))
 exact wpAny_release ⟨σ,H3,I3,q3⟩
def xp (te:TE) (g:TG):TS:=fun D σ H=>te σ H fun x H1=>g x σ H1 D.nx
theorem dA {tg e:Expr} {te:TE} {g:TG} (he:PE X e te) (hg:PG X tg g) (hs:swapsWithSole [tg] e pos.line X.env=pure false:=by rfl) (hw:swappedStores [tg] e X.env=pure none:=by rfl)
  (h1:(assignEach [tg] X.env).map (·.2) = [assign tg X.env]:=by rfl):PS X (.Assign [tg] e pos) (xp te g):=by
 intro pins s σ H D I h
 refine wpAny_Assign_stores (br (he pins s σ H _ I h) fun v s1 ⟨x,H1,I1,r1,q1⟩=>?_) hs hw
 rw [h1]
 exact br (hg pins s1 σ H1 x v _ I1 r1 q1) fun _ s2 q=>q
theorem aG {i:Nat} {x:Str} {e:Expr} {te:TE} {pos':Pos} (hN:X.N.Nodup) (hi:X.N[i]? = some x) (hx:Loc X.env.scope x) (he:PE X e te) (hs:swapsWith e (some (.Name x pos')) pos.line X.env=pure false:=by rfl) (hf:X.fn x=true\/X.env.scope.names.lookup x=some .local:=by first | exact .inl rfl | exact .inr rfl | assumption) :
  PS X (.Assign [.Name x pos'] e pos) (xp te (qL i)):=by
 intro pins s σ H D I h
 refine wpAny_Assign_Name (br (he pins s σ H _ I h) fun v s1 ⟨y,H1,I1,r1,q1⟩=>?_) hs
 exact jX I1 hN hi hx r1 (fun s2 I2=>⟨_,H1,I2,q1⟩) hf
def Cg (i j:Nat) (ta:TA):TS:=fun D σ H=>ta σ H fun vs H1=>∃ v w,vs = [v,w]/\D.nx ((σ.set i (some v)).set j (some w)) H1
theorem Aj {i j:Nat} {x y:Str} {a b:Expr} {ta:TA} {px py pt:Pos} {kt k2 pt2} (hc:X.calm=true) (hN:X.N.Nodup) (hi:X.N[i]? = some x) (hj:X.N[j]? = some y) (hij:i ≠ j)
  (hx:X.env.scope.names.lookup x=some .local) (hy:X.env.scope.names.lookup y=some .local) (ha:PA X [a,b] ta)
  (hw:swappedStores [.Tuple [.Name x px,.Name y py] kt pt] (.Tuple [a,b] k2 pt2) X.env=pure (some [x,y]))
  (hs:swapsWithSole [.Tuple [.Name x px,.Name y py] kt pt] (.Tuple [a,b] k2 pt2) pos.line X.env=pure false:=by rfl) :
  PS X (.Assign [.Tuple [.Name x px,.Name y py] kt pt] (.Tuple [a,b] k2 pt2) pos) (Cg i j ta):=by
 intro pins s σ H D I h
 rw [exec_Assign_arm]
 refine wpAny_bind (wpAny_standAt ?_)
 rw [hs]
 refine wpAny_bind (wpAny_pure ?_)
 rw [if_neg (by decide)]
 refine wpAny_bind (Tuple_ (br (ha _ pins s σ H _ I h) fun us s1 ⟨vs,H1,I1,r1,q1⟩=>?_))
 obtain⟨v,w,e1,q1⟩:=q1
 subst e1
 obtain⟨u1,u2,rfl,rv,rw'⟩:∃ u1 u2,us = [u1,u2]/\RelV v u1/\RelV w u2:=by
  cases r1 with
  | cons p q =>
   cases q with
   | cons p' q' =>
    cases q'
    exact⟨_,_,rfl,p,p'⟩
 refine wpAny_newObj_type ?_ (by show 2<=sizeLine;decide)
 have I2:Inv X pins σ H1 { s1 with heap:=s1.heap.push { cls:=.type "tuple",data:=.seq [u1,u2].toArray } }:=I1.kept (t':=s1.toks) fun b o e=>Heap.get?_push_of_some _ e
 rw [hw]
 refine wpAny_bind (wpAny_pure ?_)
 show wpAny (model X.prog X.w) X.A (do rule "assign.swapped-stores";let items <-unpackItems (.ref s1.heap.objs.size) 2 none;assignInOrder [fun v=>bindName X.env y v,fun v=>bindName X.env x v] items.reverse;pure Flow.next) _ _ _
 refine wpAny_bind (wpAny_rule (wpAny_bind (unpackItems_tuple (items:=#[u1,u2]) (I.ok.hd hc) (IsTup.new s1.heap _) fun h' hx'=>?_)))
 have I3:=I2.kept (h':=h') (t':=s1.toks) fun b o e=>hx' b o (Nat.ne_of_lt (Heap.lt_size e)) e
 show wpAny _ _ (assignInOrder [fun v=>bindName X.env y v,fun v=>bindName X.env x v] [u2,u1] >>= fun _=>pure Flow.next) _ _ _
 refine wpAny_bind (assignInOrder_cons (wpAny_bindName (jX I3 hN hj (.inl hy) rw' (fun s2 I4=>?_) (.inr hy))))
 refine assignInOrder_cons (wpAny_bindName (jX I4 hN hi (.inl hx) rv (fun s3 I5=>assignInOrder_nil (wpAny_pure ?_)) (.inr hx)))
 rw [List.set_comm _ _ (Ne.symm hij)] at I5
 exact⟨_,H1,I5,q1⟩
end
section
variable {X:Cx} {pos:Pos}
def Ak (c:TT) (tb:TS):TS:=fun D σ H=>∃ W:Nat->St->Hp->Prop,(∃ m,W m σ H)/\∀ m σ H,W m σ H ->
 c σ H fun b H1=>if b=true then ∃ N:St->Hp->Prop,(∀ σ' H',N σ' H'->∃ m',m' < m/\W m' σ' H')/\tb { D with nx:=N,ct:=N,bk:=D.nx } σ H1 else D.nx σ H1
theorem jY {c:Expr} {body:List Stmt} {tc:TT} {tb:TS} (hp:PassesOwn (model X.prog X.w) X.A X.env X.xe) (hc:PT X c tc) (hb:jb X body tb):PS X (.While c body [] pos) (Ak tc tb):=by
 intro pins s σ H D I h
 obtain⟨W,⟨m0,w0⟩,turn⟩:=h
 refine wpAny_While (codeAny_whileLoop (fun n s'=>∃ σ' H',Inv X pins σ' H' s'/\W n σ' H') ?_ m0 ⟨σ,H,I,w0⟩)
 rintro n s1 ⟨σ1,H1,I1,w1⟩
 refine wpAny_passesOwn hp (br (hc pins s1 σ1 H1 _ I1 (turn n σ1 H1 w1)) fun b s2 ⟨H2,I2,q2⟩=>?_)
 cases b with
 | true =>
  obtain⟨N,hN,q2⟩:=q2
  rw [if_pos rfl]
  refine wpAny_passesOwn hp (br (hb pins s2 σ1 H2 _ I2 q2) fun f s3 q3=>?_)
  cases f with
  | next =>
   obtain⟨σ3,H3,I3,n3⟩:=q3
   obtain⟨m',hm,w3⟩:=hN σ3 H3 n3
   exact⟨m',hm,σ3,H3,I3,w3⟩
  | cont =>
   obtain⟨σ3,H3,I3,n3⟩:=q3
   obtain⟨m',hm,w3⟩:=hN σ3 H3 n3
   exact⟨m',hm,σ3,H3,I3,w3⟩
  | brk=>exact q3
  | ret v=>exact q3
 | false =>
  rw [if_neg Bool.false_ne_true]
  exact wpAny_execs_nil ⟨σ1,H2,I2,q2⟩
end
structure It where
 go:Nat->Hp->Prop
 tU:Nat->Hp->V->Hp->Prop
 stop:Nat->Hp->Prop
def jc (X:Cx) (pins:List (Addr × Obj)) (H:Hp) (b:Addr):Prop :=
 H b=none/\b ≠ X.env.locals/\b ∉ X.fs/\(b ∈ X.ex\/X.dD.heap.objs.size<=b)/\(∀ x c,X.env.cells.lookup x=some c->c ≠ b)/\∀ p ∈ X.pn++pins,p.1 ≠ b
theorem Inv.m6 {X:Cx} {pins:List (Addr × Obj)} {σ : St} {H H':Hp} {s:Shared} {b:Addr} (I:Inv X pins σ H s) (hb:s.heap.objs.size<=b) (hn:H' b=none):jc X pins H' b:=by
 refine⟨hn,Nat.ne_of_gt (Nat.lt_of_lt_of_le I.lt hb),I.BY hb,.inr (Nat.le_trans I.sz hb),fun x c e z=>?_,fun p hp z=>?_⟩
 ·obtain⟨v,q⟩:=I.cell x c e
  exact absurd (Nat.lt_of_lt_of_le q.lt (by rw [z];exact hb)) (Nat.lt_irrefl _)
 ·exact absurd (Nat.lt_of_lt_of_le (Heap.lt_size (I.pin p hp).1) (by rw [z];exact hb)) (Nat.lt_irrefl _)
structure Turn (P:Program) (w:World) (K:PySem.W.Frag) (tg:Expr) (J:It) (fp:List Addr) (it:Addr) (tn:Nat->Heap->Prop):Prop where
 mem:it ∈ fp
 obj:∀ i h,tn i h->∀ b ∈ fp,∃ o,h.get? b=some o/\∀ v,o.data ≠ .cell v
 keep:∀ i h h',tn i h->(∀ b ∈ fp,∀ o,h.get? b=some o->h'.get? b=some o)->tn i h'
 item:∀ (X:Cx),X.prog=P->X.w=w->X.K=K->X.calm=true->∀ (i:Nat) (pins:List (Addr × Obj)) (s:Shared) (σ : St) (H:Hp) (E:Value->Shared->Prop),Inv X pins σ H s->(∀ b ∈ fp,jc X pins H b)->tn i s.heap->J.go i H ->
  wpAny (model P w) X.A (pyNext (.ref it)) (fun r s1=>∃ u,r=some u /\
   wpAny (model P w) X.A (letOwnedTupleGo tg (.ref it) u) (fun _ s2=>∃ x H',Inv X pins σ H' s2/\RelV x u/\J.tU i H x H'/\tn (i+1) s2.heap/\∀ b ∈ fp,H' b=none) E s1) E s
 done:∀ (X:Cx),X.prog=P->X.w=w->X.K=K->X.calm=true->∀ (i:Nat) (pins:List (Addr × Obj)) (s:Shared) (σ : St) (H:Hp) (E:Value->Shared->Prop),Inv X pins σ H s->(∀ b ∈ fp,jc X pins H b)->tn i s.heap->J.stop i H ->
  wpAny (model P w) X.A (pyNext (.ref it)) (fun r s1=>r=none/\Inv X pins σ H s1) E s
 self:∀ (A:Around) (i:Nat) (s:Shared) (Q:Value->Shared->Prop) (E:Value->Shared->Prop),tn i s.heap->Q (.ref it) s->wpAny (model P w) A (pyIter (.ref it)) Q E s
abbrev TI:=St->Hp->(It->Hp->Prop)->Prop
def BM (X:Cx) (pins:List (Addr × Obj)) (σ : St) (tg:Expr) (R:It->Hp->Prop) (itv:Value) (s2:Shared):Prop :=
 ∃ (it:Addr) (fp:List Addr) (tn:Nat->Heap->Prop) (J:It) (H':Hp),itv=.ref it/\Inv X pins σ H' s2/\Turn X.prog X.w X.K tg J fp it tn/\tn 0 s2.heap/\(∀ b ∈ fp,jc X pins H' b)/\R J H'
def PI (X:Cx) (tg iter:Expr) (wi:TI):Prop :=
 ∀ (pins:List (Addr × Obj)) (s:Shared) (σ : St) (H:Hp) (R:It->Hp->Prop),Inv X pins σ H s->wi σ H R ->
  wpAny (model X.prog X.w) X.A (eval iter X.env) (fun v s1=>wpAny (model X.prog X.w) X.A (pyIter v) (BM X pins σ tg R) X.xe s1) X.xe s
theorem qM {M:Model} {A:Around} {E:Value->Shared->Prop} {s:Shared} {tg:Expr} {it:Addr} {u:Value} {o:Obj} {n:String} {vs:Array Value} {Q:Unit->Shared->Prop} (ho:s.heap.get? it=some o) (hc:o.cls=.type n) (hd:o.data=.fields vs)
    (hn:["enumerate", "zip", "dict_itemiterator", "dict_reverseitemiterator", "odict_iterator", "itertools.zip_longest", "itertools.pairwise"].contains n=false) (hQ:Q () s):wpAny M A (letOwnedTupleGo tg (.ref it) u) Q E s:=by
  unfold letOwnedTupleGo
  cases tg <;> first
    | exact wpAny_pure hQ
    | (cases u <;> first
        | exact wpAny_pure hQ
        | (refine wpAny_bind (wpAny_load ho ?_)
           rw [hc,hd]
           show wpAny M A (if (["enumerate", "zip", "dict_itemiterator", "dict_reverseitemiterator", "odict_iterator", "itertools.zip_longest", "itertools.pairwise"].contains n && vs[0]? == some (rawInt _))=true then _ else _) Q E s
           rw [if_neg (by intro h;rw [hn,Bool.false_and] at h;cases h)]
           exact wpAny_pure hQ))
def tV (K:PySem.W.Frag) (a:Addr):It :=
 ⟨fun i H=>∃ xs x,aI K H a xs/\xs[i]? = some x,fun i H x H'=>H' = H/\∀ xs,aI K H a xs->xs[i]? = some x,fun i H=>∃ xs,aI K H a xs/\xs.length<=i⟩
def tW (K:PySem.W.Frag) (a:Addr):It :=
 ⟨fun i H=>∃ xs x,ay K H a xs/\xs[i]? = some x,fun i H x H'=>H' = H/\∀ xs,ay K H a xs->xs[i]? = some x,fun i H=>∃ xs,ay K H a xs/\xs.length<=i⟩
def rh (lo:Int) (n:Nat):It:=⟨fun i _=>i < n,fun i H x H'=>H' = H/\x=.int (lo+i),fun i _=>n<=i⟩
theorem vH {P:Program} {w:World} {K:PySem.W.Frag} {tg:Expr} (a it:Addr):Turn P w K tg (tV K a) [it] it (fun i h=>h.IsListIter it a i) where
 mem:=by simp
 obj:=fun i h st b hb=>by
  have e:b=it:=by simpa using hb
  subst e
  obtain⟨o,e,c,d⟩:=st
  exact⟨o,e,fun v z=>by rw [d] at z;cases z⟩
 keep:=fun i h h' st k=>st.at fun o e=>k it (by simp) o e
 item:=by
  intro X hP hw hK hc i pins s σ H E I hf st hg
  subst hP hw hK
  obtain⟨xs,x,hq,hx⟩:=hg
  obtain⟨its,rv,p,hz⟩:=I.list hq
  obtain⟨u,hu,ru⟩:=rv.get hx
  obtain⟨f0,f1,f2,f3,f4,f5⟩:=hf it (by simp)
  refine wpAny_pyNext_list_item st p.isList (x:=u) (by simpa using hu) fun h' st' sb=>?_
  have I1:Inv X pins σ H { s with heap:=h' }:=I.turned (t':=s.toks) (fun b o hb e=>(sb.2 b hb).trans e) f0 f1 f3 f4 f5
  obtain⟨o,e,c,d⟩:=id st'
  exact⟨u,rfl,qM (s:={ s with heap:=h' }) e c d (by decide) ⟨x,H,I1,ru,⟨rfl,fun ys hy=>by rw [I.xk hy hq];exact hx⟩,st',fun b hb=>(hf b hb).1⟩⟩
 done:=by
  intro X hP hw hK hc i pins s σ H E I hf st hg
  subst hP hw hK
  obtain⟨xs,hq,hx⟩:=hg
  obtain⟨its,rv,p,hz⟩:=I.list hq
  obtain⟨f0,f1,f2,f3,f4,f5⟩:=hf it (by simp)
  have hl:=rv.length
  exact wpAny_pyNext_list_end (I.ok.hd hc) st p.isList (by simp;omega) fun h' eb=>⟨rfl,I.turned (t':=s.toks) (fun b o hb e=>eb b o hb e) f0 f1 f3 f4 f5⟩
 self:=fun _ _ _ _ _ st h=>wpAny_pyIter_listiter st h
theorem uA {P:Program} {w:World} {K:PySem.W.Frag} {tg:Expr} (a it:Addr):Turn P w K tg (tW K a) [it] it (fun i h=>h.IsTupleIter it a i) where
 mem:=by simp
 obj:=fun i h st b hb=>by
  have e:b=it:=by simpa using hb
  subst e
  obtain⟨o,e,c,d⟩:=st
  exact⟨o,e,fun v z=>by rw [d] at z;cases z⟩
 keep:=fun i h h' st k=>st.at fun o e=>k it (by simp) o e
 item:=by
  intro X hP hw hK hc i pins s σ H E I hf st hg
  subst hP hw hK
  obtain⟨xs,x,hq,hx⟩:=hg
  obtain⟨its,rv,p,hz⟩:=I.tuple hq
  obtain⟨u,hu,ru⟩:=rv.get hx
  obtain⟨f0,f1,f2,f3,f4,f5⟩:=hf it (by simp)
  refine wpAny_pyNext_tuple_item st (show s.heap.IsTuple a its.toArray from p) (x:=u) (by simpa using hu) fun h' st' sb=>?_
  have I1:Inv X pins σ H { s with heap:=h' }:=I.turned (t':=s.toks) (fun b o hb e=>(sb.2 b hb).trans e) f0 f1 f3 f4 f5
  obtain⟨o,e,c,d⟩:=id st'
  exact⟨u,rfl,qM (s:={ s with heap:=h' }) e c d (by decide) ⟨x,H,I1,ru,⟨rfl,fun ys hy=>by rw [I.kO hy hq];exact hx⟩,st',fun b hb=>(hf b hb).1⟩⟩
 done:=by
  intro X hP hw hK hc i pins s σ H E I hf st hg
  subst hP hw hK
  obtain⟨xs,hq,hx⟩:=hg
  obtain⟨its,rv,p,hz⟩:=I.tuple hq
  obtain⟨f0,f1,f2,f3,f4,f5⟩:=hf it (by simp)
  have hl:=rv.length
  exact wpAny_pyNext_tuple_end (I.ok.hd hc) st (show s.heap.IsTuple a its.toArray from p) (by simp;omega) fun h' eb=>⟨rfl,I.turned (t':=s.toks) (fun b o hb e=>eb b o hb e) f0 f1 f3 f4 f5⟩
 self:=fun _ _ _ _ _ st h=>wpAny_pyIter_tupleiter st h
theorem uB {P:Program} {w:World} {K:PySem.W.Frag} {tg:Expr} (it:Addr) (lo:Int) (n:Nat):Turn P w K tg (rh lo n) [it] it (fun i h=>IsRangeIter h it (lo+(i:Nat) * 1) ((n:Int) - (i:Nat)) 1) where
 mem:=by simp
 obj:=fun i h st b hb=>by
  have e:b=it:=by simpa using hb
  subst e
  exact⟨_,st,fun v z=>by
   have z':Data.fields _=Data.cell v:=z
   cases z'⟩
 keep:=fun i h h' st k=>k it (by simp) _ st
 item:=by
  intro X hP hw hK hc i pins s σ H E I hf st hg
  subst hP hw hK
  obtain⟨f0,f1,f2,f3,f4,f5⟩:=hf it (by simp)
  have W:=Walks.range (prog:=X.prog) (w:=X.w) (I.ok.hd hc) it lo 1 n
  refine W.item i s _ _ hg st fun v h' tk hv st' kk=>?_
  obtain⟨t,rfl⟩:=hv
  have I1:Inv X pins σ H { s with heap:=h',toks:=tk }:=I.turned (fun b o hb e=>kk b o (by simpa using hb) e) f0 f1 f3 f4 f5
  refine⟨_,rfl,qM (s:={ s with heap:=h',toks:=tk }) (n := "range_iterator") st' rfl rfl (by decide) ⟨.int (lo+i),H,I1,⟨t,?_⟩,⟨rfl,rfl⟩,st',fun b hb=>(hf b hb).1⟩⟩
  rw [Int.mul_one]
 done:=by
  intro X hP hw hK hc i pins s σ H E I hf st hg
  subst hP hw hK
  obtain⟨f0,f1,f2,f3,f4,f5⟩:=hf it (by simp)
  exact wpAny_pyNext_range_end (I.ok.hd hc) st (by have:n<=i:=hg;omega) fun h' eb=>⟨rfl,I.turned (t':=s.toks) (fun b o hb e=>eb b o hb e) f0 f1 f3 f4 f5⟩
 self:=fun _ _ _ _ _ st h=>wpAny_pyIter_rangeiter st h
section
variable {X:Cx} {tg:Expr}
def Bs (K:PySem.W.Frag) (tl:TE):TI:=fun σ H R=>tl σ H fun x H1=>∃ a,x=.ref a/\(∃ xs,aI K H1 a xs)/\R (tV K a) H1
def Ci (K:PySem.W.Frag) (tl:TE):TI:=fun σ H R=>tl σ H fun x H1=>∃ a,x=.ref a/\(∃ xs,ay K H1 a xs)/\R (tW K a) H1
theorem fq {l:Expr} {tl:TE} (hl:PE X l tl):PI X tg l (Bs X.K tl):=by
 intro pins s σ H R I h
 refine br (hl pins s σ H _ I h) fun v s1 ⟨x,H1,I1,r1,q1⟩=>?_
 obtain⟨a,e,⟨xs,hq⟩,q⟩:=q1
 subst e
 cases r1
 obtain⟨its,rv,p,hz⟩:=I1.list hq
 refine wpAny_pyIter_list p.isList ?_
 refine⟨s1.heap.objs.size,[s1.heap.objs.size],_,_,H1,rfl,I1.kept (t':=s1.toks) fun b o e=>Heap.get?_push_of_some _ e,vH a _,⟨_,Heap.get?_push_size _ rfl,rfl,rfl⟩,fun b hb=>?_,q⟩
 have e:b=s1.heap.objs.size:=by simpa using hb
 subst e
 exact I1.m6 (Nat.le_refl _) (I1.aN.fresh (Nat.le_refl _))
theorem eu {l:Expr} {tl:TE} (hl:PE X l tl):PI X tg l (Ci X.K tl):=by
 intro pins s σ H R I h
 refine br (hl pins s σ H _ I h) fun v s1 ⟨x,H1,I1,r1,q1⟩=>?_
 obtain⟨a,e,⟨xs,hq⟩,q⟩:=q1
 subst e
 cases r1
 obtain⟨its,rv,p,hz⟩:=I1.tuple hq
 refine wpAny_pyIter_tuple (show s1.heap.IsTuple a its.toArray from p) ?_
 refine⟨s1.heap.objs.size,[s1.heap.objs.size],_,_,H1,rfl,I1.kept (t':=s1.toks) fun b o e=>Heap.get?_push_of_some _ e,uA a _,⟨_,Heap.get?_push_size _ rfl,rfl,rfl⟩,fun b hb=>?_,q⟩
 have e:b=s1.heap.objs.size:=by simpa using hb
 subst e
 exact I1.m6 (Nat.le_refl _) (I1.aN.fresh (Nat.le_refl _))
theorem xq {pins:List (Addr × Obj)} {σ : St} {H:Hp} {s:Shared} {R:It->Hp->Prop} {E:Value->Shared->Prop} {lo hi:Int} {t u v:Tok} {tk:Nat} (I:Inv X pins σ H s) (h1:-(2 ^ 62)<=lo) (h2:lo < 2 ^ 62) (h3:-(2 ^ 62)<=hi) (h4:hi < 2 ^ 62)
  (q:R (rh lo (hi - lo).toNat) H):wpAny (model X.prog X.w) X.A (pyIter (.ref s.heap.objs.size)) (BM X pins σ tg R) E { s with heap:=s.heap.push { cls:=.type "range",data:=.fields #[.int lo t,.int hi u,.int 1 v] },toks:=tk }:=by
 refine wpAny_pyIter_range (IsRange.new ..) (small_one h1 h2 h3 h4) ?_
 have I1:Inv X pins σ H { s with heap:=s.heap.push { cls:=.type "range",data:=.fields #[.int lo t,.int hi u,.int 1 v] },toks:=tk }:=I.kept fun b o e=>Heap.get?_push_of_some _ e
 refine⟨(s.heap.push { cls:=.type "range",data:=.fields #[.int lo t,.int hi u,.int 1 v] }).objs.size,[(s.heap.push { cls:=.type "range",data:=.fields #[.int lo t,.int hi u,.int 1 v] }).objs.size],_,_,H,rfl,
  I1.kept (t':=tk) fun b o e=>Heap.get?_push_of_some _ e,uB _ lo (hi - lo).toNat,?_,fun b hb=>?_,q⟩
 ·have e1:lo+((0:Nat):Int) * 1=lo:=by simp
  have e2:(((hi - lo).toNat:Nat):Int) - ((0:Nat):Int)=Builtin.Range.rangeSize lo hi 1:=by rw [rangeSize_one];split <;> omega
  show IsRangeIter _ _ (lo+((0:Nat):Int) * 1) ((((hi - lo).toNat:Nat):Int) - ((0:Nat):Int)) 1
  rw [e1,e2]
  exact Heap.get?_push_size _ rfl
 ·have e:b=(s.heap.push { cls:=.type "range",data:=.fields #[.int lo t,.int hi u,.int 1 v] }).objs.size:=by simpa using hb
  subst e
  exact I1.m6 (Nat.le_refl _) (I1.aN.fresh (Nat.le_refl _))
def Bt (ta:TA):TI:=fun σ H R=>ta σ H fun vs H1=>∃ j:Int,vs = [.int j]/\-(2 ^ 62)<=j/\j < 2 ^ 62/\R (rh 0 j.toNat) H1
theorem fH {a:Expr} {ta:TA} {p pos:Pos} (hg:Gl X "range") (hm:X.mg "range" = none) (ha:PA X [a] ta) (hs:starEach [a] X.env = [(false,eval a X.env)]:=by rfl):PI X tg (.Call (.Name "range" p) [a] [] pos) (Bt ta):=by
 intro pins s σ H R I h
 refine Call_ (kM I hg hm boot_range (PyProof.Rows.callWith_type1 (br (ha pos pins s σ H _ I h) fun us s1 ⟨vs,H1,I1,r1,q1⟩=>?_) hs rfl))
 obtain⟨j,e,q1,q2,q⟩:=q1
 subst e
 cases r1 with
 | cons r rr =>
  cases rr
  obtain⟨t,rfl⟩:=r
  exact call_range_1 (xq I1 (by omega) (by omega) q1 q2 (by simpa using q))
def Cj (wi:TI) (g:TG) (tb:TS):TS:=fun D σ H=>wi σ H fun J H1=>∃ W:Nat->Nat->St->Hp->Prop,(∃ m,W 0 m σ H1)/\∀ i m σ H,W i m σ H ->
 (J.stop i H/\D.nx σ H)\/(J.go i H/\∃ N:St->Hp->Prop,(∀ σ' H',N σ' H'->∃ m',m' < m/\W (i+1) m' σ' H')/\∀ x H',J.tU i H x H'->g x σ H' fun σ2 H2=>tb { D with nx:=N,ct:=N,bk:=D.nx } σ2 H2)
def kP (fp:List Addr) (h:Heap):List (Addr × Obj):=fp.filterMap fun b=>(h.get? b).map fun o=>(b,o)
theorem iU {fp:List Addr} {h:Heap} {b:Addr} {o:Obj} (hb:b ∈ fp) (e:h.get? b=some o):(b,o) ∈ kP fp h:=List.mem_filterMap.mpr ⟨b,hb,by rw [e];rfl⟩
theorem vI {fp:List Addr} {h:Heap} {p:Addr × Obj} (hp:p ∈ kP fp h):p.1 ∈ fp/\h.get? p.1=some p.2:=by
 obtain⟨b,hb,e⟩:=List.mem_filterMap.mp hp
 cases q:h.get? b with
 | none=>rw [q] at e;cases e
 | some o =>
  rw [q] at e
  have e':(b,o)=p:=Option.some.inj e
  subst e'
  exact⟨hb,q⟩
theorem Inv.pinned {pins:List (Addr × Obj)} {σ : St} {H:Hp} {s:Shared} {fp:List Addr} (I:Inv X pins σ H s) (hf:∀ b ∈ fp,jc X pins H b) (ho:∀ b ∈ fp,∃ o,s.heap.get? b=some o/\∀ v,o.data ≠ .cell v):Inv X (pins++kP fp s.heap) σ H s :=
 I.tS fun p hp=>(List.mem_append.mp hp).elim (fun z=>I.pin p (List.mem_append_right _ z)) fun z=>by
  obtain⟨hb,e⟩:=vI z
  obtain⟨f0,f1,f2,_⟩:=hf p.1 hb
  obtain⟨o,e',d⟩:=ho p.1 hb
  rw [e] at e';cases e'
  exact⟨e,f0,f1,f2,d⟩
theorem Inv.jd {pins pl:List (Addr × Obj)} {σ : St} {H:Hp} {s:Shared} (I:Inv X (pins++pl) σ H s):Inv X pins σ H s:=I.tS fun p hp=>I.pin p (List.mem_append_right _ (List.mem_append_left _ hp))
theorem cO {iter:Expr} {body:List Stmt} {wi:TI} {g:TG} {tb:TS} {pos:Pos} (hp:PassesOwn (model X.prog X.w) X.A X.env X.xe) (hc:X.calm=true) (hi:PI X tg iter wi) (hg:PG X tg g) (hb:jb X body tb)
  (hs:∀ x,foldedSetIterable iter X.env x=pure x:=by intro _;rfl):PS X (.For tg iter body [] pos) (Cj wi g tb):=by
 intro pins s σ H D I h
 refine wpAny_For (br (hi pins s σ H _ I h) fun v s1 h1=>br h1 fun itv s2 h2=>?_) hs
 obtain⟨it,fp,tn,J,H2,e,I2,T,st2,f2,W,⟨m0,w0⟩,turn⟩:=h2
 subst e
 have stat:∀ {H':Hp},(∀ b ∈ fp,H' b=none)->∀ b ∈ fp,jc X pins H' b:=fun hn b hb=>⟨hn b hb,(f2 b hb).2⟩
 refine codeAny_forLoop_any (fun n s'=>∃ i σ' H',Inv X pins σ' H' s'/\tn i s'.heap/\(∀ b ∈ fp,H' b=none)/\W i n σ' H') ?_ m0 ⟨0,σ,H2,I2,st2,fun b hb=>(f2 b hb).1,w0⟩
 rintro n s3 ⟨i,σ3,H3,I3,st3,fr3,w3⟩
 rcases turn i n σ3 H3 w3 with ⟨stop,qn⟩ | ⟨go,N,hN,step⟩
 ·refine wpAny_passesOwn hp (br (T.done X rfl rfl rfl hc i pins s3 σ3 H3 X.xe I3 (stat fr3) st3 stop) fun r s4 ⟨hr,I4⟩=>?_)
  subst hr
  exact wpAny_execs_nil ⟨σ3,H3,I4,qn⟩
 ·refine wpAny_passesOwn hp (br (T.item X rfl rfl rfl hc i pins s3 σ3 H3 X.xe I3 (stat fr3) st3 go) fun r s4 ⟨u,hr,h4⟩=>?_)
  subst hr
  refine wpAny_passesOwn hp (br h4 fun _ s5 ⟨x,H5,I5,r5,y5,st5,fr5⟩=>?_)
  have I5':=I5.pinned (stat fr5) (T.obj _ _ st5)
  refine wpAny_passesOwn hp (br (hg _ s5 σ3 H5 x u _ I5' r5 (step x H5 y5)) fun _ s6 ⟨σ6,H6,I6,q6⟩=>?_)
  refine wpAny_passesOwn hp (br (hb _ s6 σ6 H6 _ I6 q6) fun f s7 q7=>?_)
  have again:∀ {σ7:St} {H7:Hp},Inv X (pins++kP fp s5.heap) σ7 H7 s7->N σ7 H7->∃ m,m < n/\∃ i σ' H',Inv X pins σ' H' s7/\tn i s7.heap/\(∀ b ∈ fp,H' b=none)/\W i m σ' H':=fun {σ7 H7} I7 n7=>by
   obtain⟨m',hm,w7⟩:=hN σ7 H7 n7
   refine⟨m',hm,i+1,σ7,H7,I7.jd,T.keep _ _ _ st5 fun b hb o e=>(I7.pin (b,o) (List.mem_append_right _ (List.mem_append_right _ (iU hb e)))).1,fun b hb=>?_,w7⟩
   obtain⟨o,e,d⟩:=T.obj _ _ st5 b hb
   exact (I7.pin (b,o) (List.mem_append_right _ (List.mem_append_right _ (iU hb e)))).2.1
  cases f with
  | next=>obtain⟨σ7,H7,I7,n7⟩:=q7;exact again I7 n7
  | cont=>obtain⟨σ7,H7,I7,n7⟩:=q7;exact again I7 n7
  | brk=>obtain⟨σ7,H7,I7,q7⟩:=q7;exact⟨σ7,H7,I7.jd,q7⟩
  | ret v=>obtain⟨x7,σ7,H7,I7,r7,q7⟩:=q7;exact⟨x7,σ7,H7,I7.jd,r7,q7⟩
end
theorem hZ {K:PySem.W.Frag} {a:Addr} {xs:List V} {g:TG} {tb:TS} {D:Ends} {σ : St} {H:Hp} (Pv:Nat->St->Hp->Prop) (h0:Pv 0 σ H) (hl:∀ i σ H,i<=xs.length->Pv i σ H->aI K H a xs)
  (hs:∀ i x σ H,xs[i]? = some x->Pv i σ H->g x σ H fun σ2 H2=>tb { D with nx:=Pv (i+1),ct:=Pv (i+1),bk:=D.nx } σ2 H2) (hd:∀ σ H,Pv xs.length σ H->D.nx σ H) :
  ∃ W:Nat->Nat->St->Hp->Prop,(∃ m,W 0 m σ H)/\∀ i m σ H,W i m σ H ->
   ((tV K a).stop i H/\D.nx σ H)\/((tV K a).go i H/\∃ N:St->Hp->Prop,(∀ σ' H',N σ' H'->∃ m',m' < m/\W (i+1) m' σ' H')/\∀ x H',(tV K a).tU i H x H'->g x σ H' fun σ2 H2=>tb { D with nx:=N,ct:=N,bk:=D.nx } σ2 H2):=by
 refine⟨fun i m σ H=>m=xs.length - i/\i<=xs.length/\Pv i σ H,⟨xs.length,by simp,Nat.zero_le _,h0⟩,?_⟩
 rintro i m σ H ⟨rfl,hi,p⟩
 have q:=hl i σ H hi p
 by_cases hlt:i < xs.length
 ·refine .inr ⟨⟨xs,xs[i],q,by simp [hlt]⟩,Pv (i+1),fun σ' H' p'=>⟨xs.length - (i+1),by omega,rfl,hlt,p'⟩,fun x H' y=>?_⟩
  obtain⟨e,y⟩:=y
  subst e
  exact hs i x σ _ (y xs q) p
 ·have e:i=xs.length:=by omega
  subst e
  exact .inl ⟨⟨xs,q,Nat.le_refl _⟩,hd σ H p⟩
theorem ft {K:PySem.W.Frag} {a:Addr} {xs:List V} {g:TG} {tb:TS} {D:Ends} {σ : St} {H:Hp} (Pv:Nat->St->Hp->Prop) (h0:Pv 0 σ H) (hl:∀ i σ H,i<=xs.length->Pv i σ H->ay K H a xs)
  (hs:∀ i x σ H,xs[i]? = some x->Pv i σ H->g x σ H fun σ2 H2=>tb { D with nx:=Pv (i+1),ct:=Pv (i+1),bk:=D.nx } σ2 H2) (hd:∀ σ H,Pv xs.length σ H->D.nx σ H) :
  ∃ W:Nat->Nat->St->Hp->Prop,(∃ m,W 0 m σ H)/\∀ i m σ H,W i m σ H ->
   ((tW K a).stop i H/\D.nx σ H)\/((tW K a).go i H/\∃ N:St->Hp->Prop,(∀ σ' H',N σ' H'->∃ m',m' < m/\W (i+1) m' σ' H')/\∀ x H',(tW K a).tU i H x H'->g x σ H' fun σ2 H2=>tb { D with nx:=N,ct:=N,bk:=D.nx } σ2 H2):=by
 refine⟨fun i m σ H=>m=xs.length - i/\i<=xs.length/\Pv i σ H,⟨xs.length,by simp,Nat.zero_le _,h0⟩,?_⟩
 rintro i m σ H ⟨rfl,hi,p⟩
 have q:=hl i σ H hi p
 by_cases hlt:i < xs.length
 ·refine .inr ⟨⟨xs,xs[i],q,by simp [hlt]⟩,Pv (i+1),fun σ' H' p'=>⟨xs.length - (i+1),by omega,rfl,hlt,p'⟩,fun x H' y=>?_⟩
  obtain⟨e,y⟩:=y
  subst e
  exact hs i x σ _ (y xs q) p
 ·have e:i=xs.length:=by omega
  subst e
  exact .inl ⟨⟨xs,q,Nat.le_refl _⟩,hd σ H p⟩
theorem kQ {lo:Int} {n:Nat} {g:TG} {tb:TS} {D:Ends} {σ : St} {H:Hp} (Pv:Nat->St->Hp->Prop) (h0:Pv 0 σ H)
  (hs:∀ i σ H,i < n->Pv i σ H->g (.int (lo+i)) σ H fun σ2 H2=>tb { D with nx:=Pv (i+1),ct:=Pv (i+1),bk:=D.nx } σ2 H2) (hd:∀ σ H,Pv n σ H->D.nx σ H) :
  ∃ W:Nat->Nat->St->Hp->Prop,(∃ m,W 0 m σ H)/\∀ i m σ H,W i m σ H ->
   ((rh lo n).stop i H/\D.nx σ H)\/((rh lo n).go i H/\∃ N:St->Hp->Prop,(∀ σ' H',N σ' H'->∃ m',m' < m/\W (i+1) m' σ' H')/\∀ x H',(rh lo n).tU i H x H'->g x σ H' fun σ2 H2=>tb { D with nx:=N,ct:=N,bk:=D.nx } σ2 H2):=by
 refine⟨fun i m σ H=>m=n - i/\i<=n/\Pv i σ H,⟨n,by simp,Nat.zero_le _,h0⟩,?_⟩
 rintro i m σ H ⟨rfl,hi,p⟩
 by_cases hlt:i < n
 ·refine .inr ⟨hlt,Pv (i+1),fun σ' H' p'=>⟨n - (i+1),by omega,rfl,hlt,p'⟩,fun x H' y=>?_⟩
  obtain⟨e,y⟩:=y
  subst e y
  exact hs i σ _ hlt p
 ·have e:i=n:=by omega
  subst e
  exact .inl ⟨Nat.le_refl _,hd σ H p⟩
abbrev R2:=V->V->Hp->VK->Prop
def dY (X:Cx) (f:Value->Value->Sem Value) (r:R2):Prop :=
 ∀ (pins:List (Addr × Obj)) (s:Shared) (σ : St) (H:Hp) (x y:V) (v u:Value) (Q:VK),Inv X pins σ H s->RelV x v->RelV y u->r x y H Q ->
  wpAny (model X.prog X.w) X.A (f v u) (EP X pins σ Q) X.xe s
def Al (X:Cx) (f:Value->Sem Value) (r:V->Hp->VK->Prop):Prop :=
 ∀ (pins:List (Addr × Obj)) (s:Shared) (σ : St) (H:Hp) (x:V) (v:Value) (Q:VK),Inv X pins σ H s->RelV x v->r x H Q ->
  wpAny (model X.prog X.w) X.A (f v) (EP X pins σ Q) X.xe s
def dX (X:Cx) (f:Value) (r:List V->Hp->VK->Prop):Prop :=
 ∀ (pins:List (Addr × Obj)) (s:Shared) (σ : St) (H:Hp) (xs:List V) (us:List Value) (Q:VK),Inv X pins σ H s->Vals xs us->r xs H Q ->
  wpAny (model X.prog X.w) X.A (call f us) (EP X pins σ Q) X.xe s
def Ck (X:Cx) (r:V->Hp->(Bool->Hp->Prop)->Prop):Prop :=
 ∀ (pins:List (Addr × Obj)) (s:Shared) (σ : St) (H:Hp) (x:V) (v:Value) (Q:Bool->Hp->Prop),Inv X pins σ H s->RelV x v->r x H Q ->
  wpAny (model X.prog X.w) X.A (truthy v) (TP X pins σ Q) X.xe s
def yO (r:R2) (ta tb:TE):TE:=fun σ H Q=>ta σ H fun x H1=>tb σ H1 fun y H2=>r x y H2 Q
def CJ (r:V->Hp->VK->Prop) (ta:TE):TE:=fun σ H Q=>ta σ H fun x H1=>r x H1 Q
def rI (C:Int->Int->Prop) (g:Int->Int->V):R2:=fun x y H Q=>∃ i j,x=.int i/\y=.int j/\C i j/\Q (g i j) H
def pT (g:Int->Int->V):R2:=fun x y H Q=>∃ i j,x=.int i/\y=.int j/\Q (g i j) H
def rU (g:Int->V):V->Hp->VK->Prop:=fun x H Q=>∃ i,x=.int i/\Q (g i) H
section
variable {X:Cx} {a b c:Expr} {ta tb tc:TE} {pos:Pos}
theorem xr (ha:PE X a ta) (hb:PE X b tb) {pins:List (Addr × Obj)} {s:Shared} {σ : St} {H:Hp} {R:V->V->Hp->Prop} (I:Inv X pins σ H s)
  (h:ta σ H fun x H1=>tb σ H1 fun y H2=>R x y H2) {Q:Value->Shared->Prop} {f:Value->Value->Sem Value}
  (hf:∀ v u s2 x y H2,Inv X pins σ H2 s2->RelV x v->RelV y u->R x y H2->wpAny (model X.prog X.w) X.A (f v u) Q X.xe s2) :
  wpAny (model X.prog X.w) X.A (eval a X.env) (fun v s₁=>wpAny (model X.prog X.w) X.A (eval b X.env) (fun u s₂=>wpAny (model X.prog X.w) X.A (f v u) Q X.xe s₂) X.xe s₁) X.xe s:=by
 refine br (ha pins s σ H _ I h) fun v s1 ⟨x,H1,I1,r1,q1⟩=>?_
 refine br (hb pins s1 σ H1 _ I1 q1) fun u s2 ⟨y,H2,I2,r2,q2⟩=>?_
 exact hf v u s2 x y H2 I2 r1 r2 q2
theorem bw {op:Operator} {r:R2} (ho:dY X (binaryOp op) r) (ha:PE X a ta) (hb:PE X b tb):PE X (.BinOp a op b pos) (yO r ta tb):=by
 intro pins s σ H Q I h
 exact wpAny_BinOp (xr ha hb I h fun v u s2 x y H2 I2 rx ry q=>ho pins s2 σ H2 x y v u Q I2 rx ry q)
theorem Bu {op:UnaryOp} {r:V->Hp->VK->Prop} (ho:Al X (unaryOp op) r) (ha:PE X a ta):PE X (.UnaryOp op a pos) (CJ r ta):=by
 intro pins s σ H Q I h
 exact UnaryOp_ (br (ha pins s σ H _ I h) fun v s1 ⟨x,H1,I1,r1,q1⟩=>ho pins s1 σ H1 x v Q I1 r1 q1)
theorem tX {f:Value->Value->Sem Value} {C:Int->Int->Prop} {g:Int->Int->Int}
  (rule:∀ (i j:Int) (t u:Tok) (s:Shared) (Q:Value->Shared->Prop) (E:Value->Shared->Prop),C i j->Q (.int (g i j) s.toks) { s with toks:=s.toks+1 }->wpAny (model X.prog X.w) X.A (f (.int i t) (.int j u)) Q E s) :
  dY X f (rI C fun i j=>.int (g i j)):=by
 intro pins s σ H x y v u Q I rx ry h
 obtain⟨i,j,rfl,rfl,hc,q⟩:=h
 obtain⟨t,rfl⟩:=rx
 obtain⟨t',rfl⟩:=ry
 exact rule i j t t' s _ _ hc ⟨.int (g i j),H,I.tok _,⟨_,rfl⟩,q⟩
theorem Am {f:Value->Value->Sem Value} {g:Int->Int->Int}
  (rule:∀ (i j:Int) (t u:Tok) (s:Shared) (Q:Value->Shared->Prop) (E:Value->Shared->Prop),Q (.int (g i j) s.toks) { s with toks:=s.toks+1 }->wpAny (model X.prog X.w) X.A (f (.int i t) (.int j u)) Q E s) :
  dY X f (pT fun i j=>.int (g i j)):=by
 intro pins s σ H x y v u Q I rx ry h
 obtain⟨i,j,rfl,rfl,q⟩:=h
 obtain⟨t,rfl⟩:=rx
 obtain⟨t',rfl⟩:=ry
 exact rule i j t t' s _ _ ⟨.int (g i j),H,I.tok _,⟨_,rfl⟩,q⟩
theorem uC {f:Value->Value->Sem Value} {g:Int->Int->Bool}
  (rule:∀ (i j:Int) (t u:Tok) (s:Shared) (Q:Value->Shared->Prop) (E:Value->Shared->Prop),Q (.bool (g i j)) s->wpAny (model X.prog X.w) X.A (f (.int i t) (.int j u)) Q E s) :
  dY X f (pT fun i j=>.bl (g i j)):=by
 intro pins s σ H x y v u Q I rx ry h
 obtain⟨i,j,rfl,rfl,q⟩:=h
 obtain⟨t,rfl⟩:=rx
 obtain⟨t',rfl⟩:=ry
 exact rule i j t t' s _ _ ⟨.bl (g i j),H,I,rfl,q⟩
def Cm (i j:Int):Prop:=0 < j/\j < 1073741824
def Cn (i j:Int):Prop:=0<=j/\j<=1000000/\i.natAbs < 2 ^ 64
def xt (i j:Int):Prop:=(-(2 ^ 64) < i/\i < 2 ^ 64)\/(-(2 ^ 64) < j/\j < 2 ^ 64)
theorem xt.ok {i j:Int} (h:xt i j):IntMulOk i j:=by
 rcases h with ⟨h1,h2⟩ | ⟨h1,h2⟩
 ·exact .of_left (intBits_le_64 h1 h2)
 ·exact .of_right (intBits_le_64 h1 h2)
theorem cK:dY X (binaryOp .Add) (pT fun i j=>.int (i+j)):=Am fun _ _ _ _ _ _ _ q=>add_int q
theorem fI:dY X (binaryOp .Sub) (pT fun i j=>.int (i - j)):=Am fun _ _ _ _ _ _ _ q=>sub_int q
theorem jL:dY X (binaryOp .Mult) (rI xt fun i j=>.int (i * j)):=tX fun _ _ _ _ _ _ _ hc q=>mul_int q hc.ok
theorem tY:dY X (binaryOp .FloorDiv) (rI Cm fun i j=>.int (i / j)):=tX fun i j _ _ _ _ _ hc q=>by
 have h1:(0:Int) < j:=hc.1
 have h2:j < 1073741824:=hc.2
 exact floordiv_int (by omega) (by rw [Int.fdiv_eq_ediv_of_nonneg i (by omega)];exact q) (.inl (PyProof.noPylong_small (by omega)))
theorem iy:dY X (binaryOp .Mod) (rI (fun _ j=>0 < j) fun i j=>.int (i % j)):=tX fun i j _ _ _ _ _ hc q=>by
 have h1:(0:Int) < j:=hc
 exact mod_int' (by omega) (by rw [Int.fmod_eq_emod_of_nonneg i (by omega)];exact q)
theorem nR:dY X (binaryOp .Pow) (rI Cn fun i j=>.int (i ^ j.toNat)):=tX fun _ _ _ _ _ _ _ hc q=>pow_int_small hc.1 hc.2.1 hc.2.2 q
theorem CK {f:Value->Sem Value} {g:Int->Int}
  (rule:∀ (i:Int) (t:Tok) (s:Shared) (Q:Value->Shared->Prop) (E:Value->Shared->Prop),Q (.int (g i) s.toks) { s with toks:=s.toks+1 }->wpAny (model X.prog X.w) X.A (f (.int i t)) Q E s) :
  Al X f (rU fun i=>.int (g i)):=by
 intro pins s σ H x v Q I rx h
 obtain⟨i,rfl,q⟩:=h
 obtain⟨t,rfl⟩:=rx
 exact rule i t s _ _ ⟨.int (g i),H,I.tok _,⟨_,rfl⟩,q⟩
theorem An:Al X (unaryOp .USub) (rU fun i=>.int (-i)):=CK fun _ _ _ _ _ q=>neg_int q
end
def Ao:V->V->Bool
 | .bf,.bf=>true | .bf,.int _=>true | .int _,.bf=>true | .bf,.bl _=>true | .bl _,.bf=>true | .bf,.str _=>true | .str _,.bf=>true
 | .int _,.int _=>true | .bl _,.bl _=>true | .str _,.str _=>true | .jI _,.jI _=>true
 | .int _,.str _=>true | .str _,.int _=>true | .bl _,.str _=>true | .str _,.bl _=>true
 | _,_=>false
def CL:R2:=fun x y H Q=>Ao x y=true/\Q (.bl (decide (x=y))) H
theorem ze {i j:Int}:decide (V.int i=V.int j)=(i == j):=by
 rw [Bool.eq_iff_iff]
 simp
theorem Ap {i j:Bool}:decide (V.bl i=V.bl j)=(i == j):=by
 rw [Bool.eq_iff_iff]
 simp
theorem zf {i j:Str}:decide (V.str i=V.str j)=(i == j):=by
 rw [Bool.eq_iff_iff]
 simp
theorem zg {i j:Array UInt8}:decide (V.jI i=V.jI j)=(i.toList == j.toList):=by
 rw [Bool.eq_iff_iff]
 cases i
 cases j
 simp
section
variable {X:Cx} {a b c:Expr} {ta tb tc:TE} {pos:Pos}
theorem dQ {pins:List (Addr × Obj)} {σ : St} {H:Hp} {s:Shared} {Q:VK} {k k':Bool} (I:Inv X pins σ H s) (q:Q (.bl k) H) (e:k=k'):EP X pins σ Q (.bool k') s:=by
 subst e
 exact⟨.bl k,H,I,rfl,q⟩
theorem cg:dY X (compareOp .Eq) CL:=by
 intro pins s σ H x y v u Q I rx ry h
 obtain⟨hs,q⟩:=h
 cases x with
 | bf =>
  cases rx
  cases y with
  | bf=>cases ry;exact PySem.EqNone.eq_none_none (dQ I q (by simp))
  | bl j=>cases ry;exact PySem.EqNone.eq_none_bool (dQ I q (by simp))
  | int j=>obtain⟨t',rfl⟩:=ry;exact PySem.EqNone.eq_none_int (dQ I q (by simp))
  | str j=>obtain⟨t',rfl⟩:=ry;exact PySem.EqNone.eq_none_str (dQ I q (by simp))
  | _=>exact absurd (show false=true from hs) Bool.false_ne_true
 | bl i =>
  cases rx
  cases y with
  | bf=>cases ry;exact PySem.EqNone.eq_bool_none (dQ I q (by simp))
  | bl j=>cases ry;exact eq_bool (dQ I q Ap)
  | str j=>obtain⟨t',rfl⟩:=ry;exact PySem.EqMixed.eq_bool_str (dQ I q (by simp))
  | _=>exact absurd (show false=true from hs) Bool.false_ne_true
 | int i =>
  obtain⟨t,rfl⟩:=rx
  cases y with
  | bf=>cases ry;exact PySem.EqNone.eq_int_none (dQ I q (by simp))
  | int j=>obtain⟨t',rfl⟩:=ry;exact eq_int (dQ I q ze)
  | str j=>obtain⟨t',rfl⟩:=ry;exact PySem.EqMixed.eq_int_str (dQ I q (by simp))
  | _=>exact absurd (show false=true from hs) Bool.false_ne_true
 | str i =>
  obtain⟨t,rfl⟩:=rx
  cases y with
  | bf=>cases ry;exact PySem.EqNone.eq_str_none (dQ I q (by simp))
  | bl j=>cases ry;exact PySem.EqMixed.eq_str_bool (dQ I q (by simp))
  | int j=>obtain⟨t',rfl⟩:=ry;exact PySem.EqMixed.eq_str_int (dQ I q (by simp))
  | str j=>obtain⟨t',rfl⟩:=ry;exact eq_str (dQ I q zf)
  | _=>exact absurd (show false=true from hs) Bool.false_ne_true
 | jI i =>
  obtain⟨t,rfl⟩:=rx
  cases y with
  | jI j=>obtain⟨t',rfl⟩:=ry;exact PySem.W.eq_bytes (dQ I q zg)
  | _=>exact absurd (show false=true from hs) Bool.false_ne_true
 | _=>cases y <;> exact absurd (show false=true from hs) Bool.false_ne_true
theorem gN:dY X (compareOp .Lt) (pT fun i j=>.bl (decide (i < j))):=uC fun _ _ _ _ _ _ _ q=>lt_int q
theorem qN:dY X (compareOp .LtE) (pT fun i j=>.bl (decide (i<=j))):=uC fun _ _ _ _ _ _ _ q=>le_int q
theorem me:dY X (compareOp .Gt) (pT fun i j=>.bl (decide (j < i))):=uC fun _ _ _ _ _ _ _ q=>gt_int q
theorem uD:dY X (compareOp .GtE) (pT fun i j=>.bl (decide (j<=i))):=uC fun _ _ _ _ _ _ _ q=>ge_int q
theorem aQ (b:Expr) {op:CmpOp} (h:op ≠ .In:=by decide) (h2:op ≠ .NotIn:=by decide):behindInMarks op b=false:=by
 have e1:(op == CmpOp.In)=false:=by cases op <;> first | rfl | exact absurd rfl h
 have e2:(op == CmpOp.NotIn)=false:=by cases op <;> first | rfl | exact absurd rfl h2
 cases b <;> simp [behindInMarks,e1,e2]
theorem gx {op:CmpOp} {r:R2} (ho:dY X (compareOp op) r) (ha:PE X a ta) (hb:PE X b tb) (hm:behindInMarks op b=false):PE X (.Compare a [op] [b] pos) (yO r ta tb):=by
 intro pins s σ H Q I h
 exact wpAny_Compare1 (xr ha hb I h fun v u s2 x y H2 I2 rx ry q=>ho pins s2 σ H2 x y v u Q I2 rx ry q) hm
def Bv (t:TE):TT:=fun σ H Q=>t σ H fun x H'=>∃ k,x=.bl k/\Q k H'
theorem aH {op:CmpOp} {r:R2} (ho:dY X (compareOp op) r) (ha:PE X a ta) (hb:PE X b tb) (hm:behindInMarks op b=false):PT X (.Compare a [op] [b] pos) (Bv (yO r ta tb)):=by
 intro pins s σ H Q I h
 refine wpAny_isTrue_Compare1 (br (ha pins s σ H _ I h) fun v s1 ⟨x,H1,I1,r1,q1⟩=>br (hb pins s1 σ H1 _ I1 q1) fun u s2 ⟨y,H2,I2,r2,q2⟩ =>
  br (ho pins s2 σ H2 x y v u _ I2 r1 r2 q2) fun c s3 ⟨z,H3,I3,r3,k,e,q3⟩=>?_) hm
 subst e
 cases r3
 exact wpAny_truthy_bool ⟨H3,I3,q3⟩
def Aq (K:PySem.W.Frag) (x:V) (H:Hp) (k:Bool):Prop :=
 match x with
 | .bf=>k=false
 | .bl b=>k=b
 | .int i=>k=(i != 0)
 | .str y=>y.length<=sizeLine/\k=((y.length:Int) != 0)
 | .jI y=>y.size<=sizeLine/\k=((y.size:Int) != 0)
 | .ref p=>(∃ xs,aI K H p xs/\k = !xs.isEmpty)\/(∃ xs,ay K H p xs/\k = !xs.isEmpty)\/∃ kvs,H p=some (.dK kvs)/\k = !kvs.isEmpty
 | _=>False
theorem uE {κ : Type} {kvs:List (κ × V)} {vs:List (κ × Value)} (r:KV kvs vs):(!vs.isEmpty) = !kvs.isEmpty:=by
 cases r <;> rfl
theorem nS {xs:List V} {its:List Value} (r:Vals xs its):(!its.toArray.isEmpty) = !xs.isEmpty:=by
 cases r <;> simp
theorem iz:(sizeLine:Nat) < 2 ^ 63:=by rw [sizeLine_eq];decide
theorem Ar:Ck X (fun x H Q=>∃ k,Aq X.K x H k/\Q k H):=by
 intro pins s σ H x v Q I rx h
 obtain⟨k,e,q⟩:=h
 have hl:=iz
 have hs:sizeLine=16777216:=sizeLine_eq
 cases x with
 | bf =>
  cases rx
  have e':k=false:=e
  subst e'
  exact truthy_none ⟨H,I,q⟩
 | bl b =>
  cases rx
  have e':k=b:=e
  subst e'
  exact wpAny_truthy_bool ⟨H,I,q⟩
 | int i =>
  obtain⟨t,rfl⟩:=rx
  have e':k=(i != 0):=e
  subst e'
  exact PySem.P.truthy_int ⟨H,I,q⟩
 | str y =>
  obtain⟨t,rfl⟩:=rx
  obtain⟨hy,e'⟩:y.length<=sizeLine/\k=((y.length:Int) != 0):=e
  subst e'
  exact PySem.P.truthy_str (by omega) ⟨H,I.tok _,q⟩
 | jI y =>
  obtain⟨t,rfl⟩:=rx
  obtain⟨hy,e'⟩:y.size<=sizeLine/\k=((y.size:Int) != 0):=e
  subst e'
  exact PySem.W.truthy_bytes (by omega) ⟨H,I.tok _,q⟩
 | ref p =>
  cases rx
  have e':(∃ xs,aI X.K H p xs/\k = !xs.isEmpty)\/(∃ xs,ay X.K H p xs/\k = !xs.isEmpty)\/∃ kvs,H p=some (.dK kvs)/\k = !kvs.isEmpty:=e
  rcases e' with ⟨xs,hx,e'⟩ | ⟨xs,hx,e'⟩ | ⟨kvs,hx,e'⟩
  ·subst e'
   obtain⟨its,r,pl,hz⟩:=I.list hx
   have hlen:=r.length
   exact wpAny_truthy_list pl.isList (by simp only [List.size_toArray];omega) ⟨H,I.tok _,by rw [nS r];exact q⟩
  ·subst e'
   obtain⟨its,r,pl,hz⟩:=I.tuple hx
   have hlen:=r.length
   exact truthy_tuple pl (by simp only [List.size_toArray];omega) ⟨H,I.tok _,by rw [nS r];exact q⟩
  ·subst e'
   obtain⟨hz,hS,vs,r,m⟩:kvs.length<=sizeLine/\(p == sysModules)=false/\∃ vs,KV kvs vs/\s.heap.DictOf (aL X.prog X.w) p vs:=I.aN p _ hx
   have hlen:kvs.length=vs.length:=Paired.length r
   exact wpAny_truthy_dict hS m (by omega) ⟨H,I.tok _,by rw [uE r];exact q⟩
 | _=>exact (show False from e).elim
theorem xu (ha:PE X a ta) (he:∀ whole,isTrue a X.env whole=(do let v <-whole;standAt a.pos;holding [v] (truthy v))) :
  PT X a (fun σ H Q=>ta σ H fun x H'=>∃ k,Aq X.K x H' k/\Q k H'):=by
 intro pins s σ H Q I h
 exact isTrue_plain (br (ha pins s σ H _ I h) fun v s1 ⟨x,H1,I1,r1,q1⟩=>Ar pins s1 σ H1 x v Q I1 r1 q1) (he _)
theorem vals1 {x:V} {us:List Value} (r:Vals [x] us):∃ u,us = [u]/\RelV x u:=by
 cases r with
 | cons r1 r2=>cases r2;exact⟨_,rfl,r1⟩
theorem vals2 {x y:V} {us:List Value} (r:Vals [x,y] us):∃ u w',us = [u,w']/\RelV x u/\RelV y w':=by
 cases r with
 | cons r1 r2 =>
  cases r2 with
  | cons r3 r4=>cases r4;exact⟨_,_,rfl,r1,r3⟩
theorem vJ (hc:X.calm=true):dX X (.builtin "max") (fun xs H Q=>∃ i j,xs = [.int i,.int j]/\Q (.int (if j > i then j else i)) H):=by
 intro pins s σ H xs us Q I r h
 obtain⟨i,j,rfl,q⟩:=h
 obtain⟨u,w',rfl,⟨t,rfl⟩,⟨t',rfl⟩⟩:=vals2 r
 refine max_two_ints (I.ok.hd hc) fun h' tk k=>⟨_,H,I.kept k,?_,q⟩
 by_cases hj:j > i
 ·rw [if_pos hj,if_pos hj];exact⟨_,rfl⟩
 ·rw [if_neg hj,if_neg hj];exact⟨_,rfl⟩
theorem vK (hc:X.calm=true):dX X (.builtin "min") (fun xs H Q=>∃ i j,xs = [.int i,.int j]/\Q (.int (if j < i then j else i)) H):=by
 intro pins s σ H xs us Q I r h
 obtain⟨i,j,rfl,q⟩:=h
 obtain⟨u,w',rfl,⟨t,rfl⟩,⟨t',rfl⟩⟩:=vals2 r
 refine min_two_ints (I.ok.hd hc) fun h' tk k=>⟨_,H,I.kept k,?_,q⟩
 by_cases hj:j < i
 ·rw [if_pos hj,if_pos hj];exact⟨_,rfl⟩
 ·rw [if_neg hj,if_neg hj];exact⟨_,rfl⟩
theorem iA:dX X (.type "int") (fun xs H Q=>(∃ i,xs = [.int i]/\Q (.int i) H)\/∃ k,xs = [.bl k]/\Q (.int (if k then 1 else 0)) H):=by
 intro pins s σ H xs us Q I r h
 rcases h with ⟨i,rfl,q⟩ | ⟨k,rfl,q⟩
 ·obtain⟨u,rfl,t,rfl⟩:=vals1 r
  exact call_int_int ⟨.int i,H,I,⟨_,rfl⟩,q⟩
 ·obtain⟨u,rfl,r1⟩:=vals1 r
  cases r1
  exact call_int_bool ⟨.int (if k then 1 else 0),H,I.tok _,⟨_,rfl⟩,q⟩
end
structure m7 (h:Heap) (x dx C:Addr) (mA:Str->Option Value):Prop where
 obj:h.get? x=some (PySem.W.instObj C dx)
 ns:h.Ns1 dx mA
 ne:dx ≠ x
theorem vL {h:Heap} {dx:Addr} {mA:Str->Option Value} (n:h.Ns1 dx mA):∃ od,h.get? dx=some od/\∀ name,PySem.W.lookIn name od=some (mA name):=by
 obtain⟨o,es,ep,ho,hd,hk,_,hm⟩:=n
 refine⟨o,ho,fun name=>?_⟩
 have e:=hm name
 unfold nsFind findBy at e
 rw [<-Array.find?_toList] at e
 unfold PySem.W.lookIn
 rw [hd]
 dsimp only
 split
 ·rename_i y q
  rw [q] at e
  exact congrArg some e
 ·rename_i q
  rw [q] at e
  have a:es.toList.any (·.refKey)=false:=by
   rw [List.any_eq_false]
   intro y hy
   obtain⟨z,t,hkey⟩:=hk y (Array.mem_toList_iff.mp hy)
   simp [DictEntry.refKey,hkey]
  have a':¬ es.toList.any (·.refKey)=true:=by rw [a];exact Bool.false_ne_true
  rw [if_neg a']
  exact congrArg some e
theorem m7.look {h:Heap} {x dx C:Addr} {mA:Str->Option Value} (I:m7 h x dx C mA):∃ od,PySem.W.InstAt h x (PySem.W.instObj C dx) C (some od)/\∀ name,PySem.W.lookIn name od=some (mA name) :=
 let ⟨od,ho,hl⟩:=vL I.ns
 ⟨od,⟨I.obj,rfl,rfl,ho⟩,hl⟩
section
variable {prog:Program} {w:World} {A:Around} {E:Value->Shared->Prop} {s:Shared} {K:PySem.W.Frag} {x dx C f:Addr} {mA:Str->Option Value} {name:Str} {v:Value}
theorem get_map {expr:Bool} {Q:Value->Shared->Prop} (X:K.In s.heap) (I:m7 s.heap x dx C mA) (hg:PySem.W.plainGet K C name=true) (hh:PySem.W.hasDictIn K C=true)
  (ha:PySem.W.findIn K (.ref C) name=some none) (hv:mA name=some v) (hv':PySem.W.handedIn v=true) (h:Q v { s with toks:=s.toks+1 }) :
  wpAny (model prog w) A (getAttr (.ref x) name expr) Q E s:=by
 obtain⟨od,J,hl⟩:=I.look
 exact PySem.W.get_value X J (PySem.W.plainGet_of hg).1 (PySem.W.findObj_own hh ha rfl (by rw [hl,hv])) hv' h
theorem xx {pl:Sem Bool} {Q:Value × List Value->Shared->Prop} (X:K.In s.heap) (I:m7 s.heap x dx C mA) (hg:PySem.W.plainGet K C name=true)
  (hf:PySem.W.findIn K (.ref C) name=some (some (.ref f))) (ht:PySem.W.isFn K (.ref f)=true) (hv:mA name=none) (h:Q (.ref f,[.ref x]) s) :
  wpAny (model prog w) A (getMethod (.ref x) name pl) Q E s:=by
 obtain⟨od,J,hl⟩:=I.look
 exact PySem.W.method_fn X J (PySem.W.plainGet_of hg).1 (PySem.W.plainGet_of hg).2 hf (beq_iff_eq.mp ht) (by show (PySem.W.lookIn name od).map (·.isSome)=some false;rw [hl,hv];rfl) h
theorem zh {ns:List Str} {Q:Unit->Shared->Prop} (X:K.In s.heap) (I:m7 s.heap x dx C mA)
  (hs:PySem.W.findIn K (.ref C) "__setattr__" = some (some (.builtin "object.__setattr__"))) (hp:PySem.W.plainOver K C=true) (ht:PySem.W.takerIn K C name=some none) (hh:PySem.W.hasDictIn K C=true)
  (hw:PySem.Within mA ns) (hsz:ns.length<=sizeLine)
  (h:∀ h',m7 h' x dx C (fun y=>if y=name then some v else mA y)->Heap.SameBut dx s.heap h'->Q () { s with heap:=h',toks:=s.toks+2 }) :
  wpAny (model prog w) A (setAttr (.ref x) name v) Q E s:=by
 obtain⟨od,J,hl⟩:=I.look
 refine PySem.W.set_plain X J hs (PySem.W.osa_open (s:={ s with toks:=s.toks+1 }) (r:=none) X J hp ht fun b=>?_)
 obtain⟨cd,hc,hd'⟩:=PySem.W.any_some hh
 have hx:s.heap.get? x=some ⟨.ref C,some dx,.plain,#[]⟩:=I.obj
 refine wpAny_bind (wpAny_pure (wpAny_bind (wpAny_bind (wpAny_loadPart hx (wpAny_bind (PySem.W.Looks.here (s:={ s with toks:=s.toks+1 }) (PySem.W.looks_clsIn X hc) ?_))))))
 rw [hd']
 refine wpAny_pure (a:=some dx) (wpAny_bind (wpAny_pure (wpAny_bind ?_)))
 refine wpAny_nsSet1 (s:={ s with toks:=s.toks+1 }) I.ns fun h' hn2 hs2=>?_
 obtain⟨oD,esD,epD,hoD,hdD,hcD⟩:=hn2.count (PySem.Within.cons name v hw)
 refine wpAny_bind (wpAny_lookBehind hoD (by rw [hdD];exact pastItsLine_dict (Nat.le_trans hcD (by rw [List.length_cons];omega))) ?_)
 exact wpAny_pure (h _ ⟨(hs2.2 _ (Ne.symm I.ne)).trans I.obj,hn2,I.ne⟩ hs2)
theorem xy {R:Result->Shared->Prop} {vs:List Value} {kw:List (Str × Value)} (X:K.In s.heap) (hm:PySem.W.makesIn K C=true)
  (hi:PySem.W.findIn K (.ref C) "__init__" = some (some (.ref f))) (hf:PySem.W.typeIn K (.ref f)=some (.type "function"))
  (h:codeAny (model prog w) (A.under (.builtin "type.__call__" ⟨.ref C :: vs,kw⟩)) (.call (.ref f) ⟨.ref (s.heap.objs.size+1) :: vs,kw⟩) (PySem.W.InitBack (s.heap.objs.size+1) R)
   { s with heap:=(s.heap.push PySem.W.emptyDict).push (PySem.W.instObj C s.heap.objs.size) }) :
  codeAny (model prog w) A (.call (.ref C) ⟨vs,kw⟩) R s:=by
 obtain⟨hh,g,d,t,os⟩:=s
 exact PySem.W.make_core (PySem.W.makes_of X hm) (PySem.W.looks_findIn X hi) (fun self=>PySem.W.bind_fn X self hf) (.inl rfl) h
end
def dZ (f:Str) (v:V):List (Str × V)->List (Str × V)
 | []=>[(f,v)]
 | (g,x) :: r=>if g=f then (g,v) :: r else (g,x) :: dZ f v r
theorem mK (f g:Str) (v:V):∀ fs:List (Str × V),(dZ f v fs).lookup g=if g=f then some v else fs.lookup g
 | []=>by
  show List.lookup g [(f,v)] = _
  by_cases h:g=f
  ·have hb:(g == f)=true:=beq_iff_eq.mpr h
   simp only [List.lookup,hb,if_pos h]
  ·have hb:(g == f)=false:=beq_eq_false_iff_ne.mpr h
   simp only [List.lookup,hb,if_neg h]
 | (k,x) :: r=>by
  have ih:=mK f g v r
  rw [show dZ f v ((k,x) :: r)=(if k=f then (k,v) :: r else (k,x) :: dZ f v r) from rfl]
  by_cases hk:k=f
  ·rw [if_pos hk]
   by_cases h:g=k
   ·have hb:(g == k)=true:=beq_iff_eq.mpr h
    simp only [List.lookup,hb,if_pos (h.trans hk)]
   ·have hb:(g == k)=false:=beq_eq_false_iff_ne.mpr h
    simp only [List.lookup,hb,if_neg (fun e:g=f=>h (e.trans hk.symm))]
  ·rw [if_neg hk]
   by_cases h:g=k
   ·have hb:(g == k)=true:=beq_iff_eq.mpr h
    simp only [List.lookup,hb,if_neg (fun e:g=f=>hk (h.symm.trans e))]
   ·have hb:(g == k)=false:=beq_eq_false_iff_ne.mpr h
    simp only [List.lookup,hb]
    exact ih
theorem kR (f:Str) (v:V):∀ fs:List (Str × V),f ∈ (dZ f v fs).map (·.1)/\∀ g,g ∈ fs.map (·.1)->g ∈ (dZ f v fs).map (·.1)
 | []=>⟨by simp [dZ],fun g h=>by simp at h⟩
 | (k,x) :: r=>by
  obtain⟨i1,i2⟩:=kR f v r
  rw [show dZ f v ((k,x) :: r)=(if k=f then (k,v) :: r else (k,x) :: dZ f v r) from rfl]
  by_cases hk:k=f
  ·rw [if_pos hk]
   subst hk
   exact⟨by simp,fun g h=>by simpa using h⟩
  ·rw [if_neg hk]
   refine⟨?_,fun g h=>?_⟩
   ·rw [List.map_cons]
    exact List.mem_cons_of_mem _ i1
   ·rw [List.map_cons] at h ⊢
    rcases List.mem_cons.mp h with e | e
    ·exact List.mem_cons.mpr (.inl e)
    ·exact List.mem_cons_of_mem _ (i2 g e)
theorem mL (f:Str) (v:V):∀ fs:List (Str × V),(dZ f v fs).length<=fs.length+1
 | []=>by simp [dZ]
 | (k,x) :: r=>by
  have ih:=mL f v r
  rw [show dZ f v ((k,x) :: r)=(if k=f then (k,v) :: r else (k,x) :: dZ f v r) from rfl]
  by_cases hk:k=f
  ·rw [if_pos hk,List.length_cons,List.length_cons];omega
  ·rw [if_neg hk,List.length_cons,List.length_cons];omega
theorem eQ.some_of {v:V} {o:Option Value} (r:eQ (some v) o):∃ u,o=some u/\RelV v u:=by
 cases o with
 | none=>exact (show False from r).elim
 | some u=>exact⟨u,rfl,r⟩
theorem eQ.none_of {o:Option Value} (r:eQ none o):o=none:=by
 cases o with
 | none=>rfl
 | some u=>exact (show False from r).elim
theorem vM {v:V} {u:Value} (r:RelV v u):PySem.W.handedIn u=true:=by
 cases v with
 | bf=>cases (show u=Value.none from r);rfl
 | bl b=>cases (show u=Value.bool b from r);rfl
 | int i=>obtain⟨t,e⟩:=(show ∃ t,u=Value.int i t from r);cases e;rfl
 | str x=>obtain⟨t,e⟩:=(show ∃ t,u=Value.str x t from r);cases e;rfl
 | jI b=>obtain⟨t,e⟩:=(show ∃ t,u=Value.bytes b t from r);cases e;rfl
 | vC b=>obtain⟨t,e⟩:=(show ∃ t,u=Value.float b t from r);cases e;rfl
 | ref a=>cases (show u=Value.ref a from r);rfl
 | ty n=>cases (show u=Value.type n from r);rfl
section
variable {P:Program} {w:World} {H H':Hp} {h h':Heap} {a C dx:Addr} {fs fs':List (Str × V)}
theorem oU (aN:dz P w H h) (e:H a=some (.ins C dx fs)):∃ mA,m7 h a dx C mA/\(∀ f,eQ (fs.lookup f) (mA f))/\PySem.Within mA (fs.map (·.1))/\fs.length<=1000/\H dx=some (.own a):=by
 obtain⟨d,z,ne,ob,mA,n,r,q⟩:=(show bM P w H h a (.ins C dx fs) from aN a _ e)
 exact⟨mA,⟨ob,n,ne⟩,r,q,z,d⟩
end
structure mM (K:PySem.W.Frag) (C:Addr):Prop where
 pg:PySem.W.plainGet K C Str.empty=true
 hd:PySem.W.hasDictIn K C=true
 po:PySem.W.plainOver K C=true
 sa:PySem.W.findIn K (.ref C) "__setattr__" = some (some (.builtin "object.__setattr__"))
theorem mM.get {K:PySem.W.Frag} {C:Addr} (c:mM K C) (f:Str):PySem.W.plainGet K C f=true:=c.pg
def iB (K:PySem.W.Frag) (C:Addr) (f:Str):Prop:=PySem.W.findIn K (.ref C) f=some none
theorem iB.Bw {K:PySem.W.Frag} {C:Addr} {f:Str} (n:iB K C f):PySem.W.takerIn K C f=some none:=by
 unfold PySem.W.takerIn
 rw [show PySem.W.findIn K (.ref C) f=some none from n]
 rfl
structure Meth (K:PySem.W.Frag) (C:Addr) (m:Str) (f:Addr):Prop where
 at_:PySem.W.findIn K (.ref C) m=some (some (.ref f))
 fn:PySem.W.isFn K (.ref f)=true
 kp:PySem.W.keepIn K (.ref f)=true
section
variable {X:Cx} {pins:List (Addr × Obj)} {σ : St} {H:Hp} {s:Shared} {a C dx:Addr} {fs:List (Str × V)} {f:Str} {v:V} {A:Around} {E:Value->Shared->Prop}
theorem uF {b:Bool} {Q:Value->Shared->Prop} (I:Inv X pins σ H s) (e:H a=some (.ins C dx fs)) (c:mM X.K C) (n:iB X.K C f) (l:fs.lookup f=some v)
  (h:∀ u s',Inv X pins σ H s'->RelV v u->Q u s'):wpAny (model X.prog X.w) A (getAttr (.ref a) f b) Q E s:=by
 obtain⟨mA,O,r,_,_,_⟩:=oU I.aN e
 obtain⟨u,hu,ru⟩:=eQ.some_of (v:=v) (o:=mA f) (by rw [<-l];exact r f)
 exact get_map I.iQ O (c.get f) c.hd n hu (vM ru) (h u _ (I.tok _) ru)
theorem uG {m:Str} {g:Addr} {pl:Sem Bool} {Q:Value × List Value->Shared->Prop} (I:Inv X pins σ H s) (e:H a=some (.ins C dx fs)) (c:mM X.K C) (k:Meth X.K C m g) (l:fs.lookup m=none)
  (h:Q (.ref g,[.ref a]) s):wpAny (model X.prog X.w) A (getMethod (.ref a) m pl) Q E s:=by
 obtain⟨mA,O,r,_,_,_⟩:=oU I.aN e
 have hn:mA m=none:=eQ.none_of (by rw [<-l];exact r m)
 exact xx I.iQ O (c.get m) k.at_ k.fn hn h
theorem uH {y:V} {u:Value} {Q:Unit->Shared->Prop} (I:Inv X pins σ H s) (e:H a=some (.ins C dx fs)) (c:mM X.K C) (n:iB X.K C f) (hl:fs.length < 1000) (ry:RelV y u)
  (h:∀ s',Inv X pins σ (upd H a (.ins C dx (dZ f y fs))) s'->Q () s'):wpAny (model X.prog X.w) A (setAttr (.ref a) f u) Q E s:=by
 obtain⟨mA,O,r,wi,_,ho⟩:=oU I.aN e
 have hz:(fs.map (·.1)).length<=sizeLine:=by rw [List.length_map,sizeLine_eq];omega
 refine zh I.iQ O c.sa c.po n.Bw c.hd wi hz fun h' O' sb=>h _ ?_
 have hd:∃ o,h'.get? dx=some o:=let ⟨o,_,_,e',_⟩:=O'.ns;⟨o,e'⟩
 refine I.write (x:=a) (e:=dx) (by rw [e];exact True.intro) (.inr ho) (fun b q hb z=>(sb.2 b hb).trans z) hd ?_
 refine⟨by rw [au O.ne];exact ho,?_,O.ne,O'.obj,_,O'.ns,fun g=>?_,fun g hg=>?_⟩
 ·have:=mL f y fs;omega
 ·show eQ ((dZ f y fs).lookup g) (if g=f then some u else mA g)
  rw [mK]
  by_cases q:g=f
  ·rw [if_pos q,if_pos q];exact ry
  ·rw [if_neg q,if_neg q];exact r g
 ·by_cases q:g=f
  ·rw [q];exact (kR f y fs).1
  ·refine (kR f y fs).2 g (wi g fun z=>hg ?_)
   show (if g=f then some u else mA g)=none
   rw [if_neg q];exact z
theorem Inv.made (I:Inv X pins σ H s):Inv X pins σ (upd (upd H s.heap.objs.size (.own (s.heap.objs.size+1))) (s.heap.objs.size+1) (.ins C s.heap.objs.size []))
  { s with heap:=(s.heap.push PySem.W.emptyDict).push (PySem.W.instObj C s.heap.objs.size) }:=by
 have e1:(s.heap.push PySem.W.emptyDict).get? s.heap.objs.size=some PySem.W.emptyDict:=Heap.get?_push_size s.heap rfl
 have e2:((s.heap.push PySem.W.emptyDict).push (PySem.W.instObj C s.heap.objs.size)).get? (s.heap.objs.size+1)=some (PySem.W.instObj C s.heap.objs.size):=by
  have:=Heap.get?_push_size (s.heap.push PySem.W.emptyDict) (o:=PySem.W.instObj C s.heap.objs.size) rfl
  rwa [Heap.size_push] at this
 have e3:(s.heap.push PySem.W.emptyDict).Ns s.heap.objs.size (fun _=>none):=⟨PySem.W.emptyDict,#[],_,e1,rfl,(fun e he=>absurd he (by simp)),fun _=>rfl⟩
 have I1:=I.laid (a:=s.heap.objs.size) (o:=.own (s.heap.objs.size+1)) (h':=s.heap.push PySem.W.emptyDict) (t':=s.toks) (fun b u q=>Heap.get?_push_of_some _ q) (Nat.le_refl _) ⟨_,e1⟩
 refine I1.laid (a:=s.heap.objs.size+1) (o:=.ins C s.heap.objs.size []) (t':=s.toks) (fun b u q=>Heap.get?_push_of_some _ q) (Nat.le_of_eq (Heap.size_push _ _)) ?_
 have ne:s.heap.objs.size ≠ s.heap.objs.size+1:=Nat.ne_of_lt (Nat.lt_succ_self _)
 refine⟨by rw [au ne,ae],Nat.zero_le _,ne,e2,fun _=>none,(Heap.Ns1.of_empty e3).at fun o q=>Heap.get?_push_of_some _ q,fun _=>True.intro,fun y hy=>absurd rfl hy⟩
theorem zi {prog:Program} {w:World} {env:Env} {e:Expr} {f:Str} {pos:Pos} {s:Shared} {Q:Value->Shared->Prop} (hb:attributeBase e f env (eval e env)=eval e env)
  (h:wpAny (model prog w) A (eval e env) (fun o s₁=>wpAny (model prog w) A (getAttr o f true) Q E s₁) E s):wpAny (model prog w) A (eval (.Attribute e f pos) env) Q E s :=
 Attribute_any_ h (by rw [arm_eval_Attribute,hb])
end
def As (K:PySem.W.Frag) (ta:TE) (f:Str):TE:=fun σ H Q=>ta σ H fun x H1=>∃ a C dx fs v,x=.ref a/\H1 a=some (.ins C dx fs)/\mM K C/\iB K C f/\fs.lookup f=some v/\Q v H1
def Co (K:PySem.W.Frag) (ta tv:TE) (f:Str):TS:=fun D σ H=>tv σ H fun y H1=>ta σ H1 fun x H2=>∃ a C dx fs,x=.ref a/\H2 a=some (.ins C dx fs)/\mM K C/\iB K C f/\fs.length < 1000 /\
 D.nx σ (upd H2 a (.ins C dx (dZ f y fs)))
section
variable {X:Cx} {o e value:Expr} {f:Str} {pos pos' tpos:Pos} {ta tv:TE}
theorem gO (he:PE X e ta) (hb:attributeBase e f X.env (eval e X.env)=eval e X.env):PE X (.Attribute e f pos) (As X.K ta f):=by
 intro pins s σ H Q I h
 refine zi hb (br (he pins s σ H _ I h) fun u s1 ⟨x,H1,I1,rx,a,C,dx,fs,v,ex,ea,c,n,l,q⟩=>?_)
 subst ex
 obtain rfl:u=Value.ref a:=rx
 exact uF I1 ea c n l fun u' s2 I2 ru=>⟨v,H1,I2,ru,q⟩
theorem vP (ha:PE X o ta) (hv:PE X value tv) (hs:swapsWith value (some (.Attribute o f pos')) pos.line X.env=pure false):PS X (.Assign [.Attribute o f pos'] value pos) (Co X.K ta tv f):=by
 intro pins s σ H D I h
 refine plainObj_wpAny_Assign_Attribute (br (hv pins s σ H _ I h) fun u s1 ⟨y,H1,I1,ry,q⟩=>br (ha pins s1 σ H1 _ I1 q) fun ov s2 ⟨x,H2,I2,rx,a,C,dx,fs,ex,ea,c,n,l,q2⟩=>?_) hs
 subst ex
 obtain rfl:ov=Value.ref a:=rx
 exact uH I2 ea c n l ry fun s3 I3=>⟨σ,_,I3,q2⟩
end
section
variable {X:Cx} {pins:List (Addr × Obj)} {σ : St} {H:Hp} {s:Shared} {A:Around} {E:Value->Shared->Prop} {Q:Value->Shared->Prop} {c:Value} {b:Bool}
end
structure cU (k:Nat) (A:Around):Prop where
 hd:A.handled=none
 dp:A.depth+3 * k+5 < recursionLimit
 un:A.units+16 * k+200 < cLine
theorem cU.mono {j k:Nat} {A:Around} (r:cU k A) (h:j<=k):cU j A:=⟨r.hd,by have:=r.dp;omega,by have:=r.un;omega⟩
theorem cU.deeper {k:Nat} {A:Around} (r:cU (k+1) A) (env:Env):cU k (A.deeper env) :=
 ⟨r.hd,by have:=r.dp;show A.depth+1+3 * k+5 < _;omega,by have:=r.un;show A.units+3+16 * k+200 < _;omega⟩
theorem uI {A:Around} {C:Addr} {us:List Value} {kw:List (Str × Value)}:(A.under (.builtin "type.__call__" ⟨.ref C :: us,kw⟩)).depth=A.depth+1:=by
 first | rfl | simp [Around.under,Code.weight,Code.isCreation,Code.isGuard,Code.isCaller,Code.frames,Code.isFrame,guardIds]
theorem uJ {A:Around} {C:Addr} {us:List Value} {kw:List (Str × Value)}:(A.under (.builtin "type.__call__" ⟨.ref C :: us,kw⟩)).units=A.units+1:=by
 first | rfl | simp [Around.under,Code.cUnits,Code.frames,Code.isFrame]
theorem cU.make {k:Nat} {A:Around} (r:cU (k+1) A) (C:Addr) (us:List Value) (kw:List (Str × Value)):cU k (A.under (.builtin "type.__call__" ⟨.ref C :: us,kw⟩)) :=
 ⟨r.hd,by have:=r.dp;rw [uI];omega,by have:=r.un;rw [uJ];omega⟩
theorem cU.depth {k:Nat} {A:Around} (r:cU k A):A.depth < recursionLimit:=by have:=r.dp;omega
theorem cU.units {k:Nat} {A:Around} (r:cU k A):A.units+64 < cLine:=by have:=r.un;omega
def xA:TA:=fun _ H Q=>Q [] H
def uK (ta:TE) (tr:TA):TA:=fun σ H Q=>ta σ H fun x H1=>tr σ H1 fun xs H2=>Q (x :: xs) H2
section
variable {X:Cx} {e:Expr} {es:List Expr} {te:TE} {t:TA} {pos:Pos}
theorem af:PA X [] xA:=fun _ _ _ _ H Q I h=>Calls.spliced_nil ⟨[],H,I,.nil,h⟩
theorem aa (ha:PE X e te) (hr:PA X es t) (hs:starEach (e :: es) X.env=(false,eval e X.env) :: starEach es X.env:=by rfl):PA X (e :: es) (uK te t):=by
 intro pos pins s σ H Q I h
 rw [hs]
 show wpAny _ _ (spliced ((false,eval e X.env) :: backTo pos (starEach es X.env))) _ _ s
 refine Calls.spliced_cons (br (ha pins s σ H _ I h) fun u s1 ⟨x,H1,I1,r1,q1⟩=>?_)
 exact br (hr pos pins s1 σ H1 _ I1 q1) fun us s2 ⟨xs,H2,I2,r2,q2⟩=>⟨x :: xs,H2,I2,.cons r1 r2,q2⟩
def Au (t:TA):TE:=fun σ H Q=>t σ H fun xs H1=>xs.length<=sizeLine/\∀ p,H1 p=none->Q (.ref p) (upd H1 p (.tup xs))
def Cq (t:TA):TE:=fun σ H Q=>t σ H fun xs H1=>xs.length<=sizeLine/\∀ p,H1 p=none->Q (.ref p) (upd H1 p (.lst xs))
theorem aU {x1} (h:PA X es t):PE X (.Tuple es x1 pos) (Au t):=by
 intro pins s σ H Q I hq
 refine wpAny_Tuple_spliced (br (h pos pins s σ H _ I hq) fun us s1 ⟨xs,H1,I1,r,z,q⟩=>⟨by rw [<-r.length];exact z,?_⟩)
 have hf:H1 s1.heap.objs.size=none:=I1.aN.fresh (Nat.le_refl _)
 refine⟨.ref s1.heap.objs.size,upd H1 s1.heap.objs.size (.tup xs),I1.laid (t':=s1.toks) (fun b u e=>Heap.get?_push_of_some _ e) (Nat.le_refl _) ?_,rfl,q _ hf⟩
 exact⟨z,us,r,⟨_,Heap.get?_push_size _ rfl,rfl,_,rfl,rfl⟩⟩
theorem bS (h:PA X es t):PE X (.List es pos) (Cq t):=by
 intro pins s σ H Q I hq
 refine wpAny_List_spliced (br (h pos pins s σ H _ I hq) fun us s1 ⟨xs,H1,I1,r,z,q⟩=>⟨by rw [<-r.length];exact z,?_⟩)
 have hf:H1 s1.heap.objs.size=none:=I1.aN.fresh (Nat.le_refl _)
 refine⟨.ref s1.heap.objs.size,upd H1 s1.heap.objs.size (.lst xs),I1.laid (t':=s1.toks) (fun b u e=>Heap.get?_push_of_some _ e) (Nat.le_refl _) ?_,rfl,q _ hf⟩
 exact⟨z,us,0,r,Heap.get?_push_size _ rfl⟩
end
abbrev Sp:=List V->Hp->VK->XK->Prop
abbrev kS:=List Env->Hp->Shared->XK->Value->Shared->Prop
structure m8 (P:Program) (w:World) (K:PySem.W.Frag) (mg:Str->Option Value) (base:Heap) (A:Around) (outer:List Env) (s:Shared) (H:Hp):Prop where
 frames:A.frames=some outer
 mod:Mod K mg base
 bs:∀ b o,base.get? b=some o->s.heap.get? b=some o/\H b=none
 nN:base.objs.size<=s.heap.objs.size
 iI:s.heap.FunFrames base outer
 qV:∀ b ∈ kL outer,H b=none
 aN:dz P w H s.heap
 bare:AllBare s.gens
def CE (outer:List Env) (P:Program) (w:World) (H:Hp) (s:Shared) (Q:VK) (u:Value) (s':Shared):Prop :=
 ∃ v H',s'.os=s.os/\AllBare s'.gens/\Un (kL outer) [] H H' s.heap s'.heap/\dz P w H' s'.heap/\RelV v u/\Q v H'
def CR (CX:kS) (outer:List Env) (P:Program) (w:World) (H:Hp) (s:Shared) (Q:VK) (E:XK) (r:Result) (s':Shared):Prop :=
 match r with
 | .ok (.ret u)=>CE outer P w H s Q u s'
 | .ok _=>False
 | .error e=>CX outer H s E e s'
structure bG (P:Program) (w:World) (K:PySem.W.Frag) (mg:Str->Option Value) (base:Heap) (CX:kS) (k:Nat) (f:Addr) (fd:FuncData) (ps:List Str) (sp:Sp):Prop where
 len:∀ vs H Q E,sp vs H Q E->vs.length=ps.length
 run:∀ (A:Around) (outer:List Env) (s:Shared) (H:Hp) (args:Args) (us:List Value) (vs:List V) (Q:VK) (E:XK),cU k A->m8 P w K mg base A outer s H->BindsTo s fd args (ps.zip us)->Vals vs us->sp vs H Q E ->
  codeAny (model P w) A (.call (.ref f) args) (CR CX outer P w H s Q E) s
theorem m8.make {P:Program} {w:World} {K:PySem.W.Frag} {mg:Str->Option Value} {base:Heap} {A:Around} {outer:List Env} {s:Shared} {H:Hp} (e:m8 P w K mg base A outer s H) (C:Addr) (us:List Value) (kw:List (Str × Value)) :
  m8 P w K mg base (A.under (.builtin "type.__call__" ⟨.ref C :: us,kw⟩)) outer s H:=⟨by first | exact e.frames | (simpa [Around.under,Code.envs,Code.isFrame,pushEnvs] using e.frames),e.mod,e.bs,e.nN,e.iI,e.qV,e.aN,e.bare⟩
section
variable {X:Cx} {pins:List (Addr × Obj)} {σ : St} {H:Hp} {s s':Shared}
theorem Inv.Av (I:Inv X pins σ H s):m8 X.prog X.w X.K X.mg X.base X.A X.stack s H :=
 ⟨I.ok.frames,I.ok.mod,I.bs,Nat.le_trans I.ok.nN I.sz,I.stack,I.tR,I.aN,I.bare⟩
theorem Inv.after {Q:VK} {u:Value} (I:Inv X pins σ H s) (h:CE X.stack X.prog X.w H s Q u s'):EP X pins σ Q u s':=by
 obtain⟨v,H',os,bare,un,aN,r,q⟩:=h
 obtain⟨hh,g,d,t,os'⟩:=s'
 obtain rfl:os' = s.os:=os
 exact⟨v,H',I.call (h':=hh) (g':=g) (d':=d) (t':=t) (ch:=[]) un aN bare (fun b z=>absurd z (by simp)),r,q⟩
end
def yP (sp:Sp) (dvs:List V) (E:XK) (t:TA):TE:=fun σ H Q=>t σ H fun vs H1=>sp (vs++dvs) H1 Q E
def yQ (C:Addr) (m:Str) (sp:Sp) (dvs:List V) (E:XK) (ta:TE) (t:TA):TE:=fun σ H Q=>ta σ H fun x H1=>∃ a dx fs,x=.ref a/\H1 a=some (.ins C dx fs)/\fs.lookup m=none /\
 t σ H1 fun vs H2=>sp (x :: (vs++dvs)) H2 Q E
def yR (C:Addr) (sp:Sp) (dvs:List V) (E:XK) (t:TA):TE:=fun σ H Q=>t σ H fun vs H1=>∀ x dx,H1 x=none->H1 dx=none->dx ≠ x ->
 sp (.ref x :: (vs++dvs)) (upd (upd H1 dx (.own x)) x (.ins C dx [])) (fun v H2=>v=.bf/\Q (.ref x) H2) E
def Binds (K:PySem.W.Frag) (fd:FuncData) (ps:List Str) (ds:List Value):Prop :=
 ∀ (s:Shared) (us:List Value),K.In s.heap->(us++ds).length=ps.length->BindsTo s fd ⟨us,[]⟩ (ps.zip (us++ds))
theorem Binds.all {K:PySem.W.Frag} {fd:FuncData} {ps:List Str} (h:∀ us:List Value,us.length=ps.length->bindArgs fd ⟨us,[]⟩=pure (ps.zip us)):Binds K fd ps []:=fun s us _ hl=>by
 rw [List.append_nil] at hl ⊢
 exact .of_eq (h us hl)
def Passes (CX:kS) (X:Cx) (E:XK):Prop:=∀ (pins:List (Addr × Obj)) (σ : St) (H:Hp) (s:Shared) (e:Value) (s':Shared),Inv X pins σ H s->CX X.stack H s E e s'->X.xe e s'
section
variable {X:Cx} {CX:kS} {k:Nat} {f C:Addr} {fd:FuncData} {ps:List Str} {sp:Sp} {dvs:List V} {ds:List Value} {E:XK} {x m:Str} {p pos apos:Pos} {e o:Expr} {es:List Expr} {ta:TE} {t:TA}
theorem vQ {pins:List (Addr × Obj)} {σ : St} {H:Hp} {s:Shared} {Q:VK} {us:List Value} {vs:List V} (F:bG X.prog X.w X.K X.mg X.base CX k f fd ps sp) (hr:cU k X.A) (hb:Binds X.K fd ps ds) (hd:Vals dvs ds) (hx:Passes CX X E)
  (I:Inv X pins σ H s) (r:Vals vs us) (h:sp (vs++dvs) H Q E):wpAny (model X.prog X.w) X.A (call (.ref f) us) (EP X pins σ Q) X.xe s:=by
 have r2:Vals (vs++dvs) (us++ds):=r.append hd
 have hl:(us++ds).length=ps.length:=by rw [<-r2.length];exact F.len _ _ _ _ h
 refine wpAny_call (codeAny_mono (F.run X.A X.stack s H ⟨us,[]⟩ (us++ds) (vs++dvs) Q E hr I.Av (hb s us I.iQ hl) r2 h) fun r s' hq=>?_)
 cases r with
 | error e=>exact hx pins σ H s e s' I hq
 | ok fl =>
  cases fl with
  | ret u=>exact I.after hq
  | next=>exact False.elim hq
  | brk=>exact False.elim hq
  | cont=>exact False.elim hq
theorem zj (F:bG X.prog X.w X.K X.mg X.base CX k f fd ps sp) (hr:cU k X.A) (hg:Gl X x) (hm:X.mg x=some (.ref f)) (hk:PySem.W.keepIn X.K (.ref f)=true) (hb:Binds X.K fd ps ds) (hd:Vals dvs ds) (hx:Passes CX X E)
  (ha:PA X (e :: es) t) (hdb:(x == ("__debug__" : Str))=false:=by decide) (he:starEach (e :: es) X.env=(false,eval e X.env) :: starEach es X.env:=by rfl) (hpl:(backTo pos (starEach es X.env)).any (·.1)=false:=by rfl) :
  PE X (.Call (.Name x p) (e :: es) [] pos) (yP sp dvs E t):=by
 intro pins s σ H Q I h
 refine wpAny_Call_Name_kw (oS I hg hm ?_ hdb)
 refine PySem.W.callWith_K (h₀:=X.base) I.ok.mod.jJ hk (br (ha pos pins s σ H _ I h) fun us s1 ⟨vs,H1,I1,r,q⟩=>⟨I1.iQ,?_⟩) he hpl
 exact vQ F hr hb hd hx I1 r q
theorem zk {pl:Sem Bool} (he:PE X o ta) (c:mM X.K C) (hm:Meth X.K C m f) (F:bG X.prog X.w X.K X.mg X.base CX k f fd ps sp) (hr:cU k X.A) (hb:Binds X.K fd ps ds) (hd:Vals dvs ds) (hx:Passes CX X E) (ha:PA X (e :: es) t)
  (hst:starEach (e :: es) X.env=(false,eval e X.env) :: starEach es X.env:=by rfl) (hpl:(backTo pos (starEach es X.env)).any (·.1)=false:=by rfl)
  (ht:eval (.Call (.Attribute o m apos) (e :: es) [] pos) X.env=(do
   let ov <-eval o X.env
   standAt apos.atName
   let (f,first) <-holding [ov] (getMethod ov m pl)
   callWith pos f first (backTo pos (starEach (e :: es) X.env)) (backToKw pos (keywordEach [] X.env))):=by rfl) :
  PE X (.Call (.Attribute o m apos) (e :: es) [] pos) (yQ C m sp dvs E ta t):=by
 intro pins s σ H Q I h
 refine PySem.W.methodCall_KW (pl:=pl) (br (he pins s σ H _ I h) fun u s1 ⟨x,H1,I1,rx,a,dx,fs,ex,ea,l,q⟩=>?_) ht
 subst ex
 obtain rfl:u=Value.ref a:=rx
 refine uG I1 ea c hm l ?_
 refine PySem.W.callWith_K (first:=[.ref a]) (h₀:=X.base) I.ok.mod.jJ hm.kp (br (ha pos pins s1 σ H1 _ I1 q) fun us s2 ⟨vs,H2,I2,r,q2⟩=>⟨I2.iQ,?_⟩) hst hpl
 exact vQ (us:=.ref a :: us) (vs:=.ref a :: vs) F hr hb hd hx I2 (.cons rfl r) q2
structure Mk (K:PySem.W.Frag) (C f:Addr):Prop where
 makes:PySem.W.makesIn K C=true
 init:PySem.W.findIn K (.ref C) "__init__" = some (some (.ref f))
 fn:PySem.W.isFn K (.ref f)=true
 kp:PySem.W.keepIn K (.ref C)=true
theorem xB {pins:List (Addr × Obj)} {σ : St} {H:Hp} {s:Shared} {Q:VK} {us:List Value} {vs:List V} (M:Mk X.K C f) (F:bG X.prog X.w X.K X.mg X.base CX k f fd ps sp) (hr:cU (k+1) X.A) (hb:Binds X.K fd ps ds) (hd:Vals dvs ds)
  (hx:Passes CX X E) (I:Inv X pins σ H s) (r:Vals vs us)
  (h:∀ x dx,H x=none->H dx=none->dx ≠ x->sp (.ref x :: (vs++dvs)) (upd (upd H dx (.own x)) x (.ins C dx [])) (fun v H2=>v=.bf/\Q (.ref x) H2) E) :
  wpAny (model X.prog X.w) X.A (call (.ref C) us) (EP X pins σ Q) X.xe s:=by
 have hq:=h (s.heap.objs.size+1) s.heap.objs.size (I.aN.fresh (Nat.le_succ _)) (I.aN.fresh (Nat.le_refl _)) (Nat.ne_of_lt (Nat.lt_succ_self _))
 have I2:=Inv.made (C:=C) I
 have r2:Vals (V.ref (s.heap.objs.size+1) :: (vs++dvs)) (Value.ref (s.heap.objs.size+1) :: (us++ds)):=.cons rfl (r.append hd)
 have hl:(Value.ref (s.heap.objs.size+1) :: us++ds).length=ps.length:=by
  have e:=r2.length
  rw [F.len _ _ _ _ hq] at e
  exact e.symm
 refine wpAny_call (xy (f:=f) I.iQ M.makes M.init (beq_iff_eq.mp M.fn) (codeAny_mono (F.run _ X.stack _ _ ⟨Value.ref (s.heap.objs.size+1) :: us,[]⟩ (Value.ref (s.heap.objs.size+1) :: (us++ds)) _ _ E (hr.make C us [])
  (I2.Av.make C us []) (hb _ (Value.ref (s.heap.objs.size+1) :: us) I2.iQ hl) r2 hq) fun r s' hq'=>?_))
 cases r with
 | error e=>exact hx pins σ _ _ e s' I2 hq'
 | ok fl =>
  cases fl with
  | ret u =>
   obtain⟨v,H',I3,rv,ev,q3⟩:=I2.after hq'
   subst ev
   exact⟨rv,⟨V.ref (s.heap.objs.size+1),H',I3,rfl,q3⟩⟩
  | next=>exact False.elim hq'
  | brk=>exact False.elim hq'
  | cont=>exact False.elim hq'
theorem zl (M:Mk X.K C f) (F:bG X.prog X.w X.K X.mg X.base CX k f fd ps sp) (hr:cU (k+1) X.A) (hg:Gl X x) (hm:X.mg x=some (.ref C)) (hb:Binds X.K fd ps ds) (hd:Vals dvs ds) (hx:Passes CX X E)
  (ha:PA X (e :: es) t) (hdb:(x == ("__debug__" : Str))=false:=by decide) (he:starEach (e :: es) X.env=(false,eval e X.env) :: starEach es X.env:=by rfl) (hpl:(backTo pos (starEach es X.env)).any (·.1)=false:=by rfl) :
  PE X (.Call (.Name x p) (e :: es) [] pos) (yR C sp dvs E t):=by
 intro pins s σ H Q I h
 refine wpAny_Call_Name_kw (oS I hg hm ?_ hdb)
 refine PySem.W.callWith_K (h₀:=X.base) I.ok.mod.jJ M.kp (br (ha pos pins s σ H _ I h) fun us s1 ⟨vs,H1,I1,r,q⟩=>⟨I1.iQ,?_⟩) he hpl
 exact xB M F hr hb hd hx I1 r q
end
section
variable {X:Cx} {CX:kS} {k:Nat} {f C:Addr} {fd:FuncData} {ps ks:List Str} {sp:Sp} {E:XK} {x m:Str} {p pos apos kpos:Pos} {e o:Expr} {es:List Expr} {kws:List Keyword} {te ta:TE} {t tk:TA} {nm:Option Str}
variable {g:List Value->List Value->List Value} {gV:List V->List V->List V}
end
structure aS (N P:List Str) (sc:Scope):Prop where
 kind:sc.kind=.function
 co:sc.isCoroutine=false
 gen:sc.isGenerator=false
 nd:N.Nodup
 pre:N.take P.length=P
 par:∀ x ∈ P,sc.names.lookup x=some .local\/sc.names.lookup x=some .cell
 Aw:∀ y ∈ sc.names,y.2 ≠ .free
theorem pU {kindOf:Str->Option NameKind} {x:Str}:∀ {binds:List (Str × Value)} {m:Str->Option Value},(∀ v,(x,v) ∉ binds)->bindL kindOf binds m x=m x
 | [],_,_=>rfl
 | (n,v) :: r,m,h=>by
  unfold bindL
  rw [pU fun w hw=>h w (List.mem_cons_of_mem _ hw)]
  split
  ·have:x ≠ n:=by rintro rfl;exact h v List.mem_cons_self
   simp [this]
  ·rfl
theorem pV {kindOf:Str->Option NameKind} {x:Str}:∀ {binds:List (Str × Value)} {m:Str->Option Value},(∀ v,(x,v) ∉ binds)->bindC kindOf binds m x=m x
 | [],_,_=>rfl
 | (n,v) :: r,m,h=>by
  unfold bindC
  rw [pV fun w hw=>h w (List.mem_cons_of_mem _ hw)]
  split
  ·rfl
  ·have:x ≠ n:=by rintro rfl;exact h v List.mem_cons_self
   simp [this]
theorem pW {kindOf:Str->Option NameKind} {x:Str} {v:Value}:∀ {P:List Str} {vs:List Value} {i:Nat} {m:Str->Option Value},P.Nodup->P[i]? = some x->vs[i]? = some v->kindOf x=some .local ->
  bindL kindOf (P.zip vs) m x=some v
 | [],_,_,_,_,h,_,_=>by simp at h
 | _ :: _,[],_,_,_,_,h,_=>by simp at h
 | p :: P,w :: vs,0,m,nd,h1,h2,hk=>by
  simp at h1 h2;subst h1;subst h2
  show bindL kindOf ((p,w) :: P.zip vs) m p=_
  unfold bindL
  rw [pU fun v hv=>(List.nodup_cons.mp nd).1 (List.of_mem_zip hv).1,if_pos hk]
  simp
 | p :: P,w :: vs,i+1,m,nd,h1,h2,hk=>by
  show bindL kindOf ((p,w) :: P.zip vs) m x=_
  unfold bindL
  exact pW (i:=i) (List.nodup_cons.mp nd).2 (by simpa using h1) (by simpa using h2) hk
theorem pX {kindOf:Str->Option NameKind} {x:Str} {v:Value}:∀ {P:List Str} {vs:List Value} {i:Nat} {m:Str->Option Value},P.Nodup->P[i]? = some x->vs[i]? = some v->kindOf x ≠ some .local ->
  bindC kindOf (P.zip vs) m x=some v
 | [],_,_,_,_,h,_,_=>by simp at h
 | _ :: _,[],_,_,_,_,h,_=>by simp at h
 | p :: P,w :: vs,0,m,nd,h1,h2,hk=>by
  simp at h1 h2;subst h1;subst h2
  show bindC kindOf ((p,w) :: P.zip vs) m p=_
  unfold bindC
  rw [pV fun v hv=>(List.nodup_cons.mp nd).1 (List.of_mem_zip hv).1,if_neg hk]
  simp
 | p :: P,w :: vs,i+1,m,nd,h1,h2,hk=>by
  show bindC kindOf ((p,w) :: P.zip vs) m x=_
  unfold bindC
  exact pX (i:=i) (List.nodup_cons.mp nd).2 (by simpa using h1) (by simpa using h2) hk
def start (N:List Str) (vs:List V):St:=vs.map some++List.replicate (N.length - vs.length) none
def m9 (CX:kS) (P:Program) (w:World) (K:PySem.W.Frag) (mg:Str->Option Value) (base:Heap) (N:List Str) (qual:Str) (scope:Scope) (f:Addr) (cd:Value) (A:Around) (outer:List Env) (s:Shared) (H:Hp) (E:XK):Cx where
 prog:=P
 w:=w
 K:=K
 mg:=mg
 base:=base
 A:=A.deeper (envOfC qual scope s.heap.objs.size f cd)
 N:=N
 dD:=s
 jW:=H
 env:=envOfC qual scope s.heap.objs.size f cd
 outer:=outer
 stack:=envOfC qual scope s.heap.objs.size f cd :: outer
 ex:=[]
 calm:=true
 fn:=fun _=>true
 pn:=[]
 xe:=fun e s'=>wpAny (model P w) (A.deeper (envOfC qual scope s.heap.objs.size f cd)) (leaving (envOfC qual scope s.heap.objs.size f cd) e) (fun _ s''=>CX outer H s E e s'') (fun e' s''=>CX outer H s E e' s'') s'
theorem rm {sc:Scope} {n:Nat} {x:Str} (h:sc.names.lookup x=some .cell):∃ c,(cellsFrom n sc.names []).lookup x=some c:=by
 have q:=PySem.W.cellsFrom_some sc.names n [] (.inl h)
 exact Option.isSome_iff_exists.mp q
theorem vR {CX:kS} {P:Program} {w:World} {K:PySem.W.Frag} {mg:Str->Option Value} {base:Heap} {N ps:List Str} {qual:Str} {scope:Scope} {f:Addr} {cd:Value} {A:Around} {outer:List Env} {s s1:Shared} {H:Hp} {E:XK} {us:List Value} {vs:List V}
  (S:aS N ps scope) (hd:A.handled=none) (e0:m8 P w K mg base A outer s H) (hl:vs.length=ps.length) (r:Vals vs us)
  (x:InCallC s s.heap.objs.size (bindL (envOfC qual scope s.heap.objs.size f cd).kindOf (ps.zip us) fun _=>none) (cellsFrom (s.heap.objs.size+1) scope.names []) (bindC (envOfC qual scope s.heap.objs.size f cd).kindOf (ps.zip us) fun _=>none) s1) :
  Inv (m9 CX P w K mg base N qual scope f cd A outer s H E) [] (start N vs) H s1:=by
 have hpl:ps.length<=N.length:=by have:=congrArg List.length S.pre;rw [List.length_take] at this;omega
 obtain⟨h1,tk,rfl,hk⟩:=x.done
 have noA:∀ b:Addr,b ∉ (m9 CX P w K mg base N qual scope f cd A outer s H E).ex:=fun b z=>absurd (show b ∈ ([]:List Addr) from z) (by simp)
 refine⟨⟨e0.mod,S.kind,rfl,rfl,Nat.le_refl _,fun y z c h1 h2=>?_,fun y hy=>?_,fun y c _ h=>?_,fun _=>hd,Around.frames_deeper e0.frames,.inr ⟨rfl,rfl⟩,fun b z=>absurd z (noA b),e0.bs,e0.nN,fun b _ _=>noA b,fun b z=>absurd z (noA b),e0.iI,e0.qV⟩,
  rfl,e0.bare,Un.kept hk,⟨_,x.toInCall.ns,fun i y v h1 h2 h3=>?_⟩,fun y c h=>⟨_,x.cell y c h⟩,e0.aN.fresh (Nat.le_refl _),fun y c h=>?_,fun p hp=>absurd (show p ∈ ([]:List (Addr × Obj)) from hp) (by simp),e0.aN.kept hk,?_⟩
 ·exact name_of_addr x.apart (PySem.mem_of_lookup h1) (PySem.mem_of_lookup h2)
 ·have hy:scope.names.lookup y=some .cell\/scope.names.lookup y=some .free:=hy
  rcases hy with hy | hy
  ·exact rm hy
  ·exact absurd rfl (S.Aw _ (PySem.mem_of_lookup hy))
 ·exact Nat.le_of_lt (x.above y c (PySem.mem_of_lookup h))
 ·have hi:i < vs.length:=by
   unfold start at h2
   by_cases hi:i < vs.length
   ·exact hi
   ·rw [List.getElem?_append_right (by simpa using hi)] at h2
    rw [List.getElem?_replicate] at h2
    split at h2 <;> cases h2
  have ha:vs[i]? = some v:=by
   unfold start at h2
   rw [List.getElem?_append_left (by simpa using hi),List.getElem?_map] at h2
   cases e:vs[i]? with
   | none=>rw [e] at h2;cases h2
   | some a=>rw [e] at h2;cases h2;rfl
  obtain⟨u,hu,rv⟩:=r.get ha
  have hp:ps[i]? = some y:=by
   rw [<-S.pre,List.getElem?_take_of_lt (by omega)];exact h1
  have ndP:ps.Nodup:=by rw [<-S.pre];exact S.nd.sublist (List.take_sublist _ _)
  refine⟨u,rv,?_⟩
  rcases S.par y (List.mem_of_getElem? hp) with k | k
  ·exact .inl ⟨k,pW ndP hp hu k⟩
  ·obtain⟨c,e⟩:=rm (n:=s.heap.objs.size+1) k
   refine .inr ⟨.inl k,c,e,?_⟩
   have q:=x.cell y c e
   rw [pX ndP hp hu (by show scope.names.lookup y ≠ _;rw [k];decide)] at q
   exact q
 ·exact e0.aN.fresh (Nat.le_of_lt (x.above y c (PySem.mem_of_lookup h)))
 ·unfold start
  show _=N.length
  rw [List.length_append,List.length_map,List.length_replicate]
  omega
theorem yS {CX:kS} {P:Program} {w:World} {K:PySem.W.Frag} {mg:Str->Option Value} {base:Heap} {k:Nat} {f:Addr} {name qual:Str} {params:Arguments} {body:List Stmt} {scope:Scope} {dV kV doc pm cdv ct oc:Value} {an od:Option Addr}
  {osl:Array (Option Value)} {N ps:List Str} {sp:Sp} (lk:K.lookup f=some ⟨oc,od,.func (PySem.W.fnOf name qual params body scope dV kV doc pm an cdv ct),osl⟩) (hcd:PySem.W.codeIn K cdv qual=true) (S:aS N ps scope)
  (len:∀ vs H Q E,sp vs H Q E->vs.length=ps.length)
  (hbody:∀ (A:Around) (outer:List Env) (s:Shared) (H:Hp) (vs:List V) (Q:VK) (E:XK),cU k (A.deeper (envOfC qual scope s.heap.objs.size f cdv))->sp vs H Q E ->
   ∃ t,jb (m9 CX P w K mg base N qual scope f cdv A outer s H E) body t/\t { nx:=fun _ H'=>Q .bf H',rt:=Q } (start N vs) H) :
  bG P w K mg base CX (k+1) f (PySem.W.fnOf name qual params body scope dV kV doc pm an cdv ct) ps sp:=by
 refine⟨len,fun A outer s H args us vs Q E hr e0 hb r hsp=>?_⟩
 have hl:=len _ _ _ _ hsp
 have KX:K.In s.heap:=e0.mod.jJ.keeps fun b o e=>(e0.bs b o e).1
 have lim:s.heap.NoLimit:=e0.mod.nolimit.keeps fun b o e=>(e0.bs b o e).1
 have hkind:∀ y ∈ ps.zip us,scope.names.lookup y.1=some .local\/(scope.names.lookup y.1=some .cell/\((cellsFrom (s.heap.objs.size+1) scope.names []).lookup y.1).isSome=true):=fun ⟨n,v⟩ hy=>by
  rcases S.par n (List.of_mem_zip hy).1 with q | q
  ·exact .inl q
  ·exact .inr ⟨q,PySem.W.cellsFrom_some _ _ _ (.inl q)⟩
 refine codeAny_call_function hr.depth (KX _ _ lk) rfl S.co S.gen rfl (PySem.W.codeRec_of KX hcd) (hb _ _ _ _ ?_)
 refine wpAny_newFunctionEnv_cells S.kind hkind fun env he s1 x=>?_
 subst he
 refine⟨lim.keeps x.toInCall.keep,codeAny_func ?_⟩
 obtain⟨t,ht,hq⟩:=hbody A outer s H vs Q E (hr.deeper _) hsp
 have I:Inv (m9 CX P w K mg base N qual scope f cdv A outer s H E) [] (start N vs) H s1:=vR S hr.hd e0 hl r x
 refine wpAny_mono (ht [] s1 (start N vs) H _ I hq) (fun fl s' hs=>?_) fun e s' hs=>hs
 have fin:∀ {σ':St} {H':Hp} {v:V} {u:Value},Inv (m9 CX P w K mg base N qual scope f cdv A outer s H E) [] σ' H' s'->RelV v u->Q v H'->CE outer P w H s Q u s' :=
  fun {σ' H' v u} J rv q=>⟨v,H',J.os,J.bare,J.base,J.aN,rv,q⟩
 cases fl with
 | ret u =>
  obtain⟨v,σ',H',J,rv,q⟩:=hs
  exact fin J rv q
 | next =>
  obtain⟨σ',H',J,q⟩:=hs
  exact fin (v:=V.bf) (u:=Value.none) J rfl q
 | brk =>
  obtain⟨_,_,_,q⟩:=hs
  exact False.elim q
 | cont =>
  obtain⟨_,_,_,q⟩:=hs
  exact False.elim q
section
variable {X:Cx} {x:Str} {p pos:Pos} {e:Expr} {es:List Expr} {t:TA} {id T:String} {r:List V->Hp->VK->Prop}
def Ax (r:List V->Hp->VK->Prop) (t:TA):TE:=fun σ H Q=>t σ H fun vs H1=>r vs H1 Q
theorem bD (hc:dX X (.builtin id) r) (hg:Gl X x) (hm:X.mg x=none) (hv:bootBuiltins x=some (.builtin id)) (ha:PA X (e :: es) t) (hn:x ≠ "__name__" := by decide) (hdb:(x == ("__debug__" : Str))=false:=by decide)
  (he:starEach (e :: es) X.env=(false,eval e X.env) :: starEach es X.env:=by rfl) (hpl:(backTo pos (starEach es X.env)).any (·.1)=false:=by rfl):PE X (.Call (.Name x p) (e :: es) [] pos) (Ax r t):=by
 intro pins s σ H Q I h
 refine wpAny_Call_Name_kw (kM I hg hm hv ?_ hn hdb)
 exact PyProof.Rows.callWith_builtin1 (br (ha pos pins s σ H _ I h) fun us s1 ⟨vs,H1,I1,r1,q1⟩=>hc pins s1 σ H1 vs us Q I1 r1 q1) he hpl
theorem bx (hc:dX X (.type T) r) (hg:Gl X x) (hm:X.mg x=none) (hv:bootBuiltins x=some (.type T)) (ha:PA X (e :: es) t) (hn:x ≠ "__name__" := by decide) (hdb:(x == ("__debug__" : Str))=false:=by decide)
  (he:starEach (e :: es) X.env=(false,eval e X.env) :: starEach es X.env:=by rfl) (hpl:(backTo pos (starEach es X.env)).any (·.1)=false:=by rfl):PE X (.Call (.Name x p) (e :: es) [] pos) (Ax r t):=by
 intro pins s σ H Q I h
 refine wpAny_Call_Name_kw (kM I hg hm hv ?_ hn hdb)
 exact PyProof.Rows.callWith_type1 (br (ha pos pins s σ H _ I h) fun us s1 ⟨vs,H1,I1,r1,q1⟩=>hc pins s1 σ H1 vs us Q I1 r1 q1) he hpl
theorem uL (hc:dX X (.type T) r) (hg:Gl X x) (hm:X.mg x=none) (hv:bootBuiltins x=some (.type T)) (hn:x ≠ "__name__" := by decide) (hdb:(x == ("__debug__" : Str))=false:=by decide) :
  PE X (.Call (.Name x p) [] [] pos) (Ax r xA):=by
 intro pins s σ H Q I h
 refine wpAny_Call_Name_kw (kM I hg hm hv ?_ hn hdb)
 exact PyProof.Rows.callWith_type0 (hc pins s σ H [] [] Q I .nil h)
end
end L2
namespace HT
open PySem PyProof.Rows
section
open PySem.SeqAt
open PySem.AutoSeq1 (wpAny_loadPart')
open PySem.MeetsSeq PySem.MeetsSeq2 PySem.MeetsSeq3
end
section
variable {prog:Program} {w:World} {A:Around} {E:Value->Shared->Prop} {s:Shared}
theorem zm {t b:Addr} {vs ws:List Value} {Q:Value->Shared->Prop} (ht:IsTup s.heap t vs.toArray) (hb:IsTup s.heap b ws.toArray) (hv:vs ≠ [])
  (h1:ws = []->Q (.ref t) s) (h2:ws ≠ []->Q (.ref s.heap.objs.size) { s with heap:=s.heap.push { cls:=.type "tuple",data:=.seq (vs++ws).toArray } })
  (hsz:vs.length+ws.length<=sizeLine):wpAny (model prog w) A (binaryOp .Add (.ref t) (.ref b)) Q E s:=by
 obtain⟨⟨cls,dd,data,sl⟩,ho,hc,n,hd⟩:=id ht
 obtain⟨⟨cls2,dd2,data2,sl2⟩,ho2,hc2,n2,hd2⟩:=id hb
 simp only at hc hd hc2 hd2
 subst hc hd hc2 hd2
 have e:vs.toArray++ws.toArray=(vs++ws).toArray:=by simp
 by_cases hw:ws = []
 ·exact concat_meets ⟨_,ho,rfl⟩ ⟨_,ho2,rfl⟩ noFill_tuple_add seq_tuple_add PySem.F.slot_tuple_add PySem.F.entry_tuple_add (PySem.F.args_tuple_add_2 _ _)
   (tuple_addW1 t b vs.toArray ws.toArray n n2 dd dd2 sl sl2 (by simpa using hv) (by simp [hw])) ⟨ho,ho2,h1 hw⟩
 ·refine concat_meets ⟨_,ho,rfl⟩ ⟨_,ho2,rfl⟩ noFill_tuple_add seq_tuple_add PySem.F.slot_tuple_add PySem.F.entry_tuple_add (PySem.F.args_tuple_add_2 _ _)
   (tuple_addW2 t b vs.toArray ws.toArray n n2 dd dd2 sl sl2 (by simpa using hv) (by simpa using hw) (by rw [List.size_toArray,List.size_toArray];exact hsz)) ⟨ho,ho2,?_⟩
  rw [e]
  exact h2 hw
def bQ (n d:Nat):Option Int->Nat
 | none=>d
 | some v=>if v < 0 then (v+(n:Int)).toNat else min v.toNat n
theorem rn (n d:Nat):bQ n d none=d:=rfl
theorem tZ (n d k:Nat):bQ n d (some (k:Int))=min k n:=by
 show (if (k:Int) < 0 then ((k:Int)+(n:Int)).toNat else min (k:Int).toNat n)=min k n
 rw [if_neg (by omega),Int.toNat_natCast]
theorem Ay (n d:Nat) (hd:d<=n) (o:Option Int):bQ n d o<=n:=by
 cases o with
 | none=>exact hd
 | some v =>
  show (if v < 0 then (v+(n:Int)).toNat else min v.toNat n)<=n
  by_cases hv:v < 0
  ·rw [if_pos hv];omega
  ·rw [if_neg hv];exact Nat.min_le_right _ _
theorem t6 (v:Int) (n d:Nat):(if v < 0 then max (v+(n:Int)) 0 else min v (n:Int))=((bQ n d (some v):Nat):Int):=by
 show (if v < 0 then max (v+(n:Int)) 0 else min v (n:Int))=(((if v < 0 then (v+(n:Int)).toNat else min v.toNat n):Nat):Int)
 by_cases hv:v < 0
 ·simp only [if_pos hv];omega
 ·simp only [if_neg hv];omega
theorem uM (lo hi:Option Int) (n:Nat):Builtin.Slice.sliceAdjust lo hi 1 (n:Int)=(((bQ n 0 lo:Nat):Int),((bQ n n hi:Nat):Int)):=by
 have h1:¬ ((1:Int) < 0):=by omega
 unfold Builtin.Slice.sliceAdjust
 simp only [h1,if_false]
 refine Prod.ext ?_ ?_
 ·cases lo with
  | none=>rfl
  | some v=>exact t6 v n 0
 ·cases hi with
  | none=>rfl
  | some v=>exact t6 v n n
theorem uN (i j:Nat):Builtin.Slice.slicePlaces (i:Int) (j:Int) 1=j - i:=by
 unfold Builtin.Slice.slicePlaces
 have h1:(1:Int) > 0:=by omega
 simp only [h1,if_true,Int.ediv_one]
 split <;> omega
theorem nT {v:Value} {o:Option Int} {Q:Option Int->Shared->Prop} (p:IsPart v o) (h:Q o s):wpAny (model prog w) A (Builtin.Slice.slicePartIndex v) Q E s:=by
 cases p with
 | none=>exact slicePart_none h
 | int i t=>exact slicePart_int h
theorem je {sl:Addr} {vl vu:Value} {lo hi:Option Int} {n:Nat} {Q:Int × Int × Nat->Shared->Prop} (hs:s.heap.IsSliceOf sl vl vu .none) (pl:IsPart vl lo) (pu:IsPart vu hi)
  (h:Q (((bQ n 0 lo:Nat):Int),1,bQ n n hi - bQ n 0 lo) s):wpAny (model prog w) A (Builtin.Slice.sliceApplied (.ref sl) (pure (n:Int))) Q E s:=by
 obtain⟨os,hos,hcs,hds⟩:=id hs
 unfold Builtin.Slice.sliceApplied Builtin.Slice.sliceFields
 refine wpAny_bind (wpAny_bind (wpAny_field hos hds (x:=vl) rfl (wpAny_bind (wpAny_field hos hds (x:=vu) rfl (wpAny_bind (wpAny_field hos hds (x:=.none) rfl (wpAny_pure ?_)))))))
 refine wpAny_bind (slicePart_none ?_)
 show wpAny _ _ (if ((1:Int) == 0)=true then _ else _) _ _ s
 rw [if_neg (by decide)]
 refine wpAny_bind (nT pl (wpAny_bind (nT pu (wpAny_bind (wpAny_pure ?_)))))
 show wpAny _ _ (match Builtin.Slice.sliceAdjust lo hi 1 (n:Int) with | (lo,hi)=>pure (lo,(1:Int),Builtin.Slice.slicePlaces lo hi 1)) _ _ s
 rw [uM lo hi n]
 show wpAny _ _ (pure (((bQ n 0 lo:Nat):Int),(1:Int),Builtin.Slice.slicePlaces ((bQ n 0 lo:Nat):Int) ((bQ n n hi:Nat):Int) 1)) _ _ s
 rw [uN]
 exact wpAny_pure h
theorem xC (xs:Array Value) (i k:Nat):((List.range k).filterMap fun (m:Nat)=>xs[((i:Int)+(m:Int) * 1).toNat]?).toArray=((xs.toList.drop i).take k).toArray:=by
 have e:(fun (m:Nat)=>xs[((i:Int)+(m:Int) * 1).toNat]?)=fun m=>xs[i+m]?:=by
  funext m
  have:((i:Int)+(m:Int) * 1).toNat=i+m:=by omega
  rw [this]
 rw [e]
 have:=pick_run xs i k
 rw [List.filterMap_map] at this
 have e2:((fun x=>xs[x]?) ∘ fun x=>i+x)=fun m=>xs[i+m]?:=rfl
 rw [e2] at this
 rw [this]
theorem mF {t sl:Addr} {items:Array Value} {vl vu:Value} {lo hi:Option Int} {Q:Value->Shared->Prop} (ht:IsTup s.heap t items) (hs:s.heap.IsSliceOf sl vl vu .none) (pl:IsPart vl lo) (pu:IsPart vu hi)
  (hw:¬ (bQ items.size 0 lo=0/\bQ items.size items.size hi=items.size))
  (h:Q (.ref s.heap.objs.size) { s with heap:=s.heap.push { cls:=.type "tuple",data:=.seq ((items.toList.drop (bQ items.size 0 lo)).take (bQ items.size items.size hi - bQ items.size 0 lo)).toArray } })
  (hsz:items.size<=sizeLine):wpAny (model prog w) A (getItem (.ref t) (.ref sl)) Q E s:=by
 have htake:sizeOk (.seq ((items.toList.drop (bQ items.size 0 lo)).take (bQ items.size items.size hi - bQ items.size 0 lo)).toArray):=by
  show ((items.toList.drop (bQ items.size 0 lo)).take (bQ items.size items.size hi - bQ items.size 0 lo)).toArray.size<=sizeLine
  rw [List.size_toArray,List.length_take,List.length_drop,Array.length_toList]
  omega
 have hj:bQ items.size items.size hi<=items.size:=Ay _ _ (Nat.le_refl _) hi
 obtain⟨os,hos,hcs,hds⟩:=id hs
 have hTs:s.TypeIs (.ref sl) "slice" := ⟨os,hos,hcs⟩
 unfold getItem
 try with_reducible refine wpAny_holding ?_
 first | refine wpAny_bind (wpAny_pure ?_) | skip
 refine wpAny_bind (wpAny_sequenceKey ht.typeIs (by decide) ?_)
 refine wpAny_bind (wpAny_callSpecial?_slot (name:=Str.ofString "__getitem__") ht.typeIs PyProof.Rows.slot_tuple_getitem
  (wpAny_call_entry PyProof.Rows.slot_tuple_getitem ht.typeIs entry_tuple_getitem ?_ (args_tuple_getitem _ _)))
 show wpAny _ _ (Builtin.Tuple.tupleItemsOf (.ref t) >>= _) _ _ s
 refine wpAny_bind (tupleItemsOf_ ht ?_)
 refine wpAny_bind (wpAny_typeOf hTs ?_)
 rw [if_pos (by decide)]
 refine wpAny_bind (je hs pl pu ?_)
 have hno:¬ ((((bQ items.size 0 lo:Nat):Int) == 0 && (1:Int) == 1 && (bQ items.size items.size hi - bQ items.size 0 lo) == items.size)=true):=by
  intro q
  rw [Bool.and_eq_true,Bool.and_eq_true] at q
  have q1:((bQ items.size 0 lo:Nat):Int)=0:=eq_of_beq q.1.1
  have q2:bQ items.size items.size hi - bQ items.size 0 lo=items.size:=eq_of_beq q.2
  exact hw ⟨by omega,by omega⟩
 show wpAny _ _ (if (((bQ items.size 0 lo:Nat):Int) == 0 && (1:Int) == 1 && (bQ items.size items.size hi - bQ items.size 0 lo) == items.size)=true then _ else _) _ _ s
 rw [if_neg hno,xC]
 first
  | exact wpAny_bind (m:=Builtin.Tuple.tupleExact _) (wpAny_newObj_type (wpAny_pure ⟨_,rfl,wpAny_pure h⟩) htake)
  | exact wpAny_bind (m:=Builtin.Tuple.tupleExact _) (wpAny_newObj_type (wpAny_bind (wpAny_pure (wpAny_pure ⟨_,rfl,wpAny_pure h⟩))) htake)
  | exact wpAny_bind (wpAny_bind (m:=Builtin.Tuple.tupleExact _) (wpAny_newObj_type (wpAny_pure (wpAny_pure ⟨_,rfl,wpAny_pure h⟩)) htake))
  | exact wpAny_bind (wpAny_bind (m:=Builtin.Tuple.tupleExact _) (wpAny_newObj_type (wpAny_pure ⟨_,rfl,wpAny_pure h⟩) htake))
end
end HT
namespace L2
open PySem PySem.Spec PyProof.Rows
abbrev TO:=St->Hp->(Option Int->Hp->Prop)->Prop
def PO (X:Cx) (e:Option Expr) (t:TO):Prop :=
 ∀ (pins:List (Addr × Obj)) (s:Shared) (σ : St) (H:Hp) (Q:Option Int->Hp->Prop),Inv X pins σ H s->t σ H Q ->
  wpAny (model X.prog X.w) X.A (evalPart e X.env) (fun u s'=>∃ o H',Inv X pins σ H' s'/\IsPart u o/\Q o H') X.xe s
def zo:TO:=fun _ H Q=>Q none H
def Bx (t:TE):TO:=fun σ H Q=>t σ H fun x H1=>∃ i,x=.int i/\Q (some i) H1
theorem intsAre_of {ns:List Int}:∀ {us:List Value},Vals (ns.map V.int) us->IntsAre us ns:=by
 induction ns with
 | nil=>intro us r;rw [List.map_nil] at r;cases r;exact .nil
 | cons n ns ih =>
  intro us r
  rw [List.map_cons] at r
  cases r with
  | cons r1 r2 =>
   obtain⟨t,e⟩:=r1
   subst e
   exact .cons n t (ih r2)
section
variable {X:Cx} {e:Expr} {te:TE} {lo hi:Option Expr} {tl th:TO} {pos p2:Pos}
theorem mf:PO X none zo:=by
 intro pins s σ H Q I h
 rw [evalPart_none]
 exact wpAny_pure ⟨none,H,I,.none,h⟩
theorem mh (h:PE X e te):PO X (some e) (Bx te):=by
 intro pins s σ H Q I hw
 rw [evalPart_some]
 refine br (h pins s σ H _ I hw) fun u s1 ⟨x,H1,I1,r1,q1⟩=>?_
 obtain⟨i,rfl,q⟩:=q1
 obtain⟨t,rfl⟩:=r1
 exact⟨some i,H1,I1,.int i t,q⟩
def Az (X:Cx) (r:V->Option Int->Option Int->Hp->VK->Prop):Prop :=
 ∀ (pins:List (Addr × Obj)) (s:Shared) (σ : St) (H:Hp) (x:V) (v vl vu:Value) (lo hi:Option Int) (sl:Addr) (Q:VK),Inv X pins σ H s->RelV x v->s.heap.IsSliceOf sl vl vu .none->IsPart vl lo->IsPart vu hi->r x lo hi H Q ->
  ∃ T id,typeLookup (.type T) "__getitem__" = pure (some (.builtin id))/\s.TypeIs v T/\wpAny (model X.prog X.w) X.A (getItem v (.ref sl)) (EP X pins σ Q) X.xe s
def CM (r:V->Option Int->Option Int->Hp->VK->Prop) (te:TE) (tl th:TO):TE:=fun σ H Q=>te σ H fun x H1=>tl σ H1 fun l H2=>th σ H2 fun u H3=>r x l u H3 Q
theorem jZ {r:V->Option Int->Option Int->Hp->VK->Prop} (hr:Az X r) (he:PE X e te) (hl:PO X lo tl) (hu:PO X hi th):PE X (.Subscript e (.Slice lo hi none p2) pos) (CM r te tl th):=by
 intro pins s σ H Q I h
 refine Subscript_ (br (he pins s σ H _ I h) fun v s1 ⟨x,H1,I1,r1,q1⟩=>?_)
 refine wpAny_Slice (br (hl pins s1 σ H1 _ I1 q1) fun vl s2 ⟨l,H2,I2,pl,q2⟩=>br (hu pins s2 σ H2 _ I2 q2) fun vu s3 ⟨u,H3,I3,pu,q3⟩=>?_)
 rw [evalPart_none]
 refine wpAny_pure ?_
 have I4:Inv X pins σ H3 { s3 with heap:=s3.heap.push { cls:=.type "slice",data:=.fields #[vl,vu,.none] } }:=I3.kept (t':=s3.toks) fun b ob q=>Heap.get?_push_of_some _ q
 obtain⟨T,id,hT,ht,hg⟩:=hr pins { s3 with heap:=s3.heap.push { cls:=.type "slice",data:=.fields #[vl,vu,.none] } } σ H3 x v vl vu l u s3.heap.objs.size Q I4 r1 (Heap.IsSliceOf.new ..) pl pu q3
 show wpAny (model X.prog X.w) X.A (subscriptTail e (.Slice lo hi none p2) v (.ref s3.heap.objs.size)) (EP X pins σ Q) X.xe { s3 with heap:=s3.heap.push { cls:=.type "slice",data:=.fields #[vl,vu,.none] } }
 exact tail_any (ops:=[.ref s3.heap.objs.size,v]) ht hT hg (by with_unfolding_all rfl)
def ia (xs:List V) (lo hi:Option Int):List V:=(xs.drop (HT.bQ xs.length 0 lo)).take (HT.bQ xs.length xs.length hi - HT.bQ xs.length 0 lo)
theorem sX (xs:List V) (lo hi:Option Int):(ia xs lo hi).length<=xs.length:=by
 unfold ia
 rw [List.length_take,List.length_drop]
 omega
def Cr (K:PySem.W.Frag):V->Option Int->Option Int->Hp->VK->Prop:=fun x lo hi H Q=>∃ a xs,x=.ref a/\ay K H a xs /\
 ¬ (HT.bQ xs.length 0 lo=0/\HT.bQ xs.length xs.length hi=xs.length)/\∀ p,H p=none->Q (.ref p) (upd H p (.tup (ia xs lo hi)))
theorem AA:Az X (Cr X.K):=by
 intro pins s σ H x v vl vu lo hi sl Q I rx hs pl pu h
 obtain⟨a,xs,rfl,hx,hw,q⟩:=h
 cases rx
 obtain⟨its,r,ht,hz⟩:=I.tuple hx
 have hlen:its.toArray.size=xs.length:=by rw [List.size_toArray];exact r.length.symm
 refine⟨"tuple",_,PyProof.Rows.slot_tuple_getitem.lookup,ht.typeIs,?_⟩
 refine HT.mF ht hs pl pu (by rw [hlen];exact hw) ?_ (by rw [hlen];exact hz)
 rw [hlen]
 refine⟨.ref s.heap.objs.size,_,I.laid (t':=s.toks) (o:=.tup (ia xs lo hi)) (fun b ob q=>Heap.get?_push_of_some _ q) (Nat.le_refl _) ?_,rfl,q _ (I.aN.fresh (Nat.le_refl _))⟩
 exact⟨Nat.le_trans (sX xs lo hi) hz,_,(r.drop (HT.bQ xs.length 0 lo)).take (HT.bQ xs.length xs.length hi - HT.bQ xs.length 0 lo),⟨_,Heap.get?_push_size _ rfl,rfl,_,rfl,rfl⟩⟩
theorem Vals.oV {xs:List V} {us:List Value} (r:Vals xs us):us = [] ↔ xs = []:=by
 cases r with
 | nil=>simp
 | cons _ _=>simp
end
def nU (n:Nat) (i:Int):Option Nat:=if 0<=i then (if i < n then some i.toNat else none) else if -(n:Int)<=i then some (i+n).toNat else none
def e7 {α : Type} (xs:List α) (i:Int):Option α:=(nU xs.length i).bind fun j=>xs[j]?
theorem t9 {n:Nat} {i:Int} {j:Nat} (h:nU n i=some j):seqIndex? i n=some j/\j < n/\-(n:Int)<=i/\i < n:=by
 unfold nU at h
 by_cases h0:0<=i
 ·rw [if_pos h0] at h
  by_cases h1:i < n
  ·rw [if_pos h1] at h
   have e:i.toNat=j:=Option.some.inj h
   exact⟨by rw [seqIndex_of h0 h1,e],by omega,by omega,h1⟩
  ·rw [if_neg h1] at h;cases h
 ·rw [if_neg h0] at h
  by_cases h1:-(n:Int)<=i
  ·rw [if_pos h1] at h
   have e:(i+n).toNat=j:=Option.some.inj h
   exact⟨by rw [seqIndex_neg (by omega) h1,e],by omega,h1,by omega⟩
  ·rw [if_neg h1] at h;cases h
theorem oW {α : Type} {xs:List α} {i:Int} {v:α} (h:e7 xs i=some v):∃ j,seqIndex? i xs.length=some j/\xs[j]? = some v/\j < xs.length/\-(xs.length:Int)<=i/\i < xs.length:=by
 unfold e7 at h
 cases e:nU xs.length i with
 | none=>rw [e] at h;cases h
 | some j =>
  rw [e] at h
  obtain⟨h1,h2,h3,h4⟩:=t9 e
  exact⟨j,h1,h,h2,h3,h4⟩
theorem bL {α : Type} {xs:List α} {j:Nat} {v:α} (h:xs[j]? = some v):e7 xs (j:Int)=some v:=by
 have hj:j < xs.length:=(List.getElem?_eq_some_iff.mp h).1
 have e:nU xs.length (j:Int)=some j:=by
  unfold nU
  rw [if_pos (by omega),if_pos (by omega)];simp
 unfold e7;rw [e];exact h
def zp (b:Expr):Prop:=∀ o i,subscripted b false o i=operate [o,i] (getItem o i)
def yT (X:Cx) (r:R2):Prop :=
 ∀ (value slice:Expr) (pins:List (Addr × Obj)) (s:Shared) (σ : St) (H:Hp) (x y:V) (v u:Value) (Q:VK),Inv X pins σ H s->RelV x v->RelV y u->r x y H Q ->
  subscripted slice false v u=operate [v,u] (getItem v u)->wpAny (model X.prog X.w) X.A (subscriptTail value slice v u) (EP X pins σ Q) X.xe s
def AB (X:Cx) (id:String) (r:V->List V->Hp->VK->Prop):Prop :=
 ∀ (pins:List (Addr × Obj)) (s:Shared) (σ : St) (H:Hp) (x:V) (xs:List V) (v:Value) (us:List Value) (Q:VK),Inv X pins σ H s->RelV x v->Vals xs us->r x xs H Q ->
  wpAny (model X.prog X.w) X.A (call (.builtin id) (v :: us)) (EP X pins σ Q) X.xe s
section
variable {X:Cx} {a b:Expr} {ta tb:TE} {pos:Pos}
theorem aK {r:R2} (hr:yT X r) (ha:PE X a ta) (hb:PE X b tb) (hs:zp b):PE X (.Subscript a b pos) (yO r ta tb):=by
 intro pins s σ H Q I h
 exact Subscript_ (xr ha hb I h fun v u s2 x y H2 I2 rx ry q=>hr a b pins s2 σ H2 x y v u Q I2 rx ry q (hs _ _))
def Cs (K:PySem.W.Frag):R2:=fun x y H Q=>∃ p xs i v,x=.ref p/\y=.int i/\aI K H p xs/\e7 xs i=some v/\Q v H
def Ct (K:PySem.W.Frag):R2:=fun x y H Q=>∃ p xs i v,x=.ref p/\y=.int i/\ay K H p xs/\e7 xs i=some v/\Q v H
def Cu:R2:=fun x y H Q=>∃ z i c,x=.str z/\y=.int i/\z.length<=sizeLine/\e7 z.cps.toList i=some c/\Q (.str ⟨#[c]⟩) H
theorem bN:yT X (Cs X.K):=by
 intro value slice pins s σ H x y v u Q I rx ry h hs
 obtain⟨p,xs,i,z,rfl,rfl,hq,he,q⟩:=h
 cases rx
 obtain⟨t,rfl⟩:=ry
 obtain⟨its,r,pl,hz⟩:=I.list hq
 obtain⟨j,h1,h2,h3,h4,h5⟩:=oW he
 obtain⟨w,ew,rw'⟩:=r.get h2
 have hl:=r.length
 have hn:=iz
 have fin:EP X pins σ Q w s:=⟨z,H,I,rw',q⟩
 by_cases h0:0<=i
 ·have hj:i.toNat=j:=by
   rw [seqIndex_of h0 h5] at h1
   exact Option.some.inj h1
  exact item_listR pl.isList h0 (by omega) (by rw [hj];simpa using ew) fin hs
 ·have hj:(i+(its.toArray.size:Int)).toNat=j:=by
   rw [seqIndex_neg (by omega) h4] at h1
   rw [List.size_toArray,<-hl]
   exact Option.some.inj h1
  exact subscriptTail_builtinR (x:=w) pl.isList.typeIs slot_list_getitem.lookup
   (wpAny_getItem_list_neg (Q:=fun r s'=>r=w/\EP X pins σ Q r s') pl.isList (by omega) (by rw [List.size_toArray] <;> omega) (by omega) (by rw [hj];simpa using ew) ⟨rfl,fin⟩) hs
theorem bc:yT X (Ct X.K):=by
 intro value slice pins s σ H x y v u Q I rx ry h hs
 obtain⟨p,xs,i,z,rfl,rfl,hq,he,q⟩:=h
 cases rx
 obtain⟨t,rfl⟩:=ry
 obtain⟨its,r,pl,hz⟩:=I.tuple hq
 obtain⟨j,h1,h2,h3,h4,h5⟩:=oW he
 obtain⟨w,ew,rw'⟩:=r.get h2
 have hl:=r.length
 have hn:=iz
 have fin:EP X pins σ Q w s:=⟨z,H,I,rw',q⟩
 exact subscriptTail_builtinR (x:=w) pl.typeIs slot_tuple_getitem.lookup
  (getItem_tuple (j:=j) (Q:=fun r s'=>r=w/\EP X pins σ Q r s') pl (by omega) (by omega) (by rw [List.size_toArray,<-hl];exact h1) (by simpa using ew) ⟨rfl,fin⟩) hs
theorem rp:yT X Cu:=by
  intro value slice pins s σ H x y v u Q I rx ry h hs
  obtain⟨z,i,c,rfl,rfl,hz,he,q⟩:=h
  obtain⟨t,rfl⟩:=rx
  obtain⟨t',rfl⟩:=ry
  obtain⟨j,h1,h2,h3,h4,h5⟩:=oW he
  have hl:z.cps.toList.length=z.length:=by simp [Str.length]
  rw [hl] at h1 h4 h5
  have hn:=iz
  exact tail_any (typeIs_str s z t) slot_str_getitem.lookup (getItem_str (c:=c) (by
    have e1:decide (i < -(2 ^ 63:Int))=false:=decide_eq_false (by omega)
    have e2:decide (i >= 2 ^ 63)=false:=decide_eq_false (by omega)
    rw [e1,e2,Bool.or_false]) (by rw [h1];simpa using h2) ⟨.str ⟨#[c]⟩,H,I.tok _,⟨_,rfl⟩,q⟩) hs
theorem uO (its:List Value) (n j:Nat) (u:Value):Obj.mapSeq (·.setIfInBounds j u) { cls:=.type "list",data:=.seq its.toArray n } = { cls:=.type "list",data:=.seq (its.set j u).toArray n }:=by
 simp [Obj.mapSeq]
theorem Inv.lst {pins:List (Addr × Obj)} {σ : St} {H:Hp} {s:Shared} {p:Addr} {xs:List V} (I:Inv X pins σ H s) (h:H p=some (.lst xs)) :
  ∃ (its:List Value) (n:Nat),Vals xs its/\s.heap.get? p=some { cls:=.type "list",data:=.seq its.toArray n }/\xs.length<=sizeLine:=by
 obtain⟨z,its,n,r,e⟩:=I.aN p _ h
 exact⟨its,n,r,e,z⟩
theorem Inv.AD {pins:List (Addr × Obj)} {σ : St} {H:Hp} {s:Shared} {p:Addr} {xs ys:List V} {its its':List Value} {n n':Nat} {f:Obj->Obj} (I:Inv X pins σ H s) (h:H p=some (.lst xs))
  (ho:s.heap.get? p=some { cls:=.type "list",data:=.seq its.toArray n }) (hf:f { cls:=.type "list",data:=.seq its.toArray n } = { cls:=.type "list",data:=.seq its'.toArray n' }) (r:Vals ys its') (hz:ys.length<=sizeLine) (t:Nat) :
  Inv X pins σ (upd H p (.lst ys)) { s with heap:=s.heap.update p f,toks:=t }:=by
 have e:(s.heap.update p f).get? p=some { cls:=.type "list",data:=.seq its'.toArray n' }:=by
  rw [Heap.get?_update_self f ho (by rw [hf] <;> rfl),hf]
 refine I.write (x:=p) (e:=p) (by rw [h];trivial) (.inl rfl) (fun b u hb q=>(Heap.get?_update_other _ _ (Ne.symm hb)).trans q) ⟨_,e⟩ ?_
 exact⟨hz,its',n',r,e⟩
def By:V->V->V->Hp->(Hp->Prop)->Prop:=fun o i v H Q=>∃ p xs k j,o=.ref p/\i=.int k/\H p=some (.lst xs)/\nU xs.length k=some j/\Q (upd H p (.lst (xs.set j v)))
theorem set_list:xn X By:=by
 intro pins s σ H o i v ov iv u Q I ro ri rv h
 obtain⟨p,xs,k,j,rfl,rfl,hp,hj,q⟩:=h
 cases ro
 obtain⟨t,rfl⟩:=ri
 obtain⟨its,n,r,ho,hz⟩:=I.lst hp
 obtain⟨h1,h2,h3,h4⟩:=t9 hj
 have hl:=r.length
 have hn:=iz
 have I':Inv X pins σ (upd H p (.lst (xs.set j v))) { s with heap:=s.heap.update p (Obj.mapSeq (·.setIfInBounds j u)) } :=
  I.AD hp ho (uO its n j u) (r.set rv j) (by rw [List.length_set];exact hz) s.toks
 by_cases h0:0<=k
 ·have hk:k.toNat=j:=by
   rw [seqIndex_of h0 h4] at h1
   exact Option.some.inj h1
  exact PySem.W.ki_setAt ho h0 (by omega) (by rw [List.size_toArray,<-hl];exact h4) (by rw [hk];exact⟨_,I',q⟩)
 ·have hk:(k+(its.toArray.size:Int)).toNat=j:=by
   rw [seqIndex_neg (by omega) h3] at h1
   rw [List.size_toArray,<-hl]
   exact Option.some.inj h1
  exact PySem.W.ki_setBack ho (by omega) (by rw [List.size_toArray,<-hl];exact h3) (by omega) (by rw [hk];exact⟨_,I',q⟩)
def ir:V->Bool
 | .bf=>true
 | .bl _=>true
 | .int _=>true
 | .str _=>true
 | _=>false
def pY:V->V->Bool
 | .bf,.bf=>true
 | .bl a,.bl b=>a == b
 | .bl a,.int b=>(if a then 1 else 0) == b
 | .int a,.bl b=>a == (if b then 1 else 0)
 | .int a,.int b=>a == b
 | .str a,.str b=>a == b
 | _,_=>false
theorem AE {A:Around} {s:Shared} {y x:V} {u v:Value} (ry:RelV y u) (rx:RelV x v) (fy:ir y=true) (fx:ir x=true):SeqAt.EqAt A s u v (pY y x):=by
 cases y with
 | bf =>
  cases ry
  cases x with
  | bf=>cases rx;exact SeqAt.EqAt.same _
  | bl b=>cases rx;exact SeqAt.EqAt.none_bool b
  | int b=>obtain⟨t,rfl⟩:=rx;exact SeqAt.EqAt.none_int b t
  | str b=>obtain⟨t,rfl⟩:=rx;exact SeqAt.EqAt.none_str b t
  | _=>exact absurd (show false=true from fx) Bool.false_ne_true
 | bl a =>
  cases ry
  cases x with
  | bf=>cases rx;exact SeqAt.EqAt.bool_none a
  | bl b=>cases rx;exact SeqAt.EqAt.bool_bool a b
  | int b=>obtain⟨t,rfl⟩:=rx;exact SeqAt.EqAt.bool_int a b t
  | str b=>obtain⟨t,rfl⟩:=rx;exact SeqAt.EqAt.bool_str a b t
  | _=>exact absurd (show false=true from fx) Bool.false_ne_true
 | int a =>
  obtain⟨t',rfl⟩:=ry
  cases x with
  | bf=>cases rx;exact SeqAt.EqAt.int_none a t'
  | bl b=>cases rx;exact SeqAt.EqAt.int_bool a t' b
  | int b=>obtain⟨t,rfl⟩:=rx;exact SeqAt.EqAt.int_int a t' b t
  | str b=>obtain⟨t,rfl⟩:=rx;exact SeqAt.EqAt.int_str a t' b t
  | _=>exact absurd (show false=true from fx) Bool.false_ne_true
 | str a =>
  obtain⟨t',rfl⟩:=ry
  cases x with
  | bf=>cases rx;exact SeqAt.EqAt.str_none a t'
  | bl b=>cases rx;exact SeqAt.EqAt.str_bool a t' b
  | int b=>obtain⟨t,rfl⟩:=rx;exact SeqAt.EqAt.str_int a t' b t
  | str b=>obtain⟨t,rfl⟩:=rx;exact SeqAt.EqAt.str_str a t' b t
  | _=>exact absurd (show false=true from fx) Bool.false_ne_true
 | _=>exact absurd (show false=true from fy) Bool.false_ne_true
def jf (x:V) (u:Value):Bool:=match u with
 | .none=>pY .bf x
 | .bool b=>pY (.bl b) x
 | .int i _=>pY (.int i) x
 | .str z _=>pY (.str z) x
 | _=>false
theorem vS {x y:V} {u:Value} (r:RelV y u) (f:ir y=true):jf x u=pY y x:=by
 cases y with
 | bf=>cases r;rfl
 | bl b=>cases r;rfl
 | int i=>obtain⟨t,rfl⟩:=r;rfl
 | str z=>obtain⟨t,rfl⟩:=r;rfl
 | _=>exact absurd (show false=true from f) Bool.false_ne_true
theorem jM {x:V}:∀ {xs:List V} {us:List Value},Vals xs us->xs.all ir=true->us.any (jf x)=xs.any fun y=>pY y x
 | _,_,.nil,_=>rfl
 | y :: xs,u :: us,.cons r t,f=>by
  rw [List.all_cons,Bool.and_eq_true] at f
  rw [List.any_cons,List.any_cons,vS r f.1,jM t f.2]
theorem jg {A:Around} {s:Shared} {x:V} {v:Value} (rx:RelV x v) (fx:ir x=true):∀ {xs:List V} {us:List Value},Vals xs us->xs.all ir=true->∀ u ∈ us,SeqAt.EqAt A s u v (jf x u)
 | _,_,.nil,_=>fun u hu=>by cases hu
 | y :: xs,u :: us,.cons r t,f=>fun u' hu=>by
  rw [List.all_cons,Bool.and_eq_true] at f
  rcases List.mem_cons.mp hu with rfl | hu
  ·rw [vS r f.1];exact AE r rx f.1 fx
  ·exact jg rx fx t f.2 u' hu
def kA (x:V) (xs:List V):Bool:=xs.any fun y=>pY y x
def BN (K:PySem.W.Frag) (neg:Bool):R2:=fun x y H Q=>∃ p xs,y=.ref p/\(aI K H p xs\/ay K H p xs)/\ir x=true/\xs.all ir=true/\Q (.bl (if neg then !kA x xs else kA x xs)) H
theorem kT:dY X (compareOp .In) (BN X.K false):=by
 intro pins s σ H x y v u Q I rx ry h
 obtain⟨p,xs,rfl,hq,fx,fs,q⟩:=h
 cases ry
 rcases hq with hq | hq
 ·obtain⟨its,r,pl,hz⟩:=I.list hq
  refine SeqAt.in_listAt (jf x) pl.isList (fun w hw=>jg rx fx r fs w (by simpa using hw)) ⟨.bl _,H,I,rfl,?_⟩
  rw [show its.toArray.any (jf x)=its.any (jf x) by simp,jM r fs]
  exact q
 ·obtain⟨its,r,pl,hz⟩:=I.tuple hq
  refine SeqAt.in_tupleAt (jf x) pl (fun w hw=>jg rx fx r fs w (by simpa using hw)) ⟨.bl _,H,I,rfl,?_⟩
  rw [show its.toArray.any (jf x)=its.any (jf x) by simp,jM r fs]
  exact q
theorem kU:dY X (compareOp .NotIn) (BN X.K true):=by
 intro pins s σ H x y v u Q I rx ry h
 obtain⟨p,xs,rfl,hq,fx,fs,q⟩:=h
 cases ry
 rcases hq with hq | hq
 ·obtain⟨its,r,pl,hz⟩:=I.list hq
  refine SeqAt.notIn_listAt (jf x) pl.isList (fun w hw=>jg rx fx r fs w (by simpa using hw)) ⟨.bl _,H,I,rfl,?_⟩
  rw [show its.toArray.any (jf x)=its.any (jf x) by simp,jM r fs]
  exact q
 ·obtain⟨its,r,pl,hz⟩:=I.tuple hq
  refine SeqAt.notIn_tupleAt (jf x) pl (fun w hw=>jg rx fx r fs w (by simpa using hw)) ⟨.bl _,H,I,rfl,?_⟩
  rw [show its.toArray.any (jf x)=its.any (jf x) by simp,jM r fs]
  exact q
theorem bE:dX X (.builtin "len") (fun xs H Q=>∃ p ys,xs = [.ref p]/\(aI X.K H p ys\/ay X.K H p ys)/\Q (.int ys.length) H):=by
 intro pins s σ H xs us Q I r h
 obtain⟨p,ys,rfl,hq,q⟩:=h
 obtain⟨u,rfl,rx⟩:=vals1 r
 cases rx
 have hn:=iz
 rcases hq with hq | hq
 ·obtain⟨its,r',pl,hz⟩:=I.list hq
  have hlen:=r'.length
  exact Calls.call_len_list pl.isList (by simp only [List.size_toArray] <;> omega) ⟨.int ys.length,H,I.tok _,⟨s.toks+1,by rw [List.size_toArray,hlen]⟩,q⟩
 ·obtain⟨its,r',pl,hz⟩:=I.tuple hq
  have hlen:=r'.length
  exact len_tuple pl (by simp only [List.size_toArray] <;> omega) ⟨.int ys.length,H,I.tok _,⟨s.toks+1,by rw [List.size_toArray,hlen]⟩,q⟩
theorem kW:dX X (.type "list") (fun xs H Q=>∃ p ys,xs = [.ref p]/\(aI X.K H p ys\/ay X.K H p ys)/\∀ l,H l=none->Q (.ref l) (upd H l (.lst ys))):=by
 intro pins s σ H xs us Q I r h
 obtain⟨p,ys,rfl,hq,q⟩:=h
 obtain⟨u,rfl,rx⟩:=vals1 r
 cases rx
 have fin:∀ (its:List Value),Vals ys its->ys.length<=sizeLine->∀ (h':Heap) (c':Nat),(∀ b o',s.heap.get? b=some o'->h'.get? b=some o') ->
   h'.get? s.heap.objs.size=some { cls:=.type "list",dict:=none,data:=.seq its.toArray c',slots:=#[] }->EP X pins σ Q (.ref s.heap.objs.size) { s with heap:=h' }:=fun its r' hz h' c' kp e =>
  ⟨.ref s.heap.objs.size,_,I.laid (t':=s.toks) kp (Nat.le_refl _) (show bM X.prog X.w _ h' _ (.lst ys) from ⟨hz,its,c',r',e⟩),rfl,q _ (I.aN.fresh (Nat.le_refl _))⟩
 rcases hq with hq | hq
 ·obtain⟨its,r',pl,hz⟩:=I.list hq
  have hlen:=r'.length
  obtain⟨o,ho,hc,n,hd⟩:=pl.isList
  exact call_list_seq p (.inl rfl) ho hc hd (fun h' c' kp e=>fin its r' hz h' c' kp e) (by simp only [List.size_toArray] <;> omega)
 ·obtain⟨its,r',pl,hz⟩:=I.tuple hq
  have hlen:=r'.length
  obtain⟨o,ho,hc,n,hd⟩:=pl
  exact call_list_seq p (.inr rfl) ho hc hd (fun h' c' kp e=>fin its r' hz h' c' kp e) (by simp only [List.size_toArray] <;> omega)
theorem bC:dX X (.type "tuple") (fun xs H Q=>∃ p ys,xs = [.ref p]/\((aI X.K H p ys/\∀ l,H l=none->Q (.ref l) (upd H l (.tup ys)))\/(ay X.K H p ys/\Q (.ref p) H))):=by
 intro pins s σ H xs us Q I r h
 obtain⟨p,ys,rfl,h⟩:=h
 obtain⟨u,rfl,rx⟩:=vals1 r
 cases rx
 rcases h with ⟨hq,q⟩ | ⟨hq,q⟩
 ·obtain⟨its,r',pl,hz⟩:=I.list hq
  have hlen:=r'.length
  refine call_tuple_list pl.isList (fun h' kp=>?_) (by simp only [List.size_toArray] <;> omega)
  have I1:Inv X pins σ H { s with heap:=h' }:=I.kept (t':=s.toks) kp
  have I2:Inv X pins σ (upd H h'.objs.size (.tup ys)) { s with heap:=h'.push { cls:=.type "tuple",data:=.seq its.toArray } } :=
   I1.laid (t':=s.toks) (fun b o e=>Heap.get?_push_of_some _ e) (Nat.le_refl _) (show bM X.prog X.w _ _ _ (.tup ys) from ⟨hz,its,r',⟨_,Heap.get?_push_size _ rfl,rfl,_,rfl,rfl⟩⟩)
  exact⟨.ref h'.objs.size,_,I2,rfl,q _ (I1.aN.fresh (Nat.le_refl _))⟩
 ·obtain⟨its,r',pl,hz⟩:=I.tuple hq
  exact call_tuple_same pl ⟨.ref p,H,I,rfl,q⟩
def AF (K:PySem.W.Frag) (T:String) (x:V) (H:Hp):Prop:=match x with
 | .str _=>T = "str"
 | .int _=>T = "int"
 | .ref p=>(T = "list" /\ ∃ xs,aI K H p xs)\/(T = "tuple" /\ ∃ o,K.lookup p=some o/\o.cls=.type "tuple" /\ o.dict=none) \/
   (T = "dict" /\ ((∃ kvs,H p=some (.dK kvs))\/∃ kvs,H p=some (.dT kvs)))\/(T = "set" /\ ∃ S n,H p=some (.set S n))
 | _=>False
theorem vT {pins:List (Addr × Obj)} {σ : St} {H:Hp} {s:Shared} {T:String} {x:V} {v:Value} (I:Inv X pins σ H s) (r:RelV x v) (ty:AF X.K T x H) :
  s.TypeIs v T/\∀ a,v=.ref a->∃ ob,s.heap.get? a=some ob/\ob.dict=none:=by
 cases x with
 | str z =>
  obtain⟨t,rfl⟩:=r
  cases (show T = "str" from ty)
  exact⟨typeIs_str s z t,fun _ e=>nomatch e⟩
 | int i =>
  obtain⟨t,rfl⟩:=r
  cases (show T = "int" from ty)
  exact⟨typeIs_int s i t,fun _ e=>nomatch e⟩
 | ref p =>
  cases r
  rcases ty with ⟨rfl,xs,hq⟩ | ⟨rfl,o,hk,hc,hd⟩ | ⟨rfl,hk⟩ | ⟨rfl,S,n,hk⟩
  ·obtain⟨its,_,pl,_⟩:=I.list hq
   refine⟨pl.isList.typeIs,fun a e=>?_⟩
   cases e
   obtain⟨o,n,e,c,hd,_⟩:=pl
   exact⟨o,e,hd⟩
  ·refine⟨⟨o,I.iQ p o hk,hc⟩,fun a e=>?_⟩
   cases e
   exact⟨o,I.iQ _ o hk,hd⟩
  ·have z:∃ o,s.heap.get? p=some o/\o.ExactDict:=by
    rcases hk with ⟨kvs,hk⟩ | ⟨kvs,hk⟩
    ·obtain⟨_,_,_,_,o,_,_,e,ex,_⟩:=I.aN p _ hk
     exact⟨o,e,ex⟩
    ·obtain⟨_,_,_,_,o,_,_,e,ex,_⟩:=I.aN p _ hk
     exact⟨o,e,ex⟩
   obtain⟨o,e,ex⟩:=z
   refine⟨⟨o,e,ex.1⟩,fun a e2=>?_⟩
   cases e2
   exact⟨o,e,ex.2.1⟩
  ·obtain⟨o,_,_,_,e,ex,_⟩:=I.aN p _ hk
   refine⟨⟨o,e,ex.1⟩,fun a e2=>?_⟩
   cases e2
   exact⟨o,e,ex.2.1⟩
 | _=>exact False.elim ty
def Cv (K:PySem.W.Frag) (T:String) (r:V->List V->Hp->VK->Prop) (to:TE):TE:=fun σ H Q=>to σ H fun x H1=>AF K T x H1/\r x [] H1 Q
def CN (K:PySem.W.Frag) (T:String) (r:V->List V->Hp->VK->Prop) (to:TE) (t:TA):TE:=fun σ H Q=>to σ H fun x H1=>AF K T x H1/\t σ H1 fun xs H2=>r x xs H2 Q
variable {o e:Expr} {es:List Expr} {to:TE} {t:TA} {name:Str} {apos cpos:Pos} {T id:String} {r:V->List V->Hp->VK->Prop}
theorem AG (pa:PlainAttrs T) (slot:Slot T name id) (hty:typeOf (.builtin id)=pure (.type "method_descriptor")) (hm:AB X id r) (ho:PE X o to)
  (hbase:attributeBase o name X.env (eval o X.env)=eval o X.env:=by rfl) (hline:(apos.endLine == cpos.line)=true:=by rfl):PE X (.Call (.Attribute o name apos) [] [] cpos) (Cv X.K T r to):=by
 intro pins s σ H Q I h
 refine wpAny_Call_method0_late hbase hline (br (ho pins s σ H _ I h) fun v s1 ⟨x,H1,I1,r1,ty,q1⟩=>?_)
 obtain⟨h1,h2⟩:=vT I1 r1 ty
 exact⟨T,id,pa,slot,hty,h1,h2,Calls.callWith_builtin rfl (PySem.evalArgs_none (hm pins s1 σ H1 x [] v [] Q I1 r1 .nil q1))⟩
theorem eM (pa:PlainAttrs T) (slot:Slot T name id) (hty:typeOf (.builtin id)=pure (.type "method_descriptor")) (hm:AB X id r) (ho:PE X o to) (ha:PA X (e :: es) t)
  (hbase:attributeBase o name X.env (eval o X.env)=eval o X.env:=by rfl)
  (hfew:((backTo cpos (starEach (e :: es) X.env)).all (fun x=>!x.1) && (backToKw cpos (keywordEach [] X.env)).all (fun x=>x.1.isSome)
   && decide ((e :: es).length+([]:List Keyword).length+(if ([]:List Keyword).isEmpty then 0 else 1) < 30))=true:=by rfl)
  (hline:(apos.endLine == cpos.line)=true:=by rfl) (hs:starEach (e :: es) X.env=(false,eval e X.env) :: starEach es X.env:=by rfl) (hplain:(backTo cpos (starEach es X.env)).any (·.1)=false:=by rfl) :
  PE X (.Call (.Attribute o name apos) (e :: es) [] cpos) (CN X.K T r to t):=by
 intro pins s σ H Q I h
 refine wpAny_Call_method_late hbase hfew hline rfl (br (ho pins s σ H _ I h) fun v s1 ⟨x,H1,I1,r1,ty,q1⟩=>?_)
 obtain⟨h1,h2⟩:=vT I1 r1 ty
 refine⟨T,id,pa,slot,hty,h1,h2,?_⟩
 have hA:=ha cpos pins s1 σ H1 _ I1 q1
 rw [hs] at hA ⊢
 refine Calls.callWith_builtin (by show (false || (backTo cpos (starEach es X.env)).any (·.1))=false;rw [hplain] <;> rfl) (Calls.evalArgs_plain ?_)
 exact br hA fun us s2 ⟨vs,H2,I2,r2,q2⟩=>hm pins s2 σ H2 x vs v us Q I2 r1 r2 q2
end
def ua (X:Cx) (id:String) (r:V->List V->Hp->VK->Prop):Prop :=
 ∀ (pins:List (Addr × Obj)) (s:Shared) (σ : St) (H:Hp) (x:V) (xs:List V) (v:Value) (us:List Value) (Q:VK),Inv X pins σ H s->RelV x v->Vals xs us->r x xs H Q ->
  wpAny (model X.prog X.w) X.A (call (.builtin id) (v :: us)) (EP X pins σ Q) X.xe s
theorem Vals.one:∀ {x:V} {us:List Value},Vals [x] us->∃ u,us = [u]/\RelV x u
 | _,_,.cons r .nil=>⟨_,rfl,r⟩
theorem Vals.zero:∀ {us:List Value},Vals [] us->us = []
 | _,.nil=>rfl
theorem Vals.dropLast {xs:List V} {us:List Value} (h:Vals xs us):Vals xs.dropLast us.dropLast:=by
 induction h with
 | nil=>exact .nil
 | cons r t ih =>
  cases t with
  | nil=>exact .nil
  | cons q t'=>exact .cons r ih
theorem uP {α : Type} (l:List α):l.eraseIdx (l.length - 1)=l.dropLast:=by
 induction l with
 | nil=>rfl
 | cons a r ih =>
  cases r with
  | nil=>rfl
  | cons b r =>
   have e:(a :: b :: r).length - 1=((b :: r).length - 1)+1:=by
    have h1:(a :: b :: r).length=r.length+2:=rfl
    have h2:(b :: r).length=r.length+1:=rfl
    omega
   rw [e,List.eraseIdx_cons_succ,ih]
   all_goals rfl
section
variable {X:Cx} {pins:List (Addr × Obj)} {σ : St} {H:Hp} {s:Shared} {l b:Addr} {xs ys zs:List V}
theorem Inv.xD {its its':List Value} {n:Nat} {f:Array Value->Array Value} {t':Nat} (I:Inv X pins σ H s) (hH:H l=some (.lst xs))
  (e:s.heap.get? l=some { cls:=.type "list",data:=.seq its.toArray n }) (hf:f its.toArray=its'.toArray) (hv:Vals ys its') (hz:ys.length<=sizeLine) :
  Inv X pins σ (upd H l (.lst ys)) { s with heap:=s.heap.update l (Obj.mapSeq f),toks:=t' }:=by
 have q:=PySem.IsL.update e f
 rw [hf] at q
 refine I.write (x:=l) (e:=l) (by rw [hH];exact trivial) (.inl rfl) (fun b' u hb hu=>(Heap.get?_update_other s.heap (Obj.mapSeq f) (Ne.symm hb)).trans hu) ⟨_,q⟩ ?_
 exact⟨hz,its',_,hv,q⟩
theorem Inv.fresh (I:Inv X pins σ H s):H s.heap.objs.size=none:=I.aN.fresh (Nat.le_refl _)
theorem Inv.rA (I:Inv X pins σ H s) (hH:H l=some (.lst xs)):xs.length<=sizeLine/\∃ (its:List Value) (n:Nat),Vals xs its/\xs.length=its.length/\s.heap.get? l=some { cls:=.type "list",data:=.seq its.toArray n }:=by
 obtain⟨z,its,n,r,e⟩:=I.aN l _ hH
 exact⟨z,its,n,r,r.length,e⟩
theorem xE {n:Nat} (h:n<=sizeLine):Builtin.List.listTooLong n=false:=by
 unfold Builtin.List.listTooLong
 exact decide_eq_false (by omega)
end
section
variable {X:Cx}
def zq:V->List V->Hp->VK->Prop:=fun x vs H Q=>∃ l xs y,x=.ref l/\vs = [y]/\H l=some (.lst xs)/\xs.length < sizeLine/\Q .bf (upd H l (.lst (xs ++ [y])))
theorem cY:ua X "list.append" zq:=by
 intro pins s σ H x vs v us Q I rx rv h
 obtain⟨l,xs,y,rfl,rfl,hH,hz,q⟩:=h
 cases rx
 obtain⟨u,rfl,ru⟩:=rv.one
 obtain⟨z,its,n,r,hl,e⟩:=I.rA hH
 refine call_meets F.slot_list_append ⟨_,e,rfl⟩ F.entry_list_append (F.args_list_append_2 _ _) (PySem.list_append l its.toArray n u (by rw [List.size_toArray];omega)) ⟨e,?_⟩
 refine⟨.bf,_,I.xD (its':=its ++ [u]) hH e (by simp) (r.append (.cons ru .nil)) ?_,rfl,q⟩
 rw [List.length_append,List.length_singleton]
 omega
def zr:V->List V->Hp->VK->Prop:=fun x vs H Q=>∃ l b xs zs,x=.ref l/\vs = [.ref b]/\H l=some (.lst xs)/\H b=some (.lst zs)/\xs.length+zs.length<=sizeLine/\Q .bf (upd H l (.lst (xs++zs)))
theorem pZ:ua X "list.extend" zr:=by
 intro pins s σ H x vs v us Q I rx rv h
 obtain⟨l,b,xs,zs,rfl,rfl,hH,hB,hz,q⟩:=h
 cases rx
 obtain⟨u,rfl,ru⟩:=rv.one
 cases ru
 obtain⟨z,its,n,r,hl,e⟩:=I.rA hH
 obtain⟨z2,its2,n2,r2,hl2,e2⟩:=I.rA hB
 have hsz:its.toArray.size+its2.toArray.size<=sizeLine:=by rw [List.size_toArray,List.size_toArray];omega
 have hlong:¬ (!its.toArray.isEmpty && Builtin.List.listTooLong (its.toArray.size+its2.toArray.size))=true:=by
  rw [xE hsz,Bool.and_false]
  exact Bool.false_ne_true
 refine call_meets F.slot_list_extend ⟨_,e,rfl⟩ F.entry_list_extend (F.args_list_extend_2 _ _)
  (AutoSeq1.list_extend_list_list_0 l its.toArray n b its2.toArray n2 hlong (by rw [List.size_toArray];omega) (by omega)) ⟨e,e2,?_⟩
 refine⟨.bf,_,I.xD (its':=its++its2) hH e (by simp) (r.append r2) ?_,rfl,q⟩
 rw [List.length_append]
 omega
def Cw:V->List V->Hp->VK->Prop:=fun x vs H Q=>∃ l xs y,x=.ref l/\vs = []/\H l=some (.lst xs)/\xs[xs.length - 1]? = some y/\Q y (upd H l (.lst xs.dropLast))
theorem AH:ua X "list.pop" Cw:=by
 intro pins s σ H x vs v us Q I rx rv h
 obtain⟨l,xs,y,rfl,rfl,hH,hy,q⟩:=h
 cases rx
 have hus:=rv.zero
 subst hus
 obtain⟨z,its,n,r,hl,e⟩:=I.rA hH
 obtain⟨u,hu,ru⟩:=r.get hy
 have hy':its.toArray[its.toArray.size - 1]? = some u:=by
  show its.toArray[its.length - 1]? = some u
  rw [<-Array.getElem?_toList,<-hl]
  exact hu
 refine call_meets F.slot_list_pop ⟨_,e,rfl⟩ F.entry_list_pop (F.args_list_pop_1 _) (MeetsSeq.list_pop_last l its.toArray n u hy' (by rw [List.size_toArray];omega)) ⟨e,?_⟩
 refine⟨y,_,I.xD (its':=its.dropLast) hH e ?_ r.dropLast ?_,ru,q⟩
 ·show its.toArray.eraseIdxIfInBounds (its.toArray.size - 1)=its.dropLast.toArray
  rw [List.size_toArray,List.eraseIdxIfInBounds_toArray,uP]
 ·rw [List.length_dropLast]
  omega
end
section
variable {prog:Program} {w:World} {A:Around} {E:Value->Shared->Prop} {s:Shared}
end
section
variable {X:Cx}
end
end L2
namespace BO
open PySem PySem.W PySem.Calls PyProof.Rows
theorem nV {P:Params} {h:Heap}:∀ (ns:List Int) (vs:List Value),WellAll P h vs (ns.map WData.int)->IntsAre vs ns:=by
 intro ns
 induction ns with
 | nil =>
  intro vs w
  rw [List.map_nil] at w
  cases w
  exact .nil
 | cons n ns ih =>
  intro vs w
  rw [List.map_cons] at w
  cases w with
  | cons a b =>
   cases a
   exact .cons _ _ (ih _ b)
theorem vU {l:OpenLaw} {n:Nat} (hn:l.most=some n) {P:Params} {h:Heap} {args:List WData} {vals:List Value}
  (hpre:l.row.toRowW.claim.pre args=true) (hwl:WellAll P h vals args) :
  ∃ a vs ns,vals = [Value.ref a]/\args = [WData.list (ns.map WData.int)]/\h.get? a=some { cls:=.type "list",data:=.seq vs.toArray }/\IntsAre vs ns/\ns.length<=n:=by
 have hsh:WShape.hasAll [] args [.list .int] = true:=(pre_splitW hpre).1
 have hc:l.pre.holds [] { args:=args }=true:=(pre_splitW hpre).2
 obtain⟨d,r,rfl,h1,h2⟩:=hasAllW_cons hsh
 obtain rfl:=hasAllW_nil h2
 obtain⟨xs,rfl,h3⟩:=hasW_list h1
 obtain⟨ns,rfl⟩:=items_int h3
 have hlen:ns.length<=n:=by
  unfold OpenLaw.pre at hc
  have h4:(WTm.not (.lt (.lit (.int (n:Int))) (.len (.arg 0)))).holds [] { args:=[.list (ns.map .int)] }=true:=by
   have h4:=(holds_andW hc).1
   rw [hn] at h4
   exact h4
  have h5:=condW_of h4 (w_not (w_lt w_lit (w_len_list (w_arg rfl))))
  rw [List.length_map] at h5
  refine Nat.le_of_not_lt fun q=>?_
  have q':(n:Int) < ((ns.length:Nat):Int):=by omega
  first
   | (rw [decide_eq_true q'] at h5;exact absurd h5 (by decide))
   | (simp at h5;omega)
 cases hwl with
 | cons w1 w2 =>
  cases w2
  cases w1 with
  | list ho hall=>exact⟨_,_,ns,rfl,rfl,ho,nV ns _ hall,hlen⟩
theorem vV (l:OpenLaw) (args:List WData):l.row.toRowW.claim.post args (.bool true) args=true :=
 postW_of (r:=l.row.toRowW) (X:=(true == true))
  (show WShape.has [] (.bool true) .bool=true by first | rfl | decide | simp [WShape.has,WShape.arms,WShape.armsAll])
  (show (WTm.eq .res (.lit (.bool true))).value [] { args:=args,res:=some (.bool true),after:=args }=some (.bool (true == true)) from w_eq_bool (w_res rfl) w_lit) rfl
theorem sY {l:OpenLaw} {n:Nat} {q:Program} {loose:List Str} {XP:(Str->Option Value)->Heap->Prop} {YP:World->Heap->Prop} {d:DefRec}
  (hn:l.most=some n) (hdf:d.params.defaults = [])
  (call:∀ (w:World) (dD s₁ : Shared) (mg mb:Str->Option Value) (fa:Addr) (o:Obj) (pm cd doc:Value) (a:Addr) (vs:List Value) (ns:List Int),
   Ground q loose [] XP w dD mg mb s₁.heap->YP w s₁.heap ->
   s₁.heap.get? fa=some o->o.data=.func (docDef d.name d.params d.body d.scope pm cd doc)->s₁.heap.CodeRec cd d.name->mg d.name=some (.ref fa) ->
   s₁.heap.get? a=some { cls:=.type "list",data:=.seq vs.toArray }->IntsAre vs ns->ns.length<=n->s₁.gens = #[] ->
   codeAny (model l.prog w) callerA (.call (.ref fa) ⟨[.ref a],[]⟩) (fun r s'=>r=.ok (.ret (.bool true))/\OldK s₁.heap s'.heap/\s'.os=s₁.os/\AllBare s'.gens) s₁) :
  WalkO q loose XP YP l.row.toRowW d [] (fun f vs=>PySem.call f vs):=by
 intro w dD s₁ mg mb G Y fa o pm cd doc dV kV ho hd hcd hD hmg hg args vals as hpre hlay hrd hwl hlo
 obtain rfl:dV=.none:=Dflts.none hD hdf
 obtain rfl:kV=.none:=Dflts.noKw hD
 obtain⟨a,vs,ns,rfl,rfl,hobj,hints,hlen⟩:=vU hn hpre hwl
 refine enter_call (codeAny_mono (call w dD s₁ mg mb fa o pm cd doc a vs ns G Y ho (fd_plain hd) hcd hmg hobj hints hlen hg) fun r s' hq=>?_)
 obtain⟨rfl,h2,h3,h4⟩:=hq
 exact⟨.inl ⟨.bool true,.bool true,[],rfl,fun _=>rfl,.bool true,vV l _,fun _=>⟨List.Pairwise.nil,fun _ hm=>(nomatch hm)⟩⟩,h2,h3,h4⟩
section
variable {prog:Program} {w:World} {A:Around} {E:Value->Shared->Prop} {s:Shared} {K:Frag}
def ledger (h:Heap) (L d:Addr):List (Addr × Obj):=(List.range h.objs.size).filterMap fun a=>if a=L\/a=d then none else (h.get? a).map fun o=>(a,o)
end
end BO
namespace L2
open PySem PySem.Spec PyProof.Rows
theorem iC:∀ {vs:List Value} {ns:List Int},IntsAre vs ns->Vals (ns.map V.int) vs
 | _,_,.nil=>.nil
 | _,_,.cons n t h=>.cons ⟨t,rfl⟩ (iC h)
def xF (H:Hp):Prop:=∀ b,H b=none\/∃ o xs,H b=some (.eJ o (.lst xs))
theorem xG {P:Program} {w:World} {K:PySem.W.Frag} {mg mb:Str->Option Value} {CX:kS} {k:Nat} {fa a:Addr} {fd:FuncData} {x:Str} {sp:Sp} {s₁ : Shared} {vs:List Value} {ns:List Int}
    (KX:K.In s₁.heap) (hns:s₁.heap.Ns mainGlobals mg) (hb:s₁.heap.Ns builtinsNs mb) (hbb:∀ x:Str,x ≠ "__name__" -> mb x=bootBuiltins x) (hlim:s₁.heap.NoLimit) (hg:s₁.gens = #[])
    (ha:s₁.heap.get? a=some { cls:=.type "list",data:=.seq vs.toArray }) (hi:IntsAre vs ns) (hl:ns.length<=sizeLine) (hr:cU k callerA)
    (F:∀ base:Heap,K.In base->base.Ns mainGlobals mg->bG P w K mg base CX k fa fd [x] sp) (hbind:∀ (s:Shared) (u:Value),BindsTo s fd ⟨[u],[]⟩ [(x,u)])
    (hsp:∀ H:Hp,xF H->aI K H a (ns.map V.int)->sp [.ref a] H (fun v _=>v=.bl true) fun _ _ _=>False)
    (hCX:∀ H e s',CX [] H s₁ (fun _ _ _=>False) e s'->False) :
    codeAny (model P w) callerA (.call (.ref fa) ⟨[.ref a],[]⟩) (fun r s'=>r=.ok (.ret (.bool true))/\OldK s₁.heap s'.heap/\s'.os=s₁.os/\AllBare s'.gens) s₁:=by
  have rv:=iC hi
  have lenV:=hi.length
  have core:∀ H:Hp,xF H->aI K H a (ns.map V.int)->dz P w H s₁.heap->(∀ b,H b ≠ none->b=a)->(H a ≠ none->K.lookup a=none) ->
      codeAny (model P w) callerA (.call (.ref fa) ⟨[.ref a],[]⟩) (fun r s'=>r=.ok (.ret (.bool true))/\OldK s₁.heap s'.heap/\s'.os=s₁.os/\AllBare s'.gens) s₁:=by
    intro H hO hS aN hA hK
    have base_of:∀ {b:Addr} {o:Obj},s₁.heap.get? b=some o->H b=none->(jV s₁.heap H).get? b=some o:=fun e n=>xj e n
    have noA:∀ {b:Addr} {o:Obj} {es:Array DictEntry} {ep:Nat},s₁.heap.get? b=some o->o.data=.dict es ep->H b=none:=fun {b o es ep} e d=>by
      cases q:H b with
      | none=>rfl
      | some u =>
        have e':b=a:=hA b (by rw [q];simp)
        subst e'
        rw [ha] at e;cases e
        have d':Data.seq vs.toArray _=Data.dict es ep:=d
        cases d'
    have nsK:∀ {b:Addr} {m:Str->Option Value},s₁.heap.Ns b m->(jV s₁.heap H).Ns b m:=fun {b m} ⟨o,es,ep,e,d,r⟩=>⟨o,es,ep,base_of e (noA e d),d,r⟩
    have hKb:K.In (jV s₁.heap H):=fun b o e=>base_of (KX b o e) (by
      cases q:H b with
      | none=>rfl
      | some u =>
        have e':b=a:=hA b (by rw [q];simp)
        subst e'
        rw [hK (by rw [q];simp)] at e;cases e)
    have hM:Mod K mg (jV s₁.heap H):=⟨hKb,nsK hns,⟨mb,nsK hb,hbb⟩,let ⟨mc,h1,h2⟩:=hlim;⟨mc,nsK h1,h2⟩⟩
    have e0:m8 P w K mg (jV s₁.heap H) callerA [] s₁ H:=⟨rfl,hM,fun b o e=>zc e,Nat.le_of_eq (vE _ _),trivial,fun b hb=>absurd (show b ∈ ([]:List Addr) from hb) (by simp),aN,.of_eq hg⟩
    refine codeAny_mono ((F _ hKb (nsK hns)).run callerA [] s₁ H ⟨[.ref a],[]⟩ [.ref a] [.ref a] _ _ hr e0 (hbind s₁ (.ref a)) (.cons rfl .nil) (hsp H hO hS)) fun r s' h=>?_
    cases r with
    | error e=>exact (hCX H e s' h).elim
    | ok fl =>
      cases fl with
      | next=>exact False.elim h
      | brk=>exact False.elim h
      | cont=>exact False.elim h
      | ret u =>
        obtain⟨v,H',os,bare,un,hok',r',q⟩:=h
        have q':v=.bl true:=q
        subst q'
        obtain rfl:u=Value.bool true:=r'
        refine⟨rfl,OldK.of_keep fun b o e=>?_,os,bare⟩
        cases q:H b with
        | none=>exact un.keep b o e q (by intro z;exact absurd (show b ∈ ([]:List Addr) from z) (by simp)) (by simp)
        | some u =>
          rcases hO b with z | ⟨ob,xs,z⟩
          · rw [q] at z;cases z
          · have z2:=un.iH b ob _ z
            obtain⟨e1,_⟩:=aN b _ z
            obtain⟨e2,_⟩:=hok' b _ z2
            rw [e] at e1;cases e1
            exact e2
  cases hk:K.lookup a with
  | some o =>
    have e:=KX a o hk
    rw [ha] at e
    cases e
    refine core (fun _=>none) (fun _=>.inl rfl) (.inr ⟨_,vs.toArray,_,hk,rfl,rfl,rfl,by rw [List.size_toArray,lenV];exact hl,by simpa using rv⟩) (fun b u z=>by have z':(none:Option HO)=some u:=z;cases z') (fun b z=>absurd rfl z) fun z=>absurd rfl z
  | none =>
    refine core (fun b=>if b=a then some (.eJ { cls:=.type "list",data:=.seq vs.toArray } (.lst (ns.map V.int))) else none) (fun b=>?_) (.inl (.inr ⟨{ cls:=.type "list",data:=.seq vs.toArray },if_pos rfl⟩)) (fun b u z=>?_) (fun b z=>?_) fun _=>hk
    · by_cases hb:b=a
      · exact .inr ⟨_,_,if_pos hb⟩
      · exact .inl (if_neg hb)
    · by_cases hb:b=a
      · have z':=(if_pos hb).symm.trans z
        cases z'
        subst hb
        exact⟨ha,by rw [List.length_map];exact hl,vs,_,rv,ha⟩
      · have z':=(if_neg hb).symm.trans z
        cases z'
    · by_cases hb:b=a
      · exact hb
      · exact absurd (if_neg hb) z
abbrev KOf {K:PySem.W.Frag} {h:Heap} (_:K.In h):PySem.W.Frag:=K
theorem zt {l:PySem.W.OpenLaw} {n k:Nat} {q:Program} {loose:List Str} {XP:(Str->Option Value)->Heap->Prop} {YP:World->Heap->Prop} {d:DefRec} {K:Params->PySem.W.Frag} {CX:World->kS} {sp:World->Sp} {x:Str}
  (hn:l.most=some n) (hn2:n<=sizeLine) (hdf:d.params.defaults = []) (hr:cU k callerA)
  (hY:∀ (w:World) (h:Heap),YP w h->(K w.params).In h)
  (F:∀ (w:World) (mg:Str->Option Value) (fa:Addr) (h:Heap),(K w.params).In h->h.Ns mainGlobals mg->mg d.name=some (.ref fa) ->
   ∃ fd:FuncData,(∀ (s:Shared) (u:Value),BindsTo s fd ⟨[u],[]⟩ [(x,u)]) /\
    ∀ base:Heap,(K w.params).In base->base.Ns mainGlobals mg->bG l.prog w (K w.params) mg base (CX w) k fa fd [x] (sp w))
  (hsp:∀ (w:World) (H:Hp) (a:Addr) (ns:List Int),ns.length<=n->xF H->aI (K w.params) H a (ns.map V.int)->sp w [.ref a] H (fun v _=>v=.bl true) fun _ _ _=>False)
  (hCX:∀ (w:World) (H:Hp) (s:Shared) (e:Value) (s':Shared),CX w [] H s (fun _ _ _=>False) e s'->False) :
  PySem.W.WalkO q loose XP YP l.row.toRowW d [] (fun f vs=>PySem.call f vs):=by
 refine BO.sY hn hdf fun w dD s₁ mg mb fa o pm cd doc a vs ns G Y ho hd hcd hmg hobj hints hlen hg=>?_
 have KX:=hY w _ Y
 obtain⟨fd,hb,hF⟩:=F w mg fa _ KX G.T.g hmg
 exact xG KX G.T.g G.T.b G.T.builtins G.T.nolimit hg hobj hints (Nat.le_trans hlen hn2) hr hF hb (fun H hO hS=>hsp w H a ns hlen hO hS) fun H e s'=>hCX w H s₁ e s'
def inClass (s:Stmt) (j:Nat):Stmt:=match s with
 | .ClassDef _ _ _ body _ _ _ _ _ _ _=>body.getD j (.Pass ⟨0,0,0,0⟩)
 | _=>.Pass ⟨0,0,0,0⟩
def aR (s:Stmt):Arguments:=match s with
 | .FunctionDef _ a _ _ _ _ _ _ _ _=>a
 | _=>{ posonlyargs:=[],args:=[],vararg:=none,kwonlyargs:=[],kw_defaults:=[],kwarg:=none,defaults:=[] }
def aO (s:Stmt):List Stmt:=match s with
 | .FunctionDef _ _ b _ _ _ _ _ _ _=>b
 | _=>[]
def av (s:Stmt):Scope:=match s with
 | .FunctionDef _ _ _ _ _ _ sc _ _ _=>sc
 | _=>{ kind:=.function,names:=[],isGenerator:=false,isCoroutine:=false }
abbrev bT:kS:=fun _ _ _ _ _ _=>False
abbrev E0:XK:=fun _ _ _=>False
theorem uQ {X:Cx}:Passes bT X E0:=fun _ _ _ _ _ _ _ h=>h.elim
structure bZ (K:PySem.W.Frag) (x qual:Str) (st:Stmt) (f:Addr) (fd:FuncData):Prop where
 ex:∃ (oc:Value) (od:Option Addr) (kV doc pm:Value) (an:Option Addr) (cdv ct:Value) (osl:Array (Option Value)),
  fd=PySem.W.fnOf x qual (aR st) (aO st) (av st) .none kV doc pm an cdv ct/\K.lookup f=some ⟨oc,od,.func fd,osl⟩/\PySem.W.codeIn K cdv qual=true
 kp:PySem.W.keepIn K (.ref f)=true
section
variable {P:Program} {w:World} {K:PySem.W.Frag} {mg:Str->Option Value} {base:Heap}
theorem bZ.ok {x qual:Str} {st:Stmt} {f:Addr} {fd:FuncData} {N ps:List Str} {k:Nat} {sp:Sp} (F:bZ K x qual st f fd) (S:aS N ps (av st)) (len:∀ vs H Q E,sp vs H Q E->vs.length=ps.length)
  (hbody:∀ (cdv:Value) (A:Around) (outer:List Env) (s:Shared) (H:Hp) (vs:List V) (Q:VK) (E:XK),cU k (A.deeper (envOfC qual (av st) s.heap.objs.size f cdv))->sp vs H Q E ->
   ∃ t,jb (m9 bT P w K mg base N qual (av st) f cdv A outer s H E).tT (aO st) t/\t { nx:=fun _ H'=>Q .bf H',rt:=Q } (start N vs) H):bG P w K mg base bT (k+1) f fd ps sp:=by
 obtain⟨oc,od,kV,doc,pm,an,cdv,ct,osl,rfl,lk,hcd⟩:=F.ex
 refine yS lk hcd S len fun A outer s H vs Q E hr hsp=>?_
 obtain⟨t,h,q⟩:=hbody cdv A outer s H vs Q E hr hsp
 exact⟨t,h.tT,q⟩
theorem bZ.binds {x qual:Str} {st:Stmt} {f:Addr} {fd:FuncData} {ps:List Str} (F:bZ K x qual st f fd)
  (h:∀ (kV doc pm:Value) (an:Option Addr) (cdv ct:Value) (us:List Value),us.length=ps.length->bindArgs (PySem.W.fnOf x qual (aR st) (aO st) (av st) .none kV doc pm an cdv ct) ⟨us,[]⟩=pure (ps.zip us)):Binds K fd ps []:=by
 obtain⟨oc,od,kV,doc,pm,an,cdv,ct,osl,rfl,lk,hcd⟩:=F.ex
 exact .all (h kV doc pm an cdv ct)
theorem bA {x qual:Str} {st:Stmt} {f:Addr} {oc:Value} {od an:Option Addr} {osl:Array (Option Value)} {kV doc pm cdv ct:Value} (l:K.lookup f=some ⟨oc,od,.func (PySem.W.fnOf x qual (aR st) (aO st) (av st) .none kV doc pm an cdv ct),osl⟩)
  (c:PySem.W.codeIn K cdv qual=true) (k:PySem.W.keepIn K (.ref f)=true):bZ K x qual st f (PySem.W.fnOf x qual (aR st) (aO st) (av st) .none kV doc pm an cdv ct):=⟨⟨oc,od,kV,doc,pm,an,cdv,ct,osl,rfl,l,c⟩,k⟩
end
theorem dh {A:Around} {k:Nat} (hr:cU k A):A.units+1 < cLine:=Nat.lt_of_le_of_lt (Nat.add_le_add_left (by decide:1<=64) _) hr.units
theorem bh {n:Nat} (h:n<=1000):n < sizeLine:=Nat.lt_of_le_of_lt h (by decide)
section
variable {X:Cx}
theorem pv (i:Nat) {x:Str} {pos:Pos} (hN:X.N[i]? = some x:=by rfl) (hv:Af X.env.scope x:=by first | exact Or.inl rfl | exact Or.inr (Or.inl rfl) | exact Or.inr (Or.inr rfl)) (hd:(x == ("__debug__" : Str))=false:=by decide)
  (hcd:(x == ("__classdict__" : Str))=false:=by decide):PE X (.Name x pos) (oR i):=Ag hN hv hd hcd
end
theorem bI {A B:Prop} (h:B):if false=true then A else B:=by
 rw [if_neg Bool.false_ne_true]
 exact h
theorem bJ {A B:Prop} (h:A):if true=true then A else B:=by
 rw [if_pos rfl]
 exact h
theorem cM {c A B:Prop} [Decidable c] (h1:c->A) (h2:¬ c->B):if c then A else B:=by
 by_cases h:c
 ·rw [if_pos h]
  exact h1 h
 ·rw [if_neg h]
  exact h2 h
def ah (H H':Hp):Prop:=∀ b o,H b=some o->H' b=some o
theorem ah.refl (H:Hp):ah H H:=fun _ _ h=>h
theorem ah.trans {H H1 H2:Hp} (a:ah H H1) (b:ah H1 H2):ah H H2:=fun c o h=>b c o (a c o h)
theorem ah.free {H H':Hp} (e:ah H H') {l:Addr} (h:H' l=Option.none):H l=Option.none:=by
 cases q:H l with
 | none=>rfl
 | some o =>
  rw [e l o q] at h
  cases h
theorem ah.seq {K:PySem.W.Frag} {H H':Hp} {a:Addr} {xs:List V} (e:ah H H') (h:aI K H a xs):aI K H' a xs:=by
 rcases h with (h | ⟨o,h⟩) | h
 ·exact .inl (.inl (e _ _ h))
 ·exact .inl (.inr ⟨o,e _ _ h⟩)
 ·exact .inr h
section
variable {X:Cx}
theorem zu:dY X (binaryOp .Mult) (rI IntMulOk fun i j=>.int (i * j)):=tX fun _ _ _ _ _ _ _ hc q=>mul_int q hc
def Bz (_i j:Int):Prop:=0 < j/\j.natAbs.log2 < 9000
theorem xH:dY X (binaryOp .FloorDiv) (rI Bz fun i j=>.int (i / j)):=tX fun i j _ _ _ _ _ hc q=>by
 have h1:(0:Int) < j:=hc.1
 exact floordiv_int (by omega) (by rw [Int.fdiv_eq_ediv_of_nonneg i (by omega)];exact q) (.inl (PyProof.noPylong_of_log2 hc.2))
structure Own (P:Program) (w:World) (K:PySem.W.Frag) (mg:Str->Option Value) (base:Heap) (x:Str) (k:Nat) (ps:List Str) (sp:Sp):Prop where
 ex:∃ f fd,bG P w K mg base bT k f fd ps sp/\mg x=some (.ref f)/\PySem.W.keepIn K (.ref f)=true/\Binds K fd ps []
variable {x:Str} {k:Nat} {ps:List Str} {sp:Sp} {e:Expr} {es:List Expr} {t:TA} {p pos:Pos}
theorem aB (o:Own X.prog X.w X.K X.mg X.base x k ps sp) (hr:cU k X.A) (hg:Gl X x) (ha:PA X (e :: es) t)
  (hdb:(x == ("__debug__" : Str))=false:=by decide) (he:starEach (e :: es) X.env=(false,eval e X.env) :: starEach es X.env:=by rfl)
  (hpl:(backTo pos (starEach es X.env)).any (·.1)=false:=by rfl):PE X (.Call (.Name x p) (e :: es) [] pos) (yP sp [] E0 t):=by
 obtain⟨f,fd,F,hm,hk,hb⟩:=o.ex
 exact zj F hr hg hm hk hb .nil uQ ha hdb he hpl
end
theorem cm {α : Type} {x:α} {xs:List α}:e7 (x :: xs) 0=some x:=bL (j:=0) rfl
theorem cZ {α : Type} {x y:α} {xs:List α}:e7 (x :: y :: xs) 1=some y:=bL (j:=1) rfl
theorem at2 {α : Type} {x y z:α} {xs:List α}:e7 (x :: y :: z :: xs) 2=some z:=bL (j:=2) rfl
theorem qO {α : Type} {xs:List α} {i:Int} (h0:0<=i) (h1:i < xs.length):∃ v,e7 xs i=some v/\v ∈ xs:=by
 obtain⟨j,rfl⟩:∃ j:Nat,i=j:=⟨i.toNat,by omega⟩
 have hj:j < xs.length:=by omega
 exact⟨xs[j],bL (by simp [hj]),List.getElem_mem hj⟩
theorem cG:bootBuiltins "len" = some (.builtin "len"):=by decide +kernel
theorem AI:bootBuiltins "min" = some (.builtin "min"):=by decide +kernel
theorem AJ:bootBuiltins "max" = some (.builtin "max"):=by decide +kernel
theorem kX:bootBuiltins "int" = some (.type "int"):=by decide +kernel
theorem bV:bootBuiltins "tuple" = some (.type "tuple"):=by decide +kernel
theorem ub:bootBuiltins "list" = some (.type "list"):=by decide +kernel
def dB (H:Hp) (b:Addr):Prop:=∃ x y:Int,H b=some (.lst [.int x,.int y])/\0<=y/\y < 2147483648
def Fix (b:Addr) (H H':Hp):Prop:=∀ c o,H c=some o->c ≠ b->H' c=some o
theorem Fix.trans {b:Addr} {H H1 H2:Hp} (u:Fix b H H1) (v:Fix b H1 H2):Fix b H H2:=fun c o h n=>v c o (u c o h n) n
theorem Fix.yU {b:Addr} {H:Hp} {o:HO}:Fix b H (upd H b o):=fun c u h n=>by rw [au n];exact h
theorem Fix.new {b p:Addr} {H:Hp} {o:HO} (hp:H p=none):Fix b H (upd H p o):=fun c u h _=>by rw [au (aw h hp)];exact h
theorem Fix.of_same {b:Addr} {H H':Hp} (h:ah H H'):Fix b H H':=fun c o e _=>h c o e
theorem ah.new {p:Addr} {H:Hp} {o:HO} (hp:H p=none):ah H (upd H p o):=fun c u h=>by rw [au (aw h hp)];exact h
theorem dB.new {b p:Addr} {H:Hp} {o:HO} (h:dB H b) (hp:H p=none):dB (upd H p o) b:=by
 obtain⟨x,y,e,q⟩:=h
 exact⟨x,y,by rw [au (aw e hp)];exact e,q⟩
theorem dB.same {b:Addr} {H H':Hp} (h:dB H b) (s:ah H H'):dB H' b:=by
 obtain⟨x,y,e,q⟩:=h
 exact⟨x,y,s _ _ e,q⟩
theorem rB {α : Type} {x0:α}:[x0].length<=sizeLine:=by show 1<=sizeLine;decide
theorem ln2 {α : Type} {x0 x1:α}:[x0,x1].length<=sizeLine:=by show 2<=sizeLine;decide
theorem rC {α : Type} {x0 x1 x2:α}:[x0,x1,x2].length<=sizeLine:=by show 3<=sizeLine;decide
theorem CO {α : Type} {x0 x1 x2 x3 x4:α}:[x0,x1,x2,x3,x4].length<=sizeLine:=by show 5<=sizeLine;decide
theorem CP {α : Type} {x0 x1 x2 x3 x4 x5 x6:α}:[x0,x1,x2,x3,x4,x5,x6].length<=sizeLine:=by show 7<=sizeLine;decide
theorem ah.AK {b:Addr} {H H1 H2:Hp} (s:ah H H1) (n:H b=none) (f:Fix b H1 H2):ah H H2:=fun c o e=>f c o (s c o e) (aw e n)
theorem dB.rD {b p:Addr} {H:Hp} {xs:List V} (h:dB H b) (e:H p=some (.tup xs)):p ≠ b:=by
 obtain⟨x,y,e1,_⟩:=h
 exact bg e e1 (by intro z;cases z)
theorem dB.eB {b p:Addr} {H:Hp} (h:dB H b) (e:H p=none):p ≠ b:=by
 obtain⟨x,y,e1,_⟩:=h
 exact fun z=>aw e1 e z.symm
def uR (K:PySem.W.Frag):Sp:=fun vs H Q _=>∃ (a:Addr) (ns:List Int) (k:Int),vs = [.ref a,.int k]/\aI K H a (ns.map V.int)/\0<=k /\
 ∀ b H',H b=none->dB H' b->ah H H'->Q (.ref b) H'
def iD:Sp:=fun vs H Q _=>∃ (b:Addr) (m:Int),vs = [.ref b,.int m]/\dB H b/\(0 < m/\m.natAbs.log2 < 9000) /\
 ∀ r H',0<=r->r < m->dB H' b->Fix b H H'->Q (.int r) H'
def qP (K:PySem.W.Frag):Sp:=fun vs H Q _=>∃ (a:Addr) (ns:List Int),vs = [.ref a]/\aI K H a (ns.map V.int)/\ns.length<=63/\∀ H',Q (.bl true) H'
def jN (cells:List (Str × Addr)):List (Str × NameKind)->List (Str × Addr)->List (Str × Addr)
 | [],cs=>cs
 | (n,k) :: r,cs=>jN cells r (if k == .free then (n,(cells.lookup n).getD 0) :: cs else cs)
theorem nW {scope:Scope} {env:Env} (hf:∀ y ∈ scope.names,y.2=.free->∃ c,env.cells.lookup y.1=some c):closureFor scope env=pure (jN env.cells scope.names []):=by
 have key:∀ (names:List (Str × NameKind)) (cs:List (Str × Addr)),(∀ y ∈ names,y.2=.free->∃ c,env.cells.lookup y.1=some c) ->
   (forIn names cs fun x r=>match x with
    | (name,kind)=>if (kind == NameKind.free)=true then (do let a <-cellOf env name;pure (ForInStep.yield ((name,a) :: r))) else pure (ForInStep.yield r):Sem (List (Str × Addr)))=pure (jN env.cells names cs):=by
  intro names
  induction names with
  | nil=>intro cs _;rfl
  | cons y r ih =>
   intro cs hy
   obtain⟨n,k⟩:=y
   have ih':=fun cs=>ih cs fun z hz=>hy z (List.mem_cons_of_mem _ hz)
   rw [List.forIn_cons]
   by_cases hk:(k == NameKind.free)=true
   ·have e:k=.free:=by simpa using hk
    obtain⟨c,hc⟩:=hy (n,k) List.mem_cons_self e
    have hc':env.cells.lookup n=some c:=hc
    simp only [hk,if_true,cellOf,hc',pure_bind,jN,Option.getD_some]
    exact ih' _
   ·have hk':(k == NameKind.free)=false:=by simpa using hk
    simp only [hk',Bool.false_eq_true,if_false,pure_bind,jN]
    exact ih' _
 unfold closureFor
 have e:=key scope.names [] hf
 show ((forIn scope.names ([]:List (Str × Addr)) fun x r=>match x with
    | (name,kind)=>if (kind == NameKind.free)=true then (do let a <-cellOf env name;pure (ForInStep.yield ((name,a) :: r))) else pure (ForInStep.yield r):Sem (List (Str × Addr))) >>= fun r=>pure r)=_
 rw [e,pure_bind]
theorem kY {cells:List (Str × Addr)}:∀ (names:List (Str × NameKind)) (cs:List (Str × Addr)),(∀ y ∈ names,y.2=.free->∃ c,cells.lookup y.1=some c) ->
  (∀ x c,cs.lookup x=some c->cells.lookup x=some c)->∀ x c,(jN cells names cs).lookup x=some c->cells.lookup x=some c
 | [],_,_,h,x,c,e=>h x c e
 | (n,k) :: r,cs,hf,h,x,c,e=>by
  refine kY r _ (fun y hy=>hf y (List.mem_cons_of_mem _ hy)) (fun z d hz=>?_) x c e
  by_cases hk:(k == NameKind.free)=true
  ·rw [if_pos hk] at hz
   obtain⟨c',hc⟩:=hf (n,k) List.mem_cons_self (by simpa using hk)
   have hc':cells.lookup n=some c':=hc
   rw [List.lookup_cons] at hz
   cases hzn:z == n with
   | true =>
    rw [hzn] at hz
    have:z=n:=by simpa using hzn
    subst this
    rw [hc'] at hz ⊢
    simpa using hz
   | false=>rw [hzn] at hz;exact h z d hz
  ·rw [if_neg hk] at hz;exact h z d hz
theorem oX {cells:List (Str × Addr)} {x:Str}:∀ (names:List (Str × NameKind)) (cs:List (Str × Addr)),((x,NameKind.free) ∈ names\/∃ c,cs.lookup x=some c)->∃ c,(jN cells names cs).lookup x=some c
 | [],_,h=>by
  rcases h with h | h
  ·cases h
  ·exact h
 | (n,k) :: r,cs,h=>by
  refine oX r _ ?_
  by_cases hk:(k == NameKind.free)=true
  ·rw [if_pos hk]
   cases hxn:x == n with
   | true=>exact .inr ⟨_,by rw [List.lookup_cons,hxn]⟩
   | false =>
    rcases h with h | ⟨c,h⟩
    ·rcases List.mem_cons.mp h with h | h
     ·have:x=n:=(Prod.mk.inj h).1
      subst this
      simp at hxn
     ·exact .inl h
    ·exact .inr ⟨c,by rw [List.lookup_cons,hxn];exact h⟩
  ·rw [if_neg hk]
   rcases h with h | h
   ·rcases List.mem_cons.mp h with h | h
    ·have:NameKind.free=k:=(Prod.mk.inj h).2
     subst this
     simp at hk
    ·exact .inl h
   ·exact .inr h
theorem jh {env:Env} {x:Str} {k:NameKind} (hk:k=.cell\/k=.free):∀ {names:List (Str × NameKind)},(∀ y ∈ names,y.2 ≠ .cell) ->
  (names.map fun (n,k)=>if (k == NameKind.free && env.scope.kind == .function && env.kindOf n == some .cell) then (n,NameKind.cell) else (n,k)).lookup x=some k->(x,NameKind.free) ∈ names
 | [],_,h=>by simp at h
 | (n,q) :: r,hc,h=>by
  have ih:=jh (env:=env) (x:=x) hk (names:=r) (fun y hy=>hc y (List.mem_cons_of_mem _ hy))
  have h':List.lookup x ((if (q == NameKind.free && env.scope.kind == .function && env.kindOf n == some .cell)=true then (n,NameKind.cell) else (n,q)) :: _)=some k:=h
  by_cases hq:(q == NameKind.free && env.scope.kind == .function && env.kindOf n == some .cell)=true
  ·rw [if_pos hq,List.lookup_cons] at h'
   have eq:q=.free:=by
    rw [Bool.and_eq_true,Bool.and_eq_true] at hq
    simpa using hq.1.1
   cases hxn:x == n with
   | true =>
    have:x=n:=by simpa using hxn
    subst this;subst eq
    exact List.mem_cons_self
   | false=>rw [hxn] at h';exact List.mem_cons_of_mem _ (ih h')
  ·rw [if_neg hq,List.lookup_cons] at h'
   cases hxn:x == n with
   | true =>
    rw [hxn] at h'
    have:x=n:=by simpa using hxn
    subst this
    have e:q=k:=Option.some.inj h'
    subst e
    rcases hk with hk | hk
    ·exact absurd hk (hc (x,q) List.mem_cons_self)
    ·subst hk;exact List.mem_cons_self
   | false=>rw [hxn] at h';exact List.mem_cons_of_mem _ (ih h')
theorem kZ {env:Env} {x:Str}:∀ {names:List (Str × NameKind)},names.lookup x=some .free ->
  (names.map fun (n,k)=>if (k == NameKind.free && env.scope.kind == .function && env.kindOf n == some .cell) then (n,NameKind.cell) else (n,k)).lookup x=some .cell \/
  (names.map fun (n,k)=>if (k == NameKind.free && env.scope.kind == .function && env.kindOf n == some .cell) then (n,NameKind.cell) else (n,k)).lookup x=some .free
 | [],h=>by simp at h
 | (n,q) :: r,h=>by
  have ih:=kZ (env:=env) (x:=x) (names:=r)
  show List.lookup x ((if (q == NameKind.free && env.scope.kind == .function && env.kindOf n == some .cell)=true then (n,NameKind.cell) else (n,q)) :: _)=some .cell \/
   List.lookup x ((if (q == NameKind.free && env.scope.kind == .function && env.kindOf n == some .cell)=true then (n,NameKind.cell) else (n,q)) :: _)=some .free
  rw [List.lookup_cons] at h
  by_cases hq:(q == NameKind.free && env.scope.kind == .function && env.kindOf n == some .cell)=true
  ·rw [if_pos hq,List.lookup_cons]
   cases hxn:x == n with
   | true=>exact .inl rfl
   | false=>rw [hxn] at h;exact ih h
  ·rw [if_neg hq,List.lookup_cons]
   cases hxn:x == n with
   | true=>rw [hxn] at h;exact .inr h
   | false=>rw [hxn] at h;exact ih h
def gP (X:Cx) (scope:Scope) (C:Addr) (N':List Str) (fp:List Addr) (s₁ : Shared) (H₁ : Hp):Cx where
 prog:=X.prog
 w:=X.w
 K:=X.K
 mg:=X.mg
 base:=X.base
 A:=X.A
 N:=N'
 dD:=s₁
 jW:=H₁
 env:=compEnvC scope (jN X.env.cells scope.names []) C X.env
 outer:=X.stack
 stack:=X.stack
 ex:=fp
 fn:=fun _=>false
 calm:=X.calm
 pn:=[]
 xe:=fun _ _=>False
def ib (X:Cx) (scope:Scope):List Str->List Nat->Prop
 | [],[]=>True
 | x :: fr,j :: js=>(X.N[j]? = some x/\(X.env.kindOf x=some .cell\/X.env.kindOf x=some .free)/\scope.names.lookup x=some .free)/\ib X scope fr js
 | _,_=>False
theorem ib.len {X:Cx} {scope:Scope}:∀ {fr:List Str} {js:List Nat},ib X scope fr js->fr.length=js.length
 | [],[],_=>rfl
 | _ :: _,_ :: _,h=>by simp [ib.len h.2]
 | [],_ :: _,h=>h.elim
 | _ :: _,[],h=>h.elim
theorem ib.mem {X:Cx} {scope:Scope} {x:Str}:∀ {fr:List Str} {js:List Nat},ib X scope fr js->x ∈ fr->X.env.kindOf x=some .cell\/X.env.kindOf x=some .free
 | [],[],_,h=>by cases h
 | a :: fr,b :: js,h,hm=>by
  rcases List.mem_cons.mp hm with rfl | hm
  ·exact h.1.2.1
  ·exact ib.mem h.2 hm
 | [],_ :: _,h,_=>h.elim
 | _ :: _,[],h,_=>h.elim
theorem ib.get {X:Cx} {scope:Scope}:∀ {fr:List Str} {js:List Nat} {i:Nat} {x:Str} {j:Nat},ib X scope fr js->fr[i]? = some x->js[i]? = some j ->
  X.N[j]? = some x/\(X.env.kindOf x=some .cell\/X.env.kindOf x=some .free)/\scope.names.lookup x=some .free
 | [],[],_,_,_,_,h,_=>by simp at h
 | a :: fr,b :: js,0,x,j,h,h1,h2=>by
  simp at h1 h2
  subst h1;subst h2
  exact h.1
 | a :: fr,b :: js,i+1,x,j,h,h1,h2=>ib.get h.2 (by simpa using h1) (by simpa using h2)
 | [],_ :: _,_,_,_,h,_,_=>h.elim
 | _ :: _,[],_,_,_,h,_,_=>h.elim
def mN (n:Nat) (js:List Nat) (σ : St):St:=List.replicate n none++js.map fun j=>σ.getD j none
theorem AL {X:Cx} {pins:List (Addr × Obj)} {σ : St} {H:Hp} {s:Shared} {scope:Scope} {fp:List Addr} {C:Addr} {N':List Str} (I:Inv X pins σ H s) (hk:scope.kind=.function) (hcell:∀ y ∈ scope.names,y.2 ≠ .cell)
  (hf:∀ y ∈ scope.names,y.2=.free->∃ c,X.env.cells.lookup y.1=some c) (hC:s.heap.objs.size<=C) (hfp:∀ b ∈ fp,jc X pins H b) (hlt:∀ b ∈ fp,b < s.heap.objs.size):(gP X scope C N' fp s H).Ok:=by
 have ag:∀ x c,(jN X.env.cells scope.names []).lookup x=some c->X.env.cells.lookup x=some c:=kY scope.names [] hf fun x c e=>by simp at e
 refine⟨I.ok.mod,hk,I.ok.glob,I.ok.blt,hC,fun x y c h1 h2=>I.ok.inj x y c (ag x c h1) (ag y c h2),fun x hx=>?_,(fun x c h=>(by cases h)),I.ok.hd,I.ok.frames,.inl rfl,fun b hb=>?_,I.bs,?_,fun b o e hb=>?_,fun b hb=>?_,I.stack,I.tR⟩
 ·refine oX scope.names [] (.inl ?_)
  rcases hx with hx | hx
  ·exact jh (.inl rfl) hcell hx
  ·exact jh (.inr rfl) hcell hx
 ·obtain⟨h1,h2,h3,h4,h5,h6⟩:=hfp b hb
  exact⟨Nat.ne_of_lt (Nat.lt_of_lt_of_le (hlt b hb) hC),fun x c e=>h5 x c (ag x c e)⟩
 ·exact Nat.le_trans I.ok.nN I.sz
 ·obtain⟨h1,h2,h3,h4,h5,h6⟩:=hfp b hb
  rcases h4 with h4 | h4
  ·exact I.ok.qU b o e h4
  ·exact absurd (Nat.lt_of_lt_of_le (Heap.lt_size e) (Nat.le_trans I.ok.nN h4)) (Nat.lt_irrefl _)
 ·obtain⟨h1,h2,h3,h4,h5,h6⟩:=hfp b hb
  intro z
  rcases List.mem_cons.mp (I.nO b z) with z | z
  ·exact h2 z
  ·exact h3 z
def uc (J:It) (n:Nat) (js:List Nat) (g:TG) (ct:TT) (te:TE) (acc:Addr) (σ : St) (H1:Hp) (Q:VK):Prop :=
 ∃ W:Nat->Nat->List V->St->Hp->Prop,(∃ m,W 0 m [] (mN n js σ) (upd H1 acc (.lst [])))/\∀ i m ys τ H2,W i m ys τ H2->H2 acc=some (.lst ys)/\ys.length < sizeLine /\
  ((J.stop i H2/\Q (.ref acc) H2)\/(J.go i H2/\∃ N:List V->St->Hp->Prop,(∀ ys' τ' H',N ys' τ' H'->∃ m',m' < m/\W (i+1) m' ys' τ' H')/\∀ x H3,J.tU i H2 x H3->g x τ H3 fun τ1 H4=>ct τ1 H4 fun b H5 =>
   if b=true then te τ1 H5 fun y H6=>H6 acc=some (.lst ys)/\N (ys ++ [y]) τ1 (upd H6 acc (.lst (ys ++ [y]))) else N ys τ1 H5))
def BP (n:Nat) (js:List Nat) (wi:TI) (g:TG) (ct:TT) (te:TE):TE:=fun σ H Q=>wi σ H fun J H1=>∀ acc,H1 acc=none->uc J n js g ct te acc σ H1 Q
def vW (X:Cx) (ifs:List Expr) (t:TT):Prop :=
 ∀ (pins:List (Addr × Obj)) (s:Shared) (σ : St) (H:Hp) (Q:Bool->Hp->Prop),Inv X pins σ H s->t σ H Q ->
  wpAny (model X.prog X.w) X.A (forIn ifs true fun c r=>if r=true then do let ok <-isTrue c X.env (eval c X.env);pure (ForInStep.yield ok) else pure (ForInStep.yield r)) (TP X pins σ Q) X.xe s
def AM:TT:=fun _ H Q=>Q true H
theorem eR {X:Cx}:vW X [] AM:=fun _ _ σ H Q I h=>wpAny_pure ⟨H,I,h⟩
theorem oY {X:Cx} {c:Expr} {t:TT} (h:PT X c t):vW X [c] t:=by
 intro pins s σ H Q I q
 rw [List.forIn_cons]
 simp only [if_true,bind_assoc,pure_bind]
 refine wpAny_bind (br (h pins s σ H Q I q) fun b s1 h1=>?_)
 exact wpAny_pure h1
section
variable {X:Cx} {pos:Pos}
theorem kJ {prog:Program} {w:World} {A:Around} {R:Result->Shared->Prop} {s:Shared} {elt target iter:Expr} {ifs:List Expr} {scope:Scope} {pos:Pos} {it acc:Value} {env:Env} (I:Nat->Shared->Prop)
  (turn:∀ n s,I n s->wpAny (model prog w) A (pyNext it) (fun r s₁=>match r with
   | none=>R (.ok .next) s₁
   | some v=>wpAny (model prog w) A (letOwnedTupleGo target it v) (fun _ s₁'=>wpAny (model prog w) A (assign target env v) (fun _ s₂ =>
     wpAny (model prog w) A (forIn ifs true fun c r=>if r=true then do let ok <-isTrue c env (eval c env);pure (ForInStep.yield ok) else pure (ForInStep.yield r)) (fun ok s₃ =>
      if ok=true then wpAny (model prog w) A (eval elt env) (fun x s₄ =>
       wpAny (model prog w) A (call (.builtin "list.append") [acc,x]) (fun _ s₅=>∃ m,m < n/\I m s₅) (fun _ _=>False) s₄) (fun _ _=>False) s₃
      else ∃ m,m < n/\I m s₃) (fun _ _=>False) s₂) (fun _ _=>False) s₁') (fun _ _=>False) s₁) (fun _ _=>False) s)
  (n:Nat) (h:I n s) :
  codeAny (model prog w) A (.compLoop (.ListComp elt [⟨target,iter,ifs,0⟩] scope pos) 0 it acc env) R s:=by
 refine codeAny_loop rfl I (fun n s hI=>?_) n h
 show wpAny _ A ((compTurn (.ListComp elt [⟨target,iter,ifs,0⟩] scope pos) 0 it acc env).onRaise (fun x=>do noteFrame x env;theTreesLotGoes x)) _ _ s
 refine wpAny_noted ?_
 rw [compTurn_list]
 refine wpAny_bind (wpAny_standAt (wpAny_bind (wpAny_mono (turn n s hI) (fun r s₁ h₁=>?_) fun _ _ h'=>h'.elim)))
 cases r with
 | none=>exact wpAny_pure h₁
 | some v =>
  refine wpAny_bind (wpAny_mono h₁ (fun _ s₁' h₁'=>?_) fun _ _ h'=>h'.elim)
  refine wpAny_bind (wpAny_mono h₁' (fun _ s₂ h₂=>wpAny_bind (wpAny_mono h₂ (fun ok s₃ h₃=>?_) fun _ _ h'=>h'.elim)) fun _ _ h'=>h'.elim)
  cases ok with
  | false=>exact wpAny_pure ⟨rfl,h₃⟩
  | true =>
   exact wpAny_bind (wpAny_bind (wpAny_mono h₃ (fun x s₄ h₄=>wpAny_bind (wpAny_mono h₄ (fun _ s₅ h₅=>wpAny_pure (wpAny_pure ⟨rfl,h₅⟩)) fun _ _ h'=>h'.elim)) fun _ _ h'=>h'.elim))
theorem ud {pins:List (Addr × Obj)} {σ : St} {H:Hp} {s:Shared} {E:Value->Shared->Prop} {tg elt iter:Expr} {ifs:List Expr} {scope:Scope} {g:TG} {ct:TT} {te:TE} {ts fr:List Str} {js:List Nat}
    {it:Addr} {fp:List Addr} {tn:Nat->Heap->Prop} {J:It} {Q:VK} {RR:Value->Addr->Result->Shared->Prop}
    (hc:X.calm=true) (hkind:scope.kind=.function) (hcell:∀ y ∈ scope.names,y.2 ≠ .cell) (hfree:∀ y ∈ scope.names,y.2=.free->X.env.kindOf y.1=some .cell\/X.env.kindOf y.1=some .free)
    (hfr:ib X scope fr js) (htg:∀ C fp s₁ H₁,PG (gP X scope C (ts++fr) fp s₁ H₁) tg g) (hct:∀ C fp s₁ H₁,vW (gP X scope C (ts++fr) fp s₁ H₁) ifs ct) (hte:∀ C fp s₁ H₁,PE (gP X scope C (ts++fr) fp s₁ H₁) elt te)
    (I:Inv X pins σ H s) (T:Turn X.prog X.w X.K tg J fp it tn) (st:tn 0 s.heap) (hfp:∀ b ∈ fp,jc X pins H b)
    (h:∀ acc,H acc=none->uc J ts.length js g ct te acc σ H Q)
    (hRR:∀ acc C H' s' m,Inv X pins σ H' s'->s'.heap.Ns C m->H' C=none->s.heap.objs.size<=C->Q (.ref acc) H'->RR (.ref acc) C (.ok .next) s') :
    wpAny (model X.prog X.w) X.A (newList []) (fun acc s₃=>wpAny (model X.prog X.w) X.A (newFunctionEnv scope X.env.globals (jN X.env.cells scope.names []) [] X.env.qual none .none (some X.env)) (fun cenv s₄ =>
      codeAny (model X.prog X.w) X.A (.compStart (.ListComp elt [⟨tg,iter,ifs,0⟩] scope pos) 0 (.ref it) acc { cenv with scope:=relabel scope X.env }) (RR acc cenv.locals) s₄) E s₃) E s:=by
  have hf:∀ y ∈ scope.names,y.2=.free->∃ c,X.env.cells.lookup y.1=some c:=fun y hy e=>I.ok.has y.1 (hfree y hy e)
  have ag:∀ x c,(jN X.env.cells scope.names []).lookup x=some c->X.env.cells.lookup x=some c:=kY scope.names [] hf fun x c e=>by simp at e
  have hlt:∀ b ∈ fp,b < s.heap.objs.size:=fun b hb=>by
    obtain⟨o,e,_⟩:=T.obj _ _ st b hb
    exact Heap.lt_size e
  refine wpAny_newObj_type (wpAny_newFunctionEnv hcell (by intro y hy;simp at hy) (fun h₁ hns₁ hsb₁=>?_) hkind)
  dsimp only at hns₁ hsb₁ ⊢
  generalize hH2:s.heap.push { cls:=.type "list",dict:=none,data:=.seq ([]:List Value).toArray }=G2 at hns₁ hsb₁ ⊢
  have hC:G2.objs.size=s.heap.objs.size+1:=by rw [<-hH2,Heap.size_push]
  have hDC:s.heap.objs.size ≠ G2.objs.size:=by rw [hC];exact Nat.ne_of_lt (Nat.lt_succ_self _)
  have hCle:s.heap.objs.size<=G2.objs.size:=by rw [hC];exact Nat.le_succ _
  have below:∀ b,b < s.heap.objs.size->b ≠ G2.objs.size/\b ≠ s.heap.objs.size:=fun b hb=>⟨by rw [hC];exact Nat.ne_of_lt (Nat.lt_succ_of_lt hb),Nat.ne_of_lt hb⟩
  have old:∀ b o,s.heap.get? b=some o->h₁.get? b=some o:=fun b o e=>hsb₁.extBut b o (below b (Heap.lt_size e)).1 (Heap.get?_push_of_some _ (hH2 ▸ Heap.get?_push_of_some _ e))
  have hacc:h₁.get? s.heap.objs.size=some { cls:=.type "list",data:=.seq ([]:List Value).toArray }:=hsb₁.extBut _ _ hDC (Heap.get?_push_of_some _ (hH2 ▸ Heap.get?_push_size _ rfl))
  have nD:H s.heap.objs.size=none:=I.aN.fresh (Nat.le_refl _)
  have nC:H G2.objs.size=none:=I.aN.fresh hCle
  obtain⟨W,⟨m0,w0⟩,turn⟩:=h s.heap.objs.size nD
  generalize hXb:gP X scope G2.objs.size (ts++fr) fp s H=Xb
  have Ib:∀ tk,Inv Xb [] (mN ts.length js σ) (upd H s.heap.objs.size (.lst [])) { s with heap:=h₁,toks:=tk }:=by
    intro tk
    subst hXb
    refine⟨AL I hkind hcell hf hCle hfp hlt,rfl,I.bare,Un.laid old (Nat.le_refl _) nD,⟨_,hns₁,fun i x v e1 e2 e3=>?_⟩,fun x c e=>?_,?_,fun x c e=>?_,fun p hp=>absurd (show p ∈ ([]:List (Addr × Obj)) from hp) (by simp),I.aN.laid old (Nat.le_refl _) ⟨by show 0<=sizeLine;decide,[],_,.nil,hacc⟩,?_⟩
    · have hi:ts.length<=i:=by
        refine Nat.le_of_not_lt fun hi=>?_
        unfold mN at e2
        rw [List.getElem?_append_left (by simpa using hi),List.getElem?_replicate] at e2
        split at e2 <;> cases e2
      have e1':fr[i - ts.length]? = some x:=by
        have e1'':(ts++fr)[i]? = some x:=e1
        rw [List.getElem?_append_right hi] at e1''
        exact e1''
      unfold mN at e2
      rw [List.getElem?_append_right (by simpa using hi),List.length_replicate,List.getElem?_map] at e2
      cases ej:js[i - ts.length]? with
      | none=>rw [ej] at e2;cases e2
      | some j =>
        rw [ej] at e2
        have e2':σ.getD j none=some v:=by simpa using e2
        obtain⟨q1,q2,q3⟩:=hfr.get e1' ej
        have e2'':σ[j]? = some (some v):=by
          rw [List.getD_eq_getElem?_getD] at e2'
          cases ez:σ[j]? with
          | none=>rw [ez] at e2';cases e2'
          | some z=>rw [ez] at e2';rw [show z=some v from e2']
        obtain⟨m,hn,hl⟩:=I.loc
        obtain⟨u,r,l⟩:=hl j x v q1 e2'' (by
          rcases q2 with q2 | q2
          · exact .inr (.inl q2)
          · exact .inr (.inr q2))
        refine⟨u,r,.inr ⟨kZ q3,?_⟩⟩
        rcases l with ⟨l,_⟩ | ⟨_,c,lc,lv⟩
        · rcases q2 with q2 | q2 <;> (rw [l] at q2;cases q2)
        · obtain⟨c',hc'⟩:=oX (cells:=X.env.cells) scope.names [] (.inl (PySem.mem_of_lookup q3))
          have:=ag x c' hc'
          rw [lc] at this
          cases this
          obtain⟨o,ho,hd⟩:=lv
          exact⟨c,hc',o,old _ _ ho,hd⟩
    · obtain⟨v,o,ho,hd⟩:=I.cell x c (ag x c e)
      exact⟨v,o,old _ _ ho,hd⟩
    · show upd H s.heap.objs.size (.lst []) G2.objs.size=none
      rw [au hDC.symm];exact nC
    · obtain⟨v,o,ho,hd⟩:=I.cell x c (ag x c e)
      rw [au (Nat.ne_of_lt (Heap.lt_size ho))]
      exact I.fc x c (ag x c e)
    · show (mN ts.length js σ).length=(ts++fr).length
      unfold mN
      rw [List.length_append,List.length_replicate,List.length_map,List.length_append,hfr.len]
  have fpB:∀ {H':Hp},(∀ b ∈ fp,H' b=none)->∀ b ∈ fp,jc Xb [] H' b:=fun {H'} hn b hb=>by
    subst hXb
    obtain⟨h1,h2,h3,h4,h5,h6⟩:=hfp b hb
    refine⟨hn b hb,(below b (hlt b hb)).1,fun z=>?_,.inl hb,fun x c e=>h5 x c (ag x c e),fun p hp=>absurd (show p ∈ ([]:List (Addr × Obj)) from hp) (by simp)⟩
    rcases List.mem_cons.mp (I.nO b z) with z | z
    · exact h2 z
    · exact h3 z
  have fin:∀ {τ : St} {H':Hp} {s':Shared},Inv Xb [] τ H' s'->Q (.ref s.heap.objs.size) H'->RR (.ref s.heap.objs.size) G2.objs.size (.ok .next) s':=fun {τ H' s'} Jb q=>by
    subst hXb
    obtain⟨m,hn,_⟩:=Jb.loc
    refine hRR _ _ H' s' m (I.Bm (ch:=fp) Jb.os Jb.base Jb.aN Jb.bare fun b hb=>?_) hn Jb.free hCle q
    obtain⟨h1,h2,h3,h4,h5,h6⟩:=hfp b hb
    exact⟨h4,h2,h5,h6⟩
  have loop:∀ tk,codeAny (model X.prog X.w) X.A (.compLoop (.ListComp elt [⟨tg,iter,ifs,0⟩] scope pos) 0 (.ref it) (.ref s.heap.objs.size) (compEnvC scope (jN X.env.cells scope.names []) G2.objs.size X.env))
        (RR (.ref s.heap.objs.size) G2.objs.size) { s with heap:=h₁,toks:=tk }:=by
    intro tk
    refine kJ (fun n s'=>∃ i ys τ H',Inv Xb [] τ H' s'/\tn i s'.heap/\(∀ b ∈ fp,H' b=none)/\W i n ys τ H') ?_ m0 ⟨0,[],_,_,Ib tk,T.keep _ _ _ st fun b hb o e=>old b o e,fun b hb=>?_,w0⟩
    · rintro n s3 ⟨i,ys,τ,H3,I3,st3,fr3,w3⟩
      have htg':=htg G2.objs.size fp s H
      have hct':=hct G2.objs.size fp s H
      have hte':=hte G2.objs.size fp s H
      rw [hXb] at htg' hct' hte'
      have eP:Xb.prog=X.prog:=by subst hXb;rfl
      have ew:Xb.w=X.w:=by subst hXb;rfl
      have eK:Xb.K=X.K:=by subst hXb;rfl
      have eA:Xb.A=X.A:=by subst hXb;rfl
      have ec:Xb.calm=true:=by subst hXb;exact hc
      have ee:Xb.env=compEnvC scope (jN X.env.cells scope.names []) G2.objs.size X.env:=by subst hXb;rfl
      have ex:Xb.xe=fun _ _=>False:=by subst hXb;rfl
      rw [<-eP,<-ew,<-eA,<-ee]
      obtain⟨ha,hl,turn'⟩:=turn i n ys τ H3 w3
      rcases turn' with ⟨stop,q⟩ | ⟨go,N,hN,step⟩
      · have hd:=T.done Xb eP ew eK ec i [] s3 τ H3 (fun _ _=>False) I3 (fpB fr3) st3 stop
        rw [<-eP,<-ew] at hd
        refine wpAny_mono hd (fun r s4 hr4=>?_) fun _ _ z=>z
        obtain⟨hr,I4⟩:=hr4
        subst hr
        exact fin I4 q
      · have hd:=T.item Xb eP ew eK ec i [] s3 τ H3 (fun _ _=>False) I3 (fpB fr3) st3 go
        rw [<-eP,<-ew] at hd
        refine wpAny_mono hd (fun r s4 hr4=>?_) fun _ _ z=>z
        obtain⟨u,hr,h4⟩:=hr4
        subst hr
        refine wpAny_mono h4 (fun _ s5 ⟨x,H5,I5,r5,y5,st5,fr5⟩=>?_) fun _ _ z=>z
        have I5':=I5.pinned (fpB fr5) (T.obj _ _ st5)
        have keepT:∀ {σ7:St} {H7:Hp} {s7:Shared},Inv Xb ([] ++ kP fp s5.heap) σ7 H7 s7->tn (i+1) s7.heap/\∀ b ∈ fp,H7 b=none:=fun {σ7 H7 s7} I7=>by
          refine⟨T.keep _ _ _ st5 fun b hb o e=>(I7.pin (b,o) (List.mem_append_right _ (List.mem_append_right _ (iU hb e)))).1,fun b hb=>?_⟩
          obtain⟨o,e,d⟩:=T.obj _ _ st5 b hb
          exact (I7.pin (b,o) (List.mem_append_right _ (List.mem_append_right _ (iU hb e)))).2.1
        refine wpAny_mono (htg' _ s5 τ H5 x u _ I5' r5 (step x H5 y5)) (fun _ s6 ⟨τ6,H6,I6,q6⟩=>?_) (fun _ _ z=>by rw [ex] at z;exact z)
        refine wpAny_mono (hct' _ s6 τ6 H6 _ I6 q6) (fun ok s7 ⟨H7,I7,q7⟩=>?_) (fun _ _ z=>by rw [ex] at z;exact z)
        cases ok with
        | false =>
          have q7':N ys τ6 H7:=by rw [if_neg (by simp)] at q7;exact q7
          rw [if_neg (by simp)]
          obtain⟨m',hm,w7⟩:=hN _ _ _ q7'
          exact⟨m',hm,i+1,ys,τ6,H7,I7.jd,(keepT I7).1,(keepT I7).2,w7⟩
        | true =>
          rw [if_pos rfl] at q7 ⊢
          refine wpAny_mono (hte' _ s7 τ6 H7 _ I7 q7) (fun v s8 ⟨y,H8,I8,r8,ha8,n8⟩=>?_) (fun _ _ z=>by rw [ex] at z;exact z)
          refine wpAny_mono (cY (X:=Xb) _ s8 τ6 H8 (.ref s.heap.objs.size) [y] (.ref s.heap.objs.size) [v] (fun _ H9=>H9=upd H8 s.heap.objs.size (.lst (ys ++ [y]))) I8 rfl (.cons r8 .nil) ⟨_,ys,y,rfl,rfl,ha8,hl,rfl⟩) (fun _ s9 ⟨_,H9,I9,_,e9⟩=>?_) (fun _ _ z=>by rw [ex] at z;exact z)
          subst e9
          obtain⟨m',hm,w8⟩:=hN _ _ _ n8
          exact⟨m',hm,i+1,_,τ6,_,I9.jd,(keepT I9).1,(keepT I9).2,w8⟩
    · rw [au (Nat.ne_of_lt (hlt b hb))]
      exact (hfp b hb).1
  exact codeAny_compStart_list (loop _) (T.self _ 0 _ _ _ (T.keep _ _ _ st fun b hb o e=>old b o e) (loop _))
theorem Inv.vX {pins:List (Addr × Obj)} {σ : St} {H H':Hp} {s s':Shared} {C:Addr} {h':Heap} (I:Inv X pins σ H s) {σ':St} (I':Inv X pins σ' H' s') (hC:H' C=none) (hle:s.heap.objs.size<=C) (hsb:Heap.SameBut C s'.heap h') :
  Inv X pins σ' H' { s' with heap:=h' }:=by
 obtain⟨h1,h2,h3,h4,h5,h6⟩:=I.m6 (H':=H') hle hC
 exact I'.turned (t':=s'.toks) (fun b o hb e=>hsb.extBut b o hb e) hC h2 h4 h5 h6
theorem eE {tg elt iter:Expr} {ifs:List Expr} {scope:Scope} {wi:TI} {g:TG} {ct:TT} {te:TE} (ts fr:List Str) (js:List Nat)
  (hc:X.calm=true) (hi:PI X tg iter wi) (hkind:scope.kind=.function) (hcell:∀ y ∈ scope.names,y.2 ≠ .cell) (hnames:∀ y ∈ scope.names,y.2=.local->scope.names.lookup y.1=some .local)
  (hfree0:∀ y ∈ scope.names,y.2=.free->y.1 ∈ fr) (hfr:ib X scope fr js)
  (htg:∀ C fp s₁ H₁,PG (gP X scope C (ts++fr) fp s₁ H₁) tg g) (hct:∀ C fp s₁ H₁,vW (gP X scope C (ts++fr) fp s₁ H₁) ifs ct) (hte:∀ C fp s₁ H₁,PE (gP X scope C (ts++fr) fp s₁ H₁) elt te)
  (hs:∀ x,foldedSetIterable iter X.env x=pure x:=by intro _;rfl):PE X (.ListComp elt [⟨tg,iter,ifs,0⟩] scope pos) (BP ts.length js wi g ct te):=by
 have hfree:∀ y ∈ scope.names,y.2=.free->X.env.kindOf y.1=some .cell\/X.env.kindOf y.1=some .free:=fun y hy e=>hfr.mem (hfree0 y hy e)
 intro pins s σ H Q I h
 rw [eval_ListComp]
 refine wpAny_comprehension_free (use:=none) rfl hs (nW fun y hy e=>I.ok.has y.1 (hfree y hy e)) hkind hnames (br (hi pins s σ H _ I h) fun xv s1 h1=>br h1 fun itv s2 h2=>?_)
 obtain⟨it,fp,tn,J,H2,e,I2,T,st2,f2,hW⟩:=h2
 subst e
 refine ud (RR:=fun acc C=>compPost (model X.prog X.w) X.A X.xe none (EP X pins σ Q) acc C) hc hkind hcell hfree hfr htg hct hte I2 T st2 f2 hW ?_
 intro acc C H' s' m I' hn hC hle q
 exact⟨m,hn,fun h' hsb=>⟨.ref acc,H',I2.vX I' hC hle hsb,rfl,q⟩⟩
theorem j0 {tg elt iter:Expr} {ifs:List Expr} {scope:Scope} {wi:TI} {g:TG} {ct:TT} {te:TE} {i:Nat} {y:Str} {py spos:Pos} (ts fr:List Str) (js:List Nat)
  (hsw:swapsWith (.ListComp elt [⟨tg,iter,ifs,0⟩] scope pos) (some (.Name y py)) spos.line X.env=pure true) (hN:X.N.Nodup) (hi0:X.N[i]? = some y) (hx:X.env.scope.names.lookup y=some .local)
  (hc:X.calm=true) (hi:PI X tg iter wi) (hkind:scope.kind=.function) (hcell:∀ y ∈ scope.names,y.2 ≠ .cell) (hnames:∀ y ∈ scope.names,y.2=.local->scope.names.lookup y.1=some .local)
  (hfree0:∀ y ∈ scope.names,y.2=.free->y.1 ∈ fr) (hfr:ib X scope fr js)
  (htg:∀ C fp s₁ H₁,PG (gP X scope C (ts++fr) fp s₁ H₁) tg g) (hct:∀ C fp s₁ H₁,vW (gP X scope C (ts++fr) fp s₁ H₁) ifs ct) (hte:∀ C fp s₁ H₁,PE (gP X scope C (ts++fr) fp s₁ H₁) elt te)
  (hs:∀ x,foldedSetIterable iter X.env x=pure x:=by intro _;rfl):PS X (.Assign [.Name y py] (.ListComp elt [⟨tg,iter,ifs,0⟩] scope pos) spos) (xp (BP ts.length js wi g ct te) (qL i)):=by
 have hfree:∀ y ∈ scope.names,y.2=.free->X.env.kindOf y.1=some .cell\/X.env.kindOf y.1=some .free:=fun y hy e=>hfr.mem (hfree0 y hy e)
 intro pins s σ H D I h
 rw [exec_Assign_Name_used _ _ _ _ hsw]
 refine wpAny_bind (wpAny_standAt (wpAny_bind ?_))
 show wpAny _ X.A (do let _ <-comprehension (.ListComp elt [⟨tg,iter,ifs,0⟩] scope pos) scope X.env _ (newList []) false (eval iter X.env) (some (assign (.Name y py) X.env))) _ _ s
 refine wpAny_bind (wpAny_mono (wpAny_comprehension_free (use:=some (assign (.Name y py) X.env)) (Q:=fun _ s'=>SP X pins D .next s') rfl hs (nW fun y hy e=>I.ok.has y.1 (hfree y hy e)) hkind hnames
  (br (hi pins s σ H _ I h) fun xv s1 h1=>br h1 fun itv s2 h2=>?_)) (fun _ s' hq=>wpAny_pure (wpAny_pure hq)) fun _ _ e=>e)
 obtain⟨it,fp,tn,J,H2,e,I2,T,st2,f2,hW⟩:=h2
 subst e
 refine ud (Q:=fun v H'=>D.nx (σ.set i (some v)) H') (RR:=fun acc C=>compPost (model X.prog X.w) X.A X.xe (some (assign (.Name y py) X.env)) (fun _ s'=>SP X pins D .next s') acc C) hc hkind hcell hfree hfr htg hct hte I2 T st2 f2 hW ?_
 intro acc C H' s' m I' hn hC hle q
 show wpAny _ X.A (assign (.Name y py) X.env (.ref acc)) _ _ _
 refine wpAny_assign_Name (pR I' hN hi0 (.inl hx) (v:=.ref acc) rfl (fun s'' I'' hch=>?_) (.inr hx))
 obtain⟨h1,h2,h3,h4,h5,h6⟩:=I2.m6 (H':=H') hle hC
 obtain⟨a,hsb,ha⟩:=hch
 refine⟨m,hn.sameBut hsb ?_,fun h' hsb'=>⟨_,H',I2.vX I'' hC hle hsb',q⟩⟩
 rcases ha with ha | ha
 ·rw [ha];exact h2
 ·exact fun z=>h5 y a ha z.symm
end
theorem mi {K:PySem.W.Frag} {a acc:Addr} {xs:List V} {n:Nat} {js:List Nat} {g:TG} {ct:TT} {te:TE} {σ : St} {H1:Hp} {Q:VK} (Pv:Nat->List V->St->Hp->Prop) (h0:Pv 0 [] (mN n js σ) (upd H1 acc (.lst [])))
  (hl:∀ i ys τ H,i<=xs.length->Pv i ys τ H->aI K H a xs/\H acc=some (.lst ys)/\ys.length < sizeLine)
  (hs:∀ i x ys τ H,xs[i]? = some x->Pv i ys τ H->g x τ H fun τ1 H4=>ct τ1 H4 fun b H5=>if b=true then te τ1 H5 fun y H6=>H6 acc=some (.lst ys)/\Pv (i+1) (ys ++ [y]) τ1 (upd H6 acc (.lst (ys ++ [y]))) else Pv (i+1) ys τ1 H5)
  (hd:∀ ys τ H,Pv xs.length ys τ H->Q (.ref acc) H) :
  uc (tV K a) n js g ct te acc σ H1 Q:=by
 refine⟨fun i m ys τ H=>m=xs.length - i/\i<=xs.length/\Pv i ys τ H,⟨xs.length,by simp,Nat.zero_le _,h0⟩,?_⟩
 rintro i m ys τ H ⟨rfl,hi,p⟩
 obtain⟨q,q2,q3⟩:=hl i ys τ H hi p
 refine⟨q2,q3,?_⟩
 by_cases hlt:i < xs.length
 ·refine .inr ⟨⟨xs,xs[i],q,by simp [hlt]⟩,Pv (i+1),fun ys' τ' H' p'=>⟨xs.length - (i+1),by omega,rfl,hlt,p'⟩,fun x H' y=>?_⟩
  obtain⟨e,y⟩:=y
  subst e
  exact hs i x ys τ _ (y xs q) p
 ·have e:i=xs.length:=by omega
  subst e
  exact .inl ⟨⟨xs,q,Nat.le_refl _⟩,hd ys τ H p⟩
theorem nX {K:PySem.W.Frag} {a acc:Addr} {xs:List V} {n:Nat} {js:List Nat} {g:TG} {ct:TT} {te:TE} {σ : St} {H1:Hp} {Q:VK} (Pv:Nat->List V->St->Hp->Prop) (h0:Pv 0 [] (mN n js σ) (upd H1 acc (.lst [])))
  (hl:∀ i ys τ H,i<=xs.length->Pv i ys τ H->ay K H a xs/\H acc=some (.lst ys)/\ys.length < sizeLine)
  (hs:∀ i x ys τ H,xs[i]? = some x->Pv i ys τ H->g x τ H fun τ1 H4=>ct τ1 H4 fun b H5=>if b=true then te τ1 H5 fun y H6=>H6 acc=some (.lst ys)/\Pv (i+1) (ys ++ [y]) τ1 (upd H6 acc (.lst (ys ++ [y]))) else Pv (i+1) ys τ1 H5)
  (hd:∀ ys τ H,Pv xs.length ys τ H->Q (.ref acc) H) :
  uc (tW K a) n js g ct te acc σ H1 Q:=by
 refine⟨fun i m ys τ H=>m=xs.length - i/\i<=xs.length/\Pv i ys τ H,⟨xs.length,by simp,Nat.zero_le _,h0⟩,?_⟩
 rintro i m ys τ H ⟨rfl,hi,p⟩
 obtain⟨q,q2,q3⟩:=hl i ys τ H hi p
 refine⟨q2,q3,?_⟩
 by_cases hlt:i < xs.length
 ·refine .inr ⟨⟨xs,xs[i],q,by simp [hlt]⟩,Pv (i+1),fun ys' τ' H' p'=>⟨xs.length - (i+1),by omega,rfl,hlt,p'⟩,fun x H' y=>?_⟩
  obtain⟨e,y⟩:=y
  subst e
  exact hs i x ys τ _ (y xs q) p
 ·have e:i=xs.length:=by omega
  subst e
  exact .inl ⟨⟨xs,q,Nat.le_refl _⟩,hd ys τ H p⟩
theorem j1 {lo:Int} {k:Nat} {acc:Addr} {n:Nat} {js:List Nat} {g:TG} {ct:TT} {te:TE} {σ : St} {H1:Hp} {Q:VK} (Pv:Nat->List V->St->Hp->Prop) (h0:Pv 0 [] (mN n js σ) (upd H1 acc (.lst [])))
  (hl:∀ i ys τ H,i<=k->Pv i ys τ H->H acc=some (.lst ys)/\ys.length < sizeLine)
  (hs:∀ i ys τ H,i < k->Pv i ys τ H->g (.int (lo+i)) τ H fun τ1 H4=>ct τ1 H4 fun b H5=>if b=true then te τ1 H5 fun y H6=>H6 acc=some (.lst ys)/\Pv (i+1) (ys ++ [y]) τ1 (upd H6 acc (.lst (ys ++ [y]))) else Pv (i+1) ys τ1 H5)
  (hd:∀ ys τ H,Pv k ys τ H->Q (.ref acc) H) :
  uc (rh lo k) n js g ct te acc σ H1 Q:=by
 refine⟨fun i m ys τ H=>m=k - i/\i<=k/\Pv i ys τ H,⟨k,by simp,Nat.zero_le _,h0⟩,?_⟩
 rintro i m ys τ H ⟨rfl,hi,p⟩
 obtain⟨q2,q3⟩:=hl i ys τ H hi p
 refine⟨q2,q3,?_⟩
 by_cases hlt:i < k
 ·refine .inr ⟨hlt,Pv (i+1),fun ys' τ' H' p'=>⟨k - (i+1),by omega,rfl,hlt,p'⟩,fun x H' y=>?_⟩
  obtain⟨e,y⟩:=y
  subst e y
  exact hs i ys τ _ hlt p
 ·have e:i=k:=by omega
  subst e
  exact .inl ⟨Nat.le_refl _,hd ys τ H p⟩
section
variable {X:Cx}
end
def Cy (t:TS):TS:=fun D σ H=>∃ M:St->Hp->Prop,t { D with nx:=M } σ H/\∀ σ' H',M σ' H'->D.nx σ' H'
theorem eC {X:Cx} {st:Stmt} {t:TS} (h:PS X st t):PS X st (Cy t):=by
 intro pins s σ H D I q
 obtain⟨M,q,hM⟩:=q
 refine br (h pins s σ H _ I q) fun f s' hs=>?_
 cases f with
 | next =>
  obtain⟨σ',H',I',m⟩:=hs
  exact⟨σ',H',I',hM _ _ m⟩
 | brk=>exact hs
 | cont=>exact hs
 | ret u=>exact hs
theorem jO {m:Int} (h0:0 < m) (h1:m < 1073741824):m.natAbs.log2 < 9000:=by
 have h:m.natAbs.log2 < 30:=(Nat.log2_lt (by omega)).mpr (by omega)
 omega
theorem oZ {X:Cx} {K:PySem.W.Frag} {es:List Expr} {k:Nat} {t:pS} {n:Nat} {pos:Pos} (hK:X.K=K) (h:PG X (.Tuple es k pos) (xo X.K n t)):PG X (.Tuple es k pos) (xo K n t):=by
 subst hK
 exact h
mutual
inductive aV (H:Hp):V->PyData->Prop
 | bf:aV H .bf .none
 | bl (b:Bool):aV H (.bl b) (.bool b)
 | int (i:Int):aV H (.int i) (.int i)
 | str (x:Str):aV H (.str x) (.str x)
 | lst {p:Addr} {xs:List V} {ds:List PyData}:H p=some (.lst xs)->aZ H xs ds->aV H (.ref p) (.list ds)
 | tup {p:Addr} {xs:List V} {ds:List PyData}:H p=some (.tup xs)->aZ H xs ds->aV H (.ref p) (.tuple ds)
inductive aZ (H:Hp):List V->List PyData->Prop
 | nil:aZ H [] []
 | cons {x:V} {xs:List V} {d:PyData} {ds:List PyData}:aV H x d->aZ H xs ds->aZ H (x :: xs) (d :: ds)
end
section
variable {P:Program} {w:World} {H:Hp} {h:Heap}
mutual
theorem aV.reads (ok:dz P w H h):∀ {x:V} {d:PyData} {v:Value},aV H x d->RelV x v->∃ as,Reads h v d as
 | _,_,v,.bf,r=>by
  cases (show v=Value.none from r)
  exact⟨_,.none⟩
 | _,_,v,.bl b,r=>by
  cases (show v=Value.bool b from r)
  exact⟨_,.bool b⟩
 | _,_,v,.int i,r=>by
  obtain⟨t,e⟩:=(show ∃ t,v=Value.int i t from r)
  cases e
  exact⟨_,.int i t⟩
 | _,_,v,.str x,r=>by
  obtain⟨t,e⟩:=(show ∃ t,v=Value.str x t from r)
  cases e
  exact⟨_,.str x t⟩
 | _,_,v,.lst (p:=p) (xs:=xs) e ds,r=>by
  cases (show v=Value.ref p from r)
  obtain⟨_,its,n,rv,h1⟩:=(show bM P w H h p (.lst xs) from ok p _ e)
  obtain⟨as,ra⟩:=aZ.reads ok ds rv
  exact⟨_,.list (vs:=its.toArray) h1 rfl rfl (by simpa using ra)⟩
 | _,_,v,.tup (p:=p) (xs:=xs) e ds,r=>by
  cases (show v=Value.ref p from r)
  obtain⟨_,its,rv,o,h1,h2,n,h3⟩:=(show bM P w H h p (.tup xs) from ok p _ e)
  obtain⟨as,ra⟩:=aZ.reads ok ds rv
  exact⟨_,.tuple (vs:=its.toArray) h1 h2 h3.1 (by simpa using ra)⟩
theorem aZ.reads (ok:dz P w H h):∀ {xs:List V} {ds:List PyData} {vs:List Value},aZ H xs ds->Vals xs vs->∃ as,ReadsAll h vs ds as
 | _,_,_,.nil,.nil=>⟨_,.nil⟩
 | _,_,_,.cons r rs,.cons q qs=>by
  obtain⟨as,ra⟩:=aV.reads ok r q
  obtain⟨bs,rb⟩:=aZ.reads ok rs qs
  exact⟨_,.cons ra rb⟩
end
end
section
variable {X:Cx}
def AN (neg:Bool):R2:=fun x y H Q=>∃ dx dy,aV H x dx/\aV H y dy/\dx.canLay0=true/\dy.canLay0=true/\min dx.depth dy.depth<=60/\Q (.bl (if neg then !PyData.eqv dx dy else PyData.eqv dx dy)) H
theorem rE (hu:X.A.units+64 < cLine):dY X (compareOp .Eq) (AN false):=by
 intro pins s σ H x y v u Q I rx ry h
 obtain⟨dx,dy,r1,r2,c1,c2,hd,q⟩:=h
 obtain⟨as,ra⟩:=r1.reads I.aN rx
 obtain⟨bs,rb⟩:=r2.reads I.aN ry
 exact PySem.SeqAt.compareEq_reads ra rb c1 c2 (by omega) ⟨.bl _,H,I,rfl,q⟩
theorem vY (hu:X.A.units+64 < cLine):dY X (compareOp .NotEq) (AN true):=by
 intro pins s σ H x y v u Q I rx ry h
 obtain⟨dx,dy,r1,r2,c1,c2,hd,q⟩:=h
 obtain⟨as,ra⟩:=r1.reads I.aN rx
 obtain⟨bs,rb⟩:=r2.reads I.aN ry
 exact PySem.SeqAt.neOverData X.prog X.w X.A X.xe s v u dx dy as bs _ ra rb c1 c2 (by omega) ⟨.bl _,H,I,rfl,q⟩
end
def one (c:Nat):Str:=⟨#[c]⟩
theorem rF (rest:List Str):∀ a:Array Nat,(rest.foldl (fun acc p=>acc++Str.empty.cps++p.cps) a).toList=a.toList++rest.flatMap (·.cps.toList):=by
 induction rest with
 | nil=>intro a;simp
 | cons x r ih =>
  intro a
  rw [List.foldl_cons,ih]
  have e:Str.empty.cps = #[]:=rfl
  simp [e]
theorem join_ones (cs:List Nat):(Txt.join Str.empty (cs.map one)).cps.toList=cs:=by
 cases cs with
 | nil=>rfl
 | cons c r =>
  show (List.foldl (fun acc p=>acc++Str.empty.cps++p.cps) (#[c]:Array Nat) (r.map one)).toList=c :: r
  rw [rF]
  simp only [List.flatMap_map,one]
  simp
theorem xI:Str.ofString "" = Str.empty:=by decide +kernel
theorem uS {ys:List Str}:∀ {us:List Value},Vals (ys.map V.str) us->StrsAre us ys:=by
 induction ys with
 | nil=>intro us r;cases r;exact .nil
 | cons y ys ih =>
  intro us r
  cases r with
  | cons h t =>
   obtain⟨k,e⟩:=h
   subst e
   exact .cons y k (ih t)
section
variable {X:Cx}
def rJoin (K:PySem.W.Frag):V->List V->Hp->VK->Prop:=fun x vs H Q=>∃ (z:Str) (p:Addr) (ys:List Str),x=.str z/\vs = [.ref p]/\aI K H p (ys.map V.str)/\(ys.map (·.length)).sum+ys.length * z.length<=16777216/\Q (.str (Txt.join z ys)) H
theorem ue:AB X "str.join" (rJoin X.K):=by
 intro pins s σ H x vs v us Q I rx rv h
 obtain⟨z,p,ys,rfl,rfl,hS,hz,q⟩:=h
 obtain⟨t,e⟩:=(show ∃ t,v=Value.str z t from rx)
 subst e
 obtain⟨u,rfl,ru⟩:=vals1 rv
 cases (show u=Value.ref p from ru)
 obtain⟨its,rv',pl,_⟩:=I.list hS
 exact join_list pl.isList (by simpa using uS rv') hz fun t' k=>⟨.str _,H,I.tok k,⟨_,rfl⟩,q⟩
end
inductive cL where
 | put (x:Str) (n:Int)
 | copy (x y:Str)
 | add (x:Str) (n:Int)
 | read (x:Str)
 | tell (x:Str)
inductive End where
 | stop
 | go (p:Nat)
 | cC (less:Bool) (x:Str) (n:Int) (p q:Nat)
abbrev Piece:=List cL × End
def wT (b:Bool):Str:=if b=true then "less" else "is"
def cQ:cL->PyData
 | .put x n=>.tuple [.str "put",.str x,.int n]
 | .copy x y=>.tuple [.str "copy",.str x,.str y]
 | .add x n=>.tuple [.str "add",.str x,.int n]
 | .read x=>.tuple [.str "read",.str x]
 | .tell x=>.tuple [.str "tell",.str x]
def ji:End->PyData
 | .stop=>.tuple [.str "stop"]
 | .go p=>.tuple [.str "go",.int p]
 | .cC b x n p q=>.tuple [.str (wT b),.str x,.int n,.int p,.int q]
def cb (p:Piece):PyData:=.tuple [.tuple (p.1.map cQ),ji p.2]
def eN (ps:List Piece):PyData:=.tuple (ps.map cb)
structure dC (x:Str):Prop where
 lo:1<=x.length
 hi:x.length<=8
 az:∀ c ∈ x.cps.toList,97<=c/\c<=122
def j2 (n:Int):Prop:=-(10 ^ 40) < n/\n < 10 ^ 40
def eS (xs:List Str):cL->Prop
 | .put x n=>x ∈ xs/\j2 n
 | .copy x y=>x ∈ xs/\y ∈ xs
 | .add x n=>x ∈ xs/\j2 n
 | .read x=>x ∈ xs
 | .tell x=>x ∈ xs
def iV (xs:List Str) (count:Nat):End->Prop
 | .stop=>True
 | .go p=>p < count
 | .cC _ x n p q=>x ∈ xs/\j2 n/\p < count/\q < count
structure cq (xs:List Str) (most:Nat) (ps:List Piece):Prop where
 gQ:∀ p ∈ ps,p.1.length<=most/\∀ d ∈ p.1,eS xs d
 ends:∀ p ∈ ps,iV xs ps.length p.2
mutual
def bW:PyData->Bool
 | .list _=>false
 | .tuple xs=>bR xs
 | _=>true
def bR:List PyData->Bool
 | []=>true
 | x :: xs=>bW x && bR xs
end
mutual
theorem aV.aJ {H H':Hp} (k:∀ p xs,H p=some (.tup xs)->H' p=some (.tup xs)):∀ {x:V} {d:PyData},aV H x d->bW d=true->aV H' x d
 | _,_,.bf,_=>.bf
 | _,_,.bl b,_=>.bl b
 | _,_,.int i,_=>.int i
 | _,_,.str x,_=>.str x
 | _,_,.lst _ _,h=>nomatch h
 | _,_,.tup e ds,h=>.tup (k _ _ e) (aZ.aJ k ds h)
theorem aZ.aJ {H H':Hp} (k:∀ p xs,H p=some (.tup xs)->H' p=some (.tup xs)):∀ {xs:List V} {ds:List PyData},aZ H xs ds->bR ds=true->aZ H' xs ds
 | _,_,.nil,_=>.nil
 | _,_,.cons r rs,h=>by
  simp only [bR,Bool.and_eq_true] at h
  exact .cons (aV.aJ k r h.1) (aZ.aJ k rs h.2)
end
theorem aV.fix {b:Addr} {H H':Hp} {x:V} {d:PyData} (r:aV H x d) (hb:dB H b) (f:Fix b H H') (n:bW d=true):aV H' x d :=
 r.aJ (fun p xs e=>f p _ e (hb.rD e)) n
theorem aV.same {H H':Hp} {x:V} {d:PyData} (r:aV H x d) (f:ah H H') (n:bW d=true):aV H' x d :=
 r.aJ (fun p xs e=>f p _ e) n
theorem aZ.fix {b:Addr} {H H':Hp} {xs:List V} {ds:List PyData} (r:aZ H xs ds) (hb:dB H b) (f:Fix b H H') (n:bR ds=true):aZ H' xs ds :=
 r.aJ (fun p xs e=>f p _ e (hb.rD e)) n
theorem aZ.same {H H':Hp} {xs:List V} {ds:List PyData} (r:aZ H xs ds) (f:ah H H') (n:bR ds=true):aZ H' xs ds :=
 r.aJ (fun p xs e=>f p _ e) n
theorem aZ.put {H:Hp} {xs ys:List V} {ds:List PyData} {l:Addr} {o:HO} (r:aZ H xs ds) (hl:H l=some (.lst ys)) (n:bR ds=true):aZ (upd H l o) xs ds :=
 r.aJ (fun p zs e=>by rw [au (bg e hl (by intro z;cases z))];exact e) n
theorem aZ.app {H:Hp} {x:V} {d:PyData}:∀ {xs:List V} {ds:List PyData},aZ H xs ds->aV H x d->aZ H (xs ++ [x]) (ds ++ [d])
 | _,_,.nil,q=>.cons q .nil
 | _,_,.cons r rs,q=>.cons r (aZ.app rs q)
theorem aZ.len {H:Hp}:∀ {xs:List V} {ds:List PyData},aZ H xs ds->xs.length=ds.length
 | _,_,.nil=>rfl
 | _,_,.cons _ rs=>by simp [aZ.len rs]
theorem jC (d:cL):bW (cQ d)=true:=by cases d <;> rfl
theorem iW (e:End):bW (ji e)=true:=by cases e <;> rfl
theorem bK:∀ ds:List cL,bR (ds.map cQ)=true
 | []=>rfl
 | d :: ds=>by show (bW (cQ d) && bR (ds.map cQ))=true;rw [jC,bK ds];rfl
theorem fJ (p:Piece):bW (cb p)=true:=by
 show (bR (p.1.map cQ) && (bW (ji p.2) && true))=true
 rw [bK,iW];rfl
theorem aW:∀ ps:List Piece,bR (ps.map cb)=true
 | []=>rfl
 | p :: ps=>by show (bW (cb p) && bR (ps.map cb))=true;rw [fJ,aW ps];rfl
theorem bP (ps:List Piece):bW (eN ps)=true:=aW ps
structure eT (H:Hp) (b l:Addr) (xs:List Str):Prop where
 at_:H l=some (.lst (xs.map V.str))
 ne:l ≠ b
 qQ:xs ≠ []
 cD:xs.length<=1000
 ok:∀ x ∈ xs,dC x
theorem eT.fix {H H':Hp} {b l:Addr} {xs:List Str} (h:eT H b l xs) (f:Fix b H H'):eT H' b l xs:=⟨f l _ h.at_ h.ne,h.ne,h.qQ,h.cD,h.ok⟩
theorem eT.pos {H:Hp} {b l:Addr} {xs:List Str} (h:eT H b l xs):0 < ((xs.map V.str).length:Int)/\((xs.map V.str).length:Int) < 1073741824:=by
 have h1:=h.qQ
 have h2:=h.cD
 have h3:0 < xs.length:=by cases xs with | nil=>exact absurd rfl h1 | cons _ _=>simp
 rw [List.length_map]
 omega
def o1:Sp:=fun vs H Q _=>∃ (b:Addr),vs = [.ref b]/\dB H b/\∀ l xs H',eT H' b l xs->xs.length<=4->dB H' b->Fix b H H'->Q (.ref l) H'
def j3:Sp:=fun vs H Q _=>∃ (b:Addr),vs = [.ref b]/\dB H b/\∀ n H',j2 n->dB H' b->Fix b H H'->Q (.int n) H'
def nY:Sp:=fun vs H Q _=>∃ (b l:Addr) (xs:List Str),vs = [.ref b,.ref l]/\dB H b/\eT H b l xs/\∀ v d H',aV H' v (cQ d)->eS xs d->dB H' b->Fix b H H'->Q v H'
def nZ:Sp:=fun vs H Q _=>∃ (b l:Addr) (xs:List Str) (c:Nat),vs = [.ref b,.ref l,.int c]/\dB H b/\eT H b l xs/\0 < c/\c < 1073741824/\∀ v e H',aV H' v (ji e)->iV xs c e->dB H' b->Fix b H H'->Q v H'
def rG:Sp:=fun vs H Q _=>∃ (b:Addr) (c m:Nat),vs = [.ref b,.int c,.int m]/\dB H b/\0 < c/\c<=1000/\m<=1000/\∀ v xs ps H',aV H' v (eN ps)->ps.length=c->cq xs m ps->((∀ x ∈ xs,dC x)/\xs.length<=4)->dB H' b->Fix b H H'->Q v H'
def n4:Str := "abcdefghijklmnopqrstuvwxyz"
theorem rH:n4.cps.toList=(List.range 26).map (· + 97):=by decide +kernel
theorem uf:n4.length<=sizeLine:=by decide +kernel
theorem vZ {r:Int} (h0:0<=r) (h1:r < 26):∃ c,e7 n4.cps.toList r=some c/\97<=c/\c<=122:=by
 have hl:n4.cps.toList.length=26:=by rw [rH];simp
 obtain⟨c,hc,hm⟩:=qO (xs:=n4.cps.toList) h0 (by rw [hl];exact h1)
 refine⟨c,hc,?_⟩
 rw [rH] at hm
 obtain⟨k,hk,rfl⟩:=List.mem_map.mp hm
 have:=List.mem_range.mp hk
 omega
theorem nc {xs:List Str} {r:Int} (h0:0<=r) (h1:r < ((xs.map V.str).length:Int)):∃ x,e7 (xs.map V.str) r=some (V.str x)/\x ∈ xs:=by
 obtain⟨v,hv,hm⟩:=qO h0 h1
 obtain⟨x,hx,rfl⟩:=List.mem_map.mp hm
 exact⟨x,hv,hx⟩
theorem jj {σ : L2.St} {H:Hp} {Q:Bool->Hp->Prop} (h:Q true H):AM σ H Q:=h
theorem cu {i:Nat} {v:V} {σ : L2.St} {H:Hp} {Q:L2.St->Hp->Prop} (h:Q (σ.set i (some v)) H):qL i v σ H Q:=h
section
variable {κ : Type} [DecidableEq κ]
def bO (kvs:List (κ × V)) (k:κ):Option V:=(kvs.find? fun kv=>decide (kv.1=k)).map (·.2)
def putK (kvs:List (κ × V)) (k:κ) (v:V):List (κ × V) :=
 if (kvs.any fun kv=>decide (kv.1=k))=true then kvs.map (fun kv=>if kv.1=k then (kv.1,v) else kv) else kvs ++ [(k,v)]
def fe (kvs:List (κ × V)) (k:κ):List (κ × V):=kvs.filter fun kv=>decide (kv.1 ≠ k)
theorem cV {p:κ × V} {r:List (κ × V)} {k:κ} (e:p.1=k):bO (p :: r) k=some p.2:=by simp [bO,List.find?_cons,e]
theorem cN {p:κ × V} {r:List (κ × V)} {k:κ} (e:¬ p.1=k):bO (p :: r) k=bO r k:=by simp [bO,List.find?_cons,e]
theorem ic (k:κ):∀ kvs:List (κ × V),(kvs.any fun kv=>decide (kv.1=k))=(bO kvs k).isSome
 | []=>rfl
 | p :: r=>by
  rw [List.any_cons]
  by_cases e:p.1=k
  ·simp only [cV e,decide_eq_true e,Bool.true_or,Option.isSome_some]
  ·rw [cN e,decide_eq_false e,Bool.false_or];exact ic k r
theorem rJ (k j:κ) (y:V):∀ kvs:List (κ × V),bO (kvs.map fun kv=>if kv.1=k then (kv.1,y) else kv) j=(bO kvs j).map fun x=>if j=k then y else x
 | []=>rfl
 | p :: r=>by
  have ih:=rJ k j y r
  rw [List.map_cons]
  by_cases h:p.1=k
  ·rw [if_pos h]
   by_cases e:p.1=j
   ·rw [cV (p:=(p.1,y)) e,cV e,Option.map_some,if_pos (e.symm.trans h)]
   ·rw [cN (p:=(p.1,y)) e,cN e,ih]
  ·rw [if_neg h]
   by_cases e:p.1=j
   ·rw [cV (p:=p) e,cV e,Option.map_some,if_neg (fun z=>h (e.trans z))]
   ·rw [cN (p:=p) e,cN e,ih]
theorem p7 (k j:κ) (y:V):∀ kvs:List (κ × V),bO kvs k=none->bO (kvs ++ [(k,y)]) j=if j=k then some y else bO kvs j
 | [],_=>by
  by_cases e:k=j
  ·rw [if_pos e.symm];exact cV (p:=(k,y)) e
  ·rw [if_neg (fun z=>e z.symm)];exact cN (p:=(k,y)) e
 | p :: r,hn=>by
  rw [List.cons_append]
  have hk:¬ p.1=k:=fun z=>by rw [cV z] at hn;cases hn
  rw [cN hk] at hn
  have ih:=p7 k j y r hn
  by_cases e:p.1=j
  ·rw [cV e,cV e,if_neg (fun z=>hk (e.trans z))]
  ·rw [cN e,cN e,ih]
theorem xJ (kvs:List (κ × V)) (k j:κ) (y:V):bO (putK kvs k y) j=if j=k then some y else bO kvs j:=by
 unfold putK
 by_cases a:(kvs.any fun kv=>decide (kv.1=k))=true
 ·rw [if_pos a,rJ]
  rw [ic] at a
  by_cases e:j=k
  ·obtain⟨x,hx⟩:=Option.isSome_iff_exists.mp a
   rw [if_pos e,e,hx,Option.map_some,if_pos rfl]
  ·rw [if_neg e]
   cases bO kvs j with
   | none=>rfl
   | some x=>rw [Option.map_some,if_neg e]
 ·rw [if_neg a]
  refine p7 k j y kvs ?_
  rw [ic] at a
  cases q:bO kvs k with
  | none=>rfl
  | some x=>rw [q] at a;exact (a rfl).elim
theorem mO (kvs:List (κ × V)) (k:κ) (v:V):(putK kvs k v).length<=kvs.length+1:=by
 unfold putK
 split
 ·rw [List.length_map];omega
 ·rw [List.length_append,List.length_cons,List.length_nil];omega
theorem xK {kvs:List (κ × V)} {k:κ} (v:V) (h:bO kvs k=none):putK kvs k v=kvs ++ [(k,v)]:=by
 unfold putK
 rw [ic,h]
 exact if_neg (by decide)
theorem eQ.v7 {o:Option V} {u:Option Value} (r:eQ o u):o.isSome=u.isSome:=by
 cases o with
 | none=>cases u with
  | none=>rfl
  | some _=>exact (show False from r).elim
 | some _=>cases u with
  | none=>exact (show False from r).elim
  | some _=>rfl
theorem eQ.getD {o:Option V} {u:Option Value} {d:V} {d':Value} (r:eQ o u) (rd:RelV d d'):RelV (o.getD d) (u.getD d'):=by
 cases o with
 | none=>cases u with
  | none=>exact rd
  | some _=>exact (show False from r).elim
 | some _=>cases u with
  | none=>exact (show False from r).elim
  | some _=>exact r
theorem KV.val {kvs:List (κ × V)} {vs:List (κ × Value)} (r:KV kvs vs) (k:κ):eQ (bO kvs k) (valueAt vs k):=by
 unfold KV at r
 induction r with
 | nil=>exact True.intro
 | @cons p q ps qs h t ih =>
  obtain⟨h1,h2⟩:=h
  by_cases e:p.1=k
  ·have e':q.1=k:=h1.symm.trans e
   have b:valueAt (q :: qs) k=some q.2:=by simp [valueAt,List.find?_cons,e']
   rw [cV e,b];exact h2
  ·have e':¬ q.1=k:=fun z=>e (h1.trans z)
   have b:valueAt (q :: qs) k=valueAt qs k:=by simp [valueAt,List.find?_cons,e']
   rw [cN e,b];exact ih
theorem KV.any {kvs:List (κ × V)} {vs:List (κ × Value)} (r:KV kvs vs) (k:κ):(kvs.any fun kv=>decide (kv.1=k))=vs.any fun kv=>decide (kv.1=k):=by
 unfold KV at r
 induction r with
 | nil=>rfl
 | cons h t ih=>rw [List.any_cons,List.any_cons,ih,h.1]
theorem KV.xM {kvs:List (κ × V)} {vs:List (κ × Value)} (r:KV kvs vs) (k:κ) {y:V} {u:Value} (ry:RelV y u) :
  KV (kvs.map fun kv=>if kv.1=k then (kv.1,y) else kv) (vs.map fun kv=>if kv.1=k then (kv.1,u) else kv):=by
 unfold KV at r ⊢
 induction r with
 | nil=>exact .nil
 | @cons p q ps qs h t ih =>
  rw [List.map_cons,List.map_cons]
  refine .cons ?_ ih
  obtain⟨h1,h2⟩:=h
  by_cases e:p.1=k
  ·rw [if_pos e,if_pos (h1.symm.trans e)];exact⟨h1,ry⟩
  ·rw [if_neg e,if_neg (fun z=>e (h1.trans z))];exact⟨h1,h2⟩
theorem KV.put {kvs:List (κ × V)} {vs:List (κ × Value)} (r:KV kvs vs) (k:κ) {y:V} {u:Value} (ry:RelV y u):KV (putK kvs k y) (stored vs k u):=by
 unfold putK stored
 rw [r.any k]
 by_cases e:(vs.any fun kv=>decide (kv.1=k))=true
 ·rw [if_pos e,if_pos e];exact r.xM k ry
 ·rw [if_neg e,if_neg e];exact Paired.snoc r ⟨rfl,ry⟩
theorem KV.drop {kvs:List (κ × V)} {vs:List (κ × Value)} (r:KV kvs vs) (k:κ):KV (fe kvs k) (without vs k):=by
 unfold KV at r ⊢
 unfold fe without
 induction r with
 | nil=>exact .nil
 | @cons p q ps qs h t ih =>
  obtain⟨h1,h2⟩:=h
  rw [List.filter_cons,List.filter_cons]
  by_cases e:p.1=k
  ·have a:¬ decide (p.1 ≠ k)=true:=by simp [e]
   have b:¬ decide (q.1 ≠ k)=true:=by simp [h1.symm.trans e]
   rw [if_neg a,if_neg b];exact ih
  ·have e':¬ q.1=k:=fun z=>e (h1.trans z)
   have a:decide (p.1 ≠ k)=true:=by simp [e]
   have b:decide (q.1 ≠ k)=true:=by simp [e']
   rw [if_pos a,if_pos b];exact .cons ⟨h1,h2⟩ ih
theorem KV.keys {kvs:List (κ × V)} {vs:List (κ × Value)} (r:KV kvs vs):kvs.map (·.1)=vs.map (·.1):=by
 unfold KV at r
 induction r with
 | nil=>rfl
 | cons h t ih=>rw [List.map_cons,List.map_cons,ih,h.1]
theorem KV.length {kvs:List (κ × V)} {vs:List (κ × Value)} (r:KV kvs vs):kvs.length=vs.length:=Paired.length r
theorem xN (kvs:List (κ × V)) (k:κ):(fe kvs k).length<=kvs.length:=List.length_filter_le _ _
end
theorem j4 {P:Program} {w:World} {k:Key} {u:Value} (r:RelV (kV k) u):(aL P w).is k u=true:=by
 cases k with
 | inl i=>obtain⟨t,e⟩:=(show ∃ t,u=Value.int i t from r);subst e;exact mI P w i t
 | inr x=>obtain⟨t,e⟩:=(show ∃ t,u=Value.str x t from r);subst e;exact mJ P w x t
theorem p8 {P:Program} {w:World}:∀ {ks:List Key} {us:List Value},Vals (ks.map kV) us->ItemsAre (aL P w) ks us
 | [],_,r=>by rw [List.map_nil] at r;cases r;exact .nil
 | k :: ks,_,r=>by
  rw [List.map_cons] at r
  cases r with
  | cons h t=>exact .cons (j4 h) (p8 t)
abbrev KT (H:Hp):List (List Key × V)->List (List Key × Addr × Value)->Prop:=Paired fun p q=>p.1=q.1/\H q.2.1=some (.tup (p.1.map kV))/\RelV p.2 q.2.2
theorem KT.val {H:Hp} {kvs:List (List Key × V)} {xs:List (List Key × Addr × Value)} (r:KT H kvs xs) (k:List Key):eQ (bO kvs k) ((atKey xs k).map (·.2)):=by
 induction r with
 | nil=>exact True.intro
 | @cons p q ps qs h t ih =>
  obtain⟨h1,_,h2⟩:=h
  by_cases e:p.1=k
  ·have e':q.1=k:=h1.symm.trans e
   have b:atKey (q :: qs) k=some q.2:=by simp [atKey,List.find?_cons,e']
   rw [cV e,b];exact h2
  ·have e':¬ q.1=k:=fun z=>e (h1.trans z)
   have b:atKey (q :: qs) k=atKey qs k:=by simp [atKey,List.find?_cons,e']
   rw [cN e,b];exact ih
theorem KT.xM {H:Hp} {kvs:List (List Key × V)} {xs:List (List Key × Addr × Value)} (r:KT H kvs xs) (k:List Key) {y:V} {u:Value} (ry:RelV y u) :
  KT H (kvs.map fun kv=>if kv.1=k then (kv.1,y) else kv) (xs.map (putAt k u)):=by
 induction r with
 | nil=>exact .nil
 | @cons p q ps qs h t ih =>
  rw [List.map_cons,List.map_cons]
  refine .cons ?_ ih
  obtain⟨h1,h2,h3⟩:=h
  unfold putAt
  by_cases e:p.1=k
  ·rw [if_pos e,if_pos (h1.symm.trans e)];exact⟨h1,h2,ry⟩
  ·rw [if_neg e,if_neg (fun z=>e (h1.trans z))];exact⟨h1,h2,h3⟩
theorem KT.put {H:Hp} {kvs:List (List Key × V)} {xs:List (List Key × Addr × Value)} (r:KT H kvs xs) (k:List Key) {b:Addr} {y:V} {u:Value} (hb:H b=some (.tup (k.map kV))) (ry:RelV y u) :
  KT H (putK kvs k y) (storedH xs k b u):=by
 have e:(kvs.any fun kv=>decide (kv.1=k))=(atKey xs k).isSome:=by
  rw [ic,(r.val k).v7,Option.isSome_map]
 unfold putK storedH
 rw [e]
 by_cases q:(atKey xs k).isSome=true
 ·rw [if_pos q,if_pos q];exact r.xM k ry
 ·rw [if_neg q,if_neg q];exact Paired.snoc r ⟨rfl,hb,ry⟩
theorem KT.keeps {H H':Hp} {kvs:List (List Key × V)} {xs:List (List Key × Addr × Value)} (r:KT H kvs xs) (ht:∀ b ys,H b=some (.tup ys)->H' b=some (.tup ys)):KT H' kvs xs :=
 Paired.xi r fun _ _ z=>⟨z.1,ht _ _ z.2.1,z.2.2⟩
section
variable {P:Program} {w:World} {H:Hp} {h:Heap} {a:Addr}
theorem yV {u:HO} (ok:dz P w H h) (e:Rd H a u):bM P w H h a u:=e.ok ok
theorem mj {kvs:List (Key × V)} (ok:dz P w H h) (e:Rd H a (.dK kvs)):kvs.length<=sizeLine/\(a == sysModules)=false/\∃ vs,KV kvs vs/\h.DictOf (aL P w) a vs :=
 show bM P w H h a (.dK kvs) from yV ok e
theorem ml {kvs:List (Key × V)} (ok:dz P w H h) (e:H a=some (.dK kvs)):kvs.length<=sizeLine/\(a == sysModules)=false/\∃ vs,KV kvs vs/\h.DictOf (aL P w) a vs:=mj ok (.inl e)
theorem n5 {ks:List Key} (ok:dz P w H h) (e:H a=some (.tup (ks.map kV))):(tupleKind (aL P w)).is h ks a:=by
 obtain⟨_,its,r,o,h1,h2,n,h3⟩:=(show bM P w H h a (.tup (ks.map kV)) from ok a _ e)
 exact⟨o,its.toArray,n,h1,h2,h3.1,by simpa using p8 r⟩
theorem oa {kvs:List (List Key × V)} (ok:dz P w H h) (e:Rd H a (.dT kvs)):kvs.length<=sizeLine/\(a == sysModules)=false /\
  ∃ xs,KT H kvs xs/\h.DictOfH (tupleKind (aL P w)) a xs:=by
 obtain⟨z,y,xs,r,o,es,ep,h1,h2,h3,h4,h5⟩:=(show bM P w H h a (.dT kvs) from yV ok e)
 refine⟨z,y,xs,r,o,es,ep,h1,h2,h3,h4,fun x hx=>?_,h5⟩
 have all:∀ {l:List (List Key × V)} {m:List (List Key × Addr × Value)},KT H l m->∀ x ∈ m,(tupleKind (aL P w)).is h x.1 x.2.1:=by
  intro l m q
  induction q with
  | nil=>intro x hx;exact nomatch hx
  | @cons p q ps qs hq t ih =>
   intro x hx
   rcases List.mem_cons.mp hx with e | hx
   ·subst e
    exact n5 ok (by rw [<-hq.1];exact hq.2.1)
   ·exact ih x hx
 exact all r x hx
theorem BA {kvs:List (List Key × V)} (ok:dz P w H h) (e:H a=some (.dT kvs)):kvs.length<=sizeLine/\(a == sysModules)=false /\
  ∃ xs,KT H kvs xs/\h.DictOfH (tupleKind (aL P w)) a xs:=oa ok (.inl e)
end
def dU (H:Hp) (a:Addr) (y:V) (r:Option V):Prop :=
 (∃ kvs k,Rd H a (.dK kvs)/\y=kV k/\r=bO kvs k)\/∃ kvs k b,Rd H a (.dT kvs)/\y=.ref b/\H b=some (.tup (k.map kV))/\r=bO kvs k
def gR (H:Hp) (a:Addr) (y v:V) (H':Hp):Prop :=
 (∃ kvs k,H a=some (.dK kvs)/\y=kV k/\kvs.length < sizeLine/\H' = upd H a (.dK (putK kvs k v))) \/
 ∃ kvs k b,H a=some (.dT kvs)/\y=.ref b/\H b=some (.tup (k.map kV))/\kvs.length < sizeLine/\H' = upd H a (.dT (putK kvs k v))
theorem dU.k {H:Hp} {a:Addr} {kvs:List (Key × V)} {k:Key} (e:H a=some (.dK kvs)):dU H a (kV k) (bO kvs k):=.inl ⟨kvs,k,.inl e,rfl,rfl⟩
theorem gR.k {H:Hp} {a:Addr} {kvs:List (Key × V)} {k:Key} {v:V} (e:H a=some (.dK kvs)) (hl:kvs.length < sizeLine):gR H a (kV k) v (upd H a (.dK (putK kvs k v))):=.inl ⟨kvs,k,e,rfl,hl,rfl⟩
section
variable {X:Cx} {pins:List (Addr × Obj)} {σ : St} {H:Hp} {s:Shared} {a:Addr} {y v:V} {u r:Value} {o:Option V} {A:Around} {E:Value->Shared->Prop}
theorem Inv.big (I:Inv X pins σ H s):sysModules < s.heap.objs.size:=by
 have h:mainGlobals < s.heap.objs.size:=(I.mod.glob.keeps I.bk).lt
 exact Nat.lt_trans (by decide) h
theorem v8 {Q:Value->Shared->Prop} (hu:A.units+1 < cLine) (I:Inv X pins σ H s) (g:dU H a y (some v)) (ry:RelV y u) (h:∀ w' s',Inv X pins σ H s'->RelV v w'->Q w' s') :
  wpAny (model X.prog X.w) A (getItem (.ref a) u) Q E s:=by
 rcases g with ⟨kvs,k,e,ey,l⟩ | ⟨kvs,k,b,e,ey,eb,l⟩
 ·subst ey
  obtain⟨z,hd,vs,rel,dd⟩:=mj I.aN e
  obtain⟨w',hw,rw'⟩:=eQ.some_of (v:=v) (o:=valueAt vs k) (by rw [l];exact rel.val k)
  exact wpAny_getItem_of (j4 ry) dd.mapOf hw (h w' _ (I.tok _) rw')
 ·subst ey
  cases (show u=Value.ref b from ry)
  obtain⟨z,hd,xs,rel,dd⟩:=oa I.aN e
  obtain⟨w',hw,rw'⟩:=eQ.some_of (v:=v) (o:=(atKey xs k).map (·.2)) (by rw [l];exact rel.val k)
  obtain⟨p,hp,hp2⟩:=Option.map_eq_some_iff.mp hw
  refine wpAny_getItem_heap (tupleKind_room_in1 hu) (n5 I.aN eb) dd hp ?_
  rw [hp2]
  exact h w' _ (I.tok _) rw'
theorem o2 {h':Heap} {t':Nat} {ob:HO} (I:Inv X pins σ H s) (mu:vD (H a)) (hs:Heap.SameBut a s.heap h') (he:∃ q,h'.get? a=some q) (new:bM X.prog X.w (upd H a ob) h' a ob) :
  Inv X pins σ (upd H a ob) { s with heap:=h',toks:=t' } :=
 I.write (x:=a) (e:=a) mu (.inl rfl) (fun b q hb z=>(hs.2 b hb).trans z) he new
theorem lg {P:Program} {w:World} {H':Hp} {h':Heap} {kvs:List (Key × V)} {vs:List (Key × Value)} (z:kvs.length<=sizeLine) (hd:(a == sysModules)=false) (rel:KV kvs vs) (dd:h'.DictOf (aL P w) a vs) :
  bM P w H' h' a (.dK kvs):=⟨z,hd,vs,rel,dd⟩
theorem v9 {H':Hp} {Q:Unit->Shared->Prop} (hu:A.units+1 < cLine) (I:Inv X pins σ H s) (g:gR H a y v H') (ry:RelV y u) (rv:RelV v r) (h:∀ s',Inv X pins σ H' s'->Q () s') :
  wpAny (model X.prog X.w) A (setItem (.ref a) u r) Q E s:=by
 rcases g with ⟨kvs,k,e,ey,l,eH⟩ | ⟨kvs,k,b,e,ey,eb,l,eH⟩
 ·subst ey eH
  obtain⟨z,hd,vs,rel,dd⟩:=ml I.aN e
  have hz:vs.length<=sizeLine:=by rw [<-rel.length];exact z
  have hl:(putK kvs k v).length<=sizeLine:=by have:=mO kvs k v;omega
  refine wpAny_setItem_pairs (hsz:=hz) (j4 ry) dd fun h' dd' hs=>h _ ?_
  have he:∃ q,h'.get? a=some q:=let ⟨q,_,_,hq,_⟩:=dd';⟨q,hq⟩
  exact o2 I (by rw [e];exact True.intro) hs he (lg hl hd (rel.put k rv) dd')
 ·subst ey eH
  cases (show u=Value.ref b from ry)
  obtain⟨z,hd,xs,rel,dd⟩:=BA I.aN e
  have hz:xs.length<=sizeLine:=by rw [<-Paired.length rel];exact z
  have hl:(putK kvs k v).length<=sizeLine:=by have:=mO kvs k v;omega
  refine wpAny_setItem_heap (hsz:=hz) (tupleKind_room_in1 hu) (n5 I.aN eb) dd fun h' dd' hs=>h _ ?_
  obtain⟨q,es,ep,hq,h2,h3,h4,_,h5⟩:=dd'
  refine o2 I (by rw [e];exact True.intro) hs ⟨q,hq⟩ ⟨hl,hd,_,(rel.put k eb rv).keeps fun c ys ec=>?_,q,es,ep,hq,h2,h3,h4,h5⟩
  rw [au (bg ec e (fun z=>nomatch z))]
  exact ec
end
section
variable {X:Cx} {pins:List (Addr × Obj)} {σ : St} {H:Hp} {s:Shared} {a:Addr} {kvs:List (Key × V)} {k:Key} {u:Value} {A:Around} {E:Value->Shared->Prop}
theorem BB {v:V} {more:List Value} {Q:Value->Shared->Prop} (I:Inv X pins σ H s) (e:H a=some (.dK kvs)) (ry:RelV (kV k) u) (l:bO kvs k=some v) (hm:more = []\/∃ x,more = [x])
  (h:∀ w' s',Inv X pins σ (upd H a (.dK (fe kvs k))) s'->RelV v w'->Q w' s'):wpAny (model X.prog X.w) A (call (.builtin "dict.pop") (.ref a :: u :: more)) Q E s:=by
 obtain⟨z,hd,vs,rel,dd⟩:=ml I.aN e
 obtain⟨w',hw,rw'⟩:=eQ.some_of (v:=v) (o:=valueAt vs k) (by rw [<-l];exact rel.val k)
 have hp:(keyPart u).isSome=true:=by
  cases k with
  | inl i=>obtain⟨t,q⟩:=(show ∃ t,u=Value.int i t from ry);subst q;rfl
  | inr x=>obtain⟨t,q⟩:=(show ∃ t,u=Value.str x t from ry);subst q;rfl
 have ha:argsOk "dict.pop" ⟨.ref a :: u :: more,[]⟩:=by
  rcases hm with q | ⟨x,q⟩
  ·subst q;exact PySem.F.args_dict_pop_2 _ _
  ·subst q;exact PySem.F.args_dict_pop_3 _ _ _
 refine call_meetsIn PySem.F.slot_dict_pop dd.typeIs PySem.F.entry_dict_pop ha (meets_dict_pop_there (aL X.prog X.w) a (j4 ry) more hm hp)
  ⟨vs,w',dd,by rw [<-rel.length];exact z,hw,fun h' dd' hs=>h w' _ ?_ rw'⟩
 have he:∃ q,h'.get? a=some q:=let ⟨q,_,_,hq,_⟩:=dd';⟨q,hq⟩
 exact o2 I (by rw [e];exact True.intro) hs he (lg (Nat.le_trans (xN kvs k) z) hd (rel.drop k) dd')
theorem AO {r:Value} {Q:Value->Shared->Prop} (I:Inv X pins σ H s) (e:H a=some (.dK kvs)) (ry:RelV (kV k) u) (l:bO kvs k=none) (h:∀ s',Inv X pins σ H s'->Q r s') :
  wpAny (model X.prog X.w) A (call (.builtin "dict.pop") [.ref a,u,r]) Q E s:=by
 obtain⟨z,hd,vs,rel,dd⟩:=ml I.aN e
 have hn:valueAt vs k=none:=eQ.none_of (by rw [<-l];exact rel.val k)
 have hp:(keyPart u).isSome=true:=by
  cases k with
  | inl i=>obtain⟨t,q⟩:=(show ∃ t,u=Value.int i t from ry);subst q;rfl
  | inr x=>obtain⟨t,q⟩:=(show ∃ t,u=Value.str x t from ry);subst q;rfl
 exact call_meetsIn PySem.F.slot_dict_pop dd.typeIs PySem.F.entry_dict_pop (PySem.F.args_dict_pop_3 _ _ _) (meets_dict_pop_default (aL X.prog X.w) a (j4 ry) hd hp r) ⟨vs,dd,hn,h _ (I.tok _)⟩
end
def uT (i:Expr):Prop:=∀ ov iv,subscripted i false ov iv=operate [ov,iv] (getItem ov iv)
theorem o3 {prog:Program} {w:World} {A:Around} {E:Value->Shared->Prop} {s:Shared} {env:Env} {value slice:Expr} {pos:Pos} {T id:String} {Q:Value->Shared->Prop}
  (hl:typeLookup (.type T) "__getitem__" = pure (some (.builtin id))) (hs:uT slice)
  (h:wpAny (model prog w) A (eval value env) (fun o s₁=>wpAny (model prog w) A (eval slice env) (fun i s₂=>s₂.TypeIs o T/\wpAny (model prog w) A (getItem o i) Q E s₂) E s₁) E s) :
  wpAny (model prog w) A (eval (.Subscript value slice pos) env) Q E s:=by
 refine Subscript_ (wpAny_mono h (fun o s₁ h₁=>wpAny_mono h₁ (fun i s₂ h₂=>?_) fun _ _ x=>x) fun _ _ x=>x)
 obtain⟨hT,h₂⟩:=h₂
 unfold subscriptTail
 refine wpAny_bind ?_
 rw [getitemInPython_of_ne hT.not_modules]
 refine wpAny_bind (wpAny_specialOf hT hl ?_)
 have fin:wpAny (model prog w) A (subscripted slice false o i) (fun r s₃=>wpAny (model prog w) A (letTemporaryGo value o r >>= fun _=>pure r) Q E s₃) E s₂:=by
  rw [hs o i]
  exact wpAny_operating (wpAny_mono h₂ (fun r s₃ h₃=>wpAny_bind (wpAny_letTemporaryGo (wpAny_pure h₃))) fun _ _ x=>x)
 first
  | exact wpAny_pure (wpAny_bind fin)
  | exact wpAny_bind (wpAny_pure (wpAny_bind fin))
  | exact wpAny_bind fin
theorem sZ {X:Cx} {pins:List (Addr × Obj)} {σ : St} {H:Hp} {s:Shared} {a:Addr} {y:V} {o:Option V} (I:Inv X pins σ H s) (g:dU H a y o):s.TypeIs (.ref a) "dict" := by
 rcases g with ⟨kvs,k,e,_,_⟩ | ⟨kvs,k,b,e,_,_,_⟩
 ·obtain⟨_,_,vs,_,dd⟩:=mj I.aN e
  exact dd.typeIs
 ·obtain⟨_,_,xs,_,dd⟩:=oa I.aN e
  exact dd.typeIs
def BC (td ty:TE):TE:=fun σ H Q=>td σ H fun x H1=>ty σ H1 fun y H2=>∃ a v,x=.ref a/\dU H2 a y (some v)/\Q v H2
def BD (td ty tv:TE):TS:=fun D σ H=>tv σ H fun v H1=>td σ H1 fun x H2=>ty σ H2 fun y H3=>∃ a H4,x=.ref a/\gR H3 a y v H4/\D.nx σ H4
section
variable {X:Cx} {o i e value:Expr} {pos pos' tpos:Pos} {td ty tv:TE}
theorem mn (hu:X.A.units+1 < cLine) (ho:PE X o td) (hi:PE X i ty) (hs:uT i):PE X (.Subscript o i pos) (BC td ty):=by
 intro pins s σ H Q I h
 refine o3 PySem.F.slot_dict_getitem.lookup hs (br (ho pins s σ H _ I h) fun u s1 ⟨x,H1,I1,rx,q1⟩=>br (hi pins s1 σ H1 _ I1 q1) fun iv s2 ⟨y,H2,I2,ry,a,v,ex,g,q2⟩=>?_)
 subst ex
 obtain rfl:u=Value.ref a:=rx
 exact⟨sZ I2 g,v8 hu I2 g ry fun w' s3 I3 rw'=>⟨v,H2,I3,rw',q2⟩⟩
theorem fw (hu:X.A.units+1 < cLine) (ho:PE X o td) (hi:PE X i ty) (hv:PE X value tv) (hs:swapsWith value (some (.Subscript o i pos')) pos.line X.env=pure false) :
  PS X (.Assign [.Subscript o i pos'] value pos) (BD td ty tv):=by
 intro pins s σ H D I h
 refine wpAny_Assign_Subscript (br (hv pins s σ H _ I h) fun r s1 ⟨v,H1,I1,rv,q1⟩=>br (ho pins s1 σ H1 _ I1 q1) fun u s2 ⟨x,H2,I2,rx,q2⟩=>br (hi pins s2 σ H2 _ I2 q2) fun iv s3 ⟨y,H3,I3,ry,a,H4,ex,g,q3⟩=>?_) hs
 subst ex
 obtain rfl:u=Value.ref a:=rx
 exact v9 hu I3 g ry rv fun s4 I4=>⟨σ,H4,I4,q3⟩
end
theorem rK {P:Program} {w:World} {H:Hp} (h:Heap) (hb:sysModules < h.objs.size):bM P w H (h.push { cls:=.type "dict",data:=.dict #[] }) h.objs.size (.dK []) :=
 ⟨Nat.zero_le _,beq_eq_false_iff_ne.mpr (Ne.symm (Nat.ne_of_lt hb)),[],.nil,Heap.DictOf.new h⟩
def AQ:TE:=fun _ H Q=>∀ p,H p=none->Q (.ref p) (upd H p (.dK []))
section
variable {X:Cx} {pos:Pos}
theorem ie:PE X (.Dict [] [] pos) AQ:=fun pins s σ H Q I h =>
 wpAny_Dict_empty ⟨.ref s.heap.objs.size,_,I.laid (a:=s.heap.objs.size) (o:=.dK []) (t':=s.toks) (fun _ _ q=>Heap.get?_push_of_some _ q) (Nat.le_refl _) (rK s.heap I.big),rfl,h _ (I.aN.fresh (Nat.le_refl _))⟩
end
def rL:List (TE × TE)->St->Hp->(List (V × V)->Hp->Prop)->Prop
 | [],_,H,Q=>Q [] H
 | (tk,tv) :: r,σ,H,Q=>tk σ H fun x H1=>tv σ H1 fun y H2=>rL r σ H2 fun ps H3=>Q ((x,y) :: ps) H3
abbrev VV:List (V × V)->List (Value × Value)->Prop:=Paired fun p q=>RelV p.1 q.1/\RelV p.2 q.2
def yW (X:Cx) (pos:Pos) (keys:List (Option Expr)) (values:List Expr) (trs:List (TE × TE)):Prop :=
 ∀ (pins:List (Addr × Obj)) (s:Shared) (σ : St) (H:Hp) (Q:List (V × V)->Hp->Prop),Inv X pins σ H s->rL trs σ H Q ->
  wpAny (model X.prog X.w) X.A (evalPairs (pairTrees keys values X.env pos)) (fun vs s'=>∃ ps H',Inv X pins σ H' s'/\VV ps vs/\Q ps H') X.xe s
theorem zv {X:Cx} {pos:Pos}:yW X pos [] [] []:=fun pins s σ H Q I h=>pairTrees_nil_walk ⟨[],H,I,.nil,h⟩
theorem xO {X:Cx} {pos:Pos} {k v:Expr} {ks:List (Option Expr)} {vs:List Expr} {tk tv:TE} {trs:List (TE × TE)} (hk:PE X k tk) (hv:PE X v tv) (hr:yW X pos ks vs trs) :
  yW X pos (some k :: ks) (v :: vs) ((tk,tv) :: trs):=fun pins s σ H Q I h =>
 pairTrees_cons_walk (br (hk pins s σ H _ I h) fun u s1 ⟨x,H1,I1,rx,q1⟩=>br (hv pins s1 σ H1 _ I1 q1) fun w2 s2 ⟨y,H2,I2,ry,q2⟩ =>
  br (hr pins s2 σ H2 _ I2 q2) fun ws s3 ⟨ps,H3,I3,rel,q3⟩=>⟨(x,y) :: ps,H3,I3,.cons ⟨rx,ry⟩ rel,q3⟩)
structure M2 (X:Cx) (o:Expr) (m:Str) (apos:Pos) (e f:Expr) (cpos:Pos):Prop where
 base:attributeBase o m X.env (eval o X.env)=eval o X.env
 cD:((backTo cpos (starEach [e,f] X.env)).all (fun x=>!x.1) && (backToKw cpos (keywordEach [] X.env)).all (fun x=>x.1.isSome)
  && decide (([e,f]:List Expr).length+([]:List Keyword).length+(if ([]:List Keyword).isEmpty then 0 else 1) < 30))=true
 line:(apos.endLine == cpos.line)=true
 trees:backTo cpos (starEach [e,f] X.env) = [(false,eval e X.env),(false,eval f X.env)]
def AR (H:Hp) (a:Addr):Prop:=(∃ kvs,Rd H a (.dK kvs))\/∃ kvs,Rd H a (.dT kvs)
theorem wa {X:Cx} {pins:List (Addr × Obj)} {σ : St} {H:Hp} {s:Shared} {a:Addr} (I:Inv X pins σ H s) (d:AR H a) :
  s.TypeIs (.ref a) "dict" /\ (∀ b,Value.ref a=.ref b->∃ ob,s.heap.get? b=some ob/\ob.dict=none)/\(a == sysModules)=false:=by
 rcases d with ⟨kvs,e⟩ | ⟨kvs,e⟩
 ·obtain⟨_,hd,vs,_,dd⟩:=mj I.aN e
  refine⟨dd.typeIs,fun b q=>?_,hd⟩
  cases q
  obtain⟨ob,_,_,h1,h2,_⟩:=dd
  exact⟨ob,h1,h2.2.1⟩
 ·obtain⟨_,hd,xs,_,dd⟩:=oa I.aN e
  refine⟨dd.typeIs,fun b q=>?_,hd⟩
  cases q
  obtain⟨ob,_,_,h1,h2,_⟩:=dd
  exact⟨ob,h1,h2.2.1⟩
section
variable {X:Cx} {pins:List (Addr × Obj)} {σ : St} {H:Hp} {s:Shared} {a:Addr} {y d:V} {u r:Value} {o:Option V} {A:Around} {E:Value->Shared->Prop}
theorem AS {Q:Value->Shared->Prop} (hu:A.units+1 < cLine) (I:Inv X pins σ H s) (g:dU H a y o) (ry:RelV y u) (rd:RelV d r) (h:∀ w' s',Inv X pins σ H s'->RelV (o.getD d) w'->Q w' s') :
  wpAny (model X.prog X.w) A (call (.builtin "dict.get") [.ref a,u,r]) Q E s:=by
 rcases g with ⟨kvs,k,e,ey,l⟩ | ⟨kvs,k,b,e,ey,eb,l⟩
 ·subst ey
  obtain⟨z,hd,vs,rel,dd⟩:=mj I.aN e
  refine call_meetsIn PySem.F.slot_dict_get dd.typeIs PySem.F.entry_dict_get (PySem.F.args_dict_get_3 _ _ _) (meets_dict_get_default (aL X.prog X.w) a (j4 ry) hd r) ⟨_,dd.mapOf,h _ _ (I.tok _) ?_⟩
  rw [l]
  exact (rel.val k).getD rd
 ·subst ey
  cases (show u=Value.ref b from ry)
  obtain⟨z,hd,xs,rel,dd⟩:=oa I.aN e
  refine call_meetsIn PySem.F.slot_dict_get dd.typeIs PySem.F.entry_dict_get (PySem.F.args_dict_get_3 _ _ _) (meetsH_dict_get_default (tupleKind (aL X.prog X.w)) a b hd r) ⟨tupleKind_room_in1 hu,k,xs,n5 I.aN eb,dd,h _ _ (I.tok _) ?_⟩
  rw [l]
  exact (rel.val k).getD rd
end
def AU (td ty tx:TE):TE:=fun σ H Q=>td σ H fun x H1=>∃ a,x=.ref a/\AR H1 a/\ty σ H1 fun y H2=>tx σ H2 fun z H3=>∃ kvs k,H3 a=some (.dK kvs)/\y=kV k /\
 (∀ v,bO kvs k=some v->Q v (upd H3 a (.dK (fe kvs k))))/\(bO kvs k=none->Q z H3)
section
variable {X:Cx} {o e f:Expr} {apos cpos:Pos} {td ty tx:TE}
theorem xP (ho:PE X o td) (he:PE X e ty) (hf:PE X f tx) (m:M2 X o "pop" apos e f cpos):PE X (.Call (.Attribute o "pop" apos) [e,f] [] cpos) (AU td ty tx):=by
 intro pins s σ H Q I h
 refine wpAny_Call_method m.base m.cD m.line PySem.F.plainAttrs_dict PySem.F.slot_dict_pop PySem.F.type_dict_pop (br (ho pins s σ H _ I h) fun u s1 ⟨x,H1,I1,rx,a,ex,d,q1⟩=>?_)
 subst ex
 obtain rfl:u=Value.ref a:=rx
 obtain⟨t1,t2,_⟩:=wa I1 d
 refine⟨t1,t2,?_⟩
 rw [m.trees]
 refine Calls.callWith_builtin rfl (Calls.evalArgs_plain (Calls.spliced_cons (br (he pins s1 σ H1 _ I1 q1) fun iv s2 ⟨y,H2,I2,ry,q2⟩ =>
  Calls.spliced_cons (br (hf pins s2 σ H2 _ I2 q2) fun fv s3 ⟨z,H3,I3,rz,kvs,k,ea,ey,q3,q4⟩=>Calls.spliced_nil ?_))))
 subst ey
 cases l:bO kvs k with
 | some v=>exact BB I3 ea ry l (.inr ⟨fv,rfl⟩) fun w' s4 I4 rw'=>⟨v,_,I4,rw',q3 v l⟩
 | none=>exact AO I3 ea ry l fun s4 I4=>⟨z,H3,I4,rz,q4 l⟩
end
section
variable {X:Cx} {pins:List (Addr × Obj)} {σ : St} {H:Hp} {s:Shared} {a:Addr} {kvs:List (Key × V)} {A:Around} {E:Value->Shared->Prop}
end
section
variable {X:Cx} {pins:List (Addr × Obj)} {σ : St} {H:Hp} {s:Shared} {a:Addr} {y:V} {u:Value} {A:Around} {E:Value->Shared->Prop}
end
section
variable {X:Cx}
end
section
variable {κ : Type} [DecidableEq κ]
theorem zw {kvs:List (κ × V)} {k:κ} {v:V} (h:bO kvs k=some v):k ∈ kvs.map (·.1):=by
 have q:(kvs.any fun kv=>decide (kv.1=k))=true:=by
  rw [ic,h]
  all_goals rfl
 obtain⟨p,hp,e⟩:=List.any_eq_true.mp q
 exact List.mem_map.mpr ⟨p,hp,of_decide_eq_true e⟩
theorem p9 {p:κ × V} {r:List (κ × V)} {k:κ} (e:p.1=k):fe (p :: r) k=fe r k:=by
 unfold fe
 rw [List.filter_cons,if_neg (by simp [e])]
theorem qc {p:κ × V} {r:List (κ × V)} {k:κ} (e:¬ p.1=k):fe (p :: r) k=p :: fe r k:=by
 unfold fe
 rw [List.filter_cons,if_pos (by simp [e])]
end
theorem aV.bX {H:Hp} {v:V} {ds:List PyData} (h:aV H v (.tuple ds)):∃ p xs,v=.ref p/\H p=some (.tup xs)/\aZ H xs ds:=by
 cases h with
 | tup e r=>exact⟨_,_,rfl,e,r⟩
theorem aV.int_inv {H:Hp} {v:V} {i:Int} (h:aV H v (.int i)):v=.int i:=by cases h;rfl
theorem aV.str_inv {H:Hp} {v:V} {x:Str} (h:aV H v (.str x)):v=.str x:=by cases h;rfl
theorem aZ.cons_inv {H:Hp} {xs:List V} {d:PyData} {ds:List PyData} (h:aZ H xs (d :: ds)):∃ x r,xs=x :: r/\aV H x d/\aZ H r ds:=by
 cases h with
 | cons a b=>exact⟨_,_,rfl,a,b⟩
theorem aZ.nil_inv {H:Hp} {xs:List V} (h:aZ H xs []):xs = []:=by cases h;rfl
theorem aZ.get {H:Hp}:∀ {xs:List V} {ds:List PyData} {i:Nat} {d:PyData},aZ H xs ds->ds[i]? = some d->∃ x,xs[i]? = some x/\aV H x d
 | _,_,_,_,.nil,e=>by simp at e
 | _,_,0,_,.cons r _,e=>by
  simp at e
  subst e
  exact⟨_,rfl,r⟩
 | _,_,i+1,d,.cons _ t,e=>by
  obtain⟨x,h1,h2⟩:=aZ.get (i:=i) (d:=d) t (by simpa using e)
  exact⟨x,by simpa using h1,h2⟩
def mq:cL->List V
 | .put x n=>[.str "put",.str x,.int n]
 | .copy x y=>[.str "copy",.str x,.str y]
 | .add x n=>[.str "add",.str x,.int n]
 | .read x=>[.str "read",.str x]
 | .tell x=>[.str "tell",.str x]
def d7:End->List V
 | .stop=>[.str "stop"]
 | .go p=>[.str "go",.int p]
 | .cC b x n p q=>[.str (wT b),.str x,.int n,.int p,.int q]
theorem gy {H:Hp} {v:V} {d:cL} (h:aV H v (cQ d)):∃ p,v=.ref p/\H p=some (.tup (mq d)):=by
  cases d <;> (
    obtain⟨p,xs,rfl,e,r⟩:=aV.bX h
    obtain⟨x1,r1,rfl,h1,r⟩:=r.cons_inv
    obtain⟨x2,r2,rfl,h2,r⟩:=r.cons_inv
    first
      | (obtain⟨x3,r3,rfl,h3,r⟩:=r.cons_inv
         have z:=r.nil_inv
         subst z
         refine⟨p,rfl,?_⟩
         first
           | rw [e,h1.str_inv,h2.str_inv,h3.int_inv];rfl
           | rw [e,h1.str_inv,h2.str_inv,h3.str_inv];rfl)
      | (have z:=r.nil_inv
         subst z
         refine⟨p,rfl,?_⟩
         rw [e,h1.str_inv,h2.str_inv];rfl))
theorem AV {H:Hp} {v:V} {e:End} (h:aV H v (ji e)):∃ p,v=.ref p/\H p=some (.tup (d7 e)):=by
 cases e with
 | stop =>
  obtain⟨p,xs,rfl,e,r⟩:=aV.bX h
  obtain⟨x1,r1,rfl,h1,r⟩:=r.cons_inv
  have z:=r.nil_inv
  subst z
  exact⟨p,rfl,by rw [e,h1.str_inv];rfl⟩
 | go q =>
  obtain⟨p,xs,rfl,e,r⟩:=aV.bX h
  obtain⟨x1,r1,rfl,h1,r⟩:=r.cons_inv
  obtain⟨x2,r2,rfl,h2,r⟩:=r.cons_inv
  have z:=r.nil_inv
  subst z
  exact⟨p,rfl,by rw [e,h1.str_inv,h2.int_inv];rfl⟩
 | cC b x n q q' =>
  obtain⟨p,xs,rfl,e,r⟩:=aV.bX h
  obtain⟨x1,r1,rfl,h1,r⟩:=r.cons_inv
  obtain⟨x2,r2,rfl,h2,r⟩:=r.cons_inv
  obtain⟨x3,r3,rfl,h3,r⟩:=r.cons_inv
  obtain⟨x4,r4,rfl,h4,r⟩:=r.cons_inv
  obtain⟨x5,r5,rfl,h5,r⟩:=r.cons_inv
  have z:=r.nil_inv
  subst z
  exact⟨p,rfl,by rw [e,h1.str_inv,h2.str_inv,h3.int_inv,h4.int_inv,h5.int_inv];rfl⟩
theorem ff {H:Hp} {v:V} {ps:List Piece} {i:Nat} {ds:List cL} {e:End} (h:aV H v (eN ps)) (hi:ps[i]? = some (ds,e)) :
  ∃ p xs pc da ea vs,v=.ref p/\H p=some (.tup xs)/\xs.length=ps.length/\xs[i]? = some (.ref pc)/\H pc=some (.tup [.ref da,.ref ea])/\H da=some (.tup vs)/\aZ H vs (ds.map cQ)/\H ea=some (.tup (d7 e)):=by
 obtain⟨p,xs,rfl,e1,r⟩:=aV.bX h
 have hl:=r.len
 obtain⟨x,hx,rx⟩:=r.get (i:=i) (d:=cb (ds,e)) (by rw [List.getElem?_map,hi];rfl)
 obtain⟨pc,ys,rfl,e2,r2⟩:=aV.bX rx
 obtain⟨y1,t1,rfl,q1,r2⟩:=r2.cons_inv
 obtain⟨y2,t2,rfl,q2,r2⟩:=r2.cons_inv
 have z:=r2.nil_inv
 subst z
 obtain⟨da,vs,rfl,e3,r3⟩:=aV.bX q1
 obtain⟨ea,rfl,e4⟩:=AV q2
 exact⟨p,xs,pc,da,ea,vs,rfl,e1,by rw [hl,List.length_map],hx,e2,e3,r3,e4⟩
theorem uU {n:Nat} (h:n<=1000000):n < sizeLine:=Nat.lt_of_le_of_lt h (by decide)
theorem bo {c:Bool} {A B:Prop} (hc:c=false) (h:B):if c=true then A else B:=by subst hc;exact bI h
theorem cf {c:Bool} {A B:Prop} (hc:c=true) (h:A):if c=true then A else B:=by subst hc;exact bJ h
def zx (td ty tx:TE):TE:=fun σ H Q=>td σ H fun x H1=>∃ a,x=.ref a/\AR H1 a/\ty σ H1 fun y H2=>tx σ H2 fun z H3=>∃ o v,dU H3 a y o/\o.getD z=v/\Q v H3
theorem fK {X:Cx} {o e f:Expr} {apos cpos:Pos} {td ty tx:TE} (hu:X.A.units+1 < cLine) (ho:PE X o td) (he:PE X e ty) (hf:PE X f tx) (m:M2 X o "get" apos e f cpos):PE X (.Call (.Attribute o "get" apos) [e,f] [] cpos) (zx td ty tx):=by
 intro pins s σ H Q I h
 refine wpAny_Call_method m.base m.cD m.line PySem.F.plainAttrs_dict PySem.F.slot_dict_get PySem.F.type_dict_get (br (ho pins s σ H _ I h) fun u s1 ⟨x,H1,I1,rx,a,ex,d,q1⟩=>?_)
 subst ex
 obtain rfl:u=Value.ref a:=rx
 obtain⟨t1,t2,_⟩:=wa I1 d
 refine⟨t1,t2,?_⟩
 rw [m.trees]
 refine Calls.callWith_builtin rfl (Calls.evalArgs_plain (Calls.spliced_cons (br (he pins s1 σ H1 _ I1 q1) fun iv s2 ⟨y,H2,I2,ry,q2⟩ =>
  Calls.spliced_cons (br (hf pins s2 σ H2 _ I2 q2) fun fv s3 ⟨z,H3,I3,rz,ov,v,g,ev,q3⟩=>Calls.spliced_nil ?_))))
 exact AS hu I3 g ry rz fun w' s4 I4 rw'=>⟨v,H3,I4,by rw [<-ev];exact rw',q3⟩
structure RS where
 BE:Nat
 place:Nat
 w:Str->Int
 taken:Nat
 told:List Int
 word:Str
 xQ:List Nat
def DW (kvs:List (Key × V)) (w:Str->Int):Prop:=∀ x:Str,(bO kvs (Sum.inr x:Key)).getD (.int 0)=.int (w x)
def jP (ps:List Piece):Prop:=∀ p ∈ ps,match p.2 with
 | .stop=>True
 | .go q=>q < ps.length
 | .cC _ _ _ q r=>q < ps.length/\r < ps.length
theorem cq.wb {xs:List Str} {m:Nat} {ps:List Piece} (h:cq xs m ps):jP ps:=fun p hp=>by
 have:=h.ends p hp
 cases e:p.2 with
 | stop=>exact True.intro
 | go q=>rw [e] at this;exact this
 | cC b x n q r=>rw [e] at this;exact⟨this.2.2.1,this.2.2.2⟩
def vO:Option Int->V
 | none=>.bf
 | some i=>.int i
def mP:Option Int->Option Int->Prop
 | some a,some b=>a<=b
 | _,_=>True
def eO (n:Int) (lo hi:Option Int):Bool:=(match lo with | none=>true | some a=>decide (a<=n)) && (match hi with | none=>true | some a=>decide (n<=a))
abbrev Rs:=Option (Option Int × Option Int)
def iJ (hi:Option Int) (n:Int):Int:=match hi with | none=>n - 1 | some h=>if n - 1 < h then n - 1 else h
def iK (lo:Option Int) (n:Int):Int:=match lo with | none=>n | some l=>if n > l then n else l
def fL (lo hi:Option Int) (n:Int):Rs :=
 match lo with | none=>some (none,some (iJ hi n)) | some l=>if iJ hi n < l then none else some (some l,some (iJ hi n))
def gS (lo hi:Option Int) (n:Int):Rs :=
 match hi with | none=>some (some (iK lo n),none) | some h=>if h < iK lo n then none else some (some (iK lo n),some h)
def jQ (lo hi:Option Int) (n:Int):Rs:=if eO n lo hi=true then some (some n,some n) else none
def iL (lo hi:Option Int) (n:Int):Rs:=if lo=some n then (if hi=some n then none else some (some (n+1),hi)) else if hi=some n then some (lo,some (n - 1)) else some (lo,hi)
def j5 (lo hi:Option Int) (n:Int) (side:Bool):Rs:=if side=true then fL lo hi n else gS lo hi n
def rM (lo hi:Option Int) (n:Int) (side:Bool):Rs:=if side=true then jQ lo hi n else iL lo hi n
def di (w:Str) (lo hi:Option Int) (n:Int) (side:Bool):Rs:=if w = "less" then j5 lo hi n side else rM lo hi n side
theorem xR {w:Str} {lo hi:Option Int} {n:Int} (le:mP lo hi) (h1:di w lo hi n true=none) (h2:di w lo hi n false=none):False:=by
 unfold di at h1 h2
 by_cases hw:w = "less"
 ·rw [if_pos hw] at h1 h2
  simp only [j5,if_true,Bool.false_eq_true,if_false] at h1 h2
  unfold fL iJ at h1
  unfold gS iK at h2
  cases lo <;> cases hi <;> simp only [reduceCtorEq] at h1 h2
  rename_i l h
  simp only [mP] at le
  by_cases c1:n - 1 < h
  ·simp only [c1,if_true] at h1
   by_cases c2:n - 1 < l
   ·by_cases c3:n > l
    ·simp only [c3,if_true] at h2
     split at h2
     ·omega
     ·cases h2
    ·simp only [c3,if_false] at h2
     split at h2
     ·omega
     ·cases h2
   ·rw [if_neg c2] at h1;cases h1
  ·simp only [c1,if_false] at h1
   split at h1
   ·omega
   ·cases h1
 ·rw [if_neg hw] at h1 h2
  simp only [rM,if_true,Bool.false_eq_true,if_false] at h1 h2
  unfold iL at h2
  by_cases c1:lo=some n
  ·rw [if_pos c1] at h2
   by_cases c2:hi=some n
   ·subst c1;subst c2
    simp [jQ,eO] at h1
   ·rw [if_neg c2] at h2;cases h2
  ·rw [if_neg c1] at h2
   split at h2 <;> cases h2
def RV (H:Hp) (v:V) (r:Rs):Prop:=match r with
 | none=>v=.bf
 | some (a,b)=>∃ p,v=.ref p/\H p=some (.tup [vO a,vO b])
theorem RV.same {H H':Hp} {v:V} {r:Rs} (h:RV H v r) (s:ah H H'):RV H' v r:=by
 cases r with
 | none=>exact h
 | some ab =>
  obtain⟨p,e,h⟩:=h
  exact⟨p,e,s _ _ h⟩
theorem RV.put {H:Hp} {v:V} {r:Rs} {l:Addr} {xs:List V} {o:HO} (h:RV H v r) (hl:H l=some (.lst xs)):RV (upd H l o) v r:=by
 cases r with
 | none=>exact h
 | some ab =>
  obtain⟨p,e,h⟩:=h
  exact⟨p,e,by rw [au (bg h hl (by intro z;cases z))];exact h⟩
def dO:Option Int->PyData
 | none=>.none
 | some i=>.int i
theorem AW {H:Hp} (o:Option Int):aV H (vO o) (dO o):=by
 cases o with
 | none=>exact .bf
 | some i=>exact .int i
theorem ah.put {H H':Hp} {l:Addr} {o:HO} (s:ah H H') (n:H l=none):ah H (upd H' l o):=fun c u e=>by rw [au (aw e n)];exact s c u e
theorem wc:decide (V.str "less" = V.str "less")=true:=by decide +kernel
theorem jv {lo:Option Int} {n:Int}:decide (vO lo=V.int n)=decide (lo=some n):=by
 cases lo with
 | none=>rfl
 | some i =>
  by_cases h:i=n
  ·subst h;simp [vO]
  ·have h1:¬ (V.int i=V.int n):=fun z=>h (V.int.inj z)
   have h2:¬ ((some i:Option Int)=some n):=fun z=>h (Option.some.inj z)
   rw [show vO (some i)=V.int i from rfl,decide_eq_false h1,decide_eq_false h2]
theorem iE {lo:Option Int} {n:Int}:Ao (vO lo) (V.int n)=true:=by cases lo <;> rfl
structure xS (P:Program) (w:World) (K:PySem.W.Frag) (mg:Str->Option Value) (base:Heap) (C:Addr) (m:Str) (k:Nat) (ps:List Str) (sp:Sp):Prop where
 cl:mM K C
 ex:∃ f fd,bG P w K mg base bT k f fd ps sp/\Meth K C m f/\Binds K fd ps []
structure xT (P:Program) (w:World) (K:PySem.W.Frag) (mg:Str->Option Value) (base:Heap) (C:Addr) (x:Str) (k:Nat) (ps:List Str) (sp:Sp):Prop where
 ex:∃ f fd,bG P w K mg base bT k f fd ps sp/\Mk K C f/\mg x=some (.ref C)/\Binds K fd ps []
section
variable {X:Cx} {C:Addr} {m x:Str} {k:Nat} {ps:List Str} {sp:Sp} {oe e:Expr} {es:List Expr} {ta:TE} {t:TA} {p pos apos:Pos}
theorem zy {pl:Sem Bool} (o:xS X.prog X.w X.K X.mg X.base C m k ps sp) (he:PE X oe ta) (hr:cU k X.A) (ha:PA X (e :: es) t)
  (hst:starEach (e :: es) X.env=(false,eval e X.env) :: starEach es X.env:=by rfl) (hpl:(backTo pos (starEach es X.env)).any (·.1)=false:=by rfl)
  (ht:eval (.Call (.Attribute oe m apos) (e :: es) [] pos) X.env=(do
   let ov <-eval oe X.env
   standAt apos.atName
   let (f,first) <-holding [ov] (getMethod ov m pl)
   callWith pos f first (backTo pos (starEach (e :: es) X.env)) (backToKw pos (keywordEach [] X.env))):=by rfl) :
  PE X (.Call (.Attribute oe m apos) (e :: es) [] pos) (yQ C m sp [] E0 ta t):=by
 obtain⟨f,fd,F,hm,hb⟩:=o.ex
 exact zk he o.cl hm F hr hb .nil uQ ha hst hpl ht
theorem zA (o:xT X.prog X.w X.K X.mg X.base C x k ps sp) (hr:cU (k+1) X.A) (hg:Gl X x) (ha:PA X (e :: es) t)
  (hdb:(x == ("__debug__" : Str))=false:=by decide) (he:starEach (e :: es) X.env=(false,eval e X.env) :: starEach es X.env:=by rfl)
  (hpl:(backTo pos (starEach es X.env)).any (·.1)=false:=by rfl):PE X (.Call (.Name x p) (e :: es) [] pos) (yR C sp [] E0 t):=by
 obtain⟨f,fd,F,M,hm,hb⟩:=o.ex
 exact zl M F hr hg hm hb .nil uQ ha hdb he hpl
end
theorem o4:bootBuiltins "dict" = some (.type "dict"):=by decide +kernel
theorem AX {k:Str} {v:V} {l:List (Str × V)}:((k,v) :: l).lookup k=some v:=by simp [List.lookup]
theorem xU {k k':Str} {v:V} {l:List (Str × V)} {o:Option V} (h:¬ k=k') (e:l.lookup k=o):((k',v) :: l).lookup k=o:=by
 rw [List.lookup_cons,beq_false_of_ne h];exact e
theorem Cz {k k':Str} {v u:V} {l l':List (Str × V)} (h:¬ k' = k) (e:dZ k v l=l'):dZ k v ((k',u) :: l)=(k',u) :: l':=by simp only [dZ,if_neg h,e]
theorem AY {k:Str} {v:V}:dZ k v [] = [(k,v)]:=rfl
def CQ (a0 a1 a2 a3 a4 a5 a6 a7:V):List (Str × V):=[("pieces",a0),("passed",a1),("place",a2),("worths",a3),("numbers",a4),("taken",a5),("spoken",a6),("over",a7)]
section
variable {a0 a1 a2 a3 a4 a5 a6 a7 z:V}
end
structure cR (C:Addr) (H:Hp) (p pl d nl sl:Addr) (plv:V) (nums:List Int) (S:RS) (m:Nat):Prop where
 ob:∃ dx,H p=some (.ins C dx (CQ plv (.ref pl) (.int S.place) (.ref d) (.ref nl) (.int S.taken) (.ref sl) (.bl (decide (S.word = "stop")))))
 CS:H pl=some (.lst (S.xQ.map fun k=>V.int (k:Nat)))
 last:∃ xs,S.xQ=xs ++ [S.BE]
 dict:∃ kvs,H d=some (.dK kvs)/\DW kvs S.w/\kvs.length<=m
 nums:H nl=some (.lst (nums.map V.int))
 CT:H sl=some (.lst (S.told.map V.int))
 ne:pl ≠ nl/\pl ≠ sl/\nl ≠ sl
 cD:S.told.length<=m/\S.xQ.length<=m+1
section
variable {C:Addr} {H H':Hp} {p pl d nl sl:Addr} {plv:V} {nums:List Int} {S:RS} {m:Nat}
end
end L2
namespace HT
open PySem PyProof.Rows PySem.Spec
section
variable {prog:Program} {w:World} {A:Around} {E:Value->Shared->Prop} {s:Shared}
theorem mG {t sl:Addr} {items:Array Value} {vl vu:Value} {lo hi:Option Int} {Q:Value->Shared->Prop} (ht:IsTup s.heap t items) (hs:s.heap.IsSliceOf sl vl vu .none) (pl:IsPart vl lo) (pu:IsPart vu hi)
  (hw:bQ items.size 0 lo=0/\bQ items.size items.size hi=items.size) (h:Q (.ref t) s):wpAny (model prog w) A (getItem (.ref t) (.ref sl)) Q E s:=by
 obtain⟨os,hos,hcs,hds⟩:=id hs
 have hTs:s.TypeIs (.ref sl) "slice" := ⟨os,hos,hcs⟩
 unfold getItem
 try with_reducible refine wpAny_holding ?_
 first | refine wpAny_bind (wpAny_pure ?_) | skip
 refine wpAny_bind (wpAny_sequenceKey ht.typeIs (by decide) ?_)
 refine wpAny_bind (wpAny_callSpecial?_slot (name:=Str.ofString "__getitem__") ht.typeIs PyProof.Rows.slot_tuple_getitem
  (wpAny_call_entry PyProof.Rows.slot_tuple_getitem ht.typeIs entry_tuple_getitem ?_ (args_tuple_getitem _ _)))
 show wpAny _ _ (Builtin.Tuple.tupleItemsOf (.ref t) >>= _) _ _ s
 refine wpAny_bind (tupleItemsOf_ ht ?_)
 refine wpAny_bind (wpAny_typeOf hTs ?_)
 rw [if_pos (by decide)]
 refine wpAny_bind (je hs pl pu ?_)
 have hno:((((bQ items.size 0 lo:Nat):Int) == 0 && (1:Int) == 1 && (bQ items.size items.size hi - bQ items.size 0 lo) == items.size)=true):=by
  rw [hw.1,hw.2]
  simp
 show wpAny _ _ (if (((bQ items.size 0 lo:Nat):Int) == 0 && (1:Int) == 1 && (bQ items.size items.size hi - bQ items.size 0 lo) == items.size)=true then _ else _) _ _ s
 rw [if_pos hno]
 refine wpAny_bind ?_
 unfold Builtin.Tuple.tupleIsExact
 refine wpAny_bind (wpAny_typeOf ht.typeIs (wpAny_pure ?_))
 rw [if_pos (by decide)]
 refine wpAny_bind (wpAny_rule ?_)
 first
  | exact wpAny_pure ⟨_,rfl,wpAny_pure h⟩
  | exact wpAny_bind (wpAny_pure (wpAny_pure ⟨_,rfl,wpAny_pure h⟩))
  | exact wpAny_pure (wpAny_pure ⟨_,rfl,wpAny_pure h⟩)
end
end HT
namespace L2
open PySem PySem.Spec PyProof.Rows
section
variable {X:Cx}
def yX (K:PySem.W.Frag):V->Option Int->Option Int->Hp->VK->Prop:=fun x lo hi H Q=>∃ a xs,x=.ref a/\ay K H a xs /\
 ((HT.bQ xs.length 0 lo=0/\HT.bQ xs.length xs.length hi=xs.length)->Q (.ref a) H)/\(¬ (HT.bQ xs.length 0 lo=0/\HT.bQ xs.length xs.length hi=xs.length)->∀ p,H p=none->Q (.ref p) (upd H p (.tup (ia xs lo hi))))
theorem mr:Az X (yX X.K):=by
 intro pins s σ H x v vl vu lo hi sl Q I rx hs pl pu h
 obtain⟨a,xs,rfl,hx,q1,q2⟩:=h
 by_cases hw:HT.bQ xs.length 0 lo=0/\HT.bQ xs.length xs.length hi=xs.length
 ·cases rx
  obtain⟨its,r,ht,hz⟩:=I.tuple hx
  have hlen:its.toArray.size=xs.length:=by rw [List.size_toArray];exact r.length.symm
  refine⟨"tuple",_,PyProof.Rows.slot_tuple_getitem.lookup,ht.typeIs,?_⟩
  exact HT.mG ht hs pl pu (by rw [hlen];exact hw) ⟨.ref a,H,I,rfl,q1 hw⟩
 ·exact AA pins s σ H (.ref a) v vl vu lo hi sl Q I rx hs pl pu ⟨a,xs,rfl,hx,hw,q2 hw⟩
end
theorem jD {P:Program} {w:World} {x:Str} {v:Value} (h:(aL P w).is (Sum.inr x) v=true):∃ t,v=.str x t:=by
 cases v with
 | str y t =>
  have:y=x:=by simpa [aL,iq,Value.isStrOf] using h
  exact⟨t,by rw [this]⟩
 | _=>simp [aL,iq,Value.isStrOf] at h
theorem og:∀ {vs:List Value} {ks:List Str},vs.length=ks.length->(∀ (j:Nat) (v:Value) (x:Str),vs[j]? = some v->ks[j]? = some x->∃ t,v=.str x t)->StrsAre vs ks
 | [],[],_,_=>.nil
 | v :: vs,x :: ks,hl,h=>by
  obtain⟨t,rfl⟩:=h 0 v x rfl rfl
  exact .cons x t (og (by simpa using hl) fun j v' x' h1 h2=>h (j+1) v' x' (by simpa using h1) (by simpa using h2))
 | [],_ :: _,hl,_=>by simp at hl
 | _ :: _,[],hl,_=>by simp at hl
section
variable {prog:Program} {w:World} {A:Around} {E:Value->Shared->Prop} {s:Shared}
open PySem.Calls PySem.W in
theorem gather {T:String} {r d:Addr} {n:Nat} {P:Nat->Value->Prop} {OK:Heap->Prop} {G:List Value->Shared->Prop} (src:KdlSrc prog w T r d n P OK) (calm:A.handled=none) (ok:OK s.heap) (cD:n<=sizeLine)
  (fin:∀ (g:Heap) (tk:Nat) (got:Array Value),(∀ b o,s.heap.get? b=some o->g.get? b=some o)->ItemsOf P got n->s.heap.objs.size<=g.objs.size->G got.toList { s with heap:=g,toks:=tk }) :
  wpAny (model prog w) A (collect (.ref r)) G E s:=by
 obtain⟨lt1,lt2⟩:=src.there _ ok
 unfold collect
 refine wpAny_bind (wpAny_runValue (codeAny_builtin entry_proto_collect' ?_))
 rw [Around.under_plainId PySem.F.plain_proto_collect _]
 show wpAny _ A.in1 (newList [] >>= fun z=>again (.builtin "list.__iadd__" ⟨[z,.ref r],[]⟩)) _ _ s
 refine wpAny_bind (wpAny_newObj_type (wpAny_pure ⟨plainId_quiet PySem.F.plain_list_iadd _,codeAny_builtin entry_list_iadd' ?_⟩))
 rw [Around.under_plainId PySem.F.plain_list_iadd _]
 show wpAny _ A.in1 (Builtin.List.listExtendWith (.ref s.heap.objs.size) (.ref r) (.ref s.heap.objs.size)) _ _ _
 have made:(s.heap.push { cls:=.type "list",data:=.seq ([]:List Value).toArray }).get? s.heap.objs.size=some { cls:=.type "list",data:=.seq #[] }:=Heap.get?_push_size _ rfl
 have run:=kdl_extend (A:=A) (s:={ s with heap:=s.heap.push { cls:=.type "list",data:=.seq ([]:List Value).toArray } })
  (R:=fun (z:Result) (t:Shared)=>∃ (g:Heap) (tk:Nat) (got:Array Value) (c:Nat),z=.ok (.ret (.ref s.heap.objs.size))/\t = { s with heap:=g,toks:=tk } /\
   (∀ b o,s.heap.get? b=some o->g.get? b=some o)/\g.get? s.heap.objs.size=some { cls:=.type "list",dict:=none,data:=.seq got c,slots:=#[] }/\ItemsOf P got n)
  src calm (src.keep _ _ ok fun b _ o e=>Heap.get?_push_of_some _ e) s.heap.objs.size (Nat.ne_of_gt lt1) (Nat.ne_of_gt lt2) (.ref s.heap.objs.size) 0 made
  (fun g tk got c kept at_ its=>⟨g,tk,got,c,rfl,rfl,fun b o e=>kept b o (Nat.ne_of_lt (Heap.lt_size e)) (Heap.get?_push_of_some _ e),at_,its⟩) cD
 refine wpAny_mono run (fun z t x=>?_) fun z t ⟨_,_,_,_,bad,_⟩=>by cases bad
 cases z with
 | done f =>
  obtain⟨g,tk,got,c,e,rfl,kept,at_,its⟩:=x
  cases e
  show wpAny _ A (load s.heap.objs.size >>= _) _ _ _
  exact wpAny_bind (wpAny_load at_ (wpAny_pure (fin g tk got kept its (Nat.le_of_lt (Heap.lt_size at_)))))
 | again more =>
  refine⟨x.1,codeAny_mono x.2 fun z' t' ⟨g,tk,got,c,e1,e2,kept,at_,its⟩=>?_⟩
  subst e1 e2
  show wpAny _ A (load s.heap.objs.size >>= _) _ _ _
  exact wpAny_bind (wpAny_load at_ (wpAny_pure (fin g tk got kept its (Nat.le_of_lt (Heap.lt_size at_)))))
theorem rN {a:Addr} {kvs:List (Key × Value)} {ks:List Str} {Q:Value->Shared->Prop} (hh:A.handled=none) (lo:(a == sysModules)=false) (dd:s.heap.DictOf (aL prog w) a kvs)
  (hk:kvs.map (·.1)=ks.map Sum.inr) (h64:ks.length < 64)
  (h:∀ (h':Heap) (tk:Nat) (D:Addr) (out:Array Value) (ss':List Str) (e:Nat),(∀ b o,s.heap.get? b=some o->h'.get? b=some o)->s.heap.objs.size<=D->h'.get? D=some { cls:=.type "list",data:=.seq out e } ->
   StrsAre out.toList ss'->ss'.Perm ks->sortedS ss' = true->Q (.ref D) { s with heap:=h',toks:=tk }) :
  wpAny (model prog w) A (call (.builtin "sorted") [.ref a]) Q E s:=by
 refine Calls.call_function_entry kind_sorted plain_sorted entry_sorted (args_sorted1 _) ?_
 unfold Builtin.«sorted»
 refine wpAny_bind (m:=checkCount "sorted" 1 1 _) (wpAny_pure ?_)
 obtain⟨ep,hat⟩:=dd.dictAt
 have hlk:kvs.length=ks.length:=by have:=congrArg List.length hk;simpa using this
 have hs:sizeLine=16777216\/64<=sizeLine:=.inr (by decide)
 have hz:kvs.length<=sizeLine:=by rw [hlk];exact Nat.le_trans (Nat.le_of_lt h64) (by decide)
 refine wpAny_bind (gather (A:=A.in1) (PySem.W.kdl_dict (knd:=aL prog w) (kvs:=kvs) (ep:=ep) lo) hh hat hz fun h' tk acc hkeep hacc hsz=>?_)
 have hl:acc.toList.length=ks.length:=by rw [Array.length_toList,hacc.1,hlk]
 have hS:StrsAre acc.toList ks:=og hl fun j v x h1 h2=>by
  obtain⟨k,y,e1,e2⟩:=hacc.2 j v (by rw [<-Array.getElem?_toList];exact h1)
  have e3:(kvs.map (·.1))[j]? = some k:=by rw [List.getElem?_map,e1];rfl
  rw [hk,List.getElem?_map,h2] at e3
  cases (Option.some.inj e3)
  exact jD e2
 refine wpAny_bind (wpAny_newList ?_ (by rw [hl];exact Nat.le_trans (Nat.le_of_lt h64) (by decide)))
 have hoL:(h'.push (seqObj "list" acc.toList.toArray 0)).get? h'.objs.size=some (seqObj "list" acc.toList.toArray 0):=Heap.get?_push_size _ rfl
 refine wpAny_bind (wpAny_holding (wpAny_call_entry slot_list_sort ⟨_,hoL,rfl⟩ entry_list_sort (list_sort_treeK strKind_oneLt hoL hS.keysOf (fun v₁ v₂ rest e=>keyKind_strs (by rw [<-e];exact hS)) (by rw [hl];exact h64) fun st' a1 a2=>⟨_,rfl,?_⟩) (args_list_sort _)))
 obtain⟨ss',b1,b2,b3⟩:=sorted_out_str hS a1 a2
 obtain⟨e,he⟩:=sortedHeap_at (out:=(arrOf st').map (·.2)) hoL
 refine wpAny_pure ⟨_,rfl,h _ tk _ _ ss' e (fun b o ho=>?_) hsz he b1 b2 b3⟩
 have h1:=hkeep b o ho
 have hlt:=Heap.lt_size h1
 rw [sortedHeap_old (Nat.ne_of_lt hlt) (by rw [size_push'];exact Nat.lt_succ_of_lt hlt)]
 exact Heap.get?_push_of_some _ h1
end
theorem o5:∀ {us:List Value} {ys:List Str},StrsAre us ys->Vals (ys.map V.str) us
 | _,_,.nil=>.nil
 | _,_,.cons x t r=>.cons ⟨t,rfl⟩ (o5 r)
section
variable {X:Cx}
theorem jl (hc:X.calm=true):dX X (.builtin "sorted") (fun vs H Q=>∃ (a:Addr) (kvs:List (Key × V)) (ks:List Str),vs = [.ref a]/\H a=some (.dK kvs)/\kvs.map (·.1)=ks.map Sum.inr/\ks.length < 64 /\
  ∀ (l:Addr) (ss:List Str),ss.Perm ks->sortedS ss=true->H l=none->Q (.ref l) (upd H l (.lst (ss.map V.str)))):=by
 intro pins s σ H xs us Q I r h
 obtain⟨a,kvs,ks,rfl,ha,hk,h64,q⟩:=h
 obtain⟨u,rfl,ru⟩:=vals1 r
 cases (show u=Value.ref a from ru)
 obtain⟨z,hd,vs,rel,dd⟩:=ml I.aN ha
 refine rN (I.ok.hd hc) hd dd (by rw [<-rel.keys];exact hk) h64 fun h' tk D out ss' e hkeep hD he hS hp hs=>?_
 have hv:Vals (ss'.map V.str) out.toList:=o5 hS
 refine⟨.ref D,_,I.laid (t':=tk) (o:=.lst (ss'.map V.str)) hkeep hD (show bM X.prog X.w _ h' _ (.lst (ss'.map V.str)) from ⟨?_,out.toList,e,hv,by simpa using he⟩),rfl,q D ss' hp hs (I.aN.fresh hD)⟩
 rw [List.length_map,hp.length_eq]
 exact Nat.le_trans (Nat.le_of_lt h64) (by decide)
end
theorem xV {kvs:List (Key × V)} {k:Key} {v:V} (nd:(kvs.map (·.1)).Nodup) (h:(k,v) ∈ kvs):bO kvs k=some v:=by
 induction kvs with
 | nil=>cases h
 | cons p r ih =>
  obtain⟨k',v'⟩:=p
  rw [List.map_cons,List.nodup_cons] at nd
  rcases List.mem_cons.mp h with e | h
  ·cases e
   simp [bO]
  ·have hne:¬ k' = k:=fun z=>nd.1 (by rw [z];exact List.mem_map.mpr ⟨(k,v),h,rfl⟩)
   have:=ih nd.2 h
   simp [bO,hne] at this ⊢
   exact this
section
variable {X:Cx}
end
theorem sub_len {α : Type} [DecidableEq α]:∀ {l m:List α},l.Nodup->(∀ x ∈ l,x ∈ m)->l.length<=m.length
 | [],_,_,_=>Nat.zero_le _
 | x :: l,m,nd,h=>by
  rw [List.nodup_cons] at nd
  have hx:=h x (List.mem_cons_self ..)
  have h1:=sub_len (l:=l) (m:=m.erase x) nd.2 fun y hy=>(List.mem_erase_of_ne (fun z=>nd.1 (by rw [<-z];exact hy))).mpr (h y (List.mem_cons_of_mem _ hy))
  rw [List.length_erase_of_mem hx] at h1
  have h2:0 < m.length:=List.length_pos_of_mem hx
  show l.length+1<=m.length
  omega
theorem fb:bootBuiltins "sorted" = some (.builtin "sorted"):=PyProof.Rows.boot_sorted
theorem lh {kvs:List (Key × V)} {k:Key} {v:V}:(putK kvs k v).map (·.1)=kvs.map (·.1)/\k ∈ kvs.map (·.1)\/(putK kvs k v).map (·.1)=kvs.map (·.1) ++ [k]/\¬ k ∈ kvs.map (·.1):=by
 unfold putK
 by_cases h:(kvs.any fun kv=>decide (kv.1=k))=true
 ·rw [if_pos h]
  refine .inl ⟨?_,?_⟩
  ·rw [List.map_map]
   refine List.map_congr_left fun p _=>?_
   show (if p.1=k then (p.1,v) else p).1=p.1
   split <;> rfl
  ·obtain⟨p,hp,he⟩:=List.any_eq_true.mp h
   exact List.mem_map.mpr ⟨p,hp,of_decide_eq_true he⟩
 ·rw [if_neg h]
  refine .inr ⟨by rw [List.map_append];rfl,fun hm=>h ?_⟩
  obtain⟨p,hp,he⟩:=List.mem_map.mp hm
  exact List.any_eq_true.mpr ⟨p,hp,decide_eq_true he⟩
def fg:cL->Str
 | .put x _=>x
 | .copy x _=>x
 | .add x _=>x
 | .read x=>x
 | .tell x=>x
theorem rO (dd:cL):e7 (mq dd) 1=some (.str (fg dd)):=by cases dd <;> exact cZ
theorem eS.name {xs:List Str} {dd:cL} (h:eS xs dd):fg dd ∈ xs:=by
 cases dd with
 | put x n=>exact h.1
 | copy x y=>exact h.1
 | add x n=>exact h.1
 | read x=>exact h
 | tell x=>exact h
section
variable {X:Cx}
end
section
variable {a0 a1 z:V}
end
section
variable {C D:Addr} {H H':Hp} {wp p pl d nl sl:Addr} {plv:V} {nums:List Int} {S:RS} {m:Nat}
theorem cR.keep (A:cR C H p pl d nl sl plv nums S m) (k:∀ c o,H c=some o->(c=p\/c=pl\/c=d\/c=nl\/c=sl)->H' c=some o):cR C H' p pl d nl sl plv nums S m:=by
 obtain⟨⟨dx,h1⟩,h2,h3,⟨kvs,h4,h5⟩,h6,h7,h8,h9⟩:=A
 exact⟨⟨dx,k _ _ h1 (.inl rfl)⟩,k _ _ h2 (.inr (.inl rfl)),h3,⟨kvs,k _ _ h4 (.inr (.inr (.inl rfl))),h5⟩,k _ _ h6 (.inr (.inr (.inr (.inl rfl)))),k _ _ h7 (.inr (.inr (.inr (.inr rfl)))),h8,h9⟩
end
section
variable (C D:Addr)
end
section
variable {C D:Addr} {H H':Hp} {wp p pl d nl sl st d2 tl bl np:Addr} {plv:V} {nums nums':List Int} {S S':RS} {m m':Nat}
end
section
variable (C D:Addr)
end
section
variable {C D:Addr} {H0 H H1 H2:Hp} {wp p pl d nl sl st st' d2 tl bl np b:Addr} {plv:V} {nums more:List Int} {S S':RS} {m m':Nat}
end
section
variable {X:Cx}
def BF:R2:=fun x y H Q=>∃ a b xs ys,x=.ref a/\y=.ref b/\H a=some (.tup xs)/\H b=some (.tup ys)/\xs.length+ys.length<=sizeLine/\∀ t H',H' t=some (.tup (xs++ys))->ah H H'->Q (.ref t) H'
theorem ug:dY X (binaryOp .Add) BF:=by
 intro pins s σ H x y v u Q I rx ry h
 obtain⟨a,b,xs,ys,rfl,rfl,ha,hb,hz,q⟩:=h
 cases rx
 cases ry
 obtain⟨its,r1,p1,_⟩:=I.tuple (ay.of ha)
 obtain⟨its2,r2,p2,_⟩:=I.tuple (ay.of hb)
 by_cases hx:xs = []
 ·subst hx
  have hi:its = []:=r1.oV.mpr rfl
  subst hi
  obtain⟨⟨cls,dd,data,sl⟩,ho,hc,n,hd⟩:=id p1
  obtain⟨⟨cls2,dd2,data2,sl2⟩,ho2,hc2,n2,hd2⟩:=id p2
  simp only at hc hd hc2 hd2
  subst hc hd hc2 hd2
  exact concat_meets ⟨_,ho,rfl⟩ ⟨_,ho2,rfl⟩ noFill_tuple_add seq_tuple_add PySem.F.slot_tuple_add PySem.F.entry_tuple_add (PySem.F.args_tuple_add_2 _ _)
   (tuple_addW0 a b [].toArray its2.toArray n n2 dd dd2 sl sl2 (by simp)) ⟨ho,ho2,⟨.ref b,H,I,rfl,q b H hb (ah.refl H)⟩⟩
 ·refine HT.zm p1 p2 (fun z=>hx (r1.oV.mp z)) (fun z=>⟨.ref a,H,I,rfl,q a H (by rw [r2.oV.mp z,List.append_nil];exact ha) (ah.refl H)⟩) (fun z=>?_) (by rw [<-r1.length,<-r2.length];exact hz)
  have fr:=I.aN.fresh (a:=s.heap.objs.size) (Nat.le_refl _)
  refine⟨.ref s.heap.objs.size,_,I.laid (t':=s.toks) (o:=.tup (xs++ys)) (fun b ob q=>Heap.get?_push_of_some _ q) (Nat.le_refl _) ?_,rfl,q _ _ ae (ah.new fr)⟩
  exact⟨by rw [List.length_append];exact hz,_,r1.append r2,⟨_,Heap.get?_push_size _ rfl,rfl,_,rfl,rfl⟩⟩
end
section
variable {ps:List Piece} {nums more:List Int} {S S0:RS} {m n:Nat}
end
section
variable {ps:List Piece} {nums more:List Int} {S:RS} {m n:Nat}
end
inductive Call where
 | hand (ns:List Int)
 | go (n:Nat)
structure AZ where
 S:RS
 nums:List Int
 m:Nat
structure WA where
 wp:Addr
 p:Addr
 pl:Addr
 d:Addr
 nl:Addr
 sl:Addr
section
variable {C D:Addr} {H H' H0:Hp} {x y:WA} {pv pv':V} {s s':AZ} {c:Addr} {o:HO}
end
section
variable (C D:Addr)
end
section
variable {C D:Addr} {H0 H H1:Hp} {w0 w1 w2:WA} {wl cl nb:Addr} {plv ov:V} {x0 x1 x2 x':AZ} {n0 n1 n':List Int} {vs:List V} {cs:List Call}
end
section
variable {prog:Program} {w:World} {A:Around} {E:Value->Shared->Prop} {s:Shared}
theorem rP {j t:Addr} {n:Nat} {its:Array Value} {x:Value} {Q:Value->Shared->Prop} (hj:s.heap.IsTupleIter j t n) (ht:s.heap.IsTuple t its) (hx:its[n]? = some x)
  (hQ:∀ g,g.IsTupleIter j t (n+1)->Heap.SameBut j s.heap g->Q x { s with heap:=g }):wpAny (model prog w) A (Builtin.SmallTypes.nextOf (.ref j)) Q E s:=by
 obtain⟨ob,eo,ec,ed⟩:=id hj
 obtain⟨ot,et,_,k,ek⟩:=ht
 unfold Builtin.SmallTypes.nextOf
 refine wpAny_bind (wpAny_callSpecial?_slot (name:=Str.ofString "__next__") hj.typeIs F.slot_tuple_iterator_next (wpAny_call_entry F.slot_tuple_iterator_next hj.typeIs F.entry_tuple_iterator_next ?_ (F.args_tuple_iterator_next_1 _)))
 show wpAny _ _ (field (.ref j) 0 >>= _) _ _ s
 refine wpAny_bind (wpAny_field eo ed (x:=.ref t) rfl ?_)
 show wpAny _ _ (if (Value.ref t == Value.none)=true then _ else _) _ _ s
 refine (if_neg (c:=(Value.ref t == Value.none)=true) Bool.false_ne_true) ▸ ?_
 show wpAny _ _ (field (.ref j) 1 >>= _) _ _ s
 refine wpAny_bind (wpAny_field eo ed (x:=.int n 0) rfl (wpAny_bind (wpAny_seqItems et ek ?_)))
 simp only [hx,Int.toNat_natCast]
 refine wpAny_bind (wpAny_setField eo ed (by simp) (wpAny_pure ⟨x,rfl,wpAny_pure (hQ _ ⟨_,Heap.get?_update_self _ eo (Obj.isFreed_of_fields (Obj.data_mapFields ed _)),(Obj.cls_mapFields ..).trans ec,?_⟩ (Heap.SameBut.update ..))⟩))
 rw [Obj.data_mapFields ed];simp [rawInt]
theorem uh {j t:Addr} {n:Nat} {its:Array Value} {Q:Value->Shared->Prop} (ha:A.handled=none) (hj:s.heap.IsTupleIter j t n) (ht:s.heap.IsTuple t its) (hx:its[n]? = none)
    (hE:∀ g e,Heap.ExtBut j s.heap g->(∃ o,g.get? e=some o/\o.cls=.type "StopIteration")->E (.ref e) { s with heap:=g }):wpAny (model prog w) A (Builtin.SmallTypes.nextOf (.ref j)) Q E s:=by
  obtain⟨ob,eo,ec,ed⟩:=id hj
  obtain⟨ot,et,_,k,ek⟩:=ht
  unfold Builtin.SmallTypes.nextOf
  refine wpAny_bind (wpAny_callSpecial?_slot (name:=Str.ofString "__next__") hj.typeIs F.slot_tuple_iterator_next (wpAny_call_entry F.slot_tuple_iterator_next hj.typeIs F.entry_tuple_iterator_next ?_ (F.args_tuple_iterator_next_1 _)))
  show wpAny _ _ (field (.ref j) 0 >>= _) _ _ s
  refine wpAny_bind (wpAny_field eo ed (x:=.ref t) rfl ?_)
  show wpAny _ _ (if (Value.ref t == Value.none)=true then _ else _) _ _ s
  refine (if_neg (c:=(Value.ref t == Value.none)=true) Bool.false_ne_true) ▸ ?_
  show wpAny _ _ (field (.ref j) 1 >>= _) _ _ s
  refine wpAny_bind (wpAny_field eo ed (x:=.int n 0) rfl (wpAny_bind (wpAny_seqItems et ek ?_)))
  simp only [hx,Int.toNat_natCast]
  refine wpAny_bind (wpAny_rule (wpAny_bind (wpAny_setField eo ed (by simp) ?_)))
  show wpAny _ _ (newExc (.type "StopIteration") [] >>= fun _=>_) _ _ _
  refine wpAny_bind ?_
  simp only [newTuple,newExc]
  refine wpAny_bind (wpAny_newObj_type (wpAny_bind (m:=firstArgMember _ _) (wpAny_of_eq (a:=Value.none) (by first | rfl | (simp only [firstArgMember];rfl)) (wpAny_newObj_type ?_ (by size_fits)))) (by size_fits))
  simp only [raiseNew]
  refine wpAny_bind (wpAny_handled (by
    first | rw [show A.in1.handled=none from ha] | rw [ha]
    exact wpAny_bind (wpAny_pure (wpAny_throw (hE _ _ (((Heap.SameBut.update ..).extBut.push _).push _) ⟨_,Heap.get?_push_size _ rfl,rfl⟩)))))
structure ui (z p q j k a b:Addr):Prop where
 pz:p ≠ z
 qz:q ≠ z
 jz:j ≠ z
 kz:k ≠ z
 pq:p ≠ q
 pj:p ≠ j
 pk:p ≠ k
 qj:q ≠ j
 qk:q ≠ k
 jk:j ≠ k
 az:a ≠ z
 aq:a ≠ q
 aj:a ≠ j
 ak:a ≠ k
 bz:b ≠ z
 bq:b ≠ q
 bj:b ≠ j
 bk:b ≠ k
theorem i0 {h g:Heap} {a:Addr} {xs:Array Value} (x:h.IsTuple a xs) (k:∀ o,h.get? a=some o->g.get? a=some o):g.IsTuple a xs:=by
 obtain⟨o,e,r⟩:=x
 exact⟨o,k o e,r⟩
theorem zB {z p q j k a b:Addr} {m n:Nat} {xs ys:Array Value} {x y u v:Value} {Q:Value->Shared->Prop} (D:ui z p q j k a b)
  (gz:IsZip s.heap z p q .none) (gp:IsPair s.heap p (.ref j) (.ref k)) (gq:IsPair s.heap q u v)
  (gj:s.heap.IsTupleIter j a m) (gk:s.heap.IsTupleIter k b n) (ga:s.heap.IsTuple a xs) (gb:s.heap.IsTuple b ys) (hx:xs[m]? = some x) (hy:ys[n]? = some y)
  (hQ:∀ g,IsZip g z p q (rawInt s.heap.objs.size)->IsPair g q x y->g.IsTupleIter j a (m+1)->g.IsTupleIter k b (n+1)->IsPair g s.heap.objs.size x y->g.objs.size=s.heap.objs.size+1 ->
   (∀ c o,c ≠ z->c ≠ q->c ≠ j->c ≠ k->s.heap.get? c=some o->g.get? c=some o)->Q (.ref s.heap.objs.size) { s with heap:=g }) :
  wpAny (model prog w) A (Builtin.«zip.__next__» ⟨[.ref z],[]⟩) (fun fin s'=>∃ v,fin=.done (.ret v)/\Q v s') E s:=by
 show wpAny _ _ (field (.ref z) 2 >>= fun _=>_) _ _ _
 refine wpAny_bind (wpAny_field gz rfl (x:=.bool false) rfl ?_)
 show wpAny _ _ (field (.ref z) 3 >>= fun _=>_) _ _ _
 refine wpAny_bind (wpAny_field gz rfl (x:=.ref p) rfl (wpAny_bind (wpAny_seqItems gp rfl ?_)))
 show wpAny _ _ (Builtin.SmallTypes.ownedTupleIsFree (.ref z) >>= fun _=>_) _ _ _
 refine wpAny_bind ?_
 unfold Builtin.SmallTypes.ownedTupleIsFree
 refine wpAny_bind (wpAny_field gz rfl (x:=.none) rfl (wpAny_pure ?_))
 simp only [if_true]
 refine wpAny_bind (wpAny_rule (wpAny_bind (wpAny_field gz rfl (x:=.ref q) rfl (wpAny_bind (wpAny_setField_rec gz (by simp) fun g1 gz1 t1=>?_)))))
 replace gz1:IsZip g1 z p q .ellipsis:=gz1
 refine wpAny_bind ?_
 simp only [List.forIn_cons,List.forIn_nil,List.zipIdx_cons,List.zipIdx_nil]
 refine wpAny_bind (wpAny_bind (wpAny_onRaise ?_))
 show wpAny _ _ (Builtin.SmallTypes.nextOf (.ref j) >>= fun _=>_) _ _ _
 refine wpAny_bind (rP (gj.extBut t1.extBut D.jz) (i0 ga fun o e=>t1.extBut _ _ D.az e) hx fun g2 gj2 t2=>wpAny_pure ?_)
 have gq2:IsPair g2 q u v:=t2.extBut _ _ D.qj (t1.extBut _ _ D.qz gq)
 refine wpAny_bind (wpAny_seqItems gq2 rfl (wpAny_bind (wpAny_updateSeq_pair gq2 fun g3 gq3 t3=>?_)))
 replace gq3:IsPair g3 q x v:=gq3
 refine wpAny_bind (wpAny_letGo (wpAny_pure (wpAny_bind (wpAny_bind (wpAny_onRaise ?_)))))
 show wpAny _ _ (Builtin.SmallTypes.nextOf (.ref k) >>= fun _=>_) _ _ _
 refine wpAny_bind (rP (((gk.extBut t1.extBut D.kz).extBut t2.extBut D.jk.symm).extBut t3.extBut D.qk.symm) (i0 gb fun o e=>t3.extBut _ _ D.bq (t2.extBut _ _ D.bj (t1.extBut _ _ D.bz e))) hy fun g4 gk4 t4=>wpAny_pure ?_)
 have gq4:IsPair g4 q x v:=t4.extBut _ _ D.qk gq3
 refine wpAny_bind (wpAny_seqItems gq4 rfl (wpAny_bind (wpAny_updateSeq_pair gq4 fun g5 gq5 t5=>?_)))
 replace gq5:IsPair g5 q x y:=gq5
 refine wpAny_bind (wpAny_letGo (wpAny_pure (wpAny_pure (wpAny_bind (wpAny_seqItems gq5 rfl (wpAny_bind (wpAny_newTuple ?_)))))))
 have ez:g5.objs.size=s.heap.objs.size:=by rw [t5.1,t4.1,t3.1,t2.1,t1.1]
 have gz5:IsZip g5 z p q .ellipsis:=t5.extBut _ _ D.qz.symm (t4.extBut _ _ D.kz.symm (t3.extBut _ _ D.qz.symm (t2.extBut _ _ D.jz.symm gz1)))
 have k5:∀ c o,c ≠ z->c ≠ q->c ≠ j->c ≠ k->s.heap.get? c=some o->g5.get? c=some o:=fun c o c1 c2 c3 c4 e=>t5.extBut _ _ c2 (t4.extBut _ _ c4 (t3.extBut _ _ c2 (t2.extBut _ _ c3 (t1.extBut _ _ c1 e))))
 have gj5:g5.IsTupleIter j a (m+1):=((gj2.extBut t3.extBut D.qj.symm).extBut t4.extBut D.jk).extBut t5.extBut D.qj.symm
 have gk5:g5.IsTupleIter k b (n+1):=gk4.extBut t5.extBut D.qk.symm
 have lz:z < g5.objs.size:=Heap.lt_size gz5
 show wpAny _ _ (Builtin.SmallTypes.ownedTupleHandOut (.ref z) (.ref g5.objs.size) >>= fun _=>_) _ _ _
 refine wpAny_bind ?_
 unfold Builtin.SmallTypes.ownedTupleHandOut
 have gz6:IsZip (g5.push { cls:=.type "tuple",data:=.seq #[x,y] }) z p q .ellipsis:=Heap.get?_push_of_some _ gz5
 refine wpAny_bind (wpAny_setField_rec gz6 (by simp) fun g7 gz7 t7=>?_)
 replace gz7:IsZip g7 z p q (rawInt g5.objs.size):=gz7
 refine wpAny_setField_rec gz7 (by simp) fun g8 gz8 t8=>?_
 replace gz8:IsZip g8 z p q (rawInt g5.objs.size):=gz8
 have up:∀ c o,c ≠ z->g5.get? c=some o->g8.get? c=some o:=fun c o c1 e=>t8.extBut _ _ c1 (t7.extBut _ _ c1 (Heap.get?_push_of_some _ e))
 have gT:IsPair g8 g5.objs.size x y:=t8.extBut _ _ (Nat.ne_of_gt lz) (t7.extBut _ _ (Nat.ne_of_gt lz) (Heap.get?_push_size _ rfl))
 have e8:g8.objs.size=g5.objs.size+1:=by rw [t8.1,t7.1,Heap.size_push]
 rw [ez] at gz8 gT e8
 refine wpAny_pure ⟨_,rfl,?_⟩
 show Q (.ref g5.objs.size) _
 rw [ez]
 refine hQ g8 gz8 (up _ _ D.qz gq5) ?_ ?_ gT e8 fun c o c1 c2 c3 c4 e=>up c o c1 (k5 c o c1 c2 c3 c4 e)
 ·obtain⟨o,e,r⟩:=gj5
  exact⟨o,up _ _ D.jz e,r⟩
 ·obtain⟨o,e,r⟩:=gk5
  exact⟨o,up _ _ D.kz e,r⟩
theorem A0 {z p q j k a b:Addr} {m n:Nat} {xs ys:Array Value} {u v:Value} {Q:Fin->Shared->Prop} (ha:A.handled=none) (D:ui z p q j k a b)
  (gz:IsZip s.heap z p q .none) (gp:IsPair s.heap p (.ref j) (.ref k)) (gq:IsPair s.heap q u v)
  (gj:s.heap.IsTupleIter j a m) (gk:s.heap.IsTupleIter k b n) (ga:s.heap.IsTuple a xs) (gb:s.heap.IsTuple b ys) (hend:xs[m]? = none\/ys[n]? = none)
  (hE:∀ g e,(∀ c o,c ≠ z->c ≠ q->c ≠ j->c ≠ k->s.heap.get? c=some o->g.get? c=some o)->(∃ o,g.get? e=some o/\o.cls=.type "StopIteration")->E (.ref e) { s with heap:=g }) :
  wpAny (model prog w) A (Builtin.«zip.__next__» ⟨[.ref z],[]⟩) Q E s:=by
 show wpAny _ _ (field (.ref z) 2 >>= fun _=>_) _ _ _
 refine wpAny_bind (wpAny_field gz rfl (x:=.bool false) rfl ?_)
 show wpAny _ _ (field (.ref z) 3 >>= fun _=>_) _ _ _
 refine wpAny_bind (wpAny_field gz rfl (x:=.ref p) rfl (wpAny_bind (wpAny_seqItems gp rfl ?_)))
 show wpAny _ _ (Builtin.SmallTypes.ownedTupleIsFree (.ref z) >>= fun _=>_) _ _ _
 refine wpAny_bind ?_
 unfold Builtin.SmallTypes.ownedTupleIsFree
 refine wpAny_bind (wpAny_field gz rfl (x:=.none) rfl (wpAny_pure ?_))
 simp only [if_true]
 refine wpAny_bind (wpAny_rule (wpAny_bind (wpAny_field gz rfl (x:=.ref q) rfl (wpAny_bind (wpAny_setField_rec gz (by simp) fun g1 gz1 t1=>?_)))))
 replace gz1:IsZip g1 z p q .ellipsis:=gz1
 refine wpAny_bind ?_
 simp only [List.forIn_cons,List.forIn_nil,List.zipIdx_cons,List.zipIdx_nil]
 refine wpAny_bind (wpAny_bind (wpAny_onRaise ?_))
 show wpAny _ _ (Builtin.SmallTypes.nextOf (.ref j) >>= fun _=>_) _ _ _
 cases hx:xs[m]? with
 | none =>
  refine wpAny_bind (uh ha (gj.extBut t1.extBut D.jz) (i0 ga fun o e=>t1.extBut _ _ D.az e) hx fun g2 e t2 he=>?_)
  obtain⟨oe,eoe,ce⟩:=he
  have gz2:IsZip g2 z p q .ellipsis:=t2 _ _ D.jz.symm gz1
  have ne:e ≠ z:=fun x=>by subst x;rw [gz2] at eoe;cases eoe;simp at ce
  exact wpAny_setField_rec gz2 (by simp) fun g3 _ t3=>hE g3 e (fun c o c1 _ c3 _ x=>t3.extBut _ _ c1 (t2 _ _ c3 (t1.extBut _ _ c1 x))) ⟨oe,t3.extBut _ _ ne eoe,ce⟩
 | some x =>
  have hy:ys[n]? = none:=hend.elim (fun h=>by rw [hx] at h;cases h) id
  refine wpAny_bind (rP (gj.extBut t1.extBut D.jz) (i0 ga fun o e=>t1.extBut _ _ D.az e) hx fun g2 gj2 t2=>wpAny_pure ?_)
  have gq2:IsPair g2 q u v:=t2.extBut _ _ D.qj (t1.extBut _ _ D.qz gq)
  refine wpAny_bind (wpAny_seqItems gq2 rfl (wpAny_bind (wpAny_updateSeq_pair gq2 fun g3 gq3 t3=>?_)))
  refine wpAny_bind (wpAny_letGo (wpAny_pure (wpAny_bind (wpAny_bind (wpAny_onRaise ?_)))))
  show wpAny _ _ (Builtin.SmallTypes.nextOf (.ref k) >>= fun _=>_) _ _ _
  refine wpAny_bind (uh ha (((gk.extBut t1.extBut D.kz).extBut t2.extBut D.jk.symm).extBut t3.extBut D.qk.symm) (i0 gb fun o e=>t3.extBut _ _ D.bq (t2.extBut _ _ D.bj (t1.extBut _ _ D.bz e))) hy fun g4 e t4 he=>?_)
  obtain⟨oe,eoe,ce⟩:=he
  have gz4:IsZip g4 z p q .ellipsis:=t4 _ _ D.kz.symm (t3.extBut _ _ D.qz.symm (t2.extBut _ _ D.jz.symm gz1))
  have ne:e ≠ z:=fun x=>by subst x;rw [gz4] at eoe;cases eoe;simp at ce
  exact wpAny_setField_rec gz4 (by simp) fun g5 _ t5=>hE g5 e (fun c o c1 c2 c3 c4 x=>t5.extBut _ _ c1 (t4 _ _ c4 (t3.extBut _ _ c2 (t2.extBut _ _ c3 (t1.extBut _ _ c1 x))))) ⟨oe,t5.extBut _ _ ne eoe,ce⟩
theorem zC {z p q j k a b:Addr} {m n:Nat} {xs ys:Array Value} {x y u v:Value} {Q:Option Value->Shared->Prop} (D:ui z p q j k a b)
  (gz:IsZip s.heap z p q .none) (gp:IsPair s.heap p (.ref j) (.ref k)) (gq:IsPair s.heap q u v)
  (gj:s.heap.IsTupleIter j a m) (gk:s.heap.IsTupleIter k b n) (ga:s.heap.IsTuple a xs) (gb:s.heap.IsTuple b ys) (hx:xs[m]? = some x) (hy:ys[n]? = some y)
  (hQ:∀ g,IsZip g z p q (rawInt s.heap.objs.size)->IsPair g q x y->g.IsTupleIter j a (m+1)->g.IsTupleIter k b (n+1)->IsPair g s.heap.objs.size x y->g.objs.size=s.heap.objs.size+1 ->
   (∀ c o,c ≠ z->c ≠ q->c ≠ j->c ≠ k->s.heap.get? c=some o->g.get? c=some o)->Q (some (.ref s.heap.objs.size)) { s with heap:=g }) :
  wpAny (model prog w) A (pyNext (.ref z)) Q E s:=by
 have ty:s.TypeIs (.ref z) "zip" := ⟨_,gz,rfl⟩
 unfold pyNext
 exact wpAny_bind (wpAny_attempt (wpAny_callSpecial?_slot (name:=Str.ofString "__next__") ty F.slot_zip_next (wpAny_call_entry F.slot_zip_next ty F.entry_zip_next
   (zB D gz gp gq gj gk ga gb hx hy fun g a1 a2 a3 a4 a5 a6 a7=>wpAny_pure (hQ g a1 a2 a3 a4 a5 a6 a7)) (F.args_zip_next_1 _))))
theorem zD {z p q j k a b:Addr} {m n:Nat} {xs ys:Array Value} {u v:Value} {Q:Option Value->Shared->Prop} (ha:A.handled=none) (D:ui z p q j k a b)
  (gz:IsZip s.heap z p q .none) (gp:IsPair s.heap p (.ref j) (.ref k)) (gq:IsPair s.heap q u v)
  (gj:s.heap.IsTupleIter j a m) (gk:s.heap.IsTupleIter k b n) (ga:s.heap.IsTuple a xs) (gb:s.heap.IsTuple b ys) (hend:xs[m]? = none\/ys[n]? = none)
  (hQ:∀ g,(∀ c o,c ≠ z->c ≠ q->c ≠ j->c ≠ k->s.heap.get? c=some o->g.get? c=some o)->Q none { s with heap:=g }):wpAny (model prog w) A (pyNext (.ref z)) Q E s:=by
 have ty:s.TypeIs (.ref z) "zip" := ⟨_,gz,rfl⟩
 unfold pyNext
 refine wpAny_bind (wpAny_attempt (wpAny_callSpecial?_slot (name:=Str.ofString "__next__") ty F.slot_zip_next (wpAny_call_entry F.slot_zip_next ty F.entry_zip_next
   (A0 ha D gz gp gq gj gk ga gb hend fun g e hk he=>?_) (F.args_zip_next_1 _))))
 obtain⟨o,eo,ec⟩:=he
 exact wpAny_bind (wpAny_isInstance (T := "StopIteration") (b:=true) ⟨o,eo,ec⟩ isSubtype_stop (wpAny_pure (hQ _ hk)))
abbrev we (h:Heap) (a:Addr):Heap:=h.push { cls:=.type "tuple_iterator",data:=.fields #[.ref a,.int 0 0] }
abbrev yY (h:Heap) (a b:Addr):Heap:=(we h a).push { cls:=.type "tuple_iterator",data:=.fields #[.ref b,.int 0 0] }
abbrev yZ (h:Heap) (a b:Addr):Heap:=(yY h a b).push { cls:=.type "tuple",data:=.seq #[.ref h.objs.size,.ref (we h a).objs.size] }
abbrev y0 (h:Heap) (a b:Addr):Heap:=(yZ h a b).push { cls:=.type "tuple",data:=.seq #[.none,.none] }
abbrev uj (h:Heap) (a b:Addr):Heap:=(y0 h a b).push { cls:=.type "zip",data:=.fields #[.none,.bool false,.bool false,.ref (yY h a b).objs.size,.ref (yZ h a b).objs.size] }
theorem A1 (a b:Addr) (xs ys:Array Value):Meets (Builtin.«zip.__new__» ⟨[.type "zip",.ref a,.ref b],[]⟩) (fun _ R s=>s.heap.IsTuple a xs/\s.heap.IsTuple b ys /\
   R (.ok (.ret (.ref (y0 s.heap a b).objs.size))) { s with heap:=uj s.heap a b }) :=
 .of_wp fun P w' A' R' s' hh=>by
  obtain⟨hp,g,d,tk,os⟩:=s'
  obtain⟨ga,gb,hh⟩:=hh
  have hsub:=sub_zip
  have la:Heap.IsTuple (Shared.heap ⟨hp,g,d,tk,os⟩) a xs:=ga
  have lb:Heap.IsTuple (Shared.heap ⟨we hp a,g,d,tk,os⟩) b ys:=i0 gb fun o e=>Heap.get?_push_of_some _ e
  wp_walk using wpAny_pyIter_tuple la,wpAny_pyIter_tuple lb
  exact⟨_,rfl,hh⟩
theorem zE {a b:Addr} {xs ys:Array Value} {Q:Value->Shared->Prop} (ga:s.heap.IsTuple a xs) (gb:s.heap.IsTuple b ys)
  (h:∀ g,IsZip g (s.heap.objs.size+4) (s.heap.objs.size+2) (s.heap.objs.size+3) .none->IsPair g (s.heap.objs.size+2) (.ref s.heap.objs.size) (.ref (s.heap.objs.size+1)) ->
   IsPair g (s.heap.objs.size+3) .none .none->g.IsTupleIter s.heap.objs.size a 0->g.IsTupleIter (s.heap.objs.size+1) b 0 ->
   (∀ c o,s.heap.get? c=some o->g.get? c=some o)->Q (.ref (s.heap.objs.size+4)) { s with heap:=g }) :
  wpAny (model prog w) A (call (.type "zip") [.ref a,.ref b]) Q E s:=by
 refine callType_new F.called_zip (by decide) (F.typeCall_zip_2 _ _) (F.newCall_zip_2 _ _) (fun obj=>F.args_object_init_3 obj _ _) F.entry_zip_new (A1 a b xs ys) ⟨ga,gb,?_⟩
 have z1:(we s.heap a).objs.size=s.heap.objs.size+1:=Heap.size_push ..
 have z2:(yY s.heap a b).objs.size=s.heap.objs.size+2:=by rw [Heap.size_push,z1]
 have z3:(yZ s.heap a b).objs.size=s.heap.objs.size+3:=by rw [Heap.size_push,z2]
 have z4:(y0 s.heap a b).objs.size=s.heap.objs.size+4:=by rw [Heap.size_push,z3]
 have up:∀ {h:Heap} {c:Addr} {o o':Obj},h.get? c=some o->(h.push o').get? c=some o:=fun e=>Heap.get?_push_of_some _ e
 have q5:(uj s.heap a b).get? (y0 s.heap a b).objs.size=some _:=Heap.get?_push_size _ rfl
 have q4:(uj s.heap a b).get? (yZ s.heap a b).objs.size=some _:=up (Heap.get?_push_size _ rfl)
 have q3:(uj s.heap a b).get? (yY s.heap a b).objs.size=some _:=up (up (Heap.get?_push_size _ rfl))
 have q2:(uj s.heap a b).get? (we s.heap a).objs.size=some _:=up (up (up (Heap.get?_push_size _ rfl)))
 have q1:(uj s.heap a b).get? s.heap.objs.size=some _:=up (up (up (up (Heap.get?_push_size _ rfl))))
 show _/\_
 rw [z2,z3,z4] at q5
 rw [z1,z2] at q3
 rw [z3] at q4
 rw [z1] at q2
 rw [z4]
 exact⟨⟨_,q5,rfl⟩,h _ q5 q3 q4 ⟨_,q1,rfl,rfl⟩ ⟨_,q2,rfl,rfl⟩ fun c o x=>up (up (up (up (up x))))⟩
end
section
variable {X:Cx} {pins:List (Addr × Obj)} {σ : List (Option V)} {H H':Hp} {s:Shared} {h':Heap}
theorem Inv.uk {t':Nat} {fp:List Addr} (I:Inv X pins σ H s) (k:∀ b o,b ∉ fp->s.heap.get? b=some o->h'.get? b=some o) (f:∀ b ∈ fp,jc X pins H b):Inv X pins σ H { s with heap:=h',toks:=t' }:=by
 have nit:∀ b u,H b=some u->b ∉ fp:=fun b u e z=>by rw [(f b z).1] at e;cases e
 refine I.step (g':=s.gens) (d':=s.drawn) (ch:=fp) (fun b hb=>?_) (fun b o _ _ hc e _=>k b o hc e) (fun b o _ _ hc e _=>⟨o.slots,k b o hc e⟩) (fun _ _ _ _ n=>n)
  (fun b o hc e=>⟨o,k b o hc e⟩) (fun _ _ e=>e) (fun _ _ _ e=>e) (fun b ps e=>⟨#[],by rw [e];simp⟩) (fun m hm=>?_) (fun b u e=>?_) I.bare
 ·obtain⟨f0,f1,f2,f3,f4,f5⟩:=f b hb
  exact⟨f3,f1,f4,f5⟩
 ·obtain⟨o,es,ep,ho,r⟩:=hm
  exact⟨o,es,ep,k _ o (fun z=>(f _ z).2.1 rfl) ho,r⟩
 ·refine (I.aN b u e).m5 (fun c v hc q=>k c v ?_ q) (fun _ q=>q) fun _ _ q=>q
  rcases hc with z | z
  ·rw [z];exact nit b u e
  ·exact nit c _ z
def y6 (K:PySem.W.Frag) (a b:Addr):It :=
 ⟨fun i H=>∃ xs ys x y,ay K H a xs/\ay K H b ys/\xs[i]? = some x/\ys[i]? = some y,
  fun i H v H'=>∃ t x y,v=.ref t/\H t=none/\H' = upd H t (.tup [x,y])/\∀ xs ys,ay K H a xs->ay K H b ys->xs[i]? = some x/\ys[i]? = some y,
  fun i H=>∃ xs ys,ay K H a xs/\ay K H b ys/\(xs.length<=i\/ys.length<=i)⟩
theorem xW {P:Program} {w:World} {K:PySem.W.Frag} {elts:List Expr} {kk:Nat} {pos:Pos} (a b z p q j k:Addr) (D:ui z p q j k a b) :
    Turn P w K (.Tuple elts kk pos) (y6 K a b) [z,p,q,j,k] z (fun i h=>IsZip h z p q .none/\IsPair h p (.ref j) (.ref k)/\(∃ u v,IsPair h q u v)/\h.IsTupleIter j a i/\h.IsTupleIter k b i) where
  mem:=by simp
  obj:=fun i h st c hc=>by
    obtain⟨gz,gp,⟨u,v,gq⟩,⟨oj,ej,cj,dj⟩,⟨ok,ek,ck,dk⟩⟩:=st
    simp only [List.mem_cons,List.not_mem_nil,or_false] at hc
    rcases hc with rfl | rfl | rfl | rfl | rfl
    · exact⟨_,gz,fun v e=>by cases e⟩
    · exact⟨_,gp,fun v e=>by cases e⟩
    · exact⟨_,gq,fun v e=>by cases e⟩
    · exact⟨oj,ej,fun v e=>by rw [dj] at e;cases e⟩
    · exact⟨ok,ek,fun v e=>by rw [dk] at e;cases e⟩
  keep:=fun i h g st kp=>by
    obtain⟨gz,gp,⟨u,v,gq⟩,⟨oj,ej,rj⟩,⟨ok,ek,rk⟩⟩:=st
    exact⟨kp z (by simp) _ gz,kp p (by simp) _ gp,⟨u,v,kp q (by simp) _ gq⟩,⟨oj,kp j (by simp) _ ej,rj⟩,⟨ok,kp k (by simp) _ ek,rk⟩⟩
  item:=by
    intro X hP hw hK hc i pins s σ H E I hf st hg
    subst hP hw hK
    obtain⟨gz,gp,⟨u,v,gq⟩,gj,gk⟩:=st
    obtain⟨xs,ys,x,y,ha,hb,hx,hy⟩:=hg
    obtain⟨is,ra,pa,_⟩:=I.tuple ha
    obtain⟨js,rb,pb,_⟩:=I.tuple hb
    obtain⟨xv,hxv,rx⟩:=ra.get hx
    obtain⟨yv,hyv,ry⟩:=rb.get hy
    have sz:∀ c ∈ [z,p,q,j,k],c ≠ s.heap.objs.size:=fun c hc e=>by
      subst e
      simp only [List.mem_cons,List.not_mem_nil,or_false] at hc
      rcases hc with e | e | e | e | e
      · exact absurd (Heap.lt_size gz) (by rw [<-e];exact Nat.lt_irrefl _)
      · exact absurd (Heap.lt_size gp) (by rw [<-e];exact Nat.lt_irrefl _)
      · exact absurd (Heap.lt_size gq) (by rw [<-e];exact Nat.lt_irrefl _)
      · obtain⟨oj,ej,_⟩:=gj
        exact absurd (Heap.lt_size ej) (by rw [<-e];exact Nat.lt_irrefl _)
      · obtain⟨ok,ek,_⟩:=gk
        exact absurd (Heap.lt_size ek) (by rw [<-e];exact Nat.lt_irrefl _)
    refine zC D gz gp gq gj gk (show s.heap.IsTuple a is.toArray from pa) (show s.heap.IsTuple b js.toArray from pb) (x:=xv) (y:=yv) (by simpa using hxv) (by simpa using hyv) fun g a1 a2 a3 a4 a5 a6 hk=>?_
    refine⟨.ref s.heap.objs.size,rfl,wpAny_letOwnedTupleGo_zip a1 fun g' gz' sb=>?_⟩
    have fr:=I.aN.fresh (a:=s.heap.objs.size) (Nat.le_refl _)
    have I1:Inv X pins σ (upd H s.heap.objs.size (.tup [x,y])) { s with heap:=s.heap.push { cls:=.type "tuple",data:=.seq #[xv,yv] },toks:=s.toks } :=
      I.laid (fun _ _ e=>Heap.get?_push_of_some _ e) (Nat.le_refl _) ⟨by show 2<=sizeLine;decide,[xv,yv],.cons rx (.cons ry .nil),by first | exact IsTup.new _ _ | exact⟨_,Heap.get?_push_size _ rfl,rfl,_,rfl,rfl⟩⟩
    have f1:∀ c ∈ [z,p,q,j,k],jc X pins (upd H s.heap.objs.size (.tup [x,y])) c:=fun c hc=>by
      obtain⟨f0,fr'⟩:=hf c hc
      exact⟨by rw [au (sz c hc)];exact f0,fr'⟩
    have I2:Inv X pins σ (upd H s.heap.objs.size (.tup [x,y])) { s with heap:=g',toks:=s.toks }:=Inv.uk (s:={ s with heap:=s.heap.push { cls:=.type "tuple",data:=.seq #[xv,yv] },toks:=s.toks }) (fp:=[z,p,q,j,k]) (h':=g') (t':=s.toks) I1 (fun c o hc e=>by
      simp only [List.mem_cons,List.not_mem_nil,or_false,not_or] at hc
      refine sb.extBut _ _ hc.1 ?_
      rcases Heap.get?_push_cases e with ⟨rfl,rfl⟩ | e
      · exact a5
      · exact hk c o hc.1 hc.2.2.1 hc.2.2.2.1 hc.2.2.2.2 e) f1
    refine⟨.ref s.heap.objs.size,_,I2,rfl,⟨_,x,y,rfl,fr,rfl,fun xs' ys' h1 h2=>?_⟩,⟨gz',sb.extBut _ _ D.pz (hk _ _ D.pz D.pq D.pj D.pk gp),⟨xv,yv,sb.extBut _ _ D.qz a2⟩,a3.extBut sb.extBut D.jz,a4.extBut sb.extBut D.kz⟩,fun c hc=>(f1 c hc).1⟩
    rw [I.kO h1 ha,I.kO h2 hb]
    exact⟨hx,hy⟩
  done:=by
    intro X hP hw hK hc i pins s σ H E I hf st hg
    subst hP hw hK
    obtain⟨gz,gp,⟨u,v,gq⟩,gj,gk⟩:=st
    obtain⟨xs,ys,ha,hb,hl⟩:=hg
    obtain⟨is,ra,pa,_⟩:=I.tuple ha
    obtain⟨js,rb,pb,_⟩:=I.tuple hb
    have la:=ra.length
    have lb:=rb.length
    have he:is.toArray[i]? = none\/js.toArray[i]? = none:=by
      rcases hl with h | h
      · exact .inl (by simp;omega)
      · exact .inr (by simp;omega)
    exact zD (I.ok.hd hc) D gz gp gq gj gk (show s.heap.IsTuple a is.toArray from pa) (show s.heap.IsTuple b js.toArray from pb) he fun g hk=>⟨rfl,I.uk (fp:=[z,p,q,j,k]) (t':=s.toks) (fun c o hc e=>by
      simp only [List.mem_cons,List.not_mem_nil,or_false,not_or] at hc
      exact hk c o hc.1 hc.2.2.1 hc.2.2.2.1 hc.2.2.2.2 e) hf⟩
  self:=fun _ _ _ _ _ st h=>wpAny_pyIter_zip st.1 h
theorem CU {N a b:Nat} (ha:a < N) (hb:b < N):ui (N+4:Nat) (N+2:Nat) (N+3:Nat) N (N+1:Nat) a b :=
 have ne:∀ {u v:Nat},u < v->¬ (u=v):=fun h e=>by omega
 have ne':∀ {u v:Nat},v < u->¬ (u=v):=fun h e=>by omega
 ⟨ne (by omega),ne (by omega),ne (by omega),ne (by omega),ne (by omega),ne' (by omega),ne' (by omega),ne' (by omega),ne' (by omega),ne (by omega),ne (by omega),ne (by omega),ne (by omega),ne (by omega),ne (by omega),ne (by omega),ne (by omega),ne (by omega)⟩
theorem A5:bootBuiltins "zip" = some (.type "zip"):=by decide +kernel
def CA (K:PySem.W.Frag) (ta:TA):TI:=fun σ H R=>ta σ H fun vs H1=>∃ a b,vs = [.ref a,.ref b]/\(∃ xs,ay K H1 a xs)/\(∃ ys,ay K H1 b ys)/\R (y6 K a b) H1
theorem wg {a b:Expr} {ta:TA} {p pos tp:Pos} {elts:List Expr} {kk:Nat} (hg:Gl X "zip") (hm:X.mg "zip" = none) (ha:PA X [a,b] ta) (hs:starEach [a,b] X.env = [(false,eval a X.env),(false,eval b X.env)]:=by rfl) (hs2:starEach [b] X.env = [(false,eval b X.env)]:=by rfl) :
  PI X (.Tuple elts kk tp) (.Call (.Name "zip" p) [a,b] [] pos) (CA X.K ta):=by
 intro pins s σ H R I h
 refine Call_ (kM I hg hm A5 (PyProof.Rows.callWith_type1 (br (ha pos pins s σ H _ I h) fun us s1 ⟨vs,H1,I1,r1,q1⟩=>?_) (by rw [hs,hs2]) (by rw [hs2];rfl)))
 obtain⟨x,y,e,⟨xs,hx⟩,⟨ys,hy⟩,q⟩:=q1
 subst e
 cases r1 with
 | cons r rr =>
  cases rr with
  | cons r' rr =>
   cases rr
   cases r
   cases r'
   obtain⟨is,rx,px,_⟩:=I1.tuple hx
   obtain⟨js,ry,py,_⟩:=I1.tuple hy
   have lx:x < s1.heap.objs.size:=px.lt
   have ly:y < s1.heap.objs.size:=py.lt
   refine zE (show s1.heap.IsTuple x is.toArray from px) (show s1.heap.IsTuple y js.toArray from py) fun g gz gp gq gj gk up=>?_
   refine wpAny_pyIter_zip gz ?_
   have I2:Inv X pins σ H1 { s1 with heap:=g }:=I1.kept (t':=s1.toks) up
   refine⟨_,[s1.heap.objs.size+4,s1.heap.objs.size+2,s1.heap.objs.size+3,s1.heap.objs.size,s1.heap.objs.size+1],_,y6 X.K x y,H1,rfl,I2,xW x y _ _ _ _ _ ?_,⟨gz,gp,⟨_,_,gq⟩,gj,gk⟩,fun c hc=>?_,q⟩
   ·exact CU lx ly
   ·have le:s1.heap.objs.size<=c:=by
     simp only [List.mem_cons,List.not_mem_nil,or_false] at hc
     rcases hc with rfl | rfl | rfl | rfl | rfl
     ·exact Nat.le_add_right _ _
     ·exact Nat.le_add_right _ _
     ·exact Nat.le_add_right _ _
     ·exact Nat.le_refl _
     ·exact Nat.le_add_right _ _
    exact I1.m6 le (I1.aN.fresh le)
theorem wj {K:PySem.W.Frag} {a b acc:Addr} {xs ys:List V} {n:Nat} {js:List Nat} {g:TG} {ct:TT} {te:TE} {σ : St} {H1:Hp} {Q:VK} (Pv:Nat->List V->St->Hp->Prop) (h0:Pv 0 [] (mN n js σ) (upd H1 acc (.lst [])))
  (hl:∀ i zs τ H,i<=min xs.length ys.length->Pv i zs τ H->ay K H a xs/\ay K H b ys/\H acc=some (.lst zs)/\zs.length < sizeLine)
  (hs:∀ i x y zs τ H t,xs[i]? = some x->ys[i]? = some y->H t=none->Pv i zs τ H->g (.ref t) τ (upd H t (.tup [x,y])) fun τ1 H4=>ct τ1 H4 fun b H5=>if b=true then te τ1 H5 fun v H6=>H6 acc=some (.lst zs)/\Pv (i+1) (zs ++ [v]) τ1 (upd H6 acc (.lst (zs ++ [v]))) else Pv (i+1) zs τ1 H5)
  (hd:∀ zs τ H,Pv (min xs.length ys.length) zs τ H->Q (.ref acc) H) :
  uc (y6 K a b) n js g ct te acc σ H1 Q:=by
 refine⟨fun i m zs τ H=>m=min xs.length ys.length - i/\i<=min xs.length ys.length/\Pv i zs τ H,⟨min xs.length ys.length,by simp,Nat.zero_le _,h0⟩,?_⟩
 rintro i m zs τ H ⟨rfl,hi,p⟩
 obtain⟨qa,qb,q2,q3⟩:=hl i zs τ H hi p
 refine⟨q2,q3,?_⟩
 by_cases hlt:i < min xs.length ys.length
 ·have l1:i < xs.length:=by omega
  have l2:i < ys.length:=by omega
  refine .inr ⟨⟨xs,ys,xs[i],ys[i],qa,qb,by simp [l1],by simp [l2]⟩,Pv (i+1),fun zs' τ' H' p'=>⟨min xs.length ys.length - (i+1),by omega,rfl,hlt,p'⟩,fun v H' y=>?_⟩
  obtain⟨t,x,y,rfl,ht,rfl,h⟩:=y
  obtain⟨h1,h2⟩:=h xs ys qa qb
  exact hs i x y zs τ H t h1 h2 ht p
 ·have e:i=min xs.length ys.length:=by omega
  subst e
  refine .inl ⟨⟨xs,ys,qa,qb,?_⟩,hd zs τ H p⟩
  rcases Nat.le_total xs.length ys.length with h | h
  ·exact .inl (by omega)
  ·exact .inr (by omega)
end
structure xX (K:PySem.W.Frag) (mg:Str->Option Value) (nm:Str) (a:Addr) (D:List (Str × Addr)):Prop where
 qd:mg nm=some (.ref a)
 lk:∃ es ep,K.lookup a=some ⟨.type "dict",none,.dict es ep,#[]⟩/\KTD.Rows (fun d v=>v=Value.ref d) es.toList D
section
variable {prog:Program} {w:World} {A:Around} {E:Value->Shared->Prop} {s:Shared}
theorem xY {a d:Addr} {o:Obj} {es:Array DictEntry} {ep:Nat} {k:Str} {t:Tok} {D:List (Str × Addr)} {Q:Option Value->Shared->Prop} (ho:s.heap.get? a=some o) (hd:o.data=.dict es ep)
  (hr:KTD.Rows (fun d v=>v=Value.ref d) es.toList D) (ha:KTD.datumAt k D=some d) (q:Q (some (.ref d)) { s with toks:=s.toks+1 }):wpAny (model prog w) A (dictGet a (.str k t)) Q E s:=by
 unfold dictGet
 try with_reducible refine wpAny_holding ?_
 refine wpAny_bind (wpAny_pyHash_str (wpAny_bind (KTD.kt_dictFind_strs (s:={ s with toks:=s.toks+1 }) ho hd (by have:=hr.exact;obtain⟨l⟩:=es;simpa using this) ?_)))
 have hq:Q (findBy (fun k v=>v.isStr k) es k) { s with toks:=s.toks+1 }:=by
  obtain⟨v,hv,rfl⟩:=hr.find_some ha
  have e:findBy (fun k v=>v.isStr k) es k=some (.ref d):=by
   rw [<-hv]
   obtain⟨l⟩:=es
   simp [findBy]
  rw [e]
  exact q
 rw [findBy_of_findIdx?] at hq
 cases hi:es.findIdx? fun e=>e.key.isStr k with
 | some i=>rw [hi] at hq;exact wpAny_bind (wpAny_dictEntries (s:={ s with toks:=s.toks+1 }) ho hd (wpAny_pure hq))
 | none=>rw [hi] at hq;exact wpAny_pure hq
theorem xZ {a d:Addr} {o:Obj} {es:Array DictEntry} {ep:Nat} {k:Str} {t:Tok} {D:List (Str × Addr)} {Q:Value->Shared->Prop} (ty:s.TypeIs (.ref a) "dict") (ho:s.heap.get? a=some o) (hd:o.data=.dict es ep)
  (hr:KTD.Rows (fun d v=>v=Value.ref d) es.toList D) (ha:KTD.datumAt k D=some d) (q:Q (.ref d) { s with toks:=s.toks+1 }):wpAny (model prog w) A (getItem (.ref a) (.str k t)) Q E s:=by
 unfold getItem
 try with_reducible refine wpAny_holding ?_
 refine wpAny_bind (wpAny_sequenceKey ty (by decide) (wpAny_bind (wpAny_callSpecial?_slot (name:=Str.ofString "__getitem__") ty slot_dict_getitem (wpAny_call_entry slot_dict_getitem ty entry_dict_getitem ?_ (args_dict_getitem _ _)))))
 show wpAny _ _ (dictGet a (.str k t) >>= fun _=>_) _ _ s
 exact wpAny_bind (xY ho hd hr ha (wpAny_pure ⟨_,rfl,wpAny_pure q⟩))
end
section
variable {X:Cx}
theorem o6 {nm:Str} {a:Addr} {D:List (Str × Addr)} {i:Expr} {p pos:Pos} {ty:TE} (G:xX X.K X.mg nm a D) (hg:Gl X nm) (hi:PE X i ty) (hs:uT i) (hdb:(nm == ("__debug__" : Str))=false:=by decide) :
  PE X (.Subscript (.Name nm p) i pos) (fun σ H Q=>ty σ H fun y H1=>∃ x d,y=.str x/\KTD.datumAt x D=some d/\Q (.ref d) H1):=by
 intro pins s σ H Q I h
 obtain⟨es,ep,hk,hr⟩:=G.lk
 refine o3 PySem.F.slot_dict_getitem.lookup hs (br (gu (v:=.ref a) hg G.qd rfl hdb pins s σ H (fun x H1=>x=.ref a/\ty σ H1 fun y H1=>∃ x d,y=.str x/\KTD.datumAt x D=some d/\Q (.ref d) H1) I ⟨rfl,h⟩) fun u s1 ⟨x,H1,I1,rx,ex,q1⟩=>?_)
 subst ex
 obtain rfl:u=Value.ref a:=rx
 refine br (hi pins s1 σ H1 _ I1 q1) fun iv s2 ⟨y,H2,I2,ry,k,d,ey,hd,q2⟩=>?_
 subst ey
 obtain⟨t,rfl⟩:=(show ∃ t,iv=Value.str k t from ry)
 have ho:=I2.iQ a _ hk
 exact⟨⟨_,ho,rfl⟩,xZ ⟨_,ho,rfl⟩ ho rfl hr hd ⟨.ref d,H2,I2.tok _,rfl,q2⟩⟩
end
def pick (w:Str) (xs:List V) (ks:List Str):List V:=((xs.zip ks).filter fun p=>decide (p.2=w)).map (·.1)
def jw (w:Str) (xs:List V) (ks:List Str) (i:Nat):List V:=(((xs.zip ks).take i).filter fun p=>decide (p.2=w)).map (·.1)
theorem uV {w:Str} {xs:List V} {ks:List Str} {i:Nat} {x:V} {k:Str} (hx:xs[i]? = some x) (hk:ks[i]? = some k):jw w xs ks (i+1)=jw w xs ks i++(if k=w then [x] else []):=by
 have hz:(xs.zip ks)[i]? = some (x,k):=by rw [List.getElem?_zip_eq_some];exact⟨hx,hk⟩
 unfold jw
 rw [List.take_add_one,hz,List.filter_append,List.map_append]
 congr 1
 by_cases h:k=w
 ·rw [if_pos h];simp [h]
 ·rw [if_neg h];simp [h]
theorem wm {w:Str} {xs:List V} {ks:List Str}:jw w xs ks (min xs.length (ks.map V.str).length)=pick w xs ks:=by
 unfold jw pick
 rw [List.length_map,List.take_of_length_le (by rw [List.length_zip];exact Nat.le_refl _)]
theorem wo {w:Str} {xs:List V} {ks:List Str} {i:Nat}:(jw w xs ks i).length<=i:=by
 unfold jw
 rw [List.length_map]
 exact Nat.le_trans (List.length_filter_le ..) (by rw [List.length_take];exact Nat.min_le_left ..)
theorem ay.same {K:PySem.W.Frag} {H H':Hp} {a:Addr} {xs:List V} (h:ay K H a xs) (s:ah H H'):ay K H' a xs:=by
 rcases h with h | h
 ·rcases h with h | h
  ·exact .inl (.inl (s _ _ h))
  ·obtain⟨b,hb⟩:=h
   exact .inl (.inr ⟨b,s _ _ hb⟩)
 ·exact .inr h
def mw (K:PySem.W.Frag):Sp:=fun vs H Q _=>∃ (t s:Addr) (v0:V) (xs:List V) (ks:List Str) (w:Str),vs = [.ref t,.ref s,.str w]/\H t=some (.tup (v0 :: xs))/\ay K H s (ks.map V.str)/\xs.length<=1000 /\
 ∀ l H',H' l=some (.lst (pick w xs ks))->ah H H'->Q (.ref l) H'
def KTup (K:PySem.W.Frag) (a:Addr) (ks:List Str):Prop:=∃ (o:Obj) (its:Array Value) (n:Nat),K.lookup a=some o/\o.cls=.type "tuple" /\ o.data=.seq its n/\its.size<=sizeLine/\Vals (ks.map V.str) its.toList
structure rQ (K:PySem.W.Frag) (mg:Str->Option Value) (aE s0 s1 s2 s3:Addr):Prop where
 tab:xX K mg "END_PARTS" aE [("stop",s0),("go",s1),("less",s2),("is",s3)]
 q0:KTup K s0 []
 q1:KTup K s1 ["piece"]
 q2:KTup K s2 ["name", "number", "piece", "piece"]
 q3:KTup K s3 ["name", "number", "piece", "piece"]
def aP:End->List Nat
 | .stop=>[]
 | .go p=>[p]
 | .cC _ _ _ p q=>[p,q]
def kE:End->List Str
 | .stop=>[]
 | .go _=>["piece"]
 | .cC ..=>["name", "number", "piece", "piece"]
def wE:End->Str
 | .stop => "stop"
 | .go _ => "go"
 | .cC b ..=>wT b
theorem wq (e:End):∃ xs,d7 e=.str (wE e) :: xs/\xs.length<=1000/\pick "piece" xs (kE e)=(aP e).map fun k=>V.int (k:Nat):=by
 cases e with
 | stop=>exact⟨[],rfl,by decide,rfl⟩
 | go p=>exact⟨_,rfl,by show 1<=1000;decide,by simp [pick,kE,aP]⟩
 | cC b x n p q =>
  refine⟨_,rfl,by show 4<=1000;decide,?_⟩
  have h1:¬ ("name" : Str) = "piece" := by decide +kernel
  have h2:¬ ("number" : Str) = "piece" := by decide +kernel
  simp [pick,kE,aP,h1,h2]
theorem rQ.at_ {K:PySem.W.Frag} {mg:Str->Option Value} {aE s0 s1 s2 s3:Addr} (G:rQ K mg aE s0 s1 s2 s3) (e:End):∃ s,KTD.datumAt (wE e) [(("stop" : Str),s0),("go",s1),("less",s2),("is",s3)] = some s/\KTup K s (kE e):=by
 have hit:∀ {k:Str} {d:Addr} {D:List (Str × Addr)},KTD.datumAt k ((k,d) :: D)=some d:=fun {k d D}=>by
  show (if decide (k=k)=true then some d else KTD.datumAt k D)=some d
  rw [if_pos (decide_eq_true rfl)]
 have miss:∀ {k x:Str} {d:Addr} {D:List (Str × Addr)} {o:Option Addr},¬ k=x->KTD.datumAt k D=o->KTD.datumAt k ((x,d) :: D)=o:=fun {k x d D o} h e=>by
  show (if decide (k=x)=true then some d else KTD.datumAt k D)=o
  rw [if_neg (by rw [decide_eq_false h];decide)]
  exact e
 cases e with
 | stop=>exact⟨s0,hit,G.q0⟩
 | go p=>exact⟨s1,miss (show ¬ (("go" : Str) = "stop") by decide +kernel) hit,G.q1⟩
 | cC b x n p q =>
  cases b with
  | true=>exact⟨s2,miss (show ¬ (("less" : Str) = "stop") by decide +kernel) (miss (show ¬ (("less" : Str) = "go") by decide +kernel) hit),G.q2⟩
  | false=>exact⟨s3,miss (show ¬ (("is" : Str) = "stop") by decide +kernel) (miss (show ¬ (("is" : Str) = "go") by decide +kernel) (miss (show ¬ (("is" : Str) = "less") by decide +kernel) hit)),G.q3⟩
def jm:Sp:=fun vs H Q _=>∃ (ea:Addr) (e:End),vs = [.ref ea]/\H ea=some (.tup (d7 e))/\∀ t H',H' t=some (.tup ((aP e).map fun k=>V.int (k:Nat)))->ah H H'->Q (.ref t) H'
end L2
namespace LS
open PySem
def Up (xs:Array Nat):Prop:=∀ (i j:Nat) (a b:Nat),i < j->xs[i]? = some a->xs[j]? = some b->a < b
theorem x8 {xs:Array Nat} {j:Nat} (up:Up xs):∀ (fuel lo hi:Nat),hi - lo<=fuel->lo<=hi->hi<=xs.size ->
  (∀ i a,i < lo->xs[i]? = some a->a < j)->(∀ i a,hi<=i->xs[i]? = some a->j<=a) ->
  (∀ i a,i < SetTable.below.go xs j fuel lo hi->xs[i]? = some a->a < j)/\(∀ i a,SetTable.below.go xs j fuel lo hi<=i->xs[i]? = some a->j<=a)/\SetTable.below.go xs j fuel lo hi<=xs.size:=by
 intro fuel
 induction fuel with
 | zero =>
  intro lo hi h1 h2 h3 h4 h5
  have e:lo=hi:=by omega
  subst e
  unfold SetTable.below.go
  exact⟨h4,h5,h3⟩
 | succ f ih =>
  intro lo hi h1 h2 h3 h4 h5
  unfold SetTable.below.go
  by_cases hl:lo < hi
  ·rw [if_pos hl]
   dsimp only
   have hm:(lo+hi) / 2 < hi:=by omega
   have hm2:lo<=(lo+hi) / 2:=by omega
   generalize (lo+hi) / 2=mid at hm hm2
   have hs:mid < xs.size:=by omega
   have hg:xs[mid]? = some xs[mid]:=by simp [hs]
   have hd:xs.getD mid j=xs[mid]:=by simp [Array.getD,hs]
   rw [hd]
   by_cases hc:xs[mid] < j
   ·rw [if_pos hc]
    refine ih (mid+1) hi (by omega) (by omega) h3 (fun i a hi' he=>?_) h5
    by_cases e:i=mid
    ·subst e;rw [hg] at he;cases he;exact hc
    ·have:=up i mid a _ (by omega) he hg;omega
   ·rw [if_neg hc]
    refine ih lo mid (by omega) hm2 (by omega) h4 (fun i a hi' he=>?_)
    by_cases e:i=mid
    ·subst e;rw [hg] at he;cases he;omega
    ·have:=up mid i _ a (by omega) hg he;omega
  ·rw [if_neg hl]
   have e:lo=hi:=by omega
   subst e
   exact⟨h4,h5,h3⟩
theorem ng {xs:Array Nat} {j:Nat} (up:Up xs) :
    (∀ i a,i < SetTable.below xs j->xs[i]? = some a->a < j)/\(∀ i a,SetTable.below xs j<=i->xs[i]? = some a->j<=a)/\SetTable.below xs j<=xs.size :=
  x8 up xs.size 0 xs.size (by omega) (Nat.zero_le _) (Nat.le_refl _) (fun _ _ h=>absurd h (Nat.not_lt_zero _)) (fun i a h e=>by
    have:xs[i]? = none:=by simp;omega
    rw [this] at e;cases e)
theorem rR {α : Type} {xs:Array α} {p:Nat} {x:α} (hp:p<=xs.size) (i:Nat) :
  (SetTable.insertAt xs p x)[i]? = if i < p then xs[i]? else if i=p then some x else xs[i - 1]?:=by
 unfold SetTable.insertAt
 have h1:(xs.extract 0 p).size=p:=by simp;omega
 rw [Array.getElem?_append]
 have h2:((xs.extract 0 p).push x).size=p+1:=by simp;omega
 rw [h2]
 by_cases a:i < p
 ·rw [if_pos (by omega),if_pos a,Array.getElem?_push,h1,if_neg (by omega)]
  rw [Array.getElem?_extract]
  simp;omega
 ·rw [if_neg a]
  by_cases b:i=p
  ·subst b
   rw [if_pos (by omega),if_pos rfl,Array.getElem?_push,h1,if_pos rfl]
  ·rw [if_neg (by omega),if_neg b]
   rw [Array.getElem?_extract]
   have:p+(i - (p+1))=i - 1:=by omega
   rw [this]
   by_cases c:i - 1 < xs.size
   ·simp;omega
   ·have:xs[i - 1]? = none:=by simp;omega
    rw [this];simp
theorem Up.insert {xs:Array Nat} {j:Nat} (up:Up xs) (hn:xs[SetTable.below xs j]? ≠ some j):Up (SetTable.insertAt xs (SetTable.below xs j) j):=by
 obtain⟨h1,h2,h3⟩:=ng (j:=j) up
 generalize SetTable.below xs j=p at h1 h2 h3 hn
 have h2':∀ i a,p<=i->xs[i]? = some a->j < a:=fun i a hi e=>by
  have q:=h2 i a hi e
  by_cases z:i=p
  ·subst z
   rcases Nat.lt_or_ge j a with c | c
   ·exact c
   ·have:a=j:=by omega
    subst this;exact absurd e hn
  ·have hps:p < xs.size:=by
    have:i < xs.size:=by
     rcases Nat.lt_or_ge i xs.size with c | c
     ·exact c
     ·have:xs[i]? = none:=by simp;omega
      rw [this] at e;cases e
    omega
   have e1:xs[p]? = some xs[p]:=by simp [hps]
   have q1:=h2 p _ (Nat.le_refl _) e1
   have q2:=up p i _ _ (by omega) e1 e
   omega
 intro a b x y hab ha hb
 rw [rR h3] at ha hb
 by_cases c1:a < p
 ·rw [if_pos c1] at ha
  by_cases d1:b < p
  ·rw [if_pos d1] at hb;exact up a b _ _ hab ha hb
  ·rw [if_neg d1] at hb
   by_cases d2:b=p
   ·rw [if_pos d2] at hb;cases hb;exact h1 a _ c1 ha
   ·rw [if_neg d2] at hb
    exact Nat.lt_trans (h1 a _ c1 ha) (h2' (b - 1) _ (by omega) hb)
 ·rw [if_neg c1] at ha
  by_cases c2:a=p
  ·rw [if_pos c2] at ha;cases ha
   rw [if_neg (by omega),if_neg (by omega)] at hb
   exact h2' (b - 1) _ (by omega) hb
  ·rw [if_neg c2] at ha
   rw [if_neg (by omega),if_neg (by omega)] at hb
   exact up (a - 1) (b - 1) _ _ (by omega) ha hb
def Rp (t:SetTable):Prop:=t.plain=true->Up t.place
theorem x9 {t:SetTable} {f:Nat->Int} {h:Int}:∀ (fuel:Nat) (p:SetTable.Probe) (j:Nat) (d:Option Nat),(∀ x,p.dummy=some x->t.place[SetTable.below t.place x]? ≠ some x) ->
  SetTable.probe.go t f h fuel p=some (.empty j d)->t.place[SetTable.below t.place (d.getD j)]? ≠ some (d.getD j):=by
 intro fuel
 induction fuel with
 | zero=>intro p j d _ e;unfold SetTable.probe.go at e;cases e
 | succ n ih =>
  intro p j d hd e
  unfold SetTable.probe.go at e
  have adv:∀ q:SetTable.Probe,(t.advance q).dummy=q.dummy:=fun q=>by unfold SetTable.advance;split <;> rfl
  cases hs:t.slot p.j with
  | empty =>
   rw [hs] at e
   dsimp only at e
   injection e with e
   injection e with e1 e2
   subst e1;subst e2
   unfold SetTable.slot at hs
   dsimp only at hs
   split at hs
   ·cases hs
   ·rename_i hne
    cases hdm:p.dummy with
    | none=>intro z;exact hne (by rw [show (none:Option Nat).getD p.j=p.j from rfl] at z;simpa using z)
    | some x=>exact hd x hdm
  | dummy =>
   rw [hs] at e
   dsimp only at e
   refine ih _ j d (fun x hx=>?_) e
   rw [adv] at hx
   injection hx with hx
   subst hx
   unfold SetTable.slot at hs
   dsimp only at hs
   split at hs
   ·cases hs
   ·rename_i hne
    intro z;exact hne (by simpa using z)
  | live i =>
   rw [hs] at e
   dsimp only at e
   split at e
   ·cases e
   ·exact ih _ j d (fun x hx=>hd x (by rw [adv] at hx;exact hx)) e
theorem rS {t:SetTable} {h:Int} {j:Nat} {b:Bool} (e:t.freeSlot h=some (j,b)):t.place[SetTable.below t.place j]? ≠ some j:=by
 unfold SetTable.freeSlot at e
 split at e
 ·rename_i j' d hp
  injection e with e
  injection e with e1 e2
  subst e1
  unfold SetTable.probe at hp
  exact x9 _ _ _ _ (fun x hx=>by cases hx) hp
 ·cases e
theorem Rp.standIn (t:SetTable) (n:Nat):Rp (t.standIn n):=fun h=>by cases h
theorem Rp.layNew {t:SetTable} (r:Rp t) (es:Array (Int × Value)) (h:Int) (x:Value):Rp (layNew t es h x).2.1/\(layNew t es h x).2.1.led=t.led:=by
 unfold PySem.layNew
 split
 ·rename_i j b e
  dsimp only
  unfold SetTable.orStandIn
  split
  ·refine⟨fun hp=>?_,rfl⟩
   exact (r hp).insert (rS e)
  ·exact⟨Rp.standIn _ _,rfl⟩
 ·exact⟨Rp.standIn _ _,rfl⟩
theorem ya (n:Nat) (f:Nat->Option Nat):Up (((List.range n).filterMap fun j=>(f j).map fun k=>(j,k)).map (·.1)).toArray:=by
 have hs:List.Pairwise (· < ·) (((List.range n).filterMap fun j=>(f j).map fun k=>(j,k)).map (·.1)):=by
  have hl:List.Sublist (((List.range n).filterMap fun j=>(f j).map fun k=>(j,k)).map (·.1)) (List.range n):=by
   generalize List.range n=l
   induction l with
   | nil=>exact List.Sublist.refl _
   | cons a l ih =>
    rw [List.filterMap_cons]
    cases e:f a with
    | none=>exact ih.cons a
    | some k=>exact ih.cons₂ a
  exact List.Pairwise.sublist hl List.pairwise_lt_range
 intro i j a b hij ha hb
 rw [List.getElem?_toArray] at ha hb
 have hi:i < _:=(List.getElem?_eq_some_iff.mp ha).1
 have hj:j < _:=(List.getElem?_eq_some_iff.mp hb).1
 have:=List.pairwise_iff_getElem.mp hs i j hi hj hij
 rw [(List.getElem?_eq_some_iff.mp ha).2,(List.getElem?_eq_some_iff.mp hb).2] at this
 exact this
theorem Rp.relayAll (t:SetTable) (es:Array (Int × Value)) (n:Nat):Rp (relayAll t es n).2.1/\(relayAll t es n).2.1.led=t.led:=by
 unfold PySem.relayAll
 split
 ·rename_i t' order e
  dsimp only
  split
  ·unfold SetTable.relaid SetTable.laid at e
   simp only [bind,Option.bind] at e
   split at e
   ·cases e
   ·rename_i owner _
    injection e with e
    injection e with e1 _
    subst e1
    exact⟨fun _=>ya _ _,rfl⟩
  ·exact⟨Rp.standIn _ _,rfl⟩
 ·exact⟨Rp.standIn _ _,rfl⟩
theorem uW {xs:Array Nat} (up:Up xs) {i a:Nat} (e:xs[i]? = some a):SetTable.below xs (a+1)=i+1:=by
 obtain⟨h1,h2,h3⟩:=ng (j:=a+1) up
 have hi:i < xs.size:=(Array.getElem?_eq_some_iff.mp e).1
 rcases Nat.lt_trichotomy (SetTable.below xs (a+1)) (i+1) with c | c | c
 ·have:=h2 i a (by omega) e;omega
 ·exact c
 ·have hs:i+1 < xs.size:=by omega
  have e':xs[i+1]? = some xs[i+1]:=by simp [hs]
  have q1:=h1 (i+1) _ c e'
  have q2:=up i (i+1) _ _ (by omega) e e'
  omega
theorem uX {xs:Array Nat} (up:Up xs):SetTable.below xs 0=0:=by
 obtain⟨h1,h2,h3⟩:=ng (j:=0) up
 rcases Nat.eq_zero_or_pos (SetTable.below xs 0) with c | c
 ·exact c
 ·have e':xs[0]? = some xs[0]:=by simp
  have:=h1 0 _ c e';omega
theorem Up.cD {xs:Array Nat} (h:xs.size<=1):Up xs:=fun i j a b hij ha hb=>by
 have:=(Array.getElem?_eq_some_iff.mp hb).1;omega
open PySem.Spec PyProof.Rows
section
variable {prog:Program} {w:World} {K:Type} [DecidableEq K] {knd:KeyKind prog w K}
variable {A:Around} {E:Value->Shared->Prop} {s:Shared}
def Ent (knd:KeyKind prog w K) (e:Int × Value) (k:K):Prop:=knd.is k e.2=true/\e.1=knd.hash k/\e.2.scannable=true
structure cR (knd:KeyKind prog w K) (h:Heap) (a:Addr) (ks:List K) (o:Obj) (es:Array (Int × Value)) (ep:Nat) (t:SetTable):Prop where
 at_:h.get? a=some o
 ex:o.ExactSet
 data:o.data=.set es ep t
 ents:∃ ls:List K,ls.Perm ks/\Paired (Ent knd) es.toList ls
 nd:ks.Nodup
 cD:es.size < scanBound
 fits:t.fits es.size=true
 led:t.led = !(w.params.followText "set-order")
 up:Rp t
def d8 (knd:KeyKind prog w K) (h:Heap) (a:Addr) (ks:List K):Prop:=∃ o es ep t,cR knd h a ks o es ep t
theorem jE {α β : Type} {F:α->β->Prop}:∀ {l l':List α},l.Perm l'->∀ {m':List β},Paired F l' m'->∃ m,m.Perm m'/\Paired F l m:=by
 intro l l' p
 induction p with
 | nil=>intro m' h;exact⟨m',.refl _,h⟩
 | cons x p ih =>
  intro m' h
  cases h with
  | cons r t=>obtain⟨m,q,e⟩:=ih t;exact⟨_,q.cons _,.cons r e⟩
 | swap x y l =>
  intro m' h
  cases h with
  | cons r t=>cases t with
   | cons r' t'=>exact⟨_,.swap _ _ _,.cons r' (.cons r t')⟩
 | trans p q ih1 ih2 =>
  intro m' h
  obtain⟨m1,a1,b1⟩:=ih2 h
  obtain⟨m2,a2,b2⟩:=ih1 b1
  exact⟨m2,a2.trans a1,b2⟩
theorem iX {α β : Type} {F:α->β->Prop}:∀ {l:List α} {m:List β},Paired F l m->(∀ x ∈ l,∃ y ∈ m,F x y)/\(∀ y ∈ m,∃ x ∈ l,F x y)
 | _,_,.nil=>⟨(fun _ h=>nomatch h),(fun _ h=>nomatch h)⟩
 | _,_,.cons r t=>by
  obtain⟨h1,h2⟩:=iX t
  refine⟨fun x hx=>?_,fun y hy=>?_⟩
  ·rcases List.mem_cons.mp hx with rfl | hx
   ·exact⟨_,List.mem_cons_self ..,r⟩
   ·obtain⟨y,hy,f⟩:=h1 x hx;exact⟨y,List.mem_cons_of_mem _ hy,f⟩
  ·rcases List.mem_cons.mp hy with rfl | hy
   ·exact⟨_,List.mem_cons_self ..,r⟩
   ·obtain⟨x,hx,f⟩:=h2 y hy;exact⟨x,List.mem_cons_of_mem _ hx,f⟩
theorem mQ {α β : Type} {F:α->β->Prop} {x:α} {y:β} (f:F x y):∀ {l:List α} {m:List β},Paired F l m->Paired F (l ++ [x]) (m ++ [y])
 | _,_,.nil=>.cons f .nil
 | _,_,.cons r t=>.cons r (mQ f t)
variable {a:Addr} {ks:List K} {o:Obj} {es:Array (Int × Value)} {ep:Nat} {t:SetTable} {h h':Heap}
theorem cR.elems (S:cR knd h a ks o es ep t):ElemsOf knd es.toList:=fun e he=>by
 obtain⟨ls,_,p⟩:=S.ents
 obtain⟨k,_,f⟩:=(iX p).1 e he
 exact⟨⟨k,f.1,f.2.1⟩,f.2.2⟩
theorem cR.len (S:cR knd h a ks o es ep t):es.size=ks.length:=by
 obtain⟨ls,q,p⟩:=S.ents
 rw [<-Array.length_toList,p.length,q.length_eq]
theorem cR.mem (S:cR knd h a ks o es ep t) (k:K):k ∈ ks ↔ ∃ e ∈ es.toList,knd.is k e.2=true:=by
 obtain⟨ls,q,p⟩:=S.ents
 rw [<-q.mem_iff]
 constructor
 ·intro hk
  obtain⟨e,he,f⟩:=(iX p).2 k hk
  exact⟨e,he,f.1⟩
 ·rintro⟨e,he,f⟩
  obtain⟨k',hk',f'⟩:=(iX p).1 e he
  rw [knd.inj e.2 k k' f f'.1];exact hk'
theorem cR.setOf (S:cR knd h a ks o es ep t):h.SetOf knd a (fun k=>decide (k ∈ ks)) ks.length :=
 ⟨o,es,ep,t,S.at_,S.ex,S.data,S.elems,fun k=>by rw [decide_eq_true_eq];exact S.mem k,S.cD,S.fits,S.len⟩
theorem cR.keep (S:cR knd h a ks o es ep t) (k:∀ o,h.get? a=some o->h'.get? a=some o):cR knd h' a ks o es ep t:={ S with at_:=k _ S.at_ }
theorem d8.keep (S:d8 knd h a ks) (k:∀ o,h.get? a=some o->h'.get? a=some o):d8 knd h' a ks:=let ⟨o,es,ep,t,S⟩:=S;⟨o,es,ep,t,S.keep k⟩
theorem d8.setOf (S:d8 knd h a ks):h.SetOf knd a (fun k=>decide (k ∈ ks)) ks.length:=let ⟨_,_,_,_,S⟩:=S;S.setOf
theorem rT {o:Obj} {es es':Array (Int × Value)} {ep:Nat} {t t':SetTable} (hd:o.data=.set es ep t):Obj.putSet es' t' o = { o with data:=.set es' (ep+1) t' }:=putSet_of es' t' hd
theorem cR.store {es':Array (Int × Value)} {t':SetTable} {ks':List K} (S:cR knd h a ks o es ep t) (he:∃ ls:List K,ls.Perm ks'/\Paired (Ent knd) es'.toList ls) (nd:ks'.Nodup) (cD:es'.size < scanBound)
  (fits:t'.fits es'.size=true) (led:t'.led=t.led) (up:Rp t'):cR knd (h.update a (Obj.putSet es' t')) a ks' { o with data:=.set es' (ep+1) t' } es' (ep+1) t' where
 at_:=by
  have q:=Heap.get?_update_self (Obj.putSet es' t') S.at_ (by rw [rT S.data];rfl)
  rw [rT S.data] at q
  exact q
 ex:=S.ex
 data:=rfl
 ents:=he
 nd:=nd
 cD:=cD
 fits:=fits
 led:=led.trans S.led
 up:=up
theorem nh {g:Bool->Sem Unit} (hg:∀ (b:Bool) (s₁ : Shared) (Q':Unit->Shared->Prop),Q' () s₁->wpAny (model prog w) A (g b) Q' E s₁) {es1:Array (Int × Value)} {t2:SetTable} {ks':List K}
  (S:cR knd s.heap a ks o es ep t) (he:∃ ls:List K,ls.Perm ks'/\Paired (Ent knd) es1.toList ls) (nd:ks'.Nodup) (cD:es1.size < scanBound) (fits:t2.fits es1.size=true) (led:t2.led=t.led) (up:Rp t2) {wd:Bool}
  {R:Option Bool->Shared->Prop} (q:∀ h',Heap.SameBut a s.heap h'->d8 knd h' a ks'->R (some true) { s with heap:=h' }) :
  wpAny (model prog w) A (storeSet a es1 t2 >>= fun _=>if (!wd && t2.tooFull)=true then g (relayAll t2 es1 (SetTable.grown es1.size)).2.2 >>= fun _ =>
   storeSet a (relayAll t2 es1 (SetTable.grown es1.size)).1 (relayAll t2 es1 (SetTable.grown es1.size)).2.1 >>= fun _=>pure (some true) else pure (some true)) R E s:=by
 refine wpAny_bind (wpAny_storeSet_of S.at_ S.data ?_ (fits_of_scanBound cD))
 have S1:=S.store he nd cD fits led up
 have b1:=Heap.SameBut.update s.heap a (Obj.putSet es1 t2)
 by_cases hc:(!wd && t2.tooFull)=true
 ·rw [if_pos hc]
  have p1:=relayAll_perm t2 es1 (SetTable.grown es1.size)
  have p2:=relayAll_fits t2 es1 (SetTable.grown es1.size)
  have p3:=Rp.relayAll t2 es1 (SetTable.grown es1.size)
  generalize relayAll t2 es1 (SetTable.grown es1.size)=R3 at p1 p2 p3
  obtain⟨es3,t3,gv⟩:=R3
  obtain⟨ls,l1,l2⟩:=he
  obtain⟨ls3,l3,l4⟩:=jE p1 l2
  have z:es3.size=es1.size:=by rw [<-Array.length_toList,p1.length_eq,Array.length_toList]
  have few3:es3.size < scanBound:=by rw [z];exact cD
  refine wpAny_bind (hg _ _ _ ?_)
  refine wpAny_bind (wpAny_storeSet_of S1.at_ S1.data ?_ (fits_of_scanBound few3))
  exact wpAny_pure (q _ (b1.trans (Heap.SameBut.update _ a _)) ⟨_,_,_,_,S1.store ⟨ls3,l3.trans l1,l4⟩ nd few3 p2 p3.2 p3.1⟩)
 ·rw [if_neg hc]
  exact wpAny_pure (q _ b1 ⟨_,_,_,_,S1⟩)
theorem uY {k:K} {x:Value} {Q:Bool->Shared->Prop} (hk:knd.is k x=true) (hsc:x.scannable=true) (S:d8 knd s.heap a ks) (room:ks.length+1 < scanBound)
  (q:∀ h',Heap.SameBut a s.heap h'->d8 knd h' a (if k ∈ ks then ks else ks ++ [k])->Q (!decide (k ∈ ks)) { s with heap:=h' }) :
  wpAny (model prog w) A (setAddHashed a x (knd.hash k)) Q E s:=by
 obtain⟨o,es,ep,t,S⟩:=S
 have few1:es.size+1 < scanBound:=by rw [S.len];exact room
 unfold setAddHashed setAddHashedIn
 refine wpAny_holding (wpAny_bind (wpAny_setState_of S.at_ S.data S.fits ?_))
 dsimp only
 rw [byScan_of hsc S.cD S.elems]
 simp only [↓reduceIte]
 unfold setAddByScan
 refine wpAny_bind (wpAny_bind (wpAny_rule ?_))
 refine wpAny_bind (wpAny_setScan_of hk S.at_ S.data S.fits S.elems ?_)
 cases hr:List.findIdx? (fun e=>knd.is k e.2) es.toList with
 | some j =>
  obtain⟨hj,hpj,_⟩:=List.findIdx?_eq_some_iff_getElem.mp hr
  have hin:k ∈ ks:=(S.mem k).mpr ⟨es.toList[j],List.getElem_mem hj,hpj⟩
  refine wpAny_pure (wpAny_pure ?_)
  have:=q s.heap (Heap.SameBut.refl a s.heap) (by rw [if_pos hin];exact⟨o,es,ep,t,S⟩)
  rw [decide_eq_true hin] at this
  exact this
 | none =>
  have hin:¬ k ∈ ks:=fun z=>by
   obtain⟨e,he,hp⟩:=(S.mem k).mp z
   have:=List.findIdx?_eq_none_iff.mp hr e he
   rw [hp] at this;exact Bool.noConfusion this
  rw [if_neg hin,decide_eq_false hin] at q
  have p1:=layNew_perm t es (knd.hash k) x
  have p2:=layNew_fits t es (knd.hash k) x
  have p3:=S.up.layNew es (knd.hash k) x
  dsimp only
  generalize layNew t es (knd.hash k) x=L at p1 p2 p3 ⊢
  obtain⟨es1,t1,wd,gv⟩:=L
  dsimp only at p1 p2 p3 ⊢
  rw [Array.toList_push] at p1
  have hE:∃ ls:List K,ls.Perm (ks ++ [k])/\Paired (Ent knd) es1.toList ls:=by
   obtain⟨ls,l1,l2⟩:=S.ents
   obtain⟨m,m1,m2⟩:=jE p1 (mQ (F:=Ent knd) (x:=(knd.hash k,x)) (y:=k) ⟨hk,rfl,hsc⟩ l2)
   exact⟨m,m1.trans (l1.append_right _),m2⟩
  have nd1:(ks ++ [k]).Nodup:=by
   rw [List.nodup_append]
   exact⟨S.nd,by simp,fun y hy z hz e=>hin (by rw [List.mem_singleton] at hz;rw [<-hz,<-e];exact hy)⟩
  have few2:es1.size < scanBound:=by rw [<-Array.length_toList,p1.length_eq,List.length_append,Array.length_toList];simpa using few1
  have gw:∀ (b:Bool) (s₁ : Shared) (Q':Unit->Shared->Prop),Q' () s₁->wpAny (model prog w) A (match b with | true=>rule "set.scan.the-table-gave-way" | false=>pure ()) Q' E s₁:=fun b s₁ Q' hq=>by
   cases b
   ·exact wpAny_pure hq
   ·exact wpAny_rule hq
  refine wpAny_bind (gw _ _ _ ?_)
  by_cases hp:t1.plain=true
  ·rw [if_pos hp]
   refine wpAny_bind ?_
   rw [hashByValue_scannable 8 hsc]
   refine wpAny_pure ?_
   by_cases hv:plainKind x=true
   ·rw [if_pos hv]
    exact nh gw S hE nd1 few2 p2 p3.2 p3.1 fun h' b Sk=>wpAny_pure (q h' b Sk)
   ·rw [if_neg hv]
    exact nh gw S hE nd1 few2 (SetTable.fits_plain_off p2) p3.2 (fun z=>by cases z) fun h' b Sk=>wpAny_pure (q h' b Sk)
  ·rw [if_neg hp]
   refine wpAny_bind (wpAny_pure ?_)
   rw [if_pos rfl]
   exact nh gw S hE nd1 few2 p2 p3.2 p3.1 fun h' b Sk=>wpAny_pure (q h' b Sk)
theorem lj {led:Bool} (hl:led = !(w.params.followText "set-order")) (at_:h.get? a=some { cls:=.type "set",dict:=none,data:=.set #[] 0 (.fresh 0 0 led) }):d8 knd h a [] :=
 ⟨_,#[],0,_,at_,⟨rfl,rfl,rfl⟩,rfl,⟨[],.refl _,.nil⟩,List.nodup_nil,by decide,by rfl,hl,fun _=>Up.cD (Nat.zero_le _)⟩
end
theorem j6 {α : Type}:∀ (l:List α) (i:Nat) (h:i < l.length),(l[i] :: l.eraseIdx i).Perm l
 | x :: l,0,_=>.refl _
 | x :: l,i+1,h=>by
  have hi:i < l.length:=by simpa using h
  have ih:=j6 l i hi
  show (l[i] :: x :: l.eraseIdx i).Perm (x :: l)
  exact (List.Perm.swap x _ _).trans (ih.cons x)
theorem wu {α : Type} (f:Nat->Nat):∀ (n k:Nat) (l:List α) (out:Array α),l.length=n->(pickOrder.go f n k l out).toList.Perm (out.toList++l):=by
 intro n
 induction n with
 | zero =>
  intro k l out hl
  have:l = []:=List.length_eq_zero_iff.mp hl
  subst this
  unfold pickOrder.go
  simp
 | succ n ih =>
  intro k l out hl
  unfold pickOrder.go
  have hlt:f k % l.length < l.length:=Nat.mod_lt _ (by omega)
  rw [List.getElem?_eq_getElem hlt]
  dsimp only
  refine (ih _ _ _ (by rw [List.length_eraseIdx_of_lt hlt];omega)).trans ?_
  rw [Array.toList_push,List.append_assoc]
  refine List.Perm.append_left _ ?_
  exact j6 _ _ hlt
theorem ig {α : Type} (f:Nat->Nat) (xs:Array α):(pickOrder f xs).toList.Perm xs.toList:=by
 unfold pickOrder
 have:=wu f xs.size 0 xs.toList #[] (by simp)
 simpa using this
section
variable {prog:Program} {w:World} {A:Around} {E:Value->Shared->Prop} {s:Shared}
theorem mx {Q:Bool->Shared->Prop} (q:Q (w.params.followText "set-order") s):wpAny (model prog w) A setsByText Q E s:=by
 unfold setsByText
 exact wpAny_bind (wpAny_askSetting (wpAny_pure q))
theorem zF {src:Source} {n:Nat} {Q:Nat->Shared->Prop} (hn:n ≠ 0) (q:∀ (i:Nat) (d:_),i < n->Q i { s with drawn:=d }):wpAny (model prog w) A (choose src n) Q E s:=by
 intro Γ p hΓ
 show Sem.wp _ _ (.choose src n .pure) _ _ _ _
 rw [Sem.wp_choose]
 exact⟨hn,q _ _ (Nat.mod_lt _ (Nat.pos_of_ne_zero hn))⟩
theorem BG:∀ (n:Nat) (xs:List Nat) (s:Shared) {Q:List Nat->Shared->Prop},xs.length=n->(∀ (ys:List Nat) (d:_),ys.Perm xs->Q ys { s with drawn:=d })->wpAny (model prog w) A (drawOrder n xs) Q E s:=by
 intro n
 induction n with
 | zero =>
  intro xs s Q hl q
  have:xs = []:=List.length_eq_zero_iff.mp hl
  subst this
  unfold drawOrder
  exact wpAny_pure (q [] s.drawn (.refl _))
 | succ n ih =>
  intro xs s Q hl q
  cases xs with
  | nil=>cases hl
  | cons x0 xs =>
   unfold drawOrder
   refine wpAny_bind (zF (by simp) fun i d hi=>?_)
   rw [List.getElem?_eq_getElem hi]
   dsimp only
   refine wpAny_bind (ih _ _ (by rw [List.length_eraseIdx_of_lt hi];omega) fun ys d' hp=>?_)
   refine wpAny_pure (q _ d' ?_)
   exact (hp.cons _).trans (j6 _ _ hi)
end
section
variable {prog:Program} {w:World} {K:Type} [DecidableEq K] {knd:KeyKind prog w K}
variable {A:Around} {E:Value->Shared->Prop} {s:Shared} {a:Addr} {ks:List K} {o:Obj} {es:Array (Int × Value)} {ep:Nat} {t:SetTable}
theorem wx {slot i:Nat} {Q:Option (Value × Nat)->Shared->Prop} (S:cR knd s.heap a ks o es ep t) (hb:w.params.followText "set-order" = true)
  (q:Q (((pickOrder (w.params.setOrder a ep) es)[i]?).map fun e=>(e.2,slot)) s):wpAny (model prog w) A (setNext a slot i ep) Q E s:=by
 unfold setNext
 refine wpAny_bind (wpAny_setState_of S.at_ S.data S.fits ?_)
 dsimp only
 refine wpAny_bind (mx ?_)
 rw [hb,if_pos rfl]
 rw [if_neg (by simp)]
 unfold setWalk
 refine wpAny_bind (wpAny_bind (wpAny_setState_of S.at_ S.data S.fits ?_))
 dsimp only
 refine wpAny_bind (mx ?_)
 rw [hb,if_pos rfl]
 exact wpAny_bind (wpAny_askSetting (wpAny_pure (wpAny_pure q)))
theorem wy {slot i:Nat} {Q:Option (Value × Nat)->Shared->Prop} (S:cR knd s.heap a ks o es ep t) (hb:w.params.followText "set-order" = false) (hd:t.plain=true\/es.size<=1) (hs:SetTable.below t.place slot=i)
  (q:Q (match es[i]?,t.place[i]? with | some (_,x),some j=>some (x,j+1) | _,_=>none) s):wpAny (model prog w) A (setNext a slot i ep) Q E s:=by
 unfold setNext
 refine wpAny_bind (wpAny_setState_of S.at_ S.data S.fits ?_)
 dsimp only
 refine wpAny_bind (mx ?_)
 rw [hb,if_neg Bool.false_ne_true]
 refine wpAny_ite_split (fun h=>absurd (show (!t.plain && decide (es.size > 1))=true from h) ?_) (fun _=>?_)
 ·rcases hd with h | h
  ·rw [h];simp
  ·rw [show decide (es.size > 1)=false by simp;omega];simp
 have hl:t.led=true:=by rw [S.led,hb];rfl
 refine wpAny_bind ?_
 show wpAny _ _ (if (!t.led && !es.isEmpty)=true then unsupported "set:maker-not-led" else pure ()) _ _ s
 rw [hl,if_neg (by simp)]
 refine wpAny_pure ?_
 rw [hs]
 exact wpAny_pure q
theorem Ba {i:Nat} {e:Int × Value} {Q:Value->Shared->Prop} (S:cR knd s.heap a ks o es ep t) (he:es[i]? = some e) (q:Q e.2 s):wpAny (model prog w) A (setNextDrawn a i ep) Q E s:=by
 unfold setNextDrawn
 refine wpAny_bind (wpAny_setState_of S.at_ S.data S.fits ?_)
 dsimp only
 rw [if_neg (by simp)]
 rw [he]
 exact wpAny_pure q
theorem slot_next:Slot "set_iterator" "__next__" "set_iterator.__next__" :=
  Slot.of (owner := "set_iterator") (n := "__next__")
    (by rw [typeLookup_type,builtinLookup_eq_fast]
        kernel_rfl)
    (by decide +kernel)
    (by decide +kernel)
    (by decide +kernel)
    (by first
      | exact .inl (by decide +kernel)
      | exact .inr (by decide +kernel))
    (by rw [isSubtype_type]
        kernel_rfl)
theorem entry_next:entryFor table "set_iterator.__next__" = some Builtin.«set_iterator.__next__» :=
 entryFor_of_tree (by kernel_rfl)
theorem qe:Manifest.owners.lookup (String.ofList ['r','o','t','a','r','e','t','i','_','t','e','s'].reverse)=some Manifest.sig_set_iterator:=by
 kernel_rfl
theorem args_next (v:Value):argsOk "set_iterator.__next__" ⟨[v],[]⟩:=by
 unfold argsOk
 rw [signature?_of (id := "set_iterator.__next__") (n:=['_','_','t','x','e','n','_','_']) (o:=['r','o','t','a','r','e','t','i','_','t','e','s'])
  (by kernel_rfl) qe]
 kernel_rfl
end
def fh (h:Heap) (I:Addr) (first:Value) (i:Nat) (a:Addr) (n ep:Nat):Prop :=
 ∃ oI,h.get? I=some oI/\oI.cls=.type "set_iterator" /\ oI.data=.fields #[first,.int i 0,.ref a,.int n 0,.int ep 0]
theorem fh.type {s:Shared} {I:Addr} {first:Value} {i:Nat} {a:Addr} {n ep:Nat} (h:fh s.heap I first i a n ep):s.TypeIs (.ref I) "set_iterator" := let ⟨o,e,c,_⟩:=h;⟨o,e,c⟩
theorem fh.keep {h h':Heap} {I:Addr} {first:Value} {i:Nat} {a:Addr} {n ep:Nat} (x:fh h I first i a n ep) (k:∀ o,h.get? I=some o->h'.get? I=some o):fh h' I first i a n ep :=
 let ⟨o,e,c⟩:=x;⟨o,k _ e,c⟩
section
variable {prog:Program} {w:World} {K:Type} [DecidableEq K] {knd:KeyKind prog w K}
variable {A:Around} {E:Value->Shared->Prop} {s:Shared} {a I:Addr} {ks:List K} {o:Obj} {es:Array (Int × Value)} {ep:Nat} {t:SetTable}
theorem rV {slot nx i:Nat} {x:Value} {Q:Option Value->Shared->Prop} (hit:fh s.heap I (.int slot 0) i a es.size ep) (S:cR knd s.heap a ks o es ep t)
  (hn:∀ (A:Around) (E:Value->Shared->Prop) (Q:Option (Value × Nat)->Shared->Prop),Q (some (x,nx)) s->wpAny (model prog w) A (setNext a slot i ep) Q E s)
  (q:∀ h',fh h' I (.int nx 0) (i+1) a es.size ep->Heap.SameBut I s.heap h'->Q (some x) { s with heap:=h' }):wpAny (model prog w) A (pyNext (.ref I)) Q E s:=by
 obtain⟨oI,ho,hc,hd⟩:=id hit
 unfold pyNext
 refine wpAny_bind (wpAny_attempt (wpAny_callSpecial?_slot (name:=Str.ofString "__next__") hit.type slot_next (wpAny_call_entry slot_next hit.type entry_next ?_ (args_next _))))
 unfold Builtin.«set_iterator.__next__»
 refine wpAny_bind (wpAny_pure ?_)
 refine wpAny_bind (wpAny_fieldsOf ho hd ?_)
 dsimp only
 refine wpAny_bind (wpAny_setEntries_of S.at_ S.data S.fits ?_)
 rw [if_neg (by simp)]
 simp only [Int.toNat_natCast]
 refine wpAny_bind (hn _ _ _ ?_)
 dsimp only
 refine wpAny_bind (wpAny_setField ho hd (by simp) ?_)
 have d1:(Obj.mapFields (·.setIfInBounds 0 (rawInt (nx:Int))) oI).data=.fields #[.int nx 0,.int i 0,.ref a,.int es.size 0,.int ep 0]:=by rw [Obj.data_mapFields hd];simp [rawInt]
 have g1:=Heap.get?_update_self (Obj.mapFields (·.setIfInBounds 0 (rawInt (nx:Int)))) ho (Obj.isFreed_of_fields (Obj.data_mapFields hd _))
 refine wpAny_bind (wpAny_setField g1 d1 (by simp) ?_)
 refine wpAny_pure ⟨_,rfl,wpAny_pure (q _ ⟨_,Heap.get?_update_self _ g1 (Obj.isFreed_of_fields (Obj.data_mapFields d1 _)),?_,?_⟩ ((Heap.SameBut.update ..).trans (Heap.SameBut.update ..)))⟩
 ·exact (Obj.cls_mapFields ..).trans ((Obj.cls_mapFields ..).trans hc)
 ·rw [Obj.data_mapFields d1];simp [rawInt]
theorem mR {Q:Option Value->Shared->Prop} {s0:Shared} (hh:A.handled=none) (hk:∀ b o,b ≠ I->s0.heap.get? b=some o->s.heap.get? b=some o)
  (q:∀ h',(∀ b o,b ≠ I->s0.heap.get? b=some o->h'.get? b=some o)->Q none { s with heap:=h' }) :
  wpAny (model prog w) A.in1 (newExc (.type "StopIteration") [] >>= fun e=>(raiseNew e:Sem Fin)) (fun _ _=>False)
   (fun e s'=>wpAny (model prog w) A (isInstance e (.type "StopIteration") >>= fun b=>if b=true then pure none else throw e) Q E s') s:=by
 refine wpAny_bind ?_
 simp only [newExc,newTuple]
 refine wpAny_bind (wpAny_newObj_type ?_ (by size_fits))
 refine wpAny_bind (m:=firstArgMember _ _) (wpAny_of_eq (a:=Value.none) (by first | rfl | (simp only [firstArgMember];rfl)) ?_)
 refine wpAny_newObj_type ?_ (by size_fits)
 simp only [raiseNew]
 refine wpAny_bind (wpAny_handled ?_)
 rw [show A.in1.handled=none from hh]
 refine wpAny_bind (wpAny_pure (wpAny_throw ?_))
 refine wpAny_bind (wpAny_isInstance (T := "StopIteration") (b:=true) ⟨_,Heap.get?_push_size _ rfl,rfl⟩ isSubtype_stop ?_)
 exact wpAny_pure (q _ fun b o hb e=>Heap.get?_push_of_some _ (Heap.get?_push_of_some _ (hk b o hb e)))
theorem um {slot i:Nat} {Q:Option Value->Shared->Prop} (hh:A.handled=none) (hit:fh s.heap I (.int slot 0) i a es.size ep) (S:cR knd s.heap a ks o es ep t)
  (hn:∀ (A:Around) (E:Value->Shared->Prop) (Q:Option (Value × Nat)->Shared->Prop),Q none s->wpAny (model prog w) A (setNext a slot i ep) Q E s)
  (q:∀ h',(∀ b o,b ≠ I->s.heap.get? b=some o->h'.get? b=some o)->Q none { s with heap:=h' }):wpAny (model prog w) A (pyNext (.ref I)) Q E s:=by
 obtain⟨oI,ho,hc,hd⟩:=id hit
 unfold pyNext
 refine wpAny_bind (wpAny_attempt (wpAny_callSpecial?_slot (name:=Str.ofString "__next__") hit.type slot_next (wpAny_call_entry slot_next hit.type entry_next ?_ (args_next _))))
 unfold Builtin.«set_iterator.__next__»
 refine wpAny_bind (wpAny_pure ?_)
 refine wpAny_bind (wpAny_fieldsOf ho hd ?_)
 dsimp only
 refine wpAny_bind (wpAny_setEntries_of S.at_ S.data S.fits ?_)
 rw [if_neg (by simp)]
 simp only [Int.toNat_natCast]
 refine wpAny_bind (hn _ _ _ ?_)
 dsimp only
 refine wpAny_bind (wpAny_setField ho hd (by simp) ?_)
 refine wpAny_mono (mR (I:=I) (s0:=s) (E:=E) (Q:=Q) hh (fun b o hb e=>(Heap.get?_update_other _ _ (Ne.symm hb)).trans e) fun h' k=>q h' k) (fun _ _ z=>z.elim) fun e s' z=>z
theorem yb {T:Addr} {i k:Nat} {oT:Obj} {its:Array Value} {c:Nat} {x:Int × Value} {Q:Option Value->Shared->Prop} (hit:fh s.heap I (.ref T) i a es.size ep) (S:cR knd s.heap a ks o es ep t)
  (hT:s.heap.get? T=some oT) (dT:oT.data=.seq its c) (hk:its[i]? = some (.int k 0)) (hx:es[k]? = some x)
  (q:∀ h',fh h' I (.ref T) (i+1) a es.size ep->Heap.SameBut I s.heap h'->Q (some x.2) { s with heap:=h' }):wpAny (model prog w) A (pyNext (.ref I)) Q E s:=by
 obtain⟨oI,ho,hc,hd⟩:=id hit
 unfold pyNext
 refine wpAny_bind (wpAny_attempt (wpAny_callSpecial?_slot (name:=Str.ofString "__next__") hit.type slot_next (wpAny_call_entry slot_next hit.type entry_next ?_ (args_next _))))
 unfold Builtin.«set_iterator.__next__»
 refine wpAny_bind (wpAny_pure ?_)
 refine wpAny_bind (wpAny_fieldsOf ho hd ?_)
 dsimp only
 refine wpAny_bind (wpAny_setEntries_of S.at_ S.data S.fits ?_)
 rw [if_neg (by simp)]
 refine wpAny_bind (wpAny_seqItems hT dT ?_)
 dsimp only
 simp only [Int.toNat_natCast]
 rw [hk]
 dsimp only
 simp only [Int.toNat_natCast]
 refine wpAny_bind (Ba S hx ?_)
 refine wpAny_bind (wpAny_setField ho hd (by simp) ?_)
 refine wpAny_pure ⟨_,rfl,wpAny_pure (q _ ⟨_,Heap.get?_update_self _ ho (Obj.isFreed_of_fields (Obj.data_mapFields hd _)),?_,?_⟩ (Heap.SameBut.update ..))⟩
 ·exact (Obj.cls_mapFields ..).trans hc
 ·rw [Obj.data_mapFields hd];simp [rawInt]
theorem zG {T:Addr} {i:Nat} {oT:Obj} {its:Array Value} {c:Nat} {Q:Option Value->Shared->Prop} (hh:A.handled=none) (hit:fh s.heap I (.ref T) i a es.size ep) (S:cR knd s.heap a ks o es ep t)
  (hT:s.heap.get? T=some oT) (dT:oT.data=.seq its c) (hk:its[i]? = none)
  (q:∀ h',(∀ b o,b ≠ I->s.heap.get? b=some o->h'.get? b=some o)->Q none { s with heap:=h' }):wpAny (model prog w) A (pyNext (.ref I)) Q E s:=by
 obtain⟨oI,ho,hc,hd⟩:=id hit
 unfold pyNext
 refine wpAny_bind (wpAny_attempt (wpAny_callSpecial?_slot (name:=Str.ofString "__next__") hit.type slot_next (wpAny_call_entry slot_next hit.type entry_next ?_ (args_next _))))
 unfold Builtin.«set_iterator.__next__»
 refine wpAny_bind (wpAny_pure ?_)
 refine wpAny_bind (wpAny_fieldsOf ho hd ?_)
 dsimp only
 refine wpAny_bind (wpAny_setEntries_of S.at_ S.data S.fits ?_)
 rw [if_neg (by simp)]
 refine wpAny_bind (wpAny_seqItems hT dT ?_)
 dsimp only
 simp only [Int.toNat_natCast]
 rw [hk]
 dsimp only
 refine wpAny_bind (wpAny_setField ho hd (by simp) ?_)
 have d1:(Obj.mapFields (·.setIfInBounds 0 (rawInt 0)) oI).data=.fields #[.int 0 0,.int i 0,.ref a,.int es.size 0,.int ep 0]:=by rw [Obj.data_mapFields hd];simp [rawInt]
 have g1:=Heap.get?_update_self (Obj.mapFields (·.setIfInBounds 0 (rawInt 0))) ho (Obj.isFreed_of_fields (Obj.data_mapFields hd _))
 refine wpAny_bind (wpAny_setField g1 d1 (by simp) ?_)
 refine wpAny_mono (mR (I:=I) (s0:=s) (E:=E) (Q:=Q) hh (fun b o hb e=>(Heap.get?_update_other _ _ (Ne.symm hb)).trans ((Heap.get?_update_other _ _ (Ne.symm hb)).trans e)) fun h' k=>q h' k) (fun _ _ z=>z.elim) fun e s' z=>z
theorem oh:Slot "set_iterator" "__iter__" "set_iterator.__iter__" :=
  Slot.of (owner := "set_iterator") (n := "__iter__")
    (by rw [typeLookup_type,builtinLookup_eq_fast]
        kernel_rfl)
    (by decide +kernel)
    (by decide +kernel)
    (by decide +kernel)
    (by first
      | exact .inl (by decide +kernel)
      | exact .inr (by decide +kernel))
    (by rw [isSubtype_type]
        kernel_rfl)
theorem tf:entryFor table "set_iterator.__iter__" = some Builtin.«dict_keyiterator.__iter__» :=
 entryFor_alias (id' := "dict_keyiterator.__iter__")
  (by kernel_rfl) rfl
  (by decide +kernel)
  (by kernel_rfl)
theorem uZ (v:Value):argsOk "set_iterator.__iter__" ⟨[v],[]⟩:=by
 unfold argsOk
 rw [signature?_of (id := "set_iterator.__iter__") (n:=['_','_','r','e','t','i','_','_']) (o:=['r','o','t','a','r','e','t','i','_','t','e','s'])
  (by kernel_rfl) qe]
 kernel_rfl
theorem lq {first:Value} {i:Nat} {Q:Value->Shared->Prop} {n:Nat} (hit:fh s.heap I first i a n ep) (q:Q (.ref I) s):wpAny (model prog w) A (pyIter (.ref I)) Q E s:=by
 refine wpAny_pyIter_slot hit.type oh (wpAny_call_entry oh hit.type tf ?_ (uZ _))
 show wpAny _ _ (ret (.ref I)) _ _ s
 exact wpAny_pure ⟨_,rfl, "set_iterator",_,hit.type,slot_next.lookup,q⟩
theorem Bb (hh:A.handled=none) (hI:a ≠ I) (hb:w.params.followText "set-order" = true) (nd:True) :
  Walks prog w A I [I,a] [I] es.size (fun i v=>∃ e,(pickOrder (w.params.setOrder a ep) es)[i]? = some e/\e.2=v) (fun i h=>fh h I (.int 0 0) i a es.size ep/\cR knd h a ks o es ep t) where
 sub:=fun b hb=>by simp at hb;simp [hb]
 frame:=fun _ _ _ st k=>⟨st.1.keep fun o e=>k I (by simp) o e,st.2.keep fun o e=>k a (by simp) o e⟩
 item:=fun i s Q E hi st q=>by
  have z:(pickOrder (w.params.setOrder a ep) es).size=es.size:=by have:=(ig (w.params.setOrder a ep) es).length_eq;simpa using this
  have g:(pickOrder (w.params.setOrder a ep) es)[i]? = some ((pickOrder (w.params.setOrder a ep) es)[i]'(by omega)):=by simp
  refine rV (slot:=0) (nx:=0) st.1 st.2 (fun A E Q h=>wx st.2 hb (by rw [g];exact h)) fun h' hit' sb=>?_
  exact q _ h' s.toks ⟨_,g,rfl⟩ ⟨hit',st.2.keep fun o e=>sb.extBut a o hI e⟩ fun b o hb e=>sb.extBut b o (fun z=>hb (by simp [z])) e
 done:=fun s Q E st q=>by
  have z:(pickOrder (w.params.setOrder a ep) es).size=es.size:=by have:=(ig (w.params.setOrder a ep) es).length_eq;simpa using this
  refine um (slot:=0) hh st.1 st.2 (fun A E Q h=>wx st.2 hb (by rw [Array.getElem?_eq_none (by omega)];exact h)) fun h' k=>?_
  exact q h' s.toks fun b o hb e=>k b o (fun z=>hb (by simp [z])) e
 self:=fun _ _ _ _ st q=>lq st.1 q
theorem ni {α : Type} {es:Array α}:∀ {ys:List Nat},(∀ k ∈ ys,k < es.size)->∀ i:Nat,(ys.filterMap fun k=>es[k]?)[i]? = (ys[i]?).bind fun k=>es[k]?
 | [],_,i=>by simp
 | y :: ys,h,i=>by
  have hy:es[y]? = some (es[y]'(h y (List.mem_cons_self ..))):=by simp
  rw [List.filterMap_cons,hy]
  cases i with
  | zero=>simp
  | succ i =>
   have:=ni (ys:=ys) (fun k hk=>h k (List.mem_cons_of_mem _ hk)) i
   simpa using this
def oi (t:SetTable):Nat->Nat
 | 0=>0
 | i+1=>t.place.getD i 0+1
theorem om {t:SetTable} (up:Up t.place) {i:Nat} (h:i<=t.place.size):SetTable.below t.place (oi t i)=i:=by
 cases i with
 | zero=>exact uX up
 | succ i =>
  have hi:i < t.place.size:=by omega
  have e:t.place[i]? = some (t.place.getD i 0):=by simp [Array.getD,hi]
  exact uW up e
theorem Bc (hh:A.handled=none) (hI:a ≠ I) (hb:w.params.followText "set-order" = false) (hd:t.plain=true\/es.size<=1) (hf:t.fits es.size=true) (hr:Rp t) :
  Walks prog w A I [I,a] [I] es.size (fun i v=>∃ e,es[i]? = some e/\e.2=v) (fun i h=>fh h I (.int (oi t i) 0) i a es.size ep/\cR knd h a ks o es ep t) where
 sub:=fun b hb=>by simp at hb;simp [hb]
 frame:=fun _ _ _ st k=>⟨st.1.keep fun o e=>k I (by simp) o e,st.2.keep fun o e=>k a (by simp) o e⟩
 item:=fun i s Q E hi st q=>by
  have z:t.place.size=es.size:=by simp only [SetTable.fits,Bool.and_eq_true,beq_iff_eq] at hf;exact hf.1
  have up:Up t.place:=by
   rcases hd with c | c
   ·exact hr c
   ·exact Up.cD (by omega)
  have g:es[i]? = some es[i]:=by simp [hi]
  have gp:t.place[i]? = some (t.place.getD i 0):=by simp [Array.getD,z,hi]
  refine rV (slot:=oi t i) (nx:=oi t (i+1)) (x:=es[i].2) st.1 st.2 (fun A E Q h=>wy st.2 hb hd (om up (by omega)) (by rw [g,gp];exact h)) fun h' hit' sb=>?_
  exact q _ h' s.toks ⟨_,g,rfl⟩ ⟨hit',st.2.keep fun o e=>sb.extBut a o hI e⟩ fun b o hb e=>sb.extBut b o (fun z=>hb (by simp [z])) e
 done:=fun s Q E st q=>by
  have z:t.place.size=es.size:=by simp only [SetTable.fits,Bool.and_eq_true,beq_iff_eq] at hf;exact hf.1
  have up:Up t.place:=by
   rcases hd with c | c
   ·exact hr c
   ·exact Up.cD (by omega)
  refine um (slot:=oi t es.size) hh st.1 st.2 (fun A E Q h=>wy st.2 hb hd (om up (by omega)) (by rw [Array.getElem?_eq_none (Nat.le_refl _)];exact h)) fun h' k=>?_
  exact q h' s.toks fun b o hb e=>k b o (fun z=>hb (by simp [z])) e
 self:=fun _ _ _ _ st q=>lq st.1 q
theorem Bd {T:Addr} {oT:Obj} {ys:List Nat} (hh:A.handled=none) (hI:a ≠ I) (hT:T ≠ I) (dT:oT.data=.seq (ys.map fun (i:Nat)=>rawInt i).toArray 0) (hp:ys.Perm (List.range es.size)) :
  Walks prog w A I [I,a,T] [I] es.size (fun i v=>∃ e,((ys.filterMap fun k=>es[k]?))[i]? = some e/\e.2=v) (fun i h=>fh h I (.ref T) i a es.size ep/\cR knd h a ks o es ep t/\h.get? T=some oT) where
 sub:=fun b hb=>by simp at hb;simp [hb]
 frame:=fun _ _ _ st k=>⟨st.1.keep fun o e=>k I (by simp) o e,st.2.1.keep fun o e=>k a (by simp) o e,k T (by simp) _ st.2.2⟩
 item:=fun i s Q E hi st q=>by
  have hl:ys.length=es.size:=by rw [hp.length_eq,List.length_range]
  have hin:∀ k ∈ ys,k < es.size:=fun k hk=>List.mem_range.mp (hp.mem_iff.mp hk)
  have h1:ys[i]? = some (ys[i]'(by omega)):=by simp
  have hk:ys[i]'(by omega) < es.size:=hin _ (List.getElem_mem _)
  generalize ys[i]'(by omega)=k at h1 hk
  have hx:es[k]? = some es[k]:=by simp [hk]
  have hv:(ys.filterMap fun k=>es[k]?)[i]? = some es[k]:=by
   rw [ni hin,h1]
   exact hx
  refine yb (k:=k) (x:=es[k]) st.1 st.2.1 st.2.2 dT (by simp [h1,rawInt]) hx fun h' hit' sb=>?_
  exact q _ h' s.toks ⟨_,hv,rfl⟩ ⟨hit',st.2.1.keep fun o e=>sb.extBut a o hI e,sb.extBut T _ hT st.2.2⟩ fun b o hb e=>sb.extBut b o (fun z=>hb (by simp [z])) e
 done:=fun s Q E st q=>by
  have hl:ys.length=es.size:=by rw [hp.length_eq,List.length_range]
  refine zG hh st.1 st.2.1 st.2.2 dT (by simp [hl]) fun h' k=>?_
  exact q h' s.toks fun b o hb e=>k b o (fun z=>hb (by simp [z])) e
 self:=fun _ _ _ _ st q=>lq st.1 q
theorem lr {b x y:Addr} (h:b ∈ [x,y]):b=x\/b=y:=by simpa using h
theorem yc {b x y z:Addr} (h:b ∈ [x,y,z]):b=x\/b=y\/b=z:=by simpa using h
theorem u7:entryFor table "set.__iter__" = some Builtin.«frozenset.__iter__» :=
 entryFor_alias (id' := "frozenset.__iter__")
  (by kernel_rfl) rfl
  (by decide +kernel)
  (by kernel_rfl)
theorem cR.typeIs (S:cR knd s.heap a ks o es ep t):s.TypeIs (.ref a) "set" := ⟨o,S.at_,S.ex.1⟩
theorem tj {Q:Bool->Shared->Prop} (S:cR knd s.heap a ks o es ep t) (q:Q (!(w.params.followText "set-order") && (!t.plain && decide (es.size > 1))) s):wpAny (model prog w) A (setDrawn a) Q E s:=by
 unfold setDrawn
 refine wpAny_bind (wpAny_setState_of S.at_ S.data S.fits ?_)
 dsimp only
 exact wpAny_bind (mx (wpAny_pure q))
def Comes (es:Array (Int × Value)) (P:Nat->Value->Prop):Prop:=∃ l:List (Int × Value),l.Perm es.toList/\P=fun i v=>∃ e,l[i]? = some e/\e.2=v
theorem yd {Q:Value->Shared->Prop} (hh:A.handled=none) (S:cR knd s.heap a ks o es ep t)
  (q:∀ (I:Addr) (h':Heap) (d:_) (fp:List Addr) (P:Nat->Value->Prop) (St:Nat->Heap->Prop),(∀ b o,s.heap.get? b=some o->h'.get? b=some o)->s.heap.objs.size<=I->(∀ b ∈ fp,b < h'.objs.size)->(∀ b,h'.objs.size<=b->b ∉ fp) ->
   (∀ b ∈ fp,b=a\/s.heap.objs.size<=b)->Comes es P->(∀ A:Around,A.handled=none->Walks prog w A I fp [I] es.size P St)->St 0 h'->Q (.ref I) { s with heap:=h',drawn:=d }) :
  wpAny (model prog w) A (pyIter (.ref a)) Q E s:=by
 have la:a < s.heap.objs.size:=Heap.lt_size S.at_
 refine wpAny_pyIter_slot S.typeIs PySem.F.slot_set_iter (wpAny_call_entry PySem.F.slot_set_iter S.typeIs u7 ?_ (PySem.F.args_set_iter_1 _))
 unfold Builtin.«frozenset.__iter__»
 refine wpAny_bind ?_
 unfold Builtin.Frozenset.slot0
 refine wpAny_bind (wpAny_pure ?_)
 refine wpAny_pure ?_
 refine wpAny_bind ?_
 unfold Builtin.Frozenset.sizeOf
 refine wpAny_bind (wpAny_setEntries_of S.at_ S.data S.fits (wpAny_pure ?_))
 refine wpAny_bind (tj S ?_)
 cases hb:w.params.followText "set-order" with
 | true =>
  rw [Bool.not_true,Bool.false_and,if_neg Bool.false_ne_true]
  refine wpAny_bind (wpAny_pure ?_)
  refine wpAny_bind (wpAny_setEpoch_of S.at_ S.data S.fits ?_)
  refine wpAny_bind ?_
  simp only [newFields]
  refine wpAny_newObj_type (wpAny_pure ⟨_,rfl, "set_iterator",_,⟨_,Heap.get?_push_size _ rfl,rfl⟩,slot_next.lookup,?_⟩) (by size_fits)
  refine q _ _ s.drawn [s.heap.objs.size,a] _ _ (fun b o e=>Heap.get?_push_of_some _ e) (Nat.le_refl _) (fun b hb=>?_) (fun b hb hm=>?_) (fun b hb=>?_) ⟨_,ig (w.params.setOrder a ep) es,?_⟩ (fun A hh=>Bb (knd:=knd) (ks:=ks) (o:=o) (t:=t) hh (Nat.ne_of_lt la) hb trivial) ⟨⟨_,Heap.get?_push_size _ rfl,rfl,rfl⟩,S.keep fun o e=>Heap.get?_push_of_some _ e⟩
  ·rw [Heap.size_push]
   rcases lr hb with e | e
   ·rw [e];exact Nat.lt_succ_self _
   ·rw [e];exact Nat.lt_succ_of_lt la
  ·rw [Heap.size_push] at hb
   rcases lr hm with e | e
   ·rw [e] at hb;exact Nat.not_succ_le_self _ hb
   ·rw [e] at hb;exact Nat.lt_irrefl _ (Nat.lt_of_lt_of_le la (Nat.le_of_succ_le hb))
  ·rcases lr hb with e | e
   ·exact .inr (by rw [e];exact Nat.le_refl _)
   ·exact .inl e
  ·funext i v;simp
 | false =>
  rw [Bool.not_false,Bool.true_and]
  by_cases hd:(!t.plain && decide (es.size > 1))=true
  ·rw [hd,if_pos rfl]
   refine wpAny_bind (BG es.size (List.range es.size) s (by simp) fun ys d hp=>?_)
   have hz:(ys.map fun (i:Nat)=>rawInt i).length<=sizeLine:=by rw [List.length_map,hp.length_eq,List.length_range];exact fits_of_scanBound S.cD
   refine wpAny_bind (wpAny_newTuple ?_ hz)
   have S1:cR knd (s.heap.push { cls:=.type "tuple",data:=.seq (ys.map fun (i:Nat)=>rawInt i).toArray }) a ks o es ep t:=S.keep fun o e=>Heap.get?_push_of_some _ e
   refine wpAny_bind (wpAny_setEpoch_of S1.at_ S1.data S1.fits ?_)
   refine wpAny_bind ?_
   simp only [newFields]
   refine wpAny_newObj_type (wpAny_pure ⟨_,rfl, "set_iterator",_,⟨_,Heap.get?_push_size _ rfl,rfl⟩,slot_next.lookup,?_⟩) (by size_fits)
   refine q _ _ d [(s.heap.push { cls:=.type "tuple",data:=.seq (ys.map fun (i:Nat)=>rawInt i).toArray }).objs.size,a,s.heap.objs.size] _ _ (fun b o e=>Heap.get?_push_of_some _ (Heap.get?_push_of_some _ e)) (by rw [Heap.size_push];exact Nat.le_succ _) (fun b hb=>?_) (fun b hb hm=>?_) (fun b hb=>?_) ⟨ys.filterMap fun k=>es[k]?,?_,rfl⟩
    (fun A hh=>Bd (knd:=knd) (ks:=ks) (o:=o) (t:=t) (oT:={ cls:=.type "tuple",data:=.seq (ys.map fun (i:Nat)=>rawInt i).toArray }) hh (by rw [Heap.size_push];exact Nat.ne_of_lt (Nat.lt_succ_of_lt la)) (by rw [Heap.size_push];exact Nat.ne_of_lt (Nat.lt_succ_self _)) rfl hp) ⟨⟨_,Heap.get?_push_size _ rfl,rfl,rfl⟩,S1.keep fun o e=>Heap.get?_push_of_some _ e,Heap.get?_push_of_some _ (Heap.get?_push_size _ rfl)⟩
   ·rw [Heap.size_push,Heap.size_push]
    rcases yc hb with e | e | e
    ·rw [e,Heap.size_push];exact Nat.lt_succ_self _
    ·rw [e];exact Nat.lt_succ_of_lt (Nat.lt_succ_of_lt la)
    ·rw [e];exact Nat.lt_succ_of_lt (Nat.lt_succ_self _)
   ·rw [Heap.size_push,Heap.size_push] at hb
    rcases yc hm with e | e | e
    ·rw [e,Heap.size_push] at hb;exact Nat.not_succ_le_self _ hb
    ·rw [e] at hb;exact Nat.lt_irrefl _ (Nat.lt_of_lt_of_le la (Nat.le_of_succ_le (Nat.le_of_succ_le hb)))
    ·rw [e] at hb;exact Nat.not_succ_le_self _ (Nat.le_of_succ_le hb)
   ·rcases yc hb with e | e | e
    ·exact .inr (by rw [e,Heap.size_push];exact Nat.le_succ _)
    ·exact .inl e
    ·exact .inr (by rw [e];exact Nat.le_refl _)
   ·refine (hp.filterMap _).trans ?_
    have:((List.range es.size).filterMap fun k=>es[k]?)=es.toList:=by
     refine List.ext_getElem? fun i=>?_
     rw [ni (fun k hk=>List.mem_range.mp hk)]
     by_cases hi:i < es.size
     ·rw [List.getElem?_range hi];simp
     ·rw [List.getElem?_eq_none (by simp;omega),List.getElem?_eq_none (by simp;omega)];rfl
    rw [this]
  ·rw [if_neg hd]
   refine wpAny_bind (wpAny_pure ?_)
   refine wpAny_bind (wpAny_setEpoch_of S.at_ S.data S.fits ?_)
   refine wpAny_bind ?_
   simp only [newFields]
   refine wpAny_newObj_type (wpAny_pure ⟨_,rfl, "set_iterator",_,⟨_,Heap.get?_push_size _ rfl,rfl⟩,slot_next.lookup,?_⟩) (by size_fits)
   have hd':t.plain=true\/es.size<=1:=by
    cases hp:t.plain with
    | true=>exact .inl rfl
    | false=>right;rw [hp] at hd;simp at hd;exact hd
   refine q _ _ s.drawn [s.heap.objs.size,a] _ _ (fun b o e=>Heap.get?_push_of_some _ e) (Nat.le_refl _) (fun b hb=>?_) (fun b hb hm=>?_) (fun b hb=>?_) ⟨es.toList,.refl _,?_⟩ (fun A hh=>Bc (knd:=knd) (ks:=ks) (o:=o) (t:=t) hh (Nat.ne_of_lt la) hb hd' S.fits S.up) ⟨⟨_,Heap.get?_push_size _ rfl,rfl,rfl⟩,S.keep fun o e=>Heap.get?_push_of_some _ e⟩
   ·rw [Heap.size_push]
    rcases lr hb with e | e
    ·rw [e];exact Nat.lt_succ_self _
    ·rw [e];exact Nat.lt_succ_of_lt la
   ·rw [Heap.size_push] at hb
    rcases lr hm with e | e
    ·rw [e] at hb;exact Nat.not_succ_le_self _ hb
    ·rw [e] at hb;exact Nat.lt_irrefl _ (Nat.lt_of_lt_of_le la (Nat.le_of_succ_le hb))
   ·rcases lr hb with e | e
    ·exact .inr (by rw [e];exact Nat.le_refl _)
    ·exact .inl e
   ·funext i v;simp
theorem ye {Q:Bool->Shared->Prop} (hT:s.TypeIs (.ref a) "set") (q:Q false s):wpAny (model prog w) A (Builtin.List.listLengthHint (.ref a)) Q E s:=by
 unfold Builtin.List.listLengthHint
 refine wpAny_bind (wpAny_specialOf hT PySem.F.slot_set_len.lookup ?_)
 generalize hid:("set.__len__" : String)=id0
 wp_delta
 rw [show splitId id0=some ("set", "__len__") from by subst hid;decide +kernel]
 subst hid
 refine wpAny_bind (wpAny_isInstance (T := "set") (b:=true) hT sub_set_self ?_)
 refine wpAny_ite_split (fun hab=>absurd hab (by decide)) (fun _=>?_)
 refine wpAny_ite_split (fun _=>?_) (fun hab=>absurd (by decide +kernel) hab)
 refine wpAny_bind (wpAny_typeOf hT ?_)
 exact wpAny_pure q
end
open PySem.Calls PySem.W
section
variable {prog:Program} {w:World} {K:Type} [DecidableEq K] {knd:KeyKind prog w K}
variable {A:Around} {E:Value->Shared->Prop} {s:Shared} {a:Addr} {ks:List K} {o:Obj} {es:Array (Int × Value)} {ep:Nat} {t:SetTable}
theorem tm {P:Nat->Value->Prop} {got:Array Value} (hc:Comes es P) (hi:ItemsOf P got es.size):∃ l:List (Int × Value),l.Perm es.toList/\got.toList=l.map (·.2):=by
 obtain⟨l,hp,rfl⟩:=hc
 refine⟨l,hp,?_⟩
 have hl:l.length=es.size:=by rw [hp.length_eq,Array.length_toList]
 refine List.ext_getElem? fun i=>?_
 rw [List.getElem?_map]
 by_cases h:i < es.size
 ·have e1:got.toList[i]? = some (got[i]'(by rw [hi.1];exact h)):=by simp [hi.1,h]
  obtain⟨e,he,hv⟩:=hi.2 i _ (by rw [<-Array.getElem?_toList];exact e1)
  rw [e1,he,<-hv];rfl
 ·rw [List.getElem?_eq_none (by rw [Array.length_toList,hi.1];omega),List.getElem?_eq_none (by omega)];rfl
theorem u9 {R:Result->Shared->Prop} (hh:A.handled=none) (S:cR knd s.heap a ks o es ep t) (L:Addr) (hLa:L ≠ a) (hL:s.heap.get? L=some { cls:=.type "list",data:=.seq #[] 0 }) (res:Value)
  (fin:∀ (g:Heap) (tk:Nat) (d:_) (got:Array Value) (c:Nat),(∀ b o,b ≠ L->s.heap.get? b=some o->g.get? b=some o)->g.get? L=some { cls:=.type "list",dict:=none,data:=.seq got c,slots:=#[] } ->
   (∃ l:List (Int × Value),l.Perm es.toList/\got.toList=l.map (·.2))->R (.ok (.ret res)) { s with heap:=g,toks:=tk,drawn:=d }) :
  wpAny (model prog w) A.in1 (Builtin.List.listExtendWith (.ref L) (.ref a) res)
   (fun fin s'=>match fin with | .done f=>R (.ok f) s' | .again c'=>c'.quiet=true/\codeAny (model prog w) A c' R s') (fun e s'=>R (.error e) s') s:=by
 have hz:es.size<=sizeLine:=fits_of_scanBound S.cD
 unfold Builtin.List.listExtendWith
 refine wpAny_bind (wpAny_typeOf S.typeIs ?_)
 have h1:Builtin.List.listSameRef (.ref L) (.ref a)=false:=by simp [Builtin.List.listSameRef,hLa]
 rw [h1]
 have h2:(Value.type "set" == Value.type "list")=false:=by decide
 have h3:(Value.type "set" == Value.type "tuple")=false:=by decide
 rw [h2,h3]
 rw [if_neg (by decide)]
 refine wpAny_bind (yd (A:=A.in1) hh S fun I h1 d fp P St keep hI hfp hnew hof hc W st=>?_)
 have hLlt:L < s.heap.objs.size:=Heap.lt_size hL
 have hLf:L ∉ fp:=fun hm=>by
  rcases hof L hm with e | e
  ·exact hLa e
  ·exact Nat.lt_irrefl _ (Nat.lt_of_lt_of_le hLlt e)
 have hLI:L ≠ I:=fun e=>Nat.lt_irrefl _ (Nat.lt_of_lt_of_le hLlt (e ▸ hI))
 have Wk:=W A.in1 hh
 have loop:∀ (g:Heap) (c tk:Nat),St 0 g->(∀ b o,b ≠ L->s.heap.get? b=some o->g.get? b=some o)->g.get? L=some { cls:=.type "list",data:=.seq #[] c } ->
   codeAny (model prog w) A (.builtin "list.extend.loop" ⟨[.ref L,.ref I,res],[]⟩) R { s with heap:=g,toks:=tk,drawn:=d }:=by
  intro g c tk st' kp gL
  refine codeAny_extend_loopS Wk.toS hz L hLf res es.size 0 _ #[] c rfl (Nat.zero_le _) st' gL (ItemsOf.nil _) fun s' got c' mv gL' its=>?_
  have e:=Moved.eq_with mv
  rw [e]
  refine fin s'.heap s'.toks d got c' (fun b o hb e=>mv.heap b o (fun hm=>?_) (kp b o hb e)) gL' (tm hc its)
  rcases List.mem_cons.mp hm with e' | hm
  ·exact hb e'
  ·rw [List.mem_singleton] at hm
   subst hm
   exact Nat.lt_irrefl _ (Nat.lt_of_lt_of_le (Heap.lt_size e) hI)
 have gL1:=keep _ _ hL
 refine wpAny_bind (wpAny_holding (ye ⟨o,keep _ _ S.at_,S.ex.1⟩ ?_))
 refine wpAny_ite_split (fun _=>?_) (fun _=>wpAny_pure ⟨plainId_quiet PySem.F.plain_extend_loop _,loop _ 0 _ st (fun b o _ e=>keep b o e) gL1⟩)
 refine wpAny_bind (wpAny_rule ?_)
 refine wpAny_bind ?_
 show wpAny _ _ (updateSeq L (·.push .none) >>= fun _=>updateSeq L (·.pop)) _ _ _
 refine wpAny_bind (wpAny_updateSeq gL1 rfl ?_)
 have gL2:=Heap.get?_update_self (Obj.mapSeq (·.push Value.none)) gL1 rfl
 refine wpAny_updateSeq (hz:=by seq_fits) gL2 rfl ?_
 have gL3:=Heap.get?_update_self (Obj.mapSeq (·.pop)) gL2 rfl
 refine wpAny_pure ⟨plainId_quiet PySem.F.plain_extend_loop _,loop _ _ _ ?_ (fun b o hb e=>?_) gL3⟩
 ·refine Wk.frame 0 _ _ st fun b hb o e=>?_
  have hbL:b ≠ L:=fun h=>hLf (h ▸ hb)
  exact (Heap.get?_update_other _ _ (Ne.symm hbL)).trans ((Heap.get?_update_other _ _ (Ne.symm hbL)).trans e)
 ·exact (Heap.get?_update_other _ _ (Ne.symm hb)).trans ((Heap.get?_update_other _ _ (Ne.symm hb)).trans (keep b o e))
theorem oo {G:List Value->Shared->Prop} (calm:A.handled=none) (S:cR knd s.heap a ks o es ep t)
  (fin:∀ (g:Heap) (tk:Nat) (d:_) (got:Array Value),(∀ b o,s.heap.get? b=some o->g.get? b=some o)->(∃ l:List (Int × Value),l.Perm es.toList/\got.toList=l.map (·.2))->s.heap.objs.size<=g.objs.size->G got.toList { s with heap:=g,toks:=tk,drawn:=d }) :
  wpAny (model prog w) A (collect (.ref a)) G E s:=by
 have la:a < s.heap.objs.size:=Heap.lt_size S.at_
 unfold collect
 refine wpAny_bind (wpAny_runValue (codeAny_builtin entry_proto_collect' ?_))
 rw [Around.under_plainId PySem.F.plain_proto_collect _]
 show wpAny _ A.in1 (newList [] >>= fun z=>again (.builtin "list.__iadd__" ⟨[z,.ref a],[]⟩)) _ _ s
 refine wpAny_bind (wpAny_newObj_type (wpAny_pure ⟨plainId_quiet PySem.F.plain_list_iadd _,codeAny_builtin entry_list_iadd' ?_⟩))
 rw [Around.under_plainId PySem.F.plain_list_iadd _]
 show wpAny _ A.in1 (Builtin.List.listExtendWith (.ref s.heap.objs.size) (.ref a) (.ref s.heap.objs.size)) _ _ _
 have made:(s.heap.push { cls:=.type "list",data:=.seq ([]:List Value).toArray }).get? s.heap.objs.size=some { cls:=.type "list",data:=.seq #[] 0 }:=Heap.get?_push_size _ rfl
 have run:=u9 (A:=A) (s:={ s with heap:=s.heap.push { cls:=.type "list",data:=.seq ([]:List Value).toArray } })
  (R:=fun (z:Result) (t:Shared)=>∃ (g:Heap) (tk:Nat) (d:_) (got:Array Value) (c:Nat),z=.ok (.ret (.ref s.heap.objs.size))/\t = { s with heap:=g,toks:=tk,drawn:=d } /\
   (∀ b o,s.heap.get? b=some o->g.get? b=some o)/\g.get? s.heap.objs.size=some { cls:=.type "list",dict:=none,data:=.seq got c,slots:=#[] }/\∃ l:List (Int × Value),l.Perm es.toList/\got.toList=l.map (·.2))
  calm (S.keep fun o e=>Heap.get?_push_of_some _ e) s.heap.objs.size (Nat.ne_of_gt la) made (.ref s.heap.objs.size)
  (fun g tk d got c kept at_ its=>⟨g,tk,d,got,c,rfl,rfl,fun b o e=>kept b o (Nat.ne_of_lt (Heap.lt_size e)) (Heap.get?_push_of_some _ e),at_,its⟩)
 refine wpAny_mono run (fun z t x=>?_) fun z t ⟨_,_,_,_,_,bad,_⟩=>by cases bad
 cases z with
 | done f =>
  obtain⟨g,tk,d,got,c,e,rfl,kept,at_,its⟩:=x
  cases e
  show wpAny _ A (load s.heap.objs.size >>= _) _ _ _
  exact wpAny_bind (wpAny_load at_ (wpAny_pure (fin g tk d got kept its (Nat.le_of_lt (Heap.lt_size at_)))))
 | again more =>
  refine⟨x.1,codeAny_mono x.2 fun z' t' ⟨g,tk,d,got,c,e1,e2,kept,at_,its⟩=>?_⟩
  subst e1 e2
  show wpAny _ A (load s.heap.objs.size >>= _) _ _ _
  exact wpAny_bind (wpAny_load at_ (wpAny_pure (fin g tk d got kept its (Nat.le_of_lt (Heap.lt_size at_)))))
end
end LS
namespace L2
open PySem PySem.Spec PyProof.Rows LS
theorem mS {P:Program} {w:World} {i:Int} {v:Value} (h:(aL P w).is (Sum.inl i) v=true):∃ t,v=.int i t:=by
 rcases cI (show iq (Sum.inl i) v=true from h) with ⟨j,t,e,rfl⟩ | ⟨x,t,e,rfl⟩
 ·cases e;exact⟨t,rfl⟩
 ·cases e
def oq (m:List Key):List Str:=m.filterMap fun k=>match k with | .inr x=>some x | .inl _=>none
def ou (m:List Key):List Int:=m.filterMap fun k=>match k with | .inl x=>some x | .inr _=>none
theorem wz (ss:List Str):oq (ss.map Sum.inr)=ss:=by
 induction ss with
 | nil=>rfl
 | cons x ss ih=>show x :: oq (ss.map Sum.inr)=x :: ss;rw [ih]
theorem wA (ss:List Int):ou (ss.map Sum.inl)=ss:=by
 induction ss with
 | nil=>rfl
 | cons x ss ih=>show x :: ou (ss.map Sum.inl)=x :: ss;rw [ih]
theorem yf {m:List Key} {ss:List Str} (p:m.Perm (ss.map Sum.inr)):m=(oq m).map Sum.inr/\(oq m).Perm ss:=by
 refine⟨?_,by have:=p.filterMap (fun k:Key=>match k with | .inr x=>some x | .inl _=>none);rw [show List.filterMap _ (ss.map Sum.inr)=ss from wz ss] at this;exact this⟩
 have hall:∀ k ∈ m,∃ x,k=Sum.inr x:=fun k hk=>by
  obtain⟨x,_,rfl⟩:=List.mem_map.mp (p.mem_iff.mp hk)
  exact⟨x,rfl⟩
 clear p
 induction m with
 | nil=>rfl
 | cons k m ih =>
  obtain⟨x,rfl⟩:=hall k (List.mem_cons_self ..)
  have:=ih fun k hk=>hall k (List.mem_cons_of_mem _ hk)
  show Sum.inr x :: m=Sum.inr x :: (oq m).map Sum.inr
  rw [<-this]
theorem yg {m:List Key} {ss:List Int} (p:m.Perm (ss.map Sum.inl)):m=(ou m).map Sum.inl/\(ou m).Perm ss:=by
 refine⟨?_,by have:=p.filterMap (fun k:Key=>match k with | .inl x=>some x | .inr _=>none);rw [show List.filterMap _ (ss.map Sum.inl)=ss from wA ss] at this;exact this⟩
 have hall:∀ k ∈ m,∃ x,k=Sum.inl x:=fun k hk=>by
  obtain⟨x,_,rfl⟩:=List.mem_map.mp (p.mem_iff.mp hk)
  exact⟨x,rfl⟩
 clear p
 induction m with
 | nil=>rfl
 | cons k m ih =>
  obtain⟨x,rfl⟩:=hall k (List.mem_cons_self ..)
  have:=ih fun k hk=>hall k (List.mem_cons_of_mem _ hk)
  show Sum.inl x :: m=Sum.inl x :: (ou m).map Sum.inl
  rw [<-this]
section
variable {prog:Program} {w:World} {A:Around} {E:Value->Shared->Prop} {s:Shared} {a:Addr} {ks:List Key} {o:Obj} {es:Array (Int × Value)} {ep:Nat} {t:SetTable}
theorem rW {got:List Value} (S:LS.cR (aL prog w) s.heap a ks o es ep t) (h:∃ l:List (Int × Value),l.Perm es.toList/\got=l.map (·.2)):∃ m:List Key,m.Perm ks/\Paired (fun v k=>(aL prog w).is k v=true) got m:=by
 obtain⟨l,hp,rfl⟩:=h
 obtain⟨ls,q1,q2⟩:=S.ents
 obtain⟨m,m1,m2⟩:=jE hp q2
 refine⟨m,m1.trans q1,?_⟩
 clear hp q2 m1
 induction m2 with
 | nil=>exact .nil
 | cons r _ ih=>exact .cons r.1 ih
theorem lu:∀ {got:List Value} {ss:List Str},Paired (fun v k=>(aL prog w).is k v=true) got (ss.map Sum.inr)->StrsAre got ss
 | _,[],.nil=>.nil
 | _,x :: ss,.cons r t=>by
  obtain⟨t',rfl⟩:=jD r
  exact .cons x t' (lu t)
theorem lB:∀ {got:List Value} {ss:List Int},Paired (fun v k=>(aL prog w).is k v=true) got (ss.map Sum.inl)->IntsAre got ss
 | _,[],.nil=>.nil
 | _,x :: ss,.cons r t=>by
  obtain⟨t',rfl⟩:=mS r
  exact .cons x t' (lB t)
theorem tq {ss:List Str} {Q:Value->Shared->Prop} (hh:A.handled=none) (S:LS.cR (aL prog w) s.heap a (ss.map Sum.inr) o es ep t) (h64:ss.length < 64)
  (q:∀ (h':Heap) (tk:Nat) (d:_) (D:Addr) (out:Array Value) (ss':List Str) (e:Nat),(∀ b o,s.heap.get? b=some o->h'.get? b=some o)->s.heap.objs.size<=D->h'.get? D=some { cls:=.type "list",data:=.seq out e } ->
   StrsAre out.toList ss'->ss'.Perm ss->sortedS ss' = true->Q (.ref D) { s with heap:=h',toks:=tk,drawn:=d }) :
  wpAny (model prog w) A (call (.builtin "sorted") [.ref a]) Q E s:=by
 refine Calls.call_function_entry kind_sorted plain_sorted entry_sorted (args_sorted1 _) ?_
 unfold Builtin.«sorted»
 refine wpAny_bind (m:=checkCount "sorted" 1 1 _) (wpAny_pure ?_)
 refine wpAny_bind (oo (A:=A.in1) hh S fun h' tk d acc hkeep hacc hsz=>?_)
 obtain⟨m,m1,m2⟩:=rW S hacc
 obtain⟨e1,p1⟩:=yf m1
 rw [e1] at m2
 have hS:=lu m2
 have hl:acc.toList.length < 64:=by rw [m2.length,List.length_map,p1.length_eq];exact h64
 refine wpAny_bind (wpAny_newList ?_ (Nat.le_trans (Nat.le_of_lt hl) (by decide)))
 have hoL:(h'.push (seqObj "list" acc.toList.toArray 0)).get? h'.objs.size=some (seqObj "list" acc.toList.toArray 0):=Heap.get?_push_size _ rfl
 refine wpAny_bind (wpAny_holding (wpAny_call_entry slot_list_sort ⟨_,hoL,rfl⟩ entry_list_sort (list_sort_treeK strKind_oneLt hoL hS.keysOf (fun v₁ v₂ rest e=>keyKind_strs (by rw [<-e];exact hS)) hl fun st' a1 a2=>⟨_,rfl,?_⟩) (args_list_sort _)))
 obtain⟨ss',b1,b2,b3⟩:=sorted_out_str hS a1 a2
 obtain⟨e,he⟩:=sortedHeap_at (out:=(arrOf st').map (·.2)) hoL
 refine wpAny_pure ⟨_,rfl,q _ tk d _ _ ss' e (fun b o ho=>?_) hsz he b1 (b2.trans p1) b3⟩
 have h1:=hkeep b o ho
 have hlt:=Heap.lt_size h1
 rw [sortedHeap_old (Nat.ne_of_lt hlt) (by rw [size_push'];exact Nat.lt_succ_of_lt hlt)]
 exact Heap.get?_push_of_some _ h1
theorem tu {ss:List Int} {Q:Value->Shared->Prop} (hh:A.handled=none) (S:LS.cR (aL prog w) s.heap a (ss.map Sum.inl) o es ep t) (h64:ss.length < 64)
  (q:∀ (h':Heap) (tk:Nat) (d:_) (D:Addr) (out:Array Value) (ss':List Int) (e:Nat),(∀ b o,s.heap.get? b=some o->h'.get? b=some o)->s.heap.objs.size<=D->h'.get? D=some { cls:=.type "list",data:=.seq out e } ->
   IntsAre out.toList ss'->ss'.Perm ss->ss'.Pairwise (· <= ·)->Q (.ref D) { s with heap:=h',toks:=tk,drawn:=d }) :
  wpAny (model prog w) A (call (.builtin "sorted") [.ref a]) Q E s:=by
 refine Calls.call_function_entry kind_sorted plain_sorted entry_sorted (args_sorted1 _) ?_
 unfold Builtin.«sorted»
 refine wpAny_bind (m:=checkCount "sorted" 1 1 _) (wpAny_pure ?_)
 refine wpAny_bind (oo (A:=A.in1) hh S fun h' tk d acc hkeep hacc hsz=>?_)
 obtain⟨m,m1,m2⟩:=rW S hacc
 obtain⟨e1,p1⟩:=yg m1
 rw [e1] at m2
 have hS:=lB m2
 have hl:acc.toList.length < 64:=by rw [m2.length,List.length_map,p1.length_eq];exact h64
 refine wpAny_bind (wpAny_newList ?_ (Nat.le_trans (Nat.le_of_lt hl) (by decide)))
 have hoL:(h'.push (seqObj "list" acc.toList.toArray 0)).get? h'.objs.size=some (seqObj "list" acc.toList.toArray 0):=Heap.get?_push_size _ rfl
 refine wpAny_bind (wpAny_holding (wpAny_call_entry slot_list_sort ⟨_,hoL,rfl⟩ entry_list_sort (list_sort_tree hoL hS hl fun out ss' b1 b2 b3=>⟨_,rfl,?_⟩) (args_list_sort _)))
 obtain⟨e,he⟩:=sortedHeap_at (out:=out) hoL
 refine wpAny_pure ⟨_,rfl,q _ tk d _ _ ss' e (fun b o ho=>?_) hsz he b1 (b2.trans p1) b3⟩
 have h1:=hkeep b o ho
 have hlt:=Heap.lt_size h1
 rw [sortedHeap_old (Nat.ne_of_lt hlt) (by rw [size_push'];exact Nat.lt_succ_of_lt hlt)]
 exact Heap.get?_push_of_some _ h1
end
def cx (P:Program) (w:World) (a:Addr) (ks:List Key):HO:=.ext fun h=>d8 (aL P w) h a ks
theorem jR {P:Program} {w:World} {H:Hp} {h:Heap} {a:Addr} {ks:List Key} (S:d8 (aL P w) h a ks):bM P w H h a (cx P w a ks) :=
 ⟨S,let ⟨o,_,_,_,S⟩:=S;⟨o,S.at_⟩,fun h1 h2 S k=>S.keep k⟩
section
variable {X:Cx} {pins:List (Addr × Obj)} {σ : List (Option V)} {H:Hp} {s:Shared}
theorem Inv.o7 {a:Addr} {ks:List Key} (I:Inv X pins σ H s) (h:H a=some (cx X.prog X.w a ks)):d8 (aL X.prog X.w) s.heap a ks:=(I.aN a _ h).1
theorem Inv.uo {d:_} (I:Inv X pins σ H s):Inv X pins σ H { s with drawn:=d }:=⟨I.ok,I.os,I.bare,I.base,I.loc,I.cell,I.free,I.fc,I.pin,I.aN,I.len⟩
theorem qw (hc:X.calm=true):dX X (.builtin "sorted") (fun vs H Q=>∃ (a:Addr) (ss:List Str),vs = [.ref a]/\H a=some (cx X.prog X.w a (ss.map Sum.inr))/\ss.length < 64 /\
  ∀ (l:Addr) (ss':List Str),ss'.Perm ss->sortedS ss' = true->H l=none->Q (.ref l) (upd H l (.lst (ss'.map V.str)))):=by
 intro pins s σ H xs us Q I r h
 obtain⟨a,ss,rfl,ha,h64,q⟩:=h
 obtain⟨u,rfl,ru⟩:=vals1 r
 cases (show u=Value.ref a from ru)
 obtain⟨o,es,ep,t,S⟩:=I.o7 ha
 refine tq (I.ok.hd hc) S h64 fun h' tk d D out ss' e hkeep hD he hS hp hs=>?_
 have hv:Vals (ss'.map V.str) out.toList:=o5 hS
 refine⟨.ref D,_,(I.uo (d:=d)).laid (t':=tk) (o:=.lst (ss'.map V.str)) hkeep hD (show bM X.prog X.w _ h' _ (.lst (ss'.map V.str)) from ⟨?_,out.toList,e,hv,by simpa using he⟩),rfl,q D ss' hp hs (I.aN.fresh hD)⟩
 rw [List.length_map,hp.length_eq]
 exact Nat.le_trans (Nat.le_of_lt h64) (by decide)
theorem kB (hc:X.calm=true):dX X (.builtin "sorted") (fun vs H Q=>∃ (a:Addr) (ss:List Int),vs = [.ref a]/\H a=some (cx X.prog X.w a (ss.map Sum.inl))/\ss.length < 64 /\
  ∀ (l:Addr) (ss':List Int),ss'.Perm ss->ss'.Pairwise (· <= ·)->H l=none->Q (.ref l) (upd H l (.lst (ss'.map V.int)))):=by
 intro pins s σ H xs us Q I r h
 obtain⟨a,ss,rfl,ha,h64,q⟩:=h
 obtain⟨u,rfl,ru⟩:=vals1 r
 cases (show u=Value.ref a from ru)
 obtain⟨o,es,ep,t,S⟩:=I.o7 ha
 refine tu (I.ok.hd hc) S h64 fun h' tk d D out ss' e hkeep hD he hS hp hs=>?_
 have hv:Vals (ss'.map V.int) out.toList:=iC hS
 refine⟨.ref D,_,(I.uo (d:=d)).laid (t':=tk) (o:=.lst (ss'.map V.int)) hkeep hD (show bM X.prog X.w _ h' _ (.lst (ss'.map V.int)) from ⟨?_,out.toList,e,hv,by simpa using he⟩),rfl,q D ss' hp hs (I.aN.fresh hD)⟩
 rw [List.length_map,hp.length_eq]
 exact Nat.le_trans (Nat.le_of_lt h64) (by decide)
end
end L2
namespace LS
open PySem PySem.Spec PyProof.Rows L2
section
variable {K:Type} [DecidableEq K]
def putIn (acc:List K) (k:K):List K:=if k ∈ acc then acc else acc ++ [k]
def cw (ms:List K):List K:=ms.foldl putIn []
theorem eD {acc:List K} {k x:K}:x ∈ putIn acc k ↔ x ∈ acc\/x=k:=by
 unfold putIn
 split
 ·rename_i h
  exact⟨.inl,fun z=>z.elim id (fun e=>e ▸ h)⟩
 ·simp
theorem wB (acc:List K) (k:K):(putIn acc k).length<=acc.length+1:=by unfold putIn;split <;> simp
theorem rX:∀ (ms acc:List K) (x:K),x ∈ ms.foldl putIn acc ↔ x ∈ acc\/x ∈ ms
 | [],acc,x=>by simp
 | k :: ms,acc,x=>by
  rw [List.foldl_cons,rX ms,eD]
  simp [or_assoc]
theorem jx {ms:List K} {x:K}:x ∈ cw ms ↔ x ∈ ms:=by unfold cw;rw [rX];simp
theorem rY:∀ (ms acc:List K),(ms.foldl putIn acc).length<=acc.length+ms.length
 | [],acc=>by simp
 | k :: ms,acc=>by
  rw [List.foldl_cons]
  have:=rY ms (putIn acc k)
  have:=wB acc k
  simp only [List.length_cons];omega
theorem uq:∀ (ms acc:List K),acc.Nodup->(ms.foldl putIn acc).Nodup
 | [],acc,h=>h
 | k :: ms,acc,h=>by
  rw [List.foldl_cons]
  refine uq ms _ ?_
  unfold putIn
  split
  ·exact h
  ·rename_i hn
   rw [List.nodup_append]
   exact⟨h,by simp,fun a ha b hb e=>hn (by rw [List.mem_singleton] at hb;rw [<-hb,<-e];exact ha)⟩
theorem nj (ms:List K):(cw ms).Nodup:=uq ms [] List.nodup_nil
end
section
variable {prog:Program} {w:World} {A:Around} {E:Value->Shared->Prop} {s:Shared}
theorem rZ {k:Key} {v:Value} (h:(aL prog w).is k v=true):v.scannable=true:=by
 rcases cI (show iq k v=true from h) with ⟨j,t,_,rfl⟩ | ⟨x,t,_,rfl⟩ <;> rfl
theorem o8 {a:Addr} {ks:List Key} {k:Key} {v:Value} {Q:Bool->Shared->Prop} (hk:(aL prog w).is k v=true) (S:d8 (aL prog w) s.heap a ks) (room:ks.length+1 < scanBound)
  (q:∀ h',Heap.SameBut a s.heap h'->d8 (aL prog w) h' a (putIn ks k)->∀ c:Bool,Q c { s with heap:=h',toks:=s.toks+1 }):wpAny (model prog w) A (setAdd a v) Q E s:=by
 unfold setAdd
 refine wpAny_holding ?_
 refine wpAny_bind ((aL prog w).pyHash hk ?_)
 exact uY (s:={ s with toks:=s.toks+1 }) hk (rZ hk) S room fun h' b S'=>q h' b S' _
theorem yh {a:Addr} {ks:List Key} {k:Key} {v:Value} {Q:Value->Shared->Prop} (hk:(aL prog w).is k v=true) (S:d8 (aL prog w) s.heap a ks) (room:ks.length+1 < scanBound)
  (q:∀ h',Heap.SameBut a s.heap h'->d8 (aL prog w) h' a (putIn ks k)->Q .none { s with heap:=h',toks:=s.toks+1 }):wpAny (model prog w) A (call (.builtin "set.add") [.ref a,v]) Q E s:=by
 refine wpAny_call_entry PySem.F.slot_set_add S.setOf.typeIs PySem.F.entry_set_add ?_ (PySem.F.args_set_add_2 _ _)
 unfold Builtin.«set.add» Builtin.Frozenset.oneOther
 simp only [List.isEmpty_nil,bind_assoc]
 unfold Builtin.Frozenset.addrOf
 refine wpAny_bind (wpAny_pure ?_)
 refine wpAny_bind (wpAny_pure ?_)
 refine wpAny_bind (o8 hk S room fun h' b S' _=>?_)
 exact wpAny_pure ⟨_,rfl,q h' b S'⟩
theorem wC {I L:Addr} {fp wr:List Addr} {G:Array GenState->Array GenState->Prop} {n:Nat} {P:Nat->Value->Prop} {St:Nat->Shared->Prop} {R:Result->Shared->Prop} (W:WalksS prog w A.in1 I fp wr G n P St) (hLf:L ∉ fp)
  (ms:List Key) (hl:ms.length=n) (hm:∀ i v,P i v->∃ k,ms[i]? = some k/\(aL prog w).is k v=true) (hb:n+1 < scanBound) :
  ∀ (k i:Nat) (s:Shared),n - i=k->i<=n->St i s->d8 (aL prog w) s.heap L (cw (ms.take i)) ->
   (∀ s',Moved (L :: wr) G s s'->d8 (aL prog w) s'.heap L (cw ms)->R (.ok (.ret .none)) s') ->
   codeAny (model prog w) A (.builtin "set.update.loop" ⟨[.ref L,.ref I],[]⟩) R s:=by
 have hLw:L ∉ wr:=fun h=>hLf (W.sub _ h)
 intro k
 induction k with
 | zero =>
  intro i s hk hi st S q
  have e:i=n:=by omega
  subst e
  refine codeAny_builtin PyProof.Rows.F.entry_set_update_loop ?_
  rw [Around.under_plainId PyProof.Rows.F.plain_set_update_loop _]
  show wpAny _ A.in1 (pyNext (.ref I) >>= _) _ _ s
  refine wpAny_bind (W.done s _ _ st fun s' mv=>?_)
  refine wpAny_pure (q s' (mv.mono fun b hb=>List.mem_cons_of_mem _ hb) ?_)
  rw [List.take_of_length_le (by omega)] at S
  exact S.keep fun o e=>mv.heap L _ hLw e
 | succ k ih =>
  intro i s hk hi st S q
  have hlt:i < n:=by omega
  refine codeAny_builtin PyProof.Rows.F.entry_set_update_loop ?_
  rw [Around.under_plainId PyProof.Rows.F.plain_set_update_loop _]
  show wpAny _ A.in1 (pyNext (.ref I) >>= _) _ _ s
  refine wpAny_bind (W.item i s _ _ hlt st fun v s' hP st' mv=>?_)
  obtain⟨key,hkey,his⟩:=hm i v hP
  have S':d8 (aL prog w) s'.heap L (cw (ms.take i)):=S.keep fun o e=>mv.heap L _ hLw e
  refine wpAny_bind (wpAny_holding (o8 his S' ?_ fun h' sb S2 _=>?_))
  ·have h1:=rY (ms.take i) []
   have h2:(ms.take i).length<=i:=by rw [List.length_take];omega
   have h3:(cw (ms.take i)).length<=0+(ms.take i).length:=h1
   omega
  ·have e1:putIn (cw (ms.take i)) key=cw (ms.take (i+1)):=by
    unfold cw
    rw [List.take_add_one,hkey,List.foldl_append];rfl
   rw [e1] at S2
   refine wpAny_pure ⟨plainId_quiet PyProof.Rows.F.plain_set_update_loop _,ih (i+1) _ (by omega) hlt (W.frame _ s' _ _ st' (Nat.le_succ _) fun b hb o e=>?_) S2 fun s'' mv2 S3=>?_⟩
   ·rw [sb.2 b (fun h:b=L=>hLf (by rw [<-h];exact hb))];exact e
   ·refine q s'' (Moved.trans W.gtrans ((mv.mono fun b hb=>List.mem_cons_of_mem _ hb).then_heap (Nat.le_succ _) fun b o hb e=>?_) mv2) S3
    rw [sb.2 b (fun h:b=L=>hb (by rw [h];exact List.mem_cons_self))];exact e
end
theorem j7 {α β : Type} {F:α->β->Prop}:∀ {l:List α} {m:List β},Paired F l m->∀ {i:Nat} {x:α},l[i]? = some x->∃ y,m[i]? = some y/\F x y
 | _,_,.nil,i,x,e=>by simp at e
 | _,_,.cons r _,0,x,e=>by simp at e;subst e;exact⟨_,rfl,r⟩
 | _,_,.cons _ t,i+1,x,e=>by simpa using j7 t (i:=i) (x:=x) (by simpa using e)
def cP (w:World):Obj:={ cls:=.type "set",dict:=none,data:=.set #[] 0 (.fresh 0 0 (!(w.params.followText "set-order"))) }
section
variable {prog:Program} {w:World} {A:Around} {E:Value->Shared->Prop} {s:Shared}
theorem wF (rest:List Value) (hc:checkBuiltinCall "set.__new__" ⟨.type "set" :: rest,[]⟩=pure ()) {Q:Value->Shared->Prop} (q:Q (.ref s.heap.objs.size) { s with heap:=s.heap.push (cP w) }) :
  codeAny (model prog w) A (.call (.builtin "set.__new__") ⟨.type "set" :: rest,[]⟩) (wants Q E) s:=by
 refine codeAny_of_tree ?_
 show wpAny _ A.in1 (checkBuiltinCall "set.__new__" ⟨.type "set" :: rest,[]⟩ >>= fun _=>again (.builtin "set.__new__" ⟨.type "set" :: rest,[]⟩)) _ _ s
 refine wpAny_bind (wpAny_of_eq hc (wpAny_pure ⟨plainId_quiet PySem.F.plain_set_new _,codeAny_builtin PySem.F.entry_set_new ?_⟩))
 rw [Around.under_plainId PySem.F.plain_set_new _]
 unfold Builtin.«set.__new__» Builtin.Frozenset.newClass
 have hsub:=sub_set_self
 obtain⟨hp,g,d,tk,os⟩:=s
 dsimp only
 wp_walk
 refine wpAny_askSetting (wpAny_pure ?_)
 dsimp only
 simp only [newObj]
 refine wpAny_bind (wpAny_alloc (wpAny_pure ?_))
 exact wpAny_pure q
theorem sd {rest:List Value} {Q:Value->Shared->Prop} (hct:checkTypeCall "set" ⟨rest,[]⟩=pure ()) (hcn:checkBuiltinCall "set.__new__" ⟨.type "set" :: rest,[]⟩=pure ())
  (hci:∀ (M:Model) (A:Around) (E:Value->Shared->Prop) (s':Shared) (Q':Unit->Shared->Prop),s'.TypeIs (.ref s.heap.objs.size) "set" -> Q' () s'->wpAny M A (checkBuiltinCall "set.__init__" ⟨.ref s.heap.objs.size :: rest,[]⟩) Q' E s')
  (init:∀ (R:Result->Shared->Prop),(∀ h' tk,(∀ b o,s.heap.get? b=some o->h'.get? b=some o)->Q (.ref s.heap.objs.size) { s with heap:=h',toks:=tk }->R (.ok (.ret .none)) { s with heap:=h',toks:=tk }) ->
   wpAny (model prog w) A.in1.in1 (Builtin.«set.__init__» ⟨.ref s.heap.objs.size :: rest,[]⟩) (fun fin s'=>match fin with | .done f=>R (.ok f) s' | .again c'=>c'.quiet=true/\codeAny (model prog w) A.in1 c' R s') (fun e s'=>R (.error e) s')
    { s with heap:=s.heap.push (cP w) }) :
  wpAny (model prog w) A (call (.type "set") rest) Q E s:=by
 obtain⟨c,tl,hmro⟩:=PySem.F.called_set.mro
 have hmade:=PySem.F.called_set.made
 have hsub:=PySem.F.called_set.sub
 refine wpAny_call (codeAny_of_tree ?_)
 show wpAny _ _ (callAny (.type "set") _) _ _ _
 refine wpAny_pure ⟨Code.quiet_builtin _ (by decide +kernel),codeAny_builtin PySem.F.entry_type_call ?_⟩
 rw [Around.under_plain (weight_type_call_type "set" rest []) rfl]
 have h1:=PySem.F.called_set.notType
 have h2:=PySem.F.called_set.canCreate
 repeat (any_goals (first | assumption | wp_step))
 refine codeAny_mono (wF (w:=w) rest hcn (E:=E) (Q:=fun obj s₁=>obj=.ref s.heap.objs.size/\s₁ = { s with heap:=s.heap.push (cP w) }) ⟨rfl,rfl⟩) fun r s₁ hr=>?_
 cases r with
 | error e=>exact hr
 | ok fl =>
  cases fl with
  | ret obj =>
   obtain⟨rfl,rfl⟩:=hr
   have hS:(s.heap.push (cP w)).get? s.heap.objs.size=some (cP w):=Heap.get?_push_size _ rfl
   have hT:Shared.TypeIs { s with heap:=s.heap.push (cP w) } (.ref s.heap.objs.size) "set" := ⟨_,hS,rfl⟩
   have hli:=PySem.F.called_set.init.lookup
   have hbi:=PySem.F.called_set.init.bind (.ref s.heap.objs.size)
   repeat (any_goals (first | assumption | wp_step))
   refine codeAny_mono (codeAny_call_builtin (R:=wants (fun r s₂=>r=.none/\Q (.ref s.heap.objs.size) s₂) E) PySem.F.called_set.init.plain PySem.F.entry_set_init (hci _ _ _ _ _ hT (init _ fun h' tk _ q=>⟨rfl,q⟩))) fun r₂ s₂ hr₂=>?_
   cases r₂ with
   | error e=>exact hr₂
   | ok fl₂ =>
    cases fl₂ with
    | ret r =>
     obtain⟨rfl,hq⟩:=hr₂
     repeat (any_goals (first | assumption | wp_step))
    | _=>exact hr₂.elim
  | _=>exact hr.elim
theorem wG {Q:Value->Shared->Prop} (q:∀ h',d8 (aL prog w) h' s.heap.objs.size []->(∀ b o,s.heap.get? b=some o->h'.get? b=some o)->Q (.ref s.heap.objs.size) { s with heap:=h' }):wpAny (model prog w) A (call (.type "set") []) Q E s:=by
 refine sd PySem.F.typeCall_set_0 PySem.F.newCall_set_0 (fun M A E s' Q' hT q'=>check_set_init hT q') fun R fin=>?_
 have hS:(s.heap.push (cP w)).get? s.heap.objs.size=some (cP w):=Heap.get?_push_size _ rfl
 have hT:Shared.TypeIs { s with heap:=s.heap.push (cP w) } (.ref s.heap.objs.size) "set" := ⟨_,hS,rfl⟩
 unfold cP at hS hT ⊢
 unfold Builtin.«set.__init__» noKeywords
 wp_walk
 exact fin _ s.toks (fun b o e=>Heap.get?_push_of_some _ e) (q _ (lj rfl hS) fun b o e=>Heap.get?_push_of_some _ e)
theorem set_list {l:Addr} {items:Array Value} {ms:List Key} {Q:Value->Shared->Prop} (hh:A.handled=none) (hl:s.heap.IsList l items) (hm:Paired (fun v k=>(aL prog w).is k v=true) items.toList ms) (hb:items.size+1 < scanBound)
  (q:∀ h' tk,d8 (aL prog w) h' s.heap.objs.size (cw ms)->(∀ b o,s.heap.get? b=some o->h'.get? b=some o)->Q (.ref s.heap.objs.size) { s with heap:=h',toks:=tk }):wpAny (model prog w) A (call (.type "set") [.ref l]) Q E s:=by
 refine sd (PySem.F.typeCall_set_1 _) (PySem.F.newCall_set_1 _) (fun M A E s' Q' hT q'=>check_set_init_1 hT q') fun R fin=>?_
 have hS:(s.heap.push (cP w)).get? s.heap.objs.size=some (cP w):=Heap.get?_push_size _ rfl
 have hT:Shared.TypeIs { s with heap:=s.heap.push (cP w) } (.ref s.heap.objs.size) "set" := ⟨_,hS,rfl⟩
 have hz:(s.heap.push (cP w)).objs.size=s.heap.objs.size+1:=Heap.size_push _ _
 obtain⟨ol,hol,hcl,nl,hdl⟩:=id hl
 obtain⟨ocls,odict,odata,oslots⟩:=ol
 simp only at hcl hdl
 subst hcl
 subst hdl
 have hol':(s.heap.push (cP w)).get? l=some { cls:=.type "list",dict:=odict,data:=.seq items nl,slots:=oslots }:=Heap.get?_push_of_some _ hol
 have hsls:=PySem.F.sub_list_set
 have hslf:=PySem.F.sub_list_frozenset
 have hne:(Value.type "list" == Value.type "dict")=false:=by decide
 have hl1:(s.heap.push (cP w)).IsList l items:=⟨_,hol',rfl,nl,rfl⟩
 have hlS:l < s.heap.objs.size:=Heap.lt_size hol
 unfold cP at hS hT hz hol' hl1 ⊢
 unfold Builtin.«set.__init__» noKeywords Builtin.Frozenset.updateFrom
 generalize hPI:pyIter=PI
 wp_walk
 subst hPI
 refine wpAny_pyIter_list hl1 ?_
 refine wpAny_bind (wpAny_runValue ?_)
 have hh3:A.in1.in1.in1.handled=none:=by simp [hh]
 refine wC (L:=s.heap.objs.size) ((Walks.list hh3 _ l ?_ items).toS) ?_ ms ?_ (fun i v hv=>?_) hb (items.size - 0) 0 _ (by omega) (Nat.zero_le _) ⟨⟨_,Heap.get?_push_size _ rfl,rfl,rfl⟩,(hl1.push _)⟩ ?_ fun s' mv S'=>?_
 ·rw [hz];exact Nat.ne_of_lt (Nat.lt_succ_of_lt hlS)
 ·rw [hz]
  intro hmem
  rcases lr hmem with e | e
  ·exact absurd e (Nat.ne_of_lt (Nat.lt_succ_self _))
  ·exact absurd e (Nat.ne_of_gt hlS)
 ·rw [<-hm.length,Array.length_toList]
 ·have hv':items.toList[i]? = some v:=by rw [Array.getElem?_toList];exact hv
  exact j7 hm hv'
 ·exact lj rfl (Heap.get?_push_of_some _ hS)
 ·obtain⟨h',g',d',tk',os'⟩:=s'
  have eg:g' = s.gens:=mv.gens
  have ed:d' = s.drawn:=mv.drawn
  have eo:os' = s.os:=mv.os
  subst eg;subst ed;subst eo
  have kp:∀ b o,s.heap.get? b=some o->h'.get? b=some o:=fun b o e=>mv.heap b o (fun hm=>by
   rcases lr hm with e' | e'
   ·exact absurd e' (Nat.ne_of_lt (Heap.lt_size e))
   ·rw [hz] at e';exact absurd e' (Nat.ne_of_lt (Nat.lt_succ_of_lt (Heap.lt_size e)))) (Heap.get?_push_of_some _ (Heap.get?_push_of_some _ e))
  show wpAny _ _ _ _ _ _
  refine wpAny_pure ?_
  exact wpAny_pure (fin h' tk' kp (q h' tk' S' kp))
end
end LS
namespace L2
open PySem PySem.Spec PyProof.Rows LS
theorem wH:bootBuiltins "set" = some (.type "set"):=by decide +kernel
theorem zH {K:Type} [DecidableEq K] {k:K} {ks:List K}:decide (k ∈ ks)=true ↔ k ∈ ks:=decide_eq_true_iff
theorem my {P:Program} {w:World} {k:Key} {v:Value} (r:RelV (kV k) v):(aL P w).is k v=true:=by
 cases k with
 | inl i=>obtain⟨t,rfl⟩:=r;exact mI P w i t
 | inr x=>obtain⟨t,rfl⟩:=r;exact mJ P w x t
theorem mT {P:Program} {w:World}:∀ {ks:List Key} {us:List Value},Vals (ks.map kV) us->Paired (fun v k=>(aL P w).is k v=true) us ks
 | [],_,.nil=>.nil
 | k :: ks,_,.cons r t=>.cons (my r) (mT t)
section
variable {X:Cx}
theorem Inv.BQ {pins:List (Addr × Obj)} {σ : List (Option V)} {H:Hp} {s:Shared} {n:Nat} (I:Inv X pins σ H s):Inv X pins σ H { s with toks:=n }:=⟨I.ok,I.os,I.bare,I.base,I.loc,I.cell,I.free,I.fc,I.pin,I.aN,I.len⟩
theorem wI:dX X (.type "set") (fun vs H Q=>vs = []/\∀ l,H l=none->Q (.ref l) (upd H l (cx X.prog X.w l []))):=by
 intro pins s σ H xs us Q I r h
 obtain⟨rfl,q⟩:=h
 cases r
 refine wG fun h' S kp=>?_
 exact⟨.ref s.heap.objs.size,_,I.laid (t':=s.toks) kp (Nat.le_refl _) (jR S),rfl,q _ I.fresh⟩
theorem wJ (hc:X.calm=true):dX X (.type "set") (fun vs H Q=>∃ (p:Addr) (ks:List Key),vs = [.ref p]/\aI X.K H p (ks.map kV)/\ks.length+1 < scanBound/\∀ l,H l=none->Q (.ref l) (upd H l (cx X.prog X.w l (cw ks)))):=by
 intro pins s σ H xs us Q I r h
 obtain⟨p,ks,rfl,hp,hz,q⟩:=h
 obtain⟨u,rfl,ru⟩:=vals1 r
 cases (show u=Value.ref p from ru)
 obtain⟨its,hv,pl,_⟩:=I.list hp
 have hm:=mT (P:=X.prog) (w:=X.w) hv
 refine LS.set_list (I.ok.hd hc) pl.isList (by simpa using hm) (by have:=hm.length;simp at this ⊢;omega) fun h' tk S kp=>?_
 exact⟨.ref s.heap.objs.size,_,I.laid (t':=tk) kp (Nat.le_refl _) (jR S),rfl,q _ I.fresh⟩
def CB (P:Program) (w:World) (neg:Bool):R2:=fun x y H Q=>∃ a ks k,y=.ref a/\H a=some (cx P w a ks)/\x=kV k/\∀ b:Bool,(b=true ↔ k ∈ ks)->Q (.bl (if neg then !b else b)) H
theorem wK:dY X (compareOp .NotIn) (CB X.prog X.w true):=by
 intro pins s σ H x y v u Q I rx ry h
 obtain⟨a,ks,k,rfl,ha,rfl,q⟩:=h
 cases ry
 have hk:(aL X.prog X.w).is k v=true:=my rx
 have S:=(I.o7 ha).setOf
 exact wpAny_notInSet_of hk (rZ hk) S ⟨.bl _,H,I.BQ,rfl,q _ zH⟩
def CC (P:Program) (w:World) (r:V->List V->Hp->VK->Prop) (to:TE) (t:TA):TE:=fun σ H Q=>to σ H fun x H1=>(∃ a ks,x=.ref a/\H1 a=some (cx P w a ks))/\t σ H1 fun xs H2=>r x xs H2 Q
variable {o e:Expr} {es:List Expr} {to:TE} {t:TA} {name:Str} {apos cpos:Pos} {id:String} {r:V->List V->Hp->VK->Prop}
theorem wL (slot:Slot "set" name id) (hty:typeOf (.builtin id)=pure (.type "method_descriptor")) (hm:ua X id r) (ho:PE X o to) (ha:PA X (e :: es) t)
  (hbase:attributeBase o name X.env (eval o X.env)=eval o X.env:=by rfl)
  (hfew:((backTo cpos (starEach (e :: es) X.env)).all (fun x=>!x.1) && (backToKw cpos (keywordEach [] X.env)).all (fun x=>x.1.isSome)
   && decide ((e :: es).length+([]:List Keyword).length+(if ([]:List Keyword).isEmpty then 0 else 1) < 30))=true:=by rfl)
  (hline:(apos.endLine == cpos.line)=true:=by rfl) (hs:starEach (e :: es) X.env=(false,eval e X.env) :: starEach es X.env:=by rfl) (hplain:(backTo cpos (starEach es X.env)).any (·.1)=false:=by rfl) :
  PE X (.Call (.Attribute o name apos) (e :: es) [] cpos) (CC X.prog X.w r to t):=by
 intro pins s σ H Q I h
 refine wpAny_Call_method_late hbase hfew hline rfl (br (ho pins s σ H _ I h) fun v s1 ⟨x,H1,I1,r1,ty,q1⟩=>?_)
 obtain⟨a,ks,rfl,hset⟩:=ty
 cases (show v=Value.ref a from r1)
 have S:=(I1.o7 hset).setOf
 refine⟨"set",id,PySem.F.plainAttrs_set,slot,hty,S.typeIs,S.noDict,?_⟩
 have hA:=ha cpos pins s1 σ H1 _ I1 q1
 rw [hs] at hA ⊢
 refine Calls.callWith_builtin (by show (false || (backTo cpos (starEach es X.env)).any (·.1))=false;rw [hplain] <;> rfl) (Calls.evalArgs_plain ?_)
 exact br hA fun us s2 ⟨vs,H2,I2,r2,q2⟩=>hm pins s2 σ H2 (.ref a) vs (.ref a) us Q I2 rfl r2 q2
def BH (P:Program) (w:World):V->List V->Hp->VK->Prop:=fun x vs H Q=>∃ a ks k,x=.ref a/\vs = [kV k]/\H a=some (cx P w a ks)/\ks.length+1 < scanBound/\Q .bf (upd H a (cx P w a (putIn ks k)))
theorem ur:ua X "set.add" (BH X.prog X.w):=by
 intro pins s σ H x xs v us Q I rx r h
 obtain⟨a,ks,k,rfl,rfl,ha,hz,q⟩:=h
 cases (show v=Value.ref a from rx)
 obtain⟨u,rfl,ru⟩:=vals1 r
 refine yh (my ru) (I.o7 ha) hz fun h' b S'=>?_
 refine⟨.bf,_,I.write (t':=s.toks+1) (x:=a) (e:=a) (by rw [ha];exact trivial) (.inl rfl) (fun c u' hc hu=>b.extBut c u' hc hu) ?_ (jR S'),rfl,q⟩
 obtain⟨o,_,_,_,So⟩:=S'
 exact⟨o,So.at_⟩
end
structure qR (K:PySem.W.Frag) (mg:Str->Option Value) (aD d0 d1 d2 d3 d4:Addr):Prop where
 tab:xX K mg "DEED_PARTS" aD [("put",d0),("copy",d1),("add",d2),("read",d3),("tell",d4)]
 q0:KTup K d0 ["name", "number"]
 q1:KTup K d1 ["name", "name"]
 q2:KTup K d2 ["name", "number"]
 q3:KTup K d3 ["name"]
 q4:KTup K d4 ["name"]
def bY:cL->List Str
 | .put x _=>[x]
 | .copy x y=>[x,y]
 | .add x _=>[x]
 | .read x=>[x]
 | .tell x=>[x]
def gh:End->List Str
 | .cC _ x _ _ _=>[x]
 | _=>[]
def pNames (p:Piece):List Str:=p.1.flatMap bY++gh p.2
def ba (ps:List Piece):List Str:=ps.flatMap pNames
def kD:cL->List Str
 | .put ..=>["name", "number"]
 | .copy ..=>["name", "name"]
 | .add ..=>["name", "number"]
 | .read ..=>["name"]
 | .tell ..=>["name"]
def wD:cL->Str
 | .put .. => "put"
 | .copy .. => "copy"
 | .add .. => "add"
 | .read .. => "read"
 | .tell .. => "tell"
theorem va (d:cL):∃ xs,mq d=.str (wD d) :: xs/\xs.length<=1000/\pick "name" xs (kD d)=(bY d).map V.str:=by
 have h2:¬ ("number" : Str) = "name" := by decide +kernel
 cases d with
 | put x n=>exact⟨_,rfl,by show 2<=1000;decide,by simp [pick,kD,bY,h2]⟩
 | copy x y=>exact⟨_,rfl,by show 2<=1000;decide,by simp [pick,kD,bY]⟩
 | add x n=>exact⟨_,rfl,by show 2<=1000;decide,by simp [pick,kD,bY,h2]⟩
 | read x=>exact⟨_,rfl,by show 1<=1000;decide,by simp [pick,kD,bY]⟩
 | tell x=>exact⟨_,rfl,by show 1<=1000;decide,by simp [pick,kD,bY]⟩
theorem vb (e:End):∃ xs,d7 e=.str (wE e) :: xs/\xs.length<=1000/\pick "name" xs (kE e)=(gh e).map V.str:=by
 have h1:¬ ("piece" : Str) = "name" := by decide +kernel
 have h2:¬ ("number" : Str) = "name" := by decide +kernel
 cases e with
 | stop=>exact⟨[],rfl,by decide,rfl⟩
 | go p=>exact⟨_,rfl,by show 1<=1000;decide,by simp [pick,kE,gh,h1]⟩
 | cC b x n p q=>exact⟨_,rfl,by show 4<=1000;decide,by simp [pick,kE,gh,h1,h2]⟩
theorem jS {k:Str} {d:Addr} {D:List (Str × Addr)}:KTD.datumAt k ((k,d) :: D)=some d:=by
 show (if decide (k=k)=true then some d else KTD.datumAt k D)=some d
 rw [if_pos (decide_eq_true rfl)]
theorem eF {k x:Str} {d:Addr} {D:List (Str × Addr)} {o:Option Addr} (h:¬ k=x) (e:KTD.datumAt k D=o):KTD.datumAt k ((x,d) :: D)=o:=by
 show (if decide (k=x)=true then some d else KTD.datumAt k D)=o
 rw [if_neg (by rw [decide_eq_false h];decide)]
 exact e
theorem qR.at_ {K:PySem.W.Frag} {mg:Str->Option Value} {aD d0 d1 d2 d3 d4:Addr} (G:qR K mg aD d0 d1 d2 d3 d4) (d:cL) :
  ∃ s,KTD.datumAt (wD d) [(("put" : Str),d0),("copy",d1),("add",d2),("read",d3),("tell",d4)] = some s/\KTup K s (kD d):=by
 cases d with
 | put x n=>exact⟨d0,jS,G.q0⟩
 | copy x y=>exact⟨d1,eF (show ¬ (("copy" : Str) = "put") by decide +kernel) jS,G.q1⟩
 | add x n=>exact⟨d2,eF (show ¬ (("add" : Str) = "put") by decide +kernel) (eF (show ¬ (("add" : Str) = "copy") by decide +kernel) jS),G.q2⟩
 | read x=>exact⟨d3,eF (show ¬ (("read" : Str) = "put") by decide +kernel) (eF (show ¬ (("read" : Str) = "copy") by decide +kernel) (eF (show ¬ (("read" : Str) = "add") by decide +kernel) jS)),G.q3⟩
 | tell x=>exact⟨d4,eF (show ¬ (("tell" : Str) = "put") by decide +kernel) (eF (show ¬ (("tell" : Str) = "copy") by decide +kernel) (eF (show ¬ (("tell" : Str) = "add") by decide +kernel) (eF (show ¬ (("tell" : Str) = "read") by decide +kernel) jS))),G.q4⟩
theorem yi (acc ys:List Str):(ys.map (Sum.inr:Str->Key)).foldl LS.putIn (acc.map Sum.inr)=(ys.foldl LS.putIn acc).map Sum.inr:=by
 induction ys generalizing acc with
 | nil=>rfl
 | cons y ys ih =>
  rw [List.map_cons,List.foldl_cons,List.foldl_cons,<-ih]
  congr 1
  unfold LS.putIn
  by_cases h:y ∈ acc
  ·rw [if_pos h,if_pos (List.mem_map.mpr ⟨y,h,rfl⟩)]
  ·rw [if_neg h,if_neg (fun z=>by obtain⟨x,hx,e⟩:=List.mem_map.mp z;cases e;exact h hx),List.map_append];rfl
theorem vc (ys:List Str):cw (ys.map (Sum.inr:Str->Key))=(cw ys).map Sum.inr:=yi [] ys
theorem zI (ys:List Str):(ys.map (Sum.inr:Str->Key)).map kV=ys.map V.str:=by rw [List.map_map];rfl
theorem lC {xs:List Str} {m:Nat} {ps:List Piece} (ok:cq xs m ps):∀ x ∈ ba ps,x ∈ xs:=fun x hx=>by
 obtain⟨p,hp,hx⟩:=List.mem_flatMap.mp hx
 rcases List.mem_append.mp hx with h | h
 ·obtain⟨d,hd,h⟩:=List.mem_flatMap.mp h
  have dk:=(ok.gQ p hp).2 d hd
  cases d with
  | put a n=>rw [List.mem_singleton.mp h];exact dk.1
  | copy a b =>
   rcases List.mem_cons.mp h with rfl | h
   ·exact dk.1
   ·rw [List.mem_singleton.mp h];exact dk.2
  | add a n=>rw [List.mem_singleton.mp h];exact dk.1
  | read a=>rw [List.mem_singleton.mp h];exact dk
  | tell a=>rw [List.mem_singleton.mp h];exact dk
 ·have ek:=ok.ends p hp
  obtain⟨ds,e⟩:=p
  cases e with
  | stop=>cases h
  | go q=>cases h
  | cC b a n q r=>rw [List.mem_singleton.mp h];exact ek.1
theorem jy {α β : Type} {l:List α} {f:α->List β} {i:Nat} {x:α} (h:l[i]? = some x):(l.take (i+1)).flatMap f=(l.take i).flatMap f++f x:=by
 rw [List.take_add_one,h,List.flatMap_append];simp
theorem kC {α β : Type} {l:List α} {f:α->List β} (i:Nat):((l.take i).flatMap f).length<=(l.flatMap f).length:=by
 conv=>rhs;rw [<-List.take_append_drop i l,List.flatMap_append,List.length_append]
 exact Nat.le_add_right _ _
def lF:Sp:=fun vs H Q _=>∃ (plv:V) (ps:List Piece) (xs:List Str) (m:Nat),vs = [plv]/\aV H plv (eN ps)/\cq xs m ps/\xs.length < 64/\(ba ps).length<=4000 /\
 ∀ (t:Addr) (ss:List Str) (H':Hp),H' t=some (.tup (ss.map V.str))->ss.Perm (cw (ba ps))->sortedS ss=true->ss.length < 64->ah H H'->Q (.ref t) H'
theorem nq {xs:List Str} {m:Nat} {ps:List Piece} (ok:cq xs m ps):(cw (ba ps)).length<=xs.length :=
 sub_len (nj _) fun x hx=>lC ok x (jx.mp hx)
end L2
namespace PySem
theorem qx:typeLookup (.type "tuple") "keys" = pure none:=by rw [typeLookup_type,builtinLookup_eq_fast];kernel_rfl
section
variable {prog:Program} {w:World} {A:Around} {E:Value->Shared->Prop} {s:Shared}
theorem qy {a:Addr} {xs:Array Value} {k:Nat} {sl:Array (Option Value)} {name:Str} {u:Tok} {Q:Value->Shared->Prop} (hx:s.heap.get? a=some { cls:=.type "tuple",dict:=none,data:=.seq xs k,slots:=sl })
  (miss:typeLookup (.type "tuple") name=pure none) (plain:(["__module__", "__name__", "__qualname__", "__doc__", "__annotations__"]:List Str).contains name=false) (calm:A.handled=none) (fits:name.length+100<=sizeLine)
  (fin:∀ g tk e,Heap.NewExcOf s.heap g e "AttributeError" -> E (.ref e) { s with heap:=g,toks:=tk }):wpAny (model prog w) A (getAttrBy (.ref a) (.str name u) false) Q E s:=by
 obtain⟨hp,gs,dr,tk,os⟩:=s
 have hT:∀ tk',(⟨hp,gs,dr,tk',os⟩:Shared).TypeIs (.ref a) "tuple" := fun _=>⟨_,hx,rfl⟩
 have f1:=sub_AttributeError
 have f3:=F.slot_tuple_getattribute.lookup
 have f4:=F.slot_tuple_getattribute.bind (.ref a)
 have f5:=am_tuple_getattr_none
 unfold getAttrBy
 repeat (any_goals (first | exact hT _ | assumption | ((with_reducible show wpAny _ _ (call (Value.builtin "tuple.__getattribute__") _ _) _ _ _);refine call_meets F.slot_tuple_getattribute (hT _) am_entry_tuple_getattribute (F.args_tuple_getattribute_2 _ _) (meets_getattribute_miss_tuple a xs k sl name _ miss plain fits) ⟨hx,calm,fun g t e ne=>?_⟩) | wp_step))
 obtain⟨t',u',there⟩:=ne.there
 show wpAny _ _ (getattributeRaised _ _ _ _ _ _ _) _ _ _
 unfold getattributeRaised
 repeat (any_goals (first | wp_step | assumption))
 exact fin g _ e ne.of
theorem ow {a:Addr} {xs:Array Value} {k:Nat} {sl:Array (Option Value)} {Q:Option Value->Shared->Prop} (hx:s.heap.get? a=some { cls:=.type "tuple",dict:=none,data:=.seq xs k,slots:=sl }) (calm:A.handled=none)
  (fin:∀ g tk,(∀ b o,s.heap.get? b=some o->g.get? b=some o)->Q none { s with heap:=g,toks:=tk }):wpAny (model prog w) A (getAttr? (.ref a) "keys") Q E s:=by
 unfold getAttr? getAttrBy?
 refine wpAny_bind (wpAny_mkText ?_)
 refine wpAny_bind (wpAny_attempt ?_)
 refine qy (s:={ s with toks:=s.toks+1 }) hx qx (by decide +kernel) calm (by decide +kernel) fun g tk e ne=>?_
 obtain⟨ob,vs,he,hc,_⟩:=ne.there
 have hT:({ s with heap:=g,toks:=tk }:Shared).TypeIs (.ref e) "AttributeError" := ⟨ob,he,hc⟩
 refine wpAny_bind (wpAny_isInstance hT sub_AttributeError ?_)
 exact wpAny_pure (fin g tk ne.keeps)
end
end PySem
namespace PySem
theorem jT:entryFor table "dict.update.loop" = some Builtin.«dict.update.loop»:=entryFor_of_tree (by kernel_rfl)
theorem fQ:plainId "dict.update.loop" = true:=by decide +kernel
section
variable {prog:Program} {w:World} {K:Type} [DecidableEq K] {knd:KeyKind prog w K} {A:Around} {s:Shared}
def se (knd:KeyKind prog w K) (h:Heap) (q:Addr) (p:K × Value):Prop:=∃ key n sl,h.get? q=some { cls:=.type "tuple",dict:=none,data:=.seq #[key,p.2] n,slots:=sl }/\knd.is p.1 key=true
theorem qA {E:Value->Shared->Prop} {q:Addr} {x y:Value} {n:Nat} {sl:Array (Option Value)} {Q:List Value->Shared->Prop} (hq:s.heap.get? q=some { cls:=.type "tuple",dict:=none,data:=.seq #[x,y] n,slots:=sl })
  (fin:Q [x,y] s):wpAny (model prog w) A (Builtin.Dict.pairItems (.ref q)) Q E s:=by
 have hT:s.TypeIs (.ref q) "tuple" := ⟨_,hq,rfl⟩
 unfold Builtin.Dict.pairItems
 refine wpAny_bind (wpAny_typeOf hT ?_)
 rw [if_pos (by decide)]
 unfold seqItems?
 obtain⟨hp,gs,dr,tk,os⟩:=s
 repeat (any_goals (first | wp_step | assumption))
theorem vd {E:Value->Shared->Prop} {d I ax:Addr} {items:Array Value} {rs:List (K × Value)} {R:Result->Shared->Prop} {h0:Heap} (calm:A.handled=none) (ndI:d ≠ I) (nda:d ≠ ax) (nax:ax ≠ I) (len:rs.length=items.size) (cD:rs.length<=sizeLine)
  (pairs:∀ (i:Nat) (p:K × Value),rs[i]? = some p->∃ q,items[i]? = some (.ref q)/\q ≠ d/\q ≠ I/\se knd h0 q p)
  (fin:∀ (g:Heap) (tk:Nat),g.DictOf knd d (merged [] rs)->(∀ b o,b ≠ d->b ≠ I->h0.get? b=some o->g.get? b=some o)->R (.ok (.ret .none)) { s with heap:=g,toks:=tk }) :
  ∀ (m i:Nat) (h:Heap) (tk:Nat) (t:Tok),rs.length - i=m->i<=rs.length->h.IsTupleIter I ax i->h.IsTuple ax items->h.DictOf knd d (merged [] (rs.take i))->(∀ b o,b ≠ d->b ≠ I->h0.get? b=some o->h.get? b=some o) ->
   codeAny (model prog w) A (.builtin "dict.update.loop" ⟨[.ref d,.ref I,.int i t,.none],[]⟩) R { s with heap:=h,toks:=tk }:=by
 have W:=Walks.tuple (prog:=prog) (w:=w) (A:=A.in1) calm I ax nax items
 intro m
 induction m with
 | zero =>
  intro i h tk t em hi it ta dd kp
  have ei:i=rs.length:=by omega
  subst ei
  refine codeAny_builtin jT ?_
  rw [Around.under_plainId fQ _]
  show wpAny _ A.in1 (pyNext (.ref I) >>= _) _ _ _
  refine wpAny_bind (W.done { s with heap:=h,toks:=tk } _ _ ⟨by rw [<-len];exact it,ta⟩ fun g tk' kg=>?_)
  show wpAny _ A.in1 (Builtin.Dict.addKeywords d [] >>= fun _=>ret Value.none) _ _ _
  refine wpAny_bind (wpAny_pure ?_)
  refine wpAny_pure (fin g tk' ?_ fun b o n1 n2 e=>kg b o (by simpa using n2) (kp b o n1 n2 e))
  rw [List.take_length] at dd
  obtain⟨ob,es,ep,ho,rest⟩:=dd
  exact⟨ob,es,ep,kg d ob (by simpa using ndI) ho,rest⟩
 | succ m ih =>
  intro i h tk t em hi it ta dd kp
  have hlt:i < rs.length:=by omega
  have hp:rs[i]? = some rs[i]:=by simp [hlt]
  generalize rs[i] = p at hp
  obtain⟨q,hq,nqd,nqI,key,n,sl,hqo,hkey⟩:=pairs i p hp
  refine codeAny_builtin jT ?_
  rw [Around.under_plainId fQ _]
  show wpAny _ A.in1 (pyNext (.ref I) >>= _) _ _ _
  refine wpAny_bind (W.item i { s with heap:=h,toks:=tk } _ _ (by omega) ⟨it,ta⟩ fun v g tk' hv st kg=>?_)
  rw [hq] at hv
  cases hv
  have kp':∀ b o,b ≠ d->b ≠ I->h0.get? b=some o->g.get? b=some o:=fun b o n1 n2 e=>kg b o (by simpa using n2) (kp b o n1 n2 e)
  refine wpAny_bind (wpAny_holding (wpAny_bind (wpAny_tryCatch (qA (kp' q _ nqd nqI hqo) ?_))))
  have dd':g.DictOf knd d (merged [] (rs.take i)):=by
   obtain⟨ob,es,ep,ho,rest⟩:=dd
   exact⟨ob,es,ep,kg d ob (by simpa using ndI) ho,rest⟩
  refine wpAny_holding (wpAny_dictSet_pairs hkey dd' (fun g2 dd2 same=>?_) ?_)
  ·refine wpAny_pure ⟨plainId_quiet fQ _,?_⟩
   rw [<-merged_take_succ [] rs i p hp] at dd2
   have k2:∀ b o,b ≠ d->g.get? b=some o->g2.get? b=some o:=fun b o nb e=>(same.2 b nb).trans e
   refine ih (i+1) g2 _ _ (by omega) hlt ?_ ?_ dd2 fun b o n1 n2 e=>k2 b o n1 (kp' b o n1 n2 e)
   ·exact st.1.at fun o e=>k2 I o ndI.symm e
   ·exact st.2.at fun o e=>k2 ax o nda.symm e
  ·have e:=merged_length_le ([]:List (K × Value)) (rs.take i)
   rw [List.length_take] at e
   simp only [List.length_nil] at e
   omega
open PySem.Calls in
theorem qB {E:Value->Shared->Prop} {ax:Addr} {items:Array Value} {na:Nat} {sa:Array (Option Value)} {rs:List (K × Value)} {Q:Value->Shared->Prop} (calm:A.handled=none)
  (hx:s.heap.get? ax=some { cls:=.type "tuple",dict:=none,data:=.seq items na,slots:=sa }) (len:rs.length=items.size) (cD:rs.length<=sizeLine)
  (pairs:∀ (i:Nat) (p:K × Value),rs[i]? = some p->∃ q,items[i]? = some (.ref q)/\se knd s.heap q p)
  (fin:∀ (g:Heap) (tk:Nat),g.DictOf knd s.heap.objs.size (merged [] rs)->(∀ b o,s.heap.get? b=some o->g.get? b=some o)->Q (.ref s.heap.objs.size) { s with heap:=g,toks:=tk }) :
  wpAny (model prog w) A (call (.type "dict") [.ref ax]) Q E s:=by
 refine callType_codes (Q₁:=fun ob s1=>ob=.ref s.heap.objs.size/\s1 = { s with heap:=s.heap.push { cls:=.type "dict",data:=.dict #[] } }) F.kt_called_dict (F.kt_typeCall_dict_1 _) F.entry_dict_init (kt_code_dict_new _ ⟨rfl,rfl⟩) fun ob s1 e1=>?_
 obtain⟨rfl,rfl⟩:=e1
 have fresh:(s.heap.push { cls:=.type "dict",data:=.dict #[] }).DictOf knd s.heap.objs.size []:=Heap.DictOf.new s.heap
 have hx1:=Heap.get?_push_of_some { cls:=.type "dict",data:=.dict #[] } hx
 refine⟨fresh.typeIs,F.args_dict_init_2 _ _,?_⟩
 have hT:({ s with heap:=s.heap.push { cls:=.type "dict",data:=.dict #[] } }:Shared).TypeIs (.ref ax) "tuple" := ⟨_,hx1,rfl⟩
 unfold Builtin.«dict.__init__»
 refine wpAny_bind ?_
 unfold Builtin.Dict.selfAndRest
 refine wpAny_bind (wpAny_notOrdered_dict fresh.typeIs (wpAny_pure ?_))
 show wpAny _ _ (Builtin.Dict.updateFrom "dict.__init__" s.heap.objs.size (.ref ax) [] .none) _ _ _
 unfold Builtin.Dict.updateFrom
 refine wpAny_bind (wpAny_typeOf hT ?_)
 rw [if_pos (by decide)]
 refine wpAny_bind (ow hx1 calm fun g tk kg=>?_)
 rw [if_pos (show (none:Option Value).isNone=true from rfl)]
 refine wpAny_bind (wpAny_rule ?_)
 have hxg:=kg _ _ hx1
 have hta:g.IsTuple ax items:=⟨_,hxg,rfl,na,rfl⟩
 refine wpAny_bind (wpAny_pyIter_tuple hta ?_)
 have dg:g.DictOf knd s.heap.objs.size []:=by
  obtain⟨ob,es,ep,ho,rest⟩:=fresh
  exact⟨ob,es,ep,kg _ _ ho,rest⟩
 have ltd:s.heap.objs.size < g.objs.size:=by
  obtain⟨ob,es,ep,ho,rest⟩:=dg
  exact Heap.lt_size ho
 have lta:ax < g.objs.size:=Heap.lt_size hxg
 have ltx:ax < s.heap.objs.size:=Heap.lt_size hx
 have kg':∀ b o,s.heap.get? b=some o->(g.push { cls:=.type "tuple_iterator",data:=.fields #[.ref ax,.int 0 0] }).get? b=some o:=fun b o e=>Heap.get?_push_of_some _ (kg b o (Heap.get?_push_of_some _ e))
 refine wpAny_pure ⟨plainId_quiet fQ _,?_⟩
 refine vd (E:=E) (knd:=knd) (s:=s) (A:=A.in1) (items:=items) (rs:=rs) (h0:=g.push { cls:=.type "tuple_iterator",data:=.fields #[.ref ax,.int 0 0] }) calm (Nat.ne_of_lt ltd) (Nat.ne_of_gt ltx) (Nat.ne_of_lt lta) len cD (fun i p hp=>?_) (fun g2 tk2 dd2 k2=>⟨rfl,fin g2 tk2 dd2 fun b o e=>k2 b o (Nat.ne_of_lt (Heap.lt_size e)) (Nat.ne_of_lt (Nat.lt_trans (Heap.lt_size e) ltd)) (kg' b o e)⟩) rs.length 0 _ _ _ (Nat.sub_zero _) (Nat.zero_le _) ⟨_,Heap.get?_push_size _ rfl,rfl,rfl⟩ (hta.push _) (dg.push _) fun b o _ _ e=>e
 obtain⟨q,hq,key,n,sl,hqo,hkey⟩:=pairs i p hp
 have hql:=Heap.lt_size hqo
 exact⟨q,hq,Nat.ne_of_lt hql,Nat.ne_of_lt (Nat.lt_trans hql ltd),key,n,sl,kg' q _ hqo,hkey⟩
end
end PySem
namespace L2
open PySem PySem.Spec PyProof.Rows
theorem y7:∀ (kvs:List (Key × V)) (P:Nat->Key × Value->Prop),(∀ (i:Nat) (k:Key) (v:V),kvs[i]? = some (k,v)->∃ u,RelV v u/\P i (k,u))->∃ rs:List (Key × Value),KV kvs rs/\∀ (i:Nat) (p:Key × Value),rs[i]? = some p->P i p
 | [],_,_=>⟨[],.nil,fun i p h=>by simp at h⟩
 | (k,v) :: r,P,h=>by
  obtain⟨u,ru,hu⟩:=h 0 k v rfl
  obtain⟨rs,kr,hr⟩:=y7 r (fun i=>P (i+1)) fun i k' v' e=>h (i+1) k' v' (by simpa using e)
  refine⟨(k,u) :: rs,.cons ⟨rfl,ru⟩ kr,fun i p e=>?_⟩
  cases i with
  | zero=>cases (Option.some.inj e);exact hu
  | succ i=>exact hr i p (by simpa using e)
theorem sf:∀ {xs:List V} {us:List Value} {j:Nat} {x:V},Vals xs us->xs[j]? = some x->∃ u,us[j]? = some u/\RelV x u
 | _,_,_,_,.nil,e=>by simp at e
 | _,_,0,_,.cons r _,e=>by
  cases (Option.some.inj e)
  exact⟨_,rfl,r⟩
 | _,_,j+1,x,.cons _ t,e=>by
  obtain⟨u,h1,h2⟩:=sf (j:=j) (x:=x) t (by simpa using e)
  exact⟨u,by simpa using h1,h2⟩
section
variable {X:Cx}
theorem gU (hc:X.calm=true):dX X (.type "dict") (fun vs H Q=>∃ (a:Addr) (xs:List V) (kvs:List (Key × V)),vs = [.ref a]/\H a=some (.tup xs)/\xs.length=kvs.length /\
  (∀ (i:Nat) (k:Key) (v:V),kvs[i]? = some (k,v)->∃ q,xs[i]? = some (.ref q)/\H q=some (.tup [kV k,v]))/\(kvs.map (·.1)).Nodup/\∀ d,H d=none->Q (.ref d) (upd H d (.dK kvs))):=by
 intro pins s σ H vs us Q I r h
 obtain⟨a,xs,kvs,rfl,ha,hl,hp,nd,q⟩:=h
 obtain⟨u,rfl,ru⟩:=vals1 r
 cases (show u=Value.ref a from ru)
 obtain⟨hz,its,rv,⟨c,dct,dat,sl⟩,h1,h2,n,h3,h4⟩:=(show bM X.prog X.w H s.heap a (.tup xs) from I.aN a _ ha)
 dsimp only at h2 h3 h4
 subst h2 h3 h4
 have hil:its.length=kvs.length:=by rw [<-rv.length];exact hl
 obtain⟨rs,rel,prs⟩:=y7 kvs (fun i p=>∃ q,its.toArray[i]? = some (.ref q)/\se (aL X.prog X.w) s.heap q p) fun i k v e=>by
  obtain⟨q,e1,e2⟩:=hp i k v e
  obtain⟨_,its2,rv2,⟨c2,dct2,dat2,sl2⟩,g1,g2,n2,g3,g4⟩:=(show bM X.prog X.w H s.heap q (.tup [kV k,v]) from I.aN q _ e2)
  dsimp only at g2 g3 g4
  subst g2 g3 g4
  obtain⟨key,u2,rfl,rk,ru2⟩:=vals2 rv2
  refine⟨u2,ru2,q,?_,key,n2,sl2,g1,j4 rk⟩
  obtain⟨w',hw,rw'⟩:=sf rv e1
  cases (show w' = Value.ref q from rw')
  simpa using hw
 have hkl:kvs.length<=sizeLine:=by rw [<-hl];exact hz
 have ndr:(rs.map (·.1)).Nodup:=by rw [<-rel.keys];exact nd
 refine qB (knd:=aL X.prog X.w) (rs:=rs) (I.ok.hd hc) h1 (by rw [<-rel.length,<-hil];simp) (by rw [<-rel.length];exact hkl) prs fun g tk dd kg=>?_
 rw [merged_nil_of_nodup rs ndr] at dd
 exact⟨.ref s.heap.objs.size,_,I.laid (a:=s.heap.objs.size) (o:=.dK kvs) (t':=tk) kg (Nat.le_refl _) (lg hkl (beq_eq_false_iff_ne.mpr (Ne.symm (Nat.ne_of_lt I.big))) rel dd),rfl,q _ (I.aN.fresh (Nat.le_refl _))⟩
end
def ox (a b:Str):Prop:=a.cps.toList<=b.cps.toList
theorem wM {a b c:Str} (h:ox a b) (g:ox b c):ox a c:=List.le_trans h g
theorem yj {a b:Str} (h:ox a b) (g:ox b a):a=b:=by
 have e:a.cps.toList=b.cps.toList:=List.le_antisymm h g
 have e2:a.cps=b.cps:=by rw [<-Array.toArray_toList (xs:=a.cps),e,Array.toArray_toList]
 cases a
 cases b
 cases e2
 rfl
theorem qf:∀ (l:List Str) (p:Str),risingS p l=true->(p :: l).Pairwise ox
 | [],p,_=>by simp
 | x :: r,p,h=>by
  have h':(!ltCps x.cps.toList p.cps.toList && risingS x r)=true:=h
  rw [Bool.and_eq_true,Bool.not_eq_true'] at h'
  have h1:ox p x:=by
   have:=h'.1
   rw [ltCps_eq] at this
   exact of_decide_eq_false this
  have ih:=qf r x h'.2
  refine List.Pairwise.cons (fun y hy=>?_) ih
  rcases List.mem_cons.mp hy with e | hy
  ·rw [e];exact h1
  ·exact wM h1 ((List.pairwise_cons.mp ih).1 y hy)
theorem lG {l:List Str} (h:sortedS l=true):l.Pairwise ox:=by
 cases l with
 | nil=>exact List.Pairwise.nil
 | cons x r=>exact qf r x h
structure jn (ss:List Str):Prop where
 pw:ss.Pairwise ox
 nd:ss.Nodup
theorem jn.tail {x:Str} {r:List Str} (h:jn (x :: r)):jn r:=⟨(List.pairwise_cons.mp h.pw).2,(List.nodup_cons.mp h.nd).2⟩
theorem jn.unique:∀ {l m:List Str},jn l->jn m->(∀ x,x ∈ l ↔ x ∈ m)->l=m
 | [],[],_,_,_=>rfl
 | [],b :: m,_,_,h=>absurd ((h b).mpr (List.mem_cons_self ..)) (by simp)
 | a :: l,[],_,_,h=>absurd ((h a).mp (List.mem_cons_self ..)) (by simp)
 | a :: l,b :: m,hl,hm,h=>by
  have e:a=b:=by
   rcases List.mem_cons.mp ((h a).mp (List.mem_cons_self ..)) with e | h1
   ·exact e
   ·rcases List.mem_cons.mp ((h b).mpr (List.mem_cons_self ..)) with e | h2
    ·exact e.symm
    ·exact yj ((List.pairwise_cons.mp hl.pw).1 b h2) ((List.pairwise_cons.mp hm.pw).1 a h1)
  subst e
  have na:=(List.nodup_cons.mp hl.nd).1
  have nb:=(List.nodup_cons.mp hm.nd).1
  rw [jn.unique hl.tail hm.tail fun x=>⟨fun hx=>?_,fun hx=>?_⟩]
  ·rcases List.mem_cons.mp ((h x).mp (List.mem_cons_of_mem _ hx)) with e | h1
   ·exact absurd (by rw [<-e];exact hx) na
   ·exact h1
  ·rcases List.mem_cons.mp ((h x).mpr (List.mem_cons_of_mem _ hx)) with e | h1
   ·exact absurd (by rw [<-e];exact hx) nb
   ·exact h1
theorem jn.filter {l:List Str} (h:jn l) (p:Str->Bool):jn (l.filter p):=⟨h.pw.filter p,h.nd.filter p⟩
abbrev Sx:=Option Int × Option Int
def cy:Sx:=(none,none)
structure iM (K:PySem.W.Frag) (mg:Str->Option Value) (aA:Addr):Prop where
 qd:mg "ALL" = some (.ref aA)
 at_:∃ dc n sl,K.lookup aA=some ⟨.type "tuple",dc,.seq #[.none,.none] n,sl⟩
theorem iM.sq {K:PySem.W.Frag} {mg:Str->Option Value} {aA:Addr} (h:iM K mg aA) (H:Hp):ay K H aA [.bf,.bf]:=by
 obtain⟨dc,n,sl,e⟩:=h.at_
 exact .inr ⟨_,#[.none,.none],n,e,rfl,rfl,by decide,.cons rfl (.cons rfl .nil)⟩
def SH (H:Hp) (v:V) (s:Sx):Prop:=∃ q,v=.ref q/\H q=some (.tup [vO s.1,vO s.2])
def SV (aA:Addr) (H:Hp) (v:V) (s:Sx):Prop:=SH H v s\/(v=.ref aA/\s=cy)
def dS (s:Sx):PyData:=.tuple [dO s.1,dO s.2]
theorem SH.rd {H:Hp} {v:V} {s:Sx} (h:SH H v s):aV H v (dS s):=by
 obtain⟨q,rfl,e⟩:=h
 exact .tup e (.cons (AW _) (.cons (AW _) .nil))
theorem SH.aJ {H H':Hp} {v:V} {s:Sx} (h:SH H v s) (k:∀ p xs,H p=some (.tup xs)->H' p=some (.tup xs)):SH H' v s:=by
 obtain⟨q,e,h⟩:=h
 exact⟨q,e,k _ _ h⟩
theorem SV.aJ {aA:Addr} {H H':Hp} {v:V} {s:Sx} (h:SV aA H v s) (k:∀ p xs,H p=some (.tup xs)->H' p=some (.tup xs)):SV aA H' v s:=h.elim (fun h=>.inl (h.aJ k)) .inr
theorem SV.sq {K:PySem.W.Frag} {mg:Str->Option Value} {aA:Addr} {H:Hp} {v:V} {s:Sx} (g:iM K mg aA) (h:SV aA H v s):∃ q,v=.ref q/\ay K H q [vO s.1,vO s.2]:=by
 rcases h with ⟨q,e,h⟩ | ⟨e,rfl⟩
 ·exact⟨q,e,ay.of h⟩
 ·exact⟨aA,e,g.sq H⟩
theorem uu {H:Hp} {v:V} {o:Option Int} (h:aV H v (dO o)):v=vO o:=by
 cases o with
 | none=>cases h;rfl
 | some i=>exact h.int_inv
structure Tb (aA:Addr) (H:Hp) (kvs:List (Key × V)) (ks:List Str) (T:Str->Sx):Prop where
 keys:kvs.map (·.1)=ks.map Sum.inr
 nd:ks.Nodup
 val:∀ x:Str,(bO kvs (Sum.inr x)=none/\T x=cy/\¬ x ∈ ks)\/(∃ v,bO kvs (Sum.inr x)=some v/\SV aA H v (T x)/\x ∈ ks)
def cA (T:Str->Sx) (x:Str) (s:Sx):Str->Sx:=fun y=>if y=x then s else T y
theorem Tb.aJ {aA:Addr} {H H':Hp} {kvs:List (Key × V)} {ks:List Str} {T:Str->Sx} (h:Tb aA H kvs ks T) (k:∀ p xs,H p=some (.tup xs)->H' p=some (.tup xs)):Tb aA H' kvs ks T :=
 ⟨h.keys,h.nd,fun x=>(h.val x).elim .inl fun ⟨v,e,s,m⟩=>.inr ⟨v,e,s.aJ k,m⟩⟩
theorem Tb.put {aA:Addr} {H:Hp} {kvs:List (Key × V)} {ks:List Str} {T:Str->Sx} (h:Tb aA H kvs ks T) {v:V} {s:Sx} (x:Str) (hv:SV aA H v s) :
  ∃ ks',Tb aA H (putK kvs (Sum.inr x) v) ks' (cA T x s)/\ks'.length<=ks.length+1/\∀ y,y ∈ ks' ↔ y ∈ ks\/y=x:=by
 have vals:∀ (ks':List Str),(∀ y,y ∈ ks' ↔ y ∈ ks\/y=x)->∀ y:Str,(bO (putK kvs (Sum.inr x) v) (Sum.inr y)=none/\cA T x s y=cy/\¬ y ∈ ks')\/(∃ u,bO (putK kvs (Sum.inr x) v) (Sum.inr y)=some u/\SV aA H u (cA T x s y)/\y ∈ ks'):=by
  intro ks' hk y
  rw [xJ]
  unfold cA
  by_cases e:y=x
  ·subst e
   rw [if_pos rfl,if_pos rfl]
   exact .inr ⟨v,rfl,hv,(hk y).mpr (.inr rfl)⟩
  ·rw [if_neg (fun z=>e (Sum.inr.inj z)),if_neg e]
   rcases h.val y with ⟨a,b,c⟩ | ⟨u,a,b,c⟩
   ·exact .inl ⟨a,b,fun z=>((hk y).mp z).elim c e⟩
   ·exact .inr ⟨u,a,b,(hk y).mpr (.inl c)⟩
 rcases lh (kvs:=kvs) (k:=(Sum.inr x:Key)) (v:=v) with ⟨e1,hm⟩ | ⟨e1,hn⟩
 ·have hx:x ∈ ks:=by
   rw [h.keys] at hm
   obtain⟨y,hy,e⟩:=List.mem_map.mp hm
   cases e
   exact hy
  have hk:∀ y,y ∈ ks ↔ y ∈ ks\/y=x:=fun y=>⟨.inl,fun z=>z.elim id fun e=>by rw [e];exact hx⟩
  exact⟨ks,⟨by rw [e1];exact h.keys,h.nd,vals ks hk⟩,Nat.le_succ _,hk⟩
 ·have hx:¬ x ∈ ks:=fun z=>hn (by rw [h.keys];exact List.mem_map.mpr ⟨x,z,rfl⟩)
  have hk:∀ y,y ∈ ks ++ [x] ↔ y ∈ ks\/y=x:=fun y=>by simp
  refine⟨ks ++ [x],⟨by rw [e1,h.keys,List.map_append];rfl,?_,vals _ hk⟩,by simp,hk⟩
  rw [List.nodup_append]
  refine⟨h.nd,by simp,fun a ha b hb=>?_⟩
  rw [List.mem_singleton] at hb
  subst hb
  exact fun z=>hx (by rw [<-z];exact ha)
def dF (T:Str->Sx) (x:Str):PyData:=.tuple [.str x,dS (T x)]
def FV (H:Hp) (v:V) (T:Str->Sx):Prop:=∃ (p:Addr) (xs:List V) (ss:List Str),v=.ref p/\H p=some (.tup xs)/\jn ss/\(∀ x,x ∈ ss ↔ T x ≠ cy)/\aZ H xs (ss.map (dF T))
def fM (T:Str->Sx) (ss:List Str):PyData:=.tuple (ss.map (dF T))
theorem iu (T:Str->Sx):∀ ss:List Str,bR (ss.map (dF T))=true
 | []=>rfl
 | x :: ss=>by
  show (bW (dF T x) && bR (ss.map (dF T)))=true
  rw [iu T ss]
  show ((true && ((bW (dO (T x).1) && (bW (dO (T x).2) && true)) && true)) && true)=true
  cases (T x).1 <;> cases (T x).2 <;> rfl
theorem FV.aJ {H H':Hp} {v:V} {T:Str->Sx} (h:FV H v T) (k:∀ p xs,H p=some (.tup xs)->H' p=some (.tup xs)):FV H' v T:=by
 obtain⟨p,xs,ss,e,hp,hs,hm,r⟩:=h
 exact⟨p,xs,ss,e,k _ _ hp,hs,hm,r.aJ k (iu T ss)⟩
theorem FV.same {H H':Hp} {v:V} {T:Str->Sx} (h:FV H v T) (s:ah H H'):FV H' v T:=h.aJ fun p xs e=>s _ _ e
theorem FV.tb {H:Hp} {xs:List V} {T:Str->Sx} {ss:List Str} (aA:Addr) (hs:jn ss) (hm:∀ x,x ∈ ss ↔ T x ≠ cy) (r:aZ H xs (ss.map (dF T))) :
  ∃ kvs:List (Key × V),xs.length=kvs.length/\(∀ (i:Nat) (k:Key) (v:V),kvs[i]? = some (k,v)->∃ q,xs[i]? = some (.ref q)/\H q=some (.tup [kV k,v]))/\(kvs.map (·.1)).Nodup/\Tb aA H kvs ss T:=by
 have go:∀ (ss:List Str) (xs:List V),aZ H xs (ss.map (dF T))->∃ kvs:List (Key × V),xs.length=kvs.length/\(∀ (i:Nat) (k:Key) (v:V),kvs[i]? = some (k,v)->∃ q,xs[i]? = some (.ref q)/\H q=some (.tup [kV k,v])) /\
   kvs.map (·.1)=ss.map Sum.inr/\∀ x:Str,(bO kvs (Sum.inr x)=none/\¬ x ∈ ss)\/(∃ v,bO kvs (Sum.inr x)=some v/\SH H v (T x)/\x ∈ ss):=by
  intro ss
  induction ss with
  | nil =>
   intro xs r
   have z:=aZ.nil_inv r
   subst z
   exact⟨[],rfl,fun i k v e=>by simp at e,rfl,fun x=>.inl ⟨rfl,by simp⟩⟩
  | cons y ss ih =>
   intro xs r
   obtain⟨x1,t1,rfl,h1,r⟩:=aZ.cons_inv r
   obtain⟨kvs,l1,l2,l3,l4⟩:=ih t1 r
   obtain⟨q,zs,rfl,hq,rz⟩:=aV.bX h1
   obtain⟨z1,t2,rfl,g1,rz⟩:=rz.cons_inv
   obtain⟨z2,t3,rfl,g2,rz⟩:=rz.cons_inv
   have z:=rz.nil_inv
   subst z
   obtain⟨q2,ws,rfl,hq2,rw2⟩:=aV.bX g2
   obtain⟨w1,t4,rfl,f1,rw2⟩:=rw2.cons_inv
   obtain⟨w2,t5,rfl,f2,rw2⟩:=rw2.cons_inv
   have z:=rw2.nil_inv
   subst z
   have e1:w1=vO (T y).1:=uu f1
   have e2:w2=vO (T y).2:=uu f2
   subst e1 e2
   rw [g1.str_inv] at hq
   refine⟨(Sum.inr y,.ref q2) :: kvs,by simp [l1],fun i k v e=>?_,by simp [l3],fun x=>?_⟩
   ·cases i with
    | zero=>cases (Option.some.inj e);exact⟨q,rfl,hq⟩
    | succ i =>
     obtain⟨q',a,b⟩:=l2 i k v (by simpa using e)
     exact⟨q',by simpa using a,b⟩
   ·by_cases e:x=y
    ·subst e
     exact .inr ⟨_,cV rfl,⟨q2,rfl,hq2⟩,List.mem_cons_self ..⟩
    ·rw [cN (fun z=>e (Sum.inr.inj z).symm)]
     rcases l4 x with ⟨a,b⟩ | ⟨v,a,b,c⟩
     ·exact .inl ⟨a,fun z=>(List.mem_cons.mp z).elim e b⟩
     ·exact .inr ⟨v,a,b,List.mem_cons_of_mem _ c⟩
 obtain⟨kvs,l1,l2,l3,l4⟩:=go ss xs r
 refine⟨kvs,l1,l2,?_,⟨l3,hs.nd,fun x=>?_⟩⟩
 ·rw [l3]
  exact List.Pairwise.map _ (fun a b n z=>n (Sum.inr.inj z)) hs.nd
 ·rcases l4 x with ⟨a,b⟩ | ⟨v,a,b,c⟩
  ·refine .inl ⟨a,?_,b⟩
   exact Classical.byContradiction fun z=>b ((hm x).mpr z)
  ·exact .inr ⟨v,a,.inl b,c⟩
theorem o9 (s:Sx):PyData.eqv (dS s) (.tuple [.none,.none])=decide (s=cy):=by
 obtain⟨a,b⟩:=s
 cases a <;> cases b <;> rfl
theorem ve (s:Sx):(dS s).canLay0=true:=by
 obtain⟨a,b⟩:=s
 cases a <;> cases b <;> rfl
theorem y8 (s:Sx):(dS s).depth<=60:=by
 obtain⟨a,b⟩:=s
 cases a <;> cases b <;> (show (1:Nat)<=60;decide)
section
variable {X:Cx}
theorem wN {pins:List (Addr × Obj)} {σ : St} {H:Hp} {s:Shared} {aA:Addr} (I:Inv X pins σ H s) (g:iM X.K X.mg aA):∃ as,Reads s.heap (.ref aA) (.tuple [.none,.none]) as:=by
 obtain⟨dc,n,sl,e⟩:=g.at_
 exact⟨_,.tuple (I.iQ aA _ e) rfl rfl (.cons .none (.cons .none .nil))⟩
theorem Be {aA:Addr} (hu:X.A.units+64 < cLine) (g:iM X.K X.mg aA):dY X (compareOp .NotEq) (fun x y H Q=>∃ s,SV aA H x s/\y=.ref aA/\Q (.bl (!decide (s=cy))) H):=by
 intro pins sh σ H x y v u Q I rx ry h
 obtain⟨s,hs,rfl,q⟩:=h
 cases (show u=Value.ref aA from ry)
 obtain⟨bs,rb⟩:=wN I g
 rcases hs with hs | ⟨rfl,rfl⟩
 ·obtain⟨as,ra⟩:=hs.rd.reads I.aN rx
  refine PySem.SeqAt.neOverData X.prog X.w X.A X.xe sh v _ _ _ as bs _ ra rb (ve s) rfl (by have:=y8 s;omega) ⟨.bl _,H,I,?_,q⟩
  show _=Value.bool (!decide (s=cy))
  rw [o9]
 ·cases (show v=Value.ref aA from rx)
  exact PySem.SeqAt.neOverData X.prog X.w X.A X.xe sh _ _ _ _ bs bs _ rb rb rfl rfl (by show X.A.units+1 < cLine;omega) ⟨.bl _,H,I,rfl,q⟩
end
def jA (aA:Addr):Sp:=fun vs H Q _=>∃ (d:Addr) (kvs:List (Key × V)) (ks:List Str) (T:Str->Sx),vs = [.ref d]/\H d=some (.dK kvs)/\Tb aA H kvs ks T/\ks.length < 64/\∀ v H',FV H' v T->ah H H'->Q v H'
def jo (o:Option Int) (n:Int):Option Int:=o.map (· + n)
def BR (s:Sx) (n:Int):Sx:=(jo s.1 n,jo s.2 n)
def nu (T:Str->Sx):cL->Sx
 | .put _ n=>(some n,some n)
 | .copy _ y=>T y
 | .add x n=>BR (T x) n
 | .read _=>cy
 | .tell x=>T x
def vf (T:Str->Sx) (d:cL):Str->Sx:=cA T (fg d) (nu T d)
def bB (T:Str->Sx):List cL->(Str->Sx):=fun ds=>ds.foldl vf T
def pd (K:PySem.W.Frag):Sp:=fun vs H Q _=>∃ (q:Addr) (s:Sx) (n:Int),vs = [.ref q,.int n]/\ay K H q [vO s.1,vO s.2]/\∀ v H',SH H' v (BR s n)->ah H H'->Q v H'
def j8 (aA:Addr):Sp:=fun vs H Q _=>∃ (d q:Addr) (kvs:List (Key × V)) (ks:List Str) (T:Str->Sx) (dd:cL),vs = [.ref d,.ref q]/\H d=some (.dK kvs)/\Tb aA H kvs ks T/\H q=some (.tup (mq dd))/\∀ v H',SV aA H' v (nu T dd)->ah H H'->Q v H'
def nv:Sp:=fun vs H Q _=>∃ (fv:V) (p:Addr) (ws:List V) (ds:List cL) (T:Str->Sx) (m:Nat),vs = [fv,.ref p]/\FV H fv T/\H p=some (.tup ws)/\aZ H ws (ds.map cQ)/\(∀ ss:List Str,(∀ x ∈ ss,T x ≠ cy)->ss.Nodup->ss.length<=m)/\m+ds.length < 64/\∀ v H',FV H' v (bB T ds)->ah H H'->Q v H'
theorem Tb.getD {aA:Addr} {H:Hp} {kvs:List (Key × V)} {ks:List Str} {T:Str->Sx} (h:Tb aA H kvs ks T) (x:Str):∃ v,(bO kvs (Sum.inr x)).getD (.ref aA)=v/\SV aA H v (T x):=by
 rcases h.val x with ⟨a,b,_⟩ | ⟨v,a,b,_⟩
 ·exact⟨_,by rw [a];rfl,.inr ⟨rfl,b⟩⟩
 ·exact⟨v,by rw [a];rfl,b⟩
section
variable {C D:Addr} {H0 H H1:Hp} {w0 w1:WA} {plv:V} {x0 x1 x':AZ}
end
mutual
def eG:PyData->Bool
 | .none=>true
 | .int _=>true
 | .str _=>true
 | .tuple xs=>dn xs
 | _=>false
def dn:List PyData->Bool
 | []=>true
 | x :: xs=>eG x && dn xs
end
mutual
def qS:PyData->Nat
 | .tuple xs=>lH xs+1
 | _=>1
def lH:List PyData->Nat
 | []=>0
 | x :: xs=>qS x+lH xs
end
noncomputable instance Bk:DecidableEq PyData:=fun a b=>Classical.propDecidable (a=b)
mutual
theorem ph:∀ {a b:PyData},eG a=true->eG b=true->(PyData.eqv a b=true ↔ a=b)
 | .none,.none,_,_=>⟨fun _=>rfl,fun _=>rfl⟩
 | .int i,.int j,_,_=>by show ((i == j)=true) ↔ _;rw [beq_iff_eq];exact⟨fun h=>by rw [h],fun h=>by injection h⟩
 | .str x,.str y,_,_=>by show ((x == y)=true) ↔ _;rw [beq_iff_eq];exact⟨fun h=>by rw [h],fun h=>by injection h⟩
 | .tuple xs,.tuple ys,ha,hb=>by
  show (PyData.eqvAll xs ys=true) ↔ _
  rw [oy (show dn xs=true from ha) (show dn ys=true from hb)]
  exact⟨fun h=>by rw [h],fun h=>by injection h⟩
 | .none,.int _,_,_ | .none,.str _,_,_ | .none,.tuple _,_,_ | .int _,.none,_,_ | .int _,.str _,_,_ | .int _,.tuple _,_,_
 | .str _,.none,_,_ | .str _,.int _,_,_ | .str _,.tuple _,_,_ | .tuple _,.none,_,_ | .tuple _,.int _,_,_ | .tuple _,.str _,_,_=>⟨fun h=>(by cases h),fun h=>(by cases h)⟩
 | .bool _,_,h,_ | .list _,_,h,_ | .dict _,_,h,_=>by cases h
 | .none,.bool _,_,h | .none,.list _,_,h | .none,.dict _,_,h | .int _,.bool _,_,h | .int _,.list _,_,h | .int _,.dict _,_,h
 | .str _,.bool _,_,h | .str _,.list _,_,h | .str _,.dict _,_,h | .tuple _,.bool _,_,h | .tuple _,.list _,_,h | .tuple _,.dict _,_,h=>by cases h
theorem oy:∀ {a b:List PyData},dn a=true->dn b=true->(PyData.eqvAll a b=true ↔ a=b)
 | [],[],_,_=>⟨fun _=>rfl,fun _=>rfl⟩
 | x :: xs,y :: ys,ha,hb=>by
  have ha:(eG x && dn xs)=true:=ha
  have hb:(eG y && dn ys)=true:=hb
  rw [Bool.and_eq_true] at ha hb
  show ((PyData.eqv x y && PyData.eqvAll xs ys)=true) ↔ _
  rw [Bool.and_eq_true,ph ha.1 hb.1,oy ha.2 hb.2]
  exact⟨fun ⟨h1,h2⟩=>by rw [h1,h2],fun h=>by injection h with h1 h2;exact⟨h1,h2⟩⟩
 | [],_ :: _,_,_ | _ :: _,[],_,_=>⟨fun h=>(by cases h),fun h=>(by cases h)⟩
end
mutual
theorem lI {h:Heap}:∀ {v:Value} {a b:PyData} {as bs:List Addr},Reads h v a as->Reads h v b bs->eG a=true->eG b=true->a=b
 | _,_,_,_,_,.none,.none,_,_=>rfl
 | _,_,_,_,_,.int i t,.int _ _,_,_=>rfl
 | _,_,_,_,_,.str x t,.str _ _,_,_=>rfl
 | _,_,_,_,_,.tuple e1 c1 d1 r1,.tuple e2 c2 d2 r2,ha,hb=>by
  rw [e1] at e2
  cases e2
  rw [d1] at d2
  cases d2
  rw [lJ r1 r2 ha hb]
 | _,_,_,_,_,.tuple e1 c1 d1 r1,.list e2 c2 d2 r2,_,hb=>by cases hb
 | _,_,_,_,_,.tuple e1 c1 d1 r1,.dict e2 c2 d2 r2 r3,_,hb=>by cases hb
 | _,_,_,_,_,.bool _,_,ha,_=>by cases ha
 | _,_,_,_,_,.list ..,_,ha,_=>by cases ha
 | _,_,_,_,_,.dict ..,_,ha,_=>by cases ha
theorem lJ {h:Heap}:∀ {vs:List Value} {a b:List PyData} {as bs:List Addr},ReadsAll h vs a as->ReadsAll h vs b bs->dn a=true->dn b=true->a=b
 | _,_,_,_,_,.nil,.nil,_,_=>rfl
 | _,_,_,_,_,.cons (d:=x) (ds:=xs) r1 t1,.cons (d:=y) (ds:=ys) r2 t2,ha,hb=>by
  have ha:(eG x && dn xs)=true:=ha
  have hb:(eG y && dn ys)=true:=hb
  rw [Bool.and_eq_true] at ha hb
  rw [lI r1 r2 ha.1 hb.1,lJ t1 t2 ha.2 hb.2]
end
mutual
theorem oz {h h':Heap} (k:∀ a o n vs,h.get? a=some o->o.data=.seq vs n->h'.get? a=some o):∀ {v:Value} {a:PyData} {as:List Addr},Reads h v a as->eG a=true->Reads h' v a as
 | _,_,_,.none,_=>.none
 | _,_,_,.int i t,_=>.int i t
 | _,_,_,.str x t,_=>.str x t
 | _,_,_,.tuple e1 c1 d1 r1,ha=>.tuple (k _ _ _ _ e1 d1) c1 d1 (kF k r1 ha)
 | _,_,_,.bool _,ha=>by cases ha
 | _,_,_,.list ..,ha=>by cases ha
 | _,_,_,.dict ..,ha=>by cases ha
theorem kF {h h':Heap} (k:∀ a o n vs,h.get? a=some o->o.data=.seq vs n->h'.get? a=some o):∀ {vs:List Value} {a:List PyData} {as:List Addr},ReadsAll h vs a as->dn a=true->ReadsAll h' vs a as
 | _,_,_,.nil,_=>.nil
 | _,_,_,.cons (d:=x) (ds:=xs) r1 t1,ha=>by
  have ha:(eG x && dn xs)=true:=ha
  rw [Bool.and_eq_true] at ha
  exact .cons (oz k r1 ha.1) (kF k t1 ha.2)
end
section
variable {prog:Program} {w:World} {E:Value->Shared->Prop}
abbrev y9 (w:World) (d:PyData):Int:=PySem.W.hashW w.params (PySem.W.ofPy d)
mutual
theorem oA:∀ (d:PyData) (v:Value) (as:List Addr) (A:Around) (s:Shared) (Q:Int->Shared->Prop),eG d=true->Reads s.heap v d as->A.units+d.depth < cLine ->
  Q (y9 w d) { s with toks:=s.toks+qS d }->wpAny (model prog w) A (pyHash v) Q E s
 | .none,_,_,A,s,Q,_,x,hu,h=>by
  cases x
  exact PySem.W.pyHash_slot (T := "NoneType") rfl F.slot_NoneType_hash F.entry_NoneType_hash (F.args_NoneType_hash_1 _) (beq_builtin_none _) (.inr (by omega)) (wpAny_bind (wpAny_pure (wpAny_bind (wpAny_mkInt (wpAny_pure ⟨_,_,rfl,h⟩)))))
 | .int i,_,_,A,s,Q,_,x,_,h=>by
  cases x
  refine wpAny_pyHash_int ?_
  have e:=PySem.W.hashW_int w.params i
  rw [<-e]
  exact h
 | .str y,_,_,A,s,Q,_,x,_,h=>by cases x;exact wpAny_pyHash_str h
 | .tuple xs,_,_,A,s,Q,hk,x,hu,h=>by
  cases x with
  | @tuple a o vs n _ _ hg hc hd hw =>
   refine PySem.W.pyHash_slot (T := "tuple") ⟨_,hg,hc⟩ F.slot_tuple_hash F.entry_tuple_hash (F.args_tuple_hash_1 _) (beq_builtin_none _) (.inr (by omega)) ?_
   show wpAny _ _ (Builtin.Tuple.tupleItemsOf (.ref a) >>= _) _ _ s
   refine wpAny_bind (wpAny_tupleItemsOf hg hd ?_)
   refine wpAny_bind ?_
   rw [<-Array.forIn_toList]
   refine qg xs vs.toList _ A.in1 s #[] _ hk hw (by have:(PyData.tuple xs).depth=PyData.depthAll xs+1:=rfl;rw [Around.in1_units];omega) fun b hb=>?_
   show wpAny _ _ (retInt (Builtin.Tuple.tupleHashOf b.toList)) _ _ _
   rw [hb]
   exact wpAny_bind (wpAny_mkInt (wpAny_pure ⟨_,_,rfl,h⟩))
 | .bool _,_,_,_,_,_,hk,_,_,_ | .list _,_,_,_,_,_,hk,_,_,_ | .dict _,_,_,_,_,_,hk,_,_,_=>by cases hk
theorem qg:∀ (xs:List PyData) (vs:List Value) (as:List Addr) (A:Around) (s:Shared) (b:Array Int) (Q:Array Int->Shared->Prop),dn xs=true->ReadsAll s.heap vs xs as->A.units+PyData.depthAll xs < cLine ->
  (∀ b',b'.toList=b.toList++PySem.W.hashesW w.params (PySem.W.ofPys xs)->Q b' { s with toks:=s.toks+lH xs }) ->
  wpAny (model prog w) A (forIn vs b fun x r=>do let h <-pyHash x;pure PUnit.unit;pure (ForInStep.yield (r.push h))) Q E s
 | [],_,_,A,s,b,Q,_,x,_,h=>by cases x;exact wpAny_pure (h b (by simp [PySem.W.hashesW,PySem.W.ofPys]))
 | k :: xs,_,_,A,s,b,Q,hk,x,hu,h=>by
  cases x with
  | cons x1 x2 =>
   have hk:(eG k && dn xs)=true:=hk
   rw [Bool.and_eq_true] at hk
   have hu:A.units+max k.depth (PyData.depthAll xs) < cLine:=hu
   rw [List.forIn_cons]
   refine wpAny_bind (wpAny_bind (oA k _ _ A s _ hk.1 x1 (by omega) ?_))
   refine wpAny_bind (wpAny_pure (wpAny_pure ?_))
   refine qg xs _ _ A _ _ Q hk.2 x2 (by omega) fun b' hb=>?_
   have h2:=h b' (by simp [hb,PySem.W.hashesW,PySem.W.ofPys])
   have e:lH (k :: xs)=qS k+lH xs:=rfl
   rw [e,<-Nat.add_assoc] at h2
   exact h2
end
mutual
theorem qh:∀ (d:PyData) (v:Value) (as:List Addr) (A:Around) (s:Shared) (n:Nat) (Q:Bool->Shared->Prop),eG d=true->Reads s.heap v d as->d.depth<=n->Q true s->wpAny (model prog w) A (eqIsQuiet n v) Q E s
 | .none,_,_,A,s,n,Q,_,x,_,h=>by cases x;unfold eqIsQuiet;exact wpAny_pure h
 | .int i,_,_,A,s,n,Q,_,x,_,h=>by cases x;unfold eqIsQuiet;exact wpAny_pure h
 | .str y,_,_,A,s,n,Q,_,x,_,h=>by cases x;unfold eqIsQuiet;exact wpAny_pure h
 | .tuple xs,_,_,A,s,n,Q,hk,x,hn,h=>by
  cases x with
  | @tuple a o vs n' _ _ hg hc hd hw =>
   have hn:PyData.depthAll xs+1<=n:=hn
   obtain⟨n,rfl⟩:∃ m,n=m+1:=⟨n - 1,by omega⟩
   have hT:s.TypeIs (.ref a) "tuple" := ⟨_,hg,hc⟩
   unfold eqIsQuiet
   refine wpAny_bind (wpAny_specialOf hT F.slot_tuple_eq.lookup ?_)
   show wpAny _ _ (isInstance (.ref a) (.type "tuple") >>= _) _ _ s
   refine wpAny_bind (wpAny_isInstance hT isSubtype_tuple_tuple ?_)
   simp only [Bool.not_true,Bool.false_eq_true,if_false]
   refine wpAny_bind (wpAny_seqItems hg hd ?_)
   refine wpAny_bind ?_
   show wpAny _ _ (forIn vs _ _) _ _ s
   rw [<-Array.forIn_toList]
   have hall:=qi xs vs.toList _ A s n hk hw (by omega)
   refine wpAny_forIn_list _ (fun rest r s'=>r.1=none/\s' = s/\∀ v ∈ rest,∀ Q:Bool->Shared->Prop,Q true s->wpAny (model prog w) A (eqIsQuiet n v) Q E s) _ ?_ ?_ _ _ ⟨rfl,rfl,hall⟩
   ·rintro v rest r s' ⟨hr,rfl,hq⟩
    refine wpAny_bind (hq v List.mem_cons_self _ ?_)
    simp only [Bool.not_true,Bool.false_eq_true,if_false]
    exact wpAny_pure ⟨rfl,rfl,fun u hu'=>hq u (List.mem_cons_of_mem _ hu')⟩
   ·rintro⟨r1,r2⟩ s' ⟨hr,rfl,_⟩
    simp only at hr
    subst hr
    exact wpAny_pure h
 | .bool _,_,_,_,_,_,_,hk,_,_,_ | .list _,_,_,_,_,_,_,hk,_,_,_ | .dict _,_,_,_,_,_,_,hk,_,_,_=>by cases hk
theorem qi:∀ (xs:List PyData) (vs:List Value) (as:List Addr) (A:Around) (s:Shared) (n:Nat),dn xs=true->ReadsAll s.heap vs xs as->PyData.depthAll xs<=n->∀ v ∈ vs,∀ Q:Bool->Shared->Prop,Q true s->wpAny (model prog w) A (eqIsQuiet n v) Q E s
 | [],_,_,A,s,n,_,x,_=>by cases x;intro v hv;cases hv
 | k :: xs,_,_,A,s,n,hk,x,hn=>by
  cases x with
  | cons x1 x2 =>
   have hk:(eG k && dn xs)=true:=hk
   rw [Bool.and_eq_true] at hk
   have hn:max k.depth (PyData.depthAll xs)<=n:=hn
   intro v hv Q h
   rcases List.mem_cons.mp hv with rfl | hv
   ·exact qh k _ _ A s n Q hk.1 x1 (by omega) h
   ·exact qi xs _ _ A s n hk.2 x2 (by omega) v hv Q h
end
end
structure d9 (d:PyData):Prop where
 key:eG d=true
 lay:d.canLay0=true
 dep:d.depth<=7
 tup:∃ xs,d=.tuple xs
def jq (prog:Program) (w:World):HeapKind prog w PyData where
 is:=fun h d a=>d9 d/\∃ as,Reads h (.ref a) d as
 hash:=y9 w
 draws:=qS
 room:=fun A=>A.units+64 < cLine
 inj:=fun ⟨h1,_,r1⟩ ⟨h2,_,r2⟩=>lI r1 r2 h1.key h2.key
 keeps:=fun {h h' k a d o es ep} ⟨h1,as,r1⟩ hd he hs=>⟨h1,as,oz (fun b u n vs e1 e2=>by
  have hne:b ≠ d:=by
   rintro rfl
   rw [hd] at e1
   cases e1
   rw [he] at e2
   cases e2
  exact (hs.2 b hne).trans e1) r1 h1.key⟩
 pyHash:=fun hu ⟨h1,_,r1⟩ h=>oA _ _ _ _ _ _ h1.key r1 (by have:=h1.dep;omega) h
 eqBool:=fun {A E s x y a b Q} hu ⟨h1,_,r1⟩ ⟨h2,_,r2⟩ h=>by
  refine PySem.SeqAt.eqAt_reads x y A s (.ref a) (.ref b) _ _ r1 r2 h1.lay h2.lay (by have:=h1.dep;have:=h2.dep;omega) prog w E Q ?_
  have e:PyData.eqv x y=decide (x=y):=by
   have:=ph h1.key h2.key
   by_cases hxy:x=y
   ·rw [decide_eq_true hxy];exact this.mpr hxy
   ·rw [decide_eq_false hxy];exact Bool.eq_false_iff.mpr fun z=>hxy (this.mp z)
  rw [e]
  exact h
 quiet:=fun ⟨h1,_,r1⟩ h=>qh _ _ _ _ _ _ _ h1.key r1 (by have:=h1.dep;omega) h
abbrev KX (kvs:List (PyData × Addr × V)) (xs:List (PyData × Addr × Value)):Prop:=Paired (fun (p:PyData × Addr × V) (q:PyData × Addr × Value)=>p.1=q.1/\p.2.1=q.2.1/\RelV p.2.2 q.2.2) kvs xs
def lK (P:Program) (w:World) (a:Addr) (kvs:List (PyData × Addr × V)) (h:Heap):Prop:=(a == sysModules)=false/\kvs.length<=sizeLine /\
 ∃ (xs:List (PyData × Addr × Value)) (o:Obj) (es:Array DictEntry) (ep:Nat),h.get? a=some o/\o.ExactDict/\o.data=.dict es ep/\es.toList=xs.map (entryOfKey (jq P w))/\(xs.map (·.1)).Nodup/\KX kvs xs
def fi (P:Program) (w:World) (a:Addr) (kvs:List (PyData × Addr × V)):HO:=.ext (lK P w a kvs)
theorem ny {P:Program} {w:World} {H:Hp} {h:Heap} {a:Addr} {kvs:List (PyData × Addr × V)} (S:lK P w a kvs h):bM P w H h a (fi P w a kvs) :=
 ⟨S,let ⟨_,_,_,o,_,_,e,_⟩:=S;⟨o,e⟩,fun h1 h2 ⟨s1,s2,xs,o,es,ep,e,r⟩ k=>⟨s1,s2,xs,o,es,ep,k o e,r⟩⟩
def za (H:Hp) (kvs:List (PyData × Addr × V)):Prop:=∀ p ∈ kvs,d9 p.1/\aV H (.ref p.2.1) p.1
noncomputable def eU (kvs:List (PyData × Addr × V)) (d:PyData):Option V:=(kvs.find? fun p=>decide (p.1=d)).map (·.2.2)
noncomputable def putD (kvs:List (PyData × Addr × V)) (d:PyData) (k:Addr) (v:V):List (PyData × Addr × V):=if (eU kvs d).isSome then kvs.map (fun p=>if p.1=d then (p.1,p.2.1,v) else p) else kvs ++ [(d,k,v)]
theorem KX.val {d:PyData}:∀ {kvs:List (PyData × Addr × V)} {xs:List (PyData × Addr × Value)},KX kvs xs->(eU kvs d=none/\atKey xs d=none)\/∃ v a u,eU kvs d=some v/\atKey xs d=some (a,u)/\RelV v u
 | _,_,.nil=>.inl ⟨rfl,rfl⟩
 | _,_,.cons (a:=p) (b:=q) (l₁:=kvs) (l₂:=xs) ⟨e1,e2,e3⟩ t=>by
  by_cases h:p.1=d
  ·refine .inr ⟨p.2.2,q.2.1,q.2.2,?_,?_,e3⟩
   ·unfold eU;rw [List.find?_cons_of_pos (by exact decide_eq_true h)];rfl
   ·unfold atKey;rw [List.find?_cons_of_pos (by exact decide_eq_true (e1 ▸ h))];rfl
  ·have h':¬ q.1=d:=fun z=>h (e1.trans z)
   have e4:eU (p :: kvs) d=eU kvs d:=by unfold eU;rw [List.find?_cons_of_neg (by rw [decide_eq_false h];decide)]
   have e5:atKey (q :: xs) d=atKey xs d:=by unfold atKey;rw [List.find?_cons_of_neg (by rw [decide_eq_false h'];decide)]
   rw [e4,e5]
   exact KX.val t
theorem KX.put {d:PyData} {k:Addr} {v:V} {u:Value} (r:RelV v u) {kvs:List (PyData × Addr × V)} {xs:List (PyData × Addr × Value)} (h:KX kvs xs):KX (putD kvs d k v) (storedH xs d k u):=by
 have hv:=h.val (d:=d)
 unfold putD storedH
 rcases hv with ⟨h1,h2⟩ | ⟨v',a',u',h1,h2,_⟩
 ·rw [h1,h2]
  have app:∀ {l:List (PyData × Addr × V)} {m:List (PyData × Addr × Value)},KX l m->KX (l ++ [(d,k,v)]) (m ++ [(d,k,u)]):=by
   intro l m q
   induction q with
   | nil=>exact .cons ⟨rfl,rfl,r⟩ .nil
   | cons hq _ ih=>exact .cons hq ih
  exact app h
 ·rw [h1,h2]
  show KX (kvs.map fun p=>if p.1=d then (p.1,p.2.1,v) else p) (xs.map (putAt d u))
  have go:∀ {l:List (PyData × Addr × V)} {m:List (PyData × Addr × Value)},KX l m->KX (l.map fun p=>if p.1=d then (p.1,p.2.1,v) else p) (m.map (putAt d u)):=by
   intro l m q
   induction q with
   | nil=>exact .nil
   | @cons p q ps qs hq _ ih =>
    refine .cons ?_ ih
    unfold putAt
    dsimp only
    by_cases e:p.1=d
    ·rw [if_pos e,if_pos (hq.1 ▸ e)]
     exact⟨hq.1,hq.2.1,r⟩
    ·rw [if_neg e,if_neg (fun z=>e (hq.1.trans z))]
     exact hq
  exact go h
theorem yk (kvs:List (PyData × Addr × V)) (d:PyData) (k:Addr) (v:V):(putD kvs d k v).length<=kvs.length+1:=by
 unfold putD
 split
 ·rw [List.length_map];omega
 ·rw [List.length_append];exact Nat.le_refl _
theorem KX.keys:∀ {kvs:List (PyData × Addr × V)} {xs:List (PyData × Addr × Value)},KX kvs xs->∀ q ∈ xs,∃ p ∈ kvs,p.1=q.1/\p.2.1=q.2.1
 | _,_,.nil,q,hq=>nomatch hq
 | _,_,.cons (a:=p) (l₁:=kvs) ⟨e1,e2,_⟩ t,q,hq=>by
  rcases List.mem_cons.mp hq with rfl | hq
  ·exact⟨p,List.mem_cons_self ..,e1,e2⟩
  ·obtain⟨p',hp',r⟩:=KX.keys t q hq
   exact⟨p',List.mem_cons_of_mem _ hp',r⟩
section
variable {X:Cx} {pins:List (Addr × Obj)} {σ : St} {H:Hp} {s:Shared} {a k:Addr} {kvs:List (PyData × Addr × V)} {d:PyData}
theorem key_is (I:Inv X pins σ H s) (hk:d9 d) (r:aV H (.ref k) d):(jq X.prog X.w).is s.heap d k:=⟨hk,r.reads I.aN rfl⟩
theorem oB (I:Inv X pins σ H s) (e:H a=some (fi X.prog X.w a kvs)) (hk:za H kvs):(a == sysModules)=false/\kvs.length<=sizeLine/\∃ xs,KX kvs xs/\s.heap.DictOfH (jq X.prog X.w) a xs:=by
 obtain⟨h1,h2,xs,o,es,ep,g1,g2,g3,g4,g5,g6⟩:=(show lK X.prog X.w a kvs s.heap from (I.aN a _ e).1)
 refine⟨h1,h2,xs,g6,o,es,ep,g1,g2,g3,g4,fun x hx=>?_,g5⟩
 obtain⟨p,hp,e1,e2⟩:=g6.keys x hx
 have:=hk p hp
 rw [<-e1,<-e2]
 exact key_is I this.1 this.2
theorem KX.len:∀ {kvs:List (PyData × Addr × V)} {xs:List (PyData × Addr × Value)},KX kvs xs->kvs.length=xs.length
 | _,_,.nil=>rfl
 | _,_,.cons _ t=>congrArg (· + 1) (KX.len t)
theorem qT {A:Around} (hu:A.units+66 < cLine) {P:Program} {w:World}:(jq P w).room A.in1:=by show A.in1.units+64 < cLine;rw [Around.in1_units];omega
structure vg (X:Cx) (H:Hp) (a k:Addr) (kvs:List (PyData × Addr × V)) (d:PyData):Prop where
 at_:H a=some (fi X.prog X.w a kvs)
 keys:za H kvs
 key:d9 d
 rd:aV H (.ref k) d
theorem zJ (hu:X.A.units+66 < cLine):dY X (compareOp .In) (fun x y H Q=>∃ k a d kvs,x=.ref k/\y=.ref a/\vg X H a k kvs d/\Q (.bl (eU kvs d).isSome) H):=by
 intro pins s σ H x y v u Q I rx ry h
 obtain⟨k,a,d,kvs,rfl,rfl,D,q⟩:=h
 cases rx
 cases ry
 obtain⟨h1,h2,xs,kx,dd⟩:=oB I D.at_ D.keys
 refine wpAny_in_heap (qT hu) (key_is I D.key D.rd) h1 dd ?_
 have e:(atKey xs d).isSome=(eU kvs d).isSome:=by
  rcases kx.val (d:=d) with ⟨e1,e2⟩ | ⟨_,_,_,e1,e2,_⟩ <;> rw [e1,e2] <;> rfl
 rw [e]
 exact⟨.bl _,H,I.tok _,rfl,q⟩
theorem vh (hu:X.A.units+66 < cLine):dY X (compareOp .NotIn) (fun x y H Q=>∃ k a d kvs,x=.ref k/\y=.ref a/\vg X H a k kvs d/\Q (.bl (!(eU kvs d).isSome)) H):=by
 intro pins s σ H x y v u Q I rx ry h
 obtain⟨k,a,d,kvs,rfl,rfl,D,q⟩:=h
 cases rx
 cases ry
 obtain⟨h1,h2,xs,kx,dd⟩:=oB I D.at_ D.keys
 refine wpAny_notIn_heap (qT hu) (key_is I D.key D.rd) h1 dd ?_
 have e:(atKey xs d).isSome=(eU kvs d).isSome:=by
  rcases kx.val (d:=d) with ⟨e1,e2⟩ | ⟨_,_,_,e1,e2,_⟩ <;> rw [e1,e2] <;> rfl
 rw [e]
 exact⟨.bl _,H,I.tok _,rfl,q⟩
theorem zK {o i:Expr} {pos:Pos} {td ty:TE} (hu:X.A.units+66 < cLine) (ho:PE X o td) (hi:PE X i ty) (hs:uT i) :
  PE X (.Subscript o i pos) (fun σ H Q=>td σ H fun x H1=>ty σ H1 fun y H2=>∃ k a d kvs v,x=.ref a/\y=.ref k/\vg X H2 a k kvs d/\eU kvs d=some v/\Q v H2):=by
 intro pins s σ H Q I h
 refine o3 PySem.F.slot_dict_getitem.lookup hs (br (ho pins s σ H _ I h) fun u s1 ⟨x,H1,I1,rx,q1⟩=>br (hi pins s1 σ H1 _ I1 q1) fun iv s2 ⟨y,H2,I2,ry,k,a,d,kvs,v,ex,ey,D,hv,q2⟩=>?_)
 subst ex ey
 obtain rfl:u=Value.ref a:=rx
 obtain rfl:iv=Value.ref k:=ry
 obtain⟨h1,h2,xs,kx,dd⟩:=oB I2 D.at_ D.keys
 rcases kx.val (d:=d) with ⟨e1,_⟩ | ⟨v',a',u',e1,e2,e3⟩
 ·rw [e1] at hv;cases hv
 ·rw [e1] at hv
  cases hv
  exact⟨dd.typeIs,wpAny_getItem_heap (qT hu) (key_is I2 D.key D.rd) dd e2 ⟨_,H2,I2.tok _,e3,q2⟩⟩
theorem yl (hu:X.A.units+66 < cLine):xn X (fun o i v H Q=>∃ k a d kvs,o=.ref a/\i=.ref k/\vg X H a k kvs d/\kvs.length < sizeLine/\Q (upd H a (fi X.prog X.w a (putD kvs d k v)))):=by
 intro pins s σ H o i v ov iv u Q I ro ri rv h
 obtain⟨k,a,d,kvs,rfl,rfl,D,hz,q⟩:=h
 cases ro
 cases ri
 obtain⟨h1,h2,xs,kx,dd⟩:=oB I D.at_ D.keys
 refine wpAny_setItem_heap (qT hu) (key_is I D.key D.rd) dd (fun h' hm' hs'=>?_) (by rw [<-kx.len];exact h2)
 obtain⟨o',es,ep,g1,g2,g3,g4,g5,g6⟩:=id hm'
 refine⟨_,I.write (t':=_) (x:=a) (e:=a) (by rw [D.at_];exact trivial) (.inl rfl) (fun c u' hc hu=>(hs'.2 c hc).trans hu) ⟨o',g1⟩ (ny ⟨h1,?_,storedH xs d k u,o',es,ep,g1,g2,g3,g4,g6,kx.put rv⟩),q⟩
 have:=yk kvs d k v
 omega
end
open LS
section
variable {X:Cx}
end
def pA (a0 a1:V):List (Str × V):=[("members",a0),("places",a1)]
section
variable {a0 a1 z:V}
theorem gW:(pA a0 a1).lookup ("members" : Str)=some a0:=AX
theorem iF:(pA a0 a1).lookup ("places" : Str)=some a1:=(xU (by decide +kernel) AX)
theorem oC:dZ "members" a0 ([]:List (Str × V))=([("members",a0)]:List (Str × V)):=AY
theorem wO:dZ "places" a1 ([("members",a0)]:List (Str × V))=pA a0 a1:=(Cz (by decide +kernel) AY)
theorem sg:(pA a0 a1).lookup ("place_of" : Str)=none:=(xU (by decide +kernel) (xU (by decide +kernel) rfl))
end
structure si (K:PySem.W.Frag) (C:Addr):Prop where
 cl:mM K C
 members:iB K C "members"
 places:iB K C "places"
abbrev vN (ms:List Nat):List V:=ms.map fun k=>V.int (k:Nat)
def j9 (m d:Addr) (H H':Hp):Prop:=∀ c o,H c=some o->c ≠ m->c ≠ d->H' c=some o
theorem j9.refl {m d:Addr} {H:Hp}:j9 m d H H:=fun _ _ h _ _=>h
theorem j9.of_same {m d:Addr} {H H':Hp} (h:ah H H'):j9 m d H H':=fun c o e _ _=>h c o e
section
variable {C r m d:Addr} {H H':Hp} {ms:List Nat}
end
section
variable (C:Addr)
end
def CZ:Piece->Bool
 | ([],.go _)=>true
 | _=>false
theorem dG {l:List Nat} {n:Nat} (nd:l.Nodup) (h:∀ x ∈ l,x < n):l.length<=n:=by
 have:=sub_len nd (m:=List.range n) fun x hx=>List.mem_range.mpr (h x hx)
 simpa using this
def gX:End->List V
 | .stop=>[.str "stop"]
 | .go _=>[.str "go"]
 | .cC b x n _ _=>[.str (wT b),.str x,.int n]
def ym:End->List Nat->End
 | .go _,[a]=>.go a
 | .cC b x n _ _,[a,c]=>.cC b x n a c
 | e,_=>e
theorem yn {e:End} {ns:List Nat} (h:ns.length=(aP e).length):d7 (ym e ns)=gX e++vN ns:=by
 cases e with
 | stop=>match ns,h with | [],_=>rfl
 | go p=>match ns,h with | [a],_=>rfl
 | cC b x n p q=>match ns,h with | [a,c],_=>rfl
theorem wQ {H:Hp} {t:Addr} {e:End} (h:H t=some (.tup (d7 e))):aV H (.ref t) (ji e):=by
 cases e with
 | stop=>exact .tup h (.cons (.str _) .nil)
 | go p=>exact .tup h (.cons (.str _) (.cons (.int _) .nil))
 | cC b x n p q=>exact .tup h (.cons (.str _) (.cons (.str _) (.cons (.int _) (.cons (.int _) (.cons (.int _) .nil)))))
theorem sj {ms:List Nat} {k:Nat} (h:ms.Nodup):(LS.putIn ms k).Nodup:=by
 unfold LS.putIn
 split
 ·exact h
 ·next hk =>
  rw [List.nodup_append]
  refine⟨h,by simp,fun x hx y hy z=>?_⟩
  rw [List.mem_singleton.mp hy] at z
  exact hk (z ▸ hx)
def sm (k:Nat):PyData:=.int (k:Nat)
def lL:Sp:=fun vs H Q _=>∃ (ea:Addr) (e:End),vs = [.ref ea]/\H ea=some (.tup (d7 e))/\∀ t H',H' t=some (.tup (gX e))->ah H H'->Q (.ref t) H'
theorem so {H:Hp}:∀ ms:List Nat,aZ H (vN ms) (ms.map sm)
 | []=>.nil
 | _ :: ms=>.cons (.int _) (so ms)
theorem eh:∀ ds:List PyData,(∀ d ∈ ds,d.canLay0=true)->(PyData.tuple ds).canLay0=true
 | [],_=>rfl
 | d :: ds,h=>by
  have ih:=eh ds fun x hx=>h x (List.mem_cons_of_mem _ hx)
  show (d.canLay0 && (PyData.tuple ds).canLay0)=true
  rw [h d (List.mem_cons_self ..),ih]
  rfl
theorem mz {m:Nat}:∀ ds:List PyData,(∀ d ∈ ds,d.depth<=m)->PyData.depthAll ds<=m
 | [],_=>Nat.zero_le _
 | d :: ds,h=>by
  have ih:=mz ds fun x hx=>h x (List.mem_cons_of_mem _ hx)
  have h1:=h d (List.mem_cons_self ..)
  show max d.depth (PyData.depthAll ds)<=m
  omega
theorem yo (d:cL):(cQ d).depth<=1:=by cases d <;> exact Nat.le_refl 1
theorem zL (e:End):(ji e).depth<=1:=by cases e <;> exact Nat.le_refl 1
theorem wR (p:Piece):(cb p).depth<=3:=by
 have h1:=mz (p.1.map cQ) fun d hd=>by obtain⟨x,_,rfl⟩:=List.mem_map.mp hd;exact yo x
 have h2:=zL p.2
 show max (PyData.depthAll (p.1.map cQ)+1) (max (ji p.2).depth 0)+1<=3
 omega
theorem fN {x:Str} (h:dC x):PyData.canLay0 (.str x)=true:=by
 show (x.cps.all fun c=>decide (c < 0x110000))=true
 rw [<-Array.all_toList,List.all_eq_true]
 intro c hc
 have:=h.az c hc
 exact decide_eq_true (by omega)
theorem yq {xs:List Str} (hx:∀ x ∈ xs,dC x) {d:cL} (h:eS xs d):(cQ d).canLay0=true:=by
 cases d with
 | put x n =>
  refine eh _ fun y hy=>?_
  rcases List.mem_cons.mp hy with rfl | hy
  ·decide +kernel
  rcases List.mem_cons.mp hy with rfl | hy
  ·exact fN (hx _ h.1)
  rw [List.mem_singleton.mp hy];rfl
 | copy x z =>
  refine eh _ fun y hy=>?_
  rcases List.mem_cons.mp hy with rfl | hy
  ·decide +kernel
  rcases List.mem_cons.mp hy with rfl | hy
  ·exact fN (hx _ h.1)
  rw [List.mem_singleton.mp hy];exact fN (hx _ h.2)
 | add x n =>
  refine eh _ fun y hy=>?_
  rcases List.mem_cons.mp hy with rfl | hy
  ·decide +kernel
  rcases List.mem_cons.mp hy with rfl | hy
  ·exact fN (hx _ h.1)
  rw [List.mem_singleton.mp hy];rfl
 | read x =>
  refine eh _ fun y hy=>?_
  rcases List.mem_cons.mp hy with rfl | hy
  ·decide +kernel
  rw [List.mem_singleton.mp hy];exact fN (hx _ h)
 | tell x =>
  refine eh _ fun y hy=>?_
  rcases List.mem_cons.mp hy with rfl | hy
  ·decide +kernel
  rw [List.mem_singleton.mp hy];exact fN (hx _ h)
theorem zM {xs:List Str} (hx:∀ x ∈ xs,dC x) {c:Nat} {e:End} (h:iV xs c e):(ji e).canLay0=true:=by
 cases e with
 | stop =>
  refine eh _ fun y hy=>?_
  rw [List.mem_singleton.mp hy];decide +kernel
 | go p =>
  refine eh _ fun y hy=>?_
  rcases List.mem_cons.mp hy with rfl | hy
  ·decide +kernel
  rw [List.mem_singleton.mp hy];rfl
 | cC b x n p q =>
  refine eh _ fun y hy=>?_
  rcases List.mem_cons.mp hy with rfl | hy
  ·cases b <;> decide +kernel
  rcases List.mem_cons.mp hy with rfl | hy
  ·exact fN (hx _ h.1)
  rcases List.mem_cons.mp hy with rfl | hy
  ·rfl
  rcases List.mem_cons.mp hy with rfl | hy
  ·rfl
  rw [List.mem_singleton.mp hy];rfl
def CF (ps:List Piece):Prop:=∀ p ∈ ps,(PyData.tuple (p.1.map cQ)).canLay0=true/\(ji p.2).canLay0=true
theorem yr {xs:List Str} (hx:∀ x ∈ xs,dC x) {m:Nat} {ps:List Piece} (ok:cq xs m ps):CF ps:=fun p hp =>
 ⟨eh _ fun d hd=>by obtain⟨x,hx',rfl⟩:=List.mem_map.mp hd;exact yq hx ((ok.gQ p hp).2 x hx'),zM hx (ok.ends p hp)⟩
theorem jU (k:Nat):∀ ms:List Nat,kA (.int (k:Nat)) (vN ms)=decide (k ∈ ms)
 | []=>rfl
 | m :: ms=>by
  have ih:=jU k ms
  show ((((m:Nat):Int) == ((k:Nat):Int)) || kA (.int (k:Nat)) (vN ms))=_
  rw [ih]
  by_cases e:m=k
  ·subst e;simp
  ·have e':¬ (m:Int)=(k:Int):=by omega
   rw [beq_false_of_ne e',Bool.false_or]
   have:k ∈ m :: ms ↔ k ∈ ms:=by rw [List.mem_cons];exact⟨fun h=>h.resolve_left fun z=>e z.symm,.inr⟩
   simp only [this]
theorem mB (ms:List Nat):(vN ms).all ir=true:=by rw [List.all_eq_true];intro v hv;obtain⟨k,_,rfl⟩:=List.mem_map.mp hv;rfl
theorem lM (ms:List Nat):vN ms=(ms.map fun k:Nat=>(k:Int)).map V.int:=by rw [List.map_map];rfl
theorem vi {K:PySem.W.Frag} {H:Hp} {ea:Addr} {e:End} {Q:VK} (he:H ea=some (.tup (d7 e))) (q:∀ t H',H' t=some (.tup (gX e))->ah H H'->Q (.ref t) H'):yX K (.ref ea) none (some ((gX e).length:Nat)) H Q:=by
 have ec:ia (d7 e) none (some ((gX e).length:Nat))=gX e:=by
  unfold ia
  rw [HT.rn,HT.tZ]
  cases e <;> rfl
 refine⟨ea,_,rfl,ay.of he,fun hw=>?_,fun _ p hp=>?_⟩
 ·unfold ia at ec
  rw [hw.1,hw.2] at ec
  refine q ea H ?_ (ah.refl H)
  rw [he,<-ec]
  simp
 ·rw [ec]
  exact q p _ ae (ah.new hp)
structure NF (X:Cx) (a:Addr):Prop where
 none_:∀ o,X.dD.heap.get? a=some o->X.jW a=none->a ∉ X.ex->False
 tup:∀ xs,X.jW a ≠ some (.tup xs)
 eJ:∀ o u,X.jW a ≠ some (.eJ o u)
 kK:∀ ps,X.jW a ≠ some (.kK ps)
section
variable {X:Cx} {pins:List (Addr × Obj)} {σ : L2.St} {H:Hp} {s:Shared} {a:Addr}
theorem Inv.nf {kvs:List (Key × V)} (I:Inv X pins σ H s) (e:H a=some (.dK kvs)):NF X a where
 none_:=fun o h1 h2 h3=>by
  have:=I.base.free a o h1 h2 h3
  rw [e] at this
  cases this
 tup:=fun xs h=>by
  have:=I.base.aJ a xs h
  rw [e] at this
  cases this
 eJ:=fun o u h=>by
  have:=I.base.iH a o u h
  rw [e] at this
  cases this
 kK:=fun ps h=>by
  obtain⟨more,this⟩:=I.base.ja a ps h
  rw [e] at this
  cases this
theorem Inv.swap {u u':HO} (I:Inv X pins σ H s) (nf:NF X a) (e:H a=some u) (no:∀ y,u ≠ .own y) (nt:∀ xs,u ≠ .tup xs) (new:bM X.prog X.w (upd H a u') s.heap a u'):Inv X pins σ (upd H a u') s where
 ok:=I.ok
 os:=I.os
 bare:=I.bare
 base:={
  keep:=I.base.keep
  slot:=I.base.slot
  free:=fun b o h1 h2 h3=>by
   by_cases z:b=a
   ·subst z;exact absurd (nf.none_ o h1 h2 h3) id
   ·rw [au z];exact I.base.free b o h1 h2 h3
  there:=I.base.there
  aJ:=fun b xs h=>by
   have z:b ≠ a:=fun z=>by subst z;exact nf.tup xs h
   rw [au z];exact I.base.aJ b xs h
  iH:=fun b o v h=>by
   have z:b ≠ a:=fun z=>by subst z;exact nf.eJ o v h
   rw [au z];exact I.base.iH b o v h
  ja:=fun b ps h=>by
   have z:b ≠ a:=fun z=>by subst z;exact nf.kK ps h
   rw [au z];exact I.base.ja b ps h }
 loc:=I.loc
 cell:=I.cell
 free:=by rw [au (fun z=>by have:=I.free;rw [z,e] at this;cases this)];exact I.free
 fc:=fun x c h=>by rw [au (fun z=>by have:=I.fc x c h;rw [z,e] at this;cases this)];exact I.fc x c h
 pin:=fun p hp=>by
  obtain⟨h1,h2,h3⟩:=I.pin p hp
  exact⟨h1,by rw [au (fun z=>by rw [z,e] at h2;cases h2)];exact h2,h3⟩
 aN:=fun b o h=>by
  by_cases z:b=a
  ·subst z
   rw [ae] at h
   cases h
   exact new
  ·rw [au z] at h
   refine (I.aN b o h).m5 (fun _ _ _ q=>q) (fun c q=>?_) fun c xs q=>?_
   ·rw [au (fun y=>by rw [y,e] at q;exact no _ (Option.some.inj q))];exact q
   ·rw [au (fun y=>by rw [y,e] at q;exact nt _ (Option.some.inj q))];exact q
 len:=I.len
end
theorem zN {P:Program} {w:World} {k:Key} {v:Value} (h:(aL P w).is k v=true):RelV (kV k) v:=by
 cases k with
 | inr x=>exact jD h
 | inl i =>
  obtain⟨t,e⟩:=Value.isInt_shape (show Value.isInt i v=true from h)
  exact⟨t,e⟩
def BS (a:Addr) (kvs:List (Key × V)) (ob:Obj):It :=
 ⟨fun i H=>H a=some (.eJ ob (.dK kvs))/\i < kvs.length,fun i H x H'=>H' = H/\∃ k v,kvs[i]? = some (k,v)/\x=kV k,fun i H=>H a=some (.eJ ob (.dK kvs))/\kvs.length<=i⟩
theorem wU {P:Program} {w:World} {K:PySem.W.Frag} {tg:Expr} {kvs:List (Key × V)} {vs:List (Key × Value)} {ob:Obj} {ep:Nat} (a it:Addr) (hat:∀ h:Heap,h.get? a=some ob->h.DictAt (aL P w) a vs ep) (rel:KV kvs vs) :
  Turn P w K tg (BS a kvs ob) [it] it (fun i h=>h.IsKeyIter it a i vs.length ep) where
 mem:=by simp
 obj:=fun i h st b hb=>by
  have e:b=it:=by simpa using hb
  subst e
  obtain⟨o,e,c,d⟩:=st
  exact⟨o,e,fun v z=>by rw [d] at z;cases z⟩
 keep:=fun i h h' st k=>st.at fun o e=>k it (by simp) o e
 item:=by
  intro X hP hw hK hc i pins s σ H E I hf st hg
  subst hP hw hK
  obtain⟨ha,hi⟩:=hg
  obtain⟨e0,_⟩:=(show bM X.prog X.w H s.heap a (.eJ ob (.dK kvs)) from I.aN a _ ha)
  have hvi:i < vs.length:=by rw [<-rel.length];exact hi
  have hx:vs[i]? = some vs[i]:=by simp [hvi]
  generalize vs[i] = p at hx
  obtain⟨k,u⟩:=p
  obtain⟨v,hkv⟩:∃ v,kvs[i]? = some (k,v):=by
   have e1:(vs.map (·.1))[i]? = some k:=by rw [List.getElem?_map,hx];rfl
   rw [<-rel.keys,List.getElem?_map] at e1
   cases e2:kvs[i]? with
   | none=>rw [e2] at e1;cases e1
   | some q =>
    rw [e2] at e1
    obtain⟨k',v⟩:=q
    cases (Option.some.inj e1)
    exact⟨v,rfl⟩
  obtain⟨f0,f1,f2,f3,f4,f5⟩:=hf it (by simp)
  refine wpAny_pyNext_dict_item st (hat _ e0) hx fun key h' hkey st' sb=>?_
  have I1:Inv X pins σ H { s with heap:=h' }:=I.turned (t':=s.toks) (fun b o hb e=>(sb.2 b hb).trans e) f0 f1 f3 f4 f5
  obtain⟨o,e,c,d⟩:=id st'
  exact⟨key,rfl,qM (s:={ s with heap:=h' }) e c d (by decide) ⟨kV k,H,I1,zN hkey,⟨rfl,k,v,hkv,rfl⟩,st',fun b hb=>(hf b hb).1⟩⟩
 done:=by
  intro X hP hw hK hc i pins s σ H E I hf st hg
  subst hP hw hK
  obtain⟨ha,hi⟩:=hg
  obtain⟨e0,_⟩:=(show bM X.prog X.w H s.heap a (.eJ ob (.dK kvs)) from I.aN a _ ha)
  obtain⟨f0,f1,f2,f3,f4,f5⟩:=hf it (by simp)
  exact wpAny_pyNext_dict_end (I.ok.hd hc) st (hat _ e0) (List.getElem?_eq_none (by rw [<-rel.length];exact hi)) fun h' eb=>⟨rfl,I.turned (t':=s.toks) (fun b o hb e=>eb b o hb e) f0 f1 f3 f4 f5⟩
 self:=fun _ _ _ _ _ st h=>wpAny_pyIter_keyiter st h
section
variable {X:Cx}
def BI (i:Nat) (X:Cx):TI:=fun σ H R=>∃ v,σ[i]? = some (some v)/\∃ a kvs,v=.ref a/\H a=some (.dK kvs)/\∀ ob,NF X a->R (BS a kvs ob) (upd H a (.eJ ob (.dK kvs)))
theorem zO {tg l:Expr} {i:Nat} (hl:PE X l (oR i)):PI X tg l (BI i X):=by
 intro pins s σ H R I h
 obtain⟨v0,hv0,a,kvs,rfl,ha,q⟩:=h
 refine br (hl pins s σ H (fun x H1=>x=.ref a/\H1=H) I ⟨_,hv0,rfl,rfl⟩) fun v s1 ⟨x,H1,I1,r1,e1,e2⟩=>?_
 subst e1 e2
 cases r1
 have nf:=I1.nf ha
 obtain⟨z,hd,vs,rel,dd⟩:=ml I1.aN ha
 obtain⟨ep,ob,es,ho,rest⟩:=dd.dictAt
 have I2:Inv X pins σ (upd H1 a (.eJ ob (.dK kvs))) s1:=I1.swap nf ha (fun _ h=>nomatch h) (fun _ h=>nomatch h) ⟨ho,lg z hd rel ⟨ob,es,ep,ho,rest⟩⟩
 refine wpAny_pyIter_dict hd ⟨ob,es,ho,rest⟩ ?_
 refine⟨s1.heap.objs.size,[s1.heap.objs.size],_,_,_,rfl,I2.kept (t':=s1.toks) fun b o e=>Heap.get?_push_of_some _ e,wU a _ (fun h e=>⟨ob,es,e,rest⟩) rel,⟨_,Heap.get?_push_size _ rfl,rfl,rfl⟩,fun b hb=>?_,q ob nf⟩
 have e:b=s1.heap.objs.size:=by simpa using hb
 subst e
 exact I2.m6 (Nat.le_refl _) (I2.aN.fresh (Nat.le_refl _))
def BJ (i:Nat) (g:TG) (tb:TS):TS:=fun D σ H=>∃ v,σ[i]? = some (some v)/\∃ a kvs,v=.ref a/\H a=some (.dK kvs)/\∀ ob,∃ Pv:Nat->L2.St->Hp->Prop,Pv 0 σ (upd H a (.eJ ob (.dK kvs))) /\
 (∀ j τ H2,Pv j τ H2->H2 a=some (.eJ ob (.dK kvs))) /\
 (∀ j k u τ H2,kvs[j]? = some (k,u)->Pv j τ H2->g (kV k) τ H2 fun τ3 H3=>tb { D with nx:=Pv (j+1),ct:=Pv (j+1),bk:=fun τ4 H4=>∃ ob',H4 a=some (.eJ ob' (.dK kvs))/\D.nx τ4 (upd H4 a (.dK kvs)),rt:=fun r H4=>∃ ob',H4 a=some (.eJ ob' (.dK kvs))/\D.rt r (upd H4 a (.dK kvs)) } τ3 H3) /\
 (∀ τ H2,Pv kvs.length τ H2->D.nx τ (upd H2 a (.dK kvs)))
theorem Bf {pins:List (Addr × Obj)} {σ : L2.St} {H:Hp} {s:Shared} {a:Addr} {ob:Obj} {kvs:List (Key × V)} (I:Inv X pins σ H s) (nf:NF X a) (e:H a=some (.eJ ob (.dK kvs))):Inv X pins σ (upd H a (.dK kvs)) s:=by
 obtain⟨z,hd,vs,rel,dd⟩:=mj I.aN (.inr ⟨ob,e⟩)
 exact I.swap nf e (fun _ h=>nomatch h) (fun _ h=>nomatch h) (lg z hd rel dd)
theorem zP {tg l:Expr} {body:List Stmt} {i:Nat} {g:TG} {tb:TS} {pos:Pos} (hp:PassesOwn (model X.prog X.w) X.A X.env X.xe) (hc:X.calm=true) (hl:PE X l (oR i)) (hg:PG X tg g) (hb:jb X body tb)
  (hs:∀ x,foldedSetIterable l X.env x=pure x:=by intro _;rfl):PS X (.For tg l body [] pos) (BJ i g tb):=by
 intro pins s σ H D I h
 obtain⟨v,hv,a,kvs,rfl,ha,h⟩:=h
 have nf:=I.nf ha
 refine br (cO hp hc (zO hl) hg hb hs pins s σ H { nx:=fun τ H2=>∃ ob,H2 a=some (.eJ ob (.dK kvs))/\D.nx τ (upd H2 a (.dK kvs)),rt:=fun r H2=>∃ ob,H2 a=some (.eJ ob (.dK kvs))/\D.rt r (upd H2 a (.dK kvs)),bk:=D.bk,ct:=D.ct } I ?_) fun f s' q=>?_
 ·refine⟨_,hv,a,kvs,rfl,ha,fun ob _=>?_⟩
  obtain⟨Pv,p0,pf,ps,pe⟩:=h ob
  refine⟨fun j m τ H2=>m=kvs.length - j/\j<=kvs.length/\Pv j τ H2,⟨kvs.length,by simp,Nat.zero_le _,p0⟩,?_⟩
  rintro j m τ H2 ⟨rfl,hj,p⟩
  by_cases hlt:j < kvs.length
  ·refine .inr ⟨⟨pf j τ H2 p,hlt⟩,Pv (j+1),fun τ' H' p'=>⟨kvs.length - (j+1),by omega,rfl,hlt,p'⟩,fun x H' y=>?_⟩
   obtain⟨e1,k,u,e2,e3⟩:=y
   subst e1 e3
   exact ps j k u τ _ e2 p
  ·have e:j=kvs.length:=by omega
   subst e
   exact .inl ⟨⟨pf _ τ H2 p,Nat.le_refl _⟩,ob,pf _ τ H2 p,pe τ H2 p⟩
 ·cases f with
  | next =>
   obtain⟨τ,H2,I2,ob,e,q⟩:=q
   exact⟨τ,_,Bf I2 nf e,q⟩
  | brk=>exact q
  | cont=>exact q
  | ret u =>
   obtain⟨r,τ,H2,I2,rr,ob,e,q⟩:=q
   exact⟨r,τ,_,Bf I2 nf e,rr,q⟩
end
def LT (H:Hp) (d:Addr) (T:Str->Sx) (m:Nat):Prop:=∃ kvs ks,H d=some (.dK kvs)/\Tb 0 H kvs ks T/\(∀ x ∈ ks,T x ≠ cy)/\ks.length<=m
theorem LT.aJ {H H':Hp} {d:Addr} {T:Str->Sx} {m:Nat} (h:LT H d T m) (hd:∀ o,H d=some o->H' d=some o) (k:∀ p xs,H p=some (.tup xs)->H' p=some (.tup xs)):LT H' d T m:=by
 obtain⟨kvs,ks,h1,h2,h3,h4⟩:=h
 exact⟨kvs,ks,hd _ h1,h2.aJ k,h3,h4⟩
theorem LT.same {H H':Hp} {d:Addr} {T:Str->Sx} {m:Nat} (h:LT H d T m) (s:ah H H'):LT H' d T m:=h.aJ (fun o e=>s _ _ e) fun p xs e=>s _ _ e
theorem LT.get {H:Hp} {T:Str->Sx} {kvs:List (Key × V)} {ks:List Str} {t:Addr} (tb:Tb 0 H kvs ks T) (cl:∀ x ∈ ks,T x ≠ cy) (ht:H t=some (.tup [.bf,.bf])) (x:Str):∃ v,(bO kvs (Sum.inr x)).getD (.ref t)=v/\SH H v (T x):=by
 rcases tb.val x with ⟨a,b,_⟩ | ⟨v,a,b,c⟩
 ·exact⟨_,by rw [a];rfl,t,rfl,by rw [b];exact ht⟩
 ·refine⟨v,by rw [a];rfl,?_⟩
  rcases b with b | ⟨_,b⟩
  ·exact b
  ·exact absurd b (cl x c)
theorem ql {T:Str->Sx} {x:Str} (h:T x=cy):cA T x cy=T:=by
 funext y
 unfold cA
 by_cases e:y=x
 ·rw [if_pos e,e,h]
 ·rw [if_neg e]
theorem wV {T:Str->Sx} {x:Str} {s t:Sx}:cA (cA T x s) x t=cA T x t:=by
 funext y
 unfold cA
 by_cases e:y=x
 ·rw [if_pos e,if_pos e]
 ·rw [if_neg e,if_neg e,if_neg e]
theorem qm (k j:Key):∀ kvs:List (Key × V),bO (fe kvs k) j=if j=k then none else bO kvs j
 | []=>by simp [fe,bO]
 | p :: r=>by
  have ih:=qm k j r
  by_cases e:p.1=k
  ·rw [p9 e,ih]
   by_cases z:j=k
   ·rw [if_pos z,if_pos z]
   ·rw [if_neg z,if_neg z,cN (p:=p) (fun w:p.1=j=>z (w.symm.trans e))]
  ·rw [qc e]
   by_cases w:p.1=j
   ·rw [cV w,cV w,if_neg (fun z=>e (w.trans z))]
   ·rw [cN w,cN w,ih]
theorem Tb.drop {aA:Addr} {H:Hp} {kvs:List (Key × V)} {ks:List Str} {T:Str->Sx} (h:Tb aA H kvs ks T) (x:Str):Tb aA H (fe kvs (Sum.inr x)) (ks.filter fun y=>decide (y ≠ x)) (cA T x cy) where
 keys:=by
  have go:∀ (kvs:List (Key × V)) (ks:List Str),kvs.map (·.1)=ks.map Sum.inr->(fe kvs (Sum.inr x)).map (·.1)=(ks.filter fun y=>decide (y ≠ x)).map Sum.inr:=by
   intro kvs
   induction kvs with
   | nil =>
    intro ks e
    cases ks with
    | nil=>rfl
    | cons a b=>simp at e
   | cons p r ih =>
    intro ks e
    cases ks with
    | nil=>simp at e
    | cons a b =>
     rw [List.map_cons,List.map_cons] at e
     injection e with e1 e2
     by_cases z:a=x
     ·rw [p9 (by rw [e1,z]),List.filter_cons_of_neg (by simp [z])]
      exact ih b e2
     ·rw [qc (fun w=>z (Sum.inr.inj (e1.symm.trans w))),List.filter_cons_of_pos (by simp [z]),List.map_cons,List.map_cons,ih b e2,e1]
  exact go kvs ks h.keys
 nd:=h.nd.filter _
 val:=fun y=>by
  rw [qm]
  unfold cA
  by_cases e:y=x
  ·subst e
   rw [if_pos rfl,if_pos rfl]
   exact .inl ⟨rfl,rfl,by simp⟩
  ·rw [if_neg (fun z=>e (Sum.inr.inj z)),if_neg e]
   rcases h.val y with ⟨a,b,c⟩ | ⟨v,a,b,c⟩
   ·exact .inl ⟨a,b,fun z=>c (List.mem_filter.mp z).1⟩
   ·exact .inr ⟨v,a,b,List.mem_filter.mpr ⟨c,by simp [e]⟩⟩
theorem wW {kvs:List (Key × V)} {k:Key} {v:V} {j:Nat} (nd:(kvs.map (·.1)).Nodup) (h:kvs[j]? = some (k,v)):putK (kvs.take j) k v=kvs.take (j+1):=by
 have hj:j < kvs.length:=(List.getElem?_eq_some_iff.mp h).1
 have hn:¬ k ∈ (kvs.take j).map (·.1):=fun hm=>by
  have hs:(kvs.take (j+1)).map (·.1)=(kvs.take j).map (·.1) ++ [k]:=by
   rw [List.take_add_one,h,List.map_append];rfl
  have nd2:((kvs.take (j+1)).map (·.1)).Nodup:=by
   rw [List.map_take]
   exact nd.sublist (List.take_sublist _ _)
  rw [hs,List.nodup_append] at nd2
  exact nd2.2.2 k hm k (by simp) rfl
 have hv:bO (kvs.take j) k=none:=by
  cases e:bO (kvs.take j) k with
  | none=>rfl
  | some u=>exact absurd (zw e) hn
 rw [xK _ hv,List.take_add_one,h]
 rfl
def pB:Sp:=fun vs H Q _=>∃ (d:Addr) (T:Str->Sx),vs = [.ref d]/\LT H d T 63/\∀ v H',FV H' v T->ah H H'->Q v H'
def mC:Sp:=fun vs H Q _=>∃ (d:Addr) (T:Str->Sx) (m:Nat) (x:Str) (sv:V) (s:Sx),vs = [.ref d,.str x,sv]/\LT H d T m/\m<=60/\SH H sv s/\∀ d' H',LT H' d' (cA T x s) (m+1)->ah H H'->Q (.ref d') H'
def sr:Sp:=fun vs H Q _=>∃ (d p:Addr) (T:Str->Sx) (m:Nat) (ws:List V) (ds:List cL),vs = [.ref d,.ref p]/\LT H d T m/\H p=some (.tup ws)/\aZ H ws (ds.map cQ)/\m+ds.length<=60/\∀ d' H',LT H' d' (bB T ds) (m+ds.length)->ah H H'->Q (.ref d') H'
theorem yt {x:Str} (h:dC x):PyData.canLay0 (.str x)=true:=by
 show (x.cps.all fun c=>decide (c < 0x110000))=true
 rw [<-Array.all_toList,List.all_eq_true]
 intro c hc
 have:=h.az c hc
 exact decide_eq_true (by omega)
def sy (T:Str->Sx) (m:Nat):Prop:=∀ ss:List Str,(∀ x ∈ ss,T x ≠ cy)->ss.Nodup->ss.length<=m
def pC (aA:Addr):Sp:=fun vs H Q _=>∃ (fv:V) (x:Str) (T:Str->Sx),vs = [fv,.str x]/\FV H fv T/\∀ v H',SV aA H' v (T x)->ah H H'->Q v H'
def jF (aA:Addr):Sp:=fun vs H Q _=>∃ (fv sv:V) (x:Str) (T:Str->Sx) (s:Sx),vs = [fv,.str x,sv]/\FV H fv T/\SV aA H sv s/\sy T 62/\∀ v H',FV H' v (cA T x s)->ah H H'->Q v H'
section
variable {X:Cx}
end
theorem LT.up {H:Hp} {d:Addr} {T:Str->Sx} {m n:Nat} (h:LT H d T m) (le:m<=n):LT H d T n:=by
 obtain⟨kvs,ks,g1,g2,g3,g4⟩:=h
 exact⟨kvs,ks,g1,g2,g3,Nat.le_trans g4 le⟩
def pD (K:PySem.W.Frag):Sp:=fun vs H Q _=>∃ (n:Int) (q:Addr) (lo hi:Option Int),vs = [.int n,.ref q]/\ay K H q [vO lo,vO hi]/\Q (.bl (eO n lo hi)) H
def iN (K:PySem.W.Frag) (F:Option Int->Option Int->Int->Rs):Sp:=fun vs H Q _=>∃ (p:Addr) (n:Int) (lo hi:Option Int),vs = [.ref p,.int n]/\ay K H p [vO lo,vO hi]/\∀ v H',RV H' v (F lo hi n)->ah H H'->Q v H'
def pE (K:PySem.W.Frag):Sp:=fun vs H Q _=>∃ (p:Addr) (w:Str) (n:Int) (side:Bool) (lo hi:Option Int),vs = [.ref p,.str w,.int n,.bl side]/\ay K H p [vO lo,vO hi]/\∀ v H',RV H' v (di w lo hi n side)->ah H H'->Q v H'
def fm (T:Str->Sx) (b:Bool) (x:Str) (n:Int) (side:Bool):Rs:=di (wT b) (T x).1 (T x).2 n side
def gY (T:Str->Sx):End->List (Option (Str->Sx))
 | .stop=>[]
 | .go _=>[some T]
 | .cC b x n _ _=>[(fm T b x n true).map (cA T x),(fm T b x n false).map (cA T x)]
def BV (H:Hp) (u:V):Option (Str->Sx)->Prop
 | none=>u=.bf
 | some T=>FV H u T
theorem BV.aJ {H H':Hp} {u:V} {o:Option (Str->Sx)} (h:BV H u o) (k:∀ p xs,H p=some (.tup xs)->H' p=some (.tup xs)):BV H' u o:=by
 cases o with
 | none=>exact h
 | some T=>exact FV.aJ h k
def kG (H:Hp) (us:List V) (os:List (Option (Str->Sx))):Prop:=Paired (BV H) us os
def cH (T:Str->Sx) (e:End):List (Nat × (Str->Sx)):=((aP e).zip (gY T e)).filterMap fun p=>p.2.map fun U=>(p.1,U)
def nz (aA:Addr):Sp:=fun vs H Q _=>∃ (fv:V) (ea:Addr) (T:Str->Sx) (e:End),vs = [fv,.ref ea]/\FV H fv T/\H ea=some (.tup (d7 e))/\sy T 62 /\
 ∀ (t:Addr) (us:List V) (H':Hp),H' t=some (.tup us)->kG H' us (gY T e)->ah H H'->Q (.ref t) H'
def PV (H:Hp) (v:V) (p:Nat × (Str->Sx)):Prop:=∃ q u,v=.ref q/\H q=some (.tup [.int p.1,u])/\FV H u p.2
theorem PV.aJ {H H':Hp} {v:V} {p:Nat × (Str->Sx)} (h:PV H v p) (k:∀ p xs,H p=some (.tup xs)->H' p=some (.tup xs)):PV H' v p:=by
 obtain⟨q,u,e,h1,h2⟩:=h
 exact⟨q,u,e,k _ _ h1,h2.aJ k⟩
def lN (H:Hp) (vs:List V) (ps:List (Nat × (Str->Sx))):Prop:=Paired (PV H) vs ps
theorem lN.aJ {H H':Hp} (k:∀ p xs,H p=some (.tup xs)->H' p=some (.tup xs)):∀ {vs:List V} {ps:List (Nat × (Str->Sx))},lN H vs ps->lN H' vs ps
 | _,_,.nil=>.nil
 | _,_,.cons h t=>.cons (h.aJ k) (lN.aJ k t)
theorem kG.aJ {H H':Hp} (k:∀ p xs,H p=some (.tup xs)->H' p=some (.tup xs)):∀ {vs:List V} {ps:List (Option (Str->Sx))},kG H vs ps->kG H' vs ps
 | _,_,.nil=>.nil
 | _,_,.cons h t=>.cons (h.aJ k) (kG.aJ k t)
theorem lN.same {H H':Hp} {vs:List V} {ps:List (Nat × (Str->Sx))} (h:lN H vs ps) (s:ah H H'):lN H' vs ps:=h.aJ fun p xs e=>s _ _ e
theorem kG.same {H H':Hp} {vs:List V} {ps:List (Option (Str->Sx))} (h:kG H vs ps) (s:ah H H'):kG H' vs ps:=h.aJ fun p xs e=>s _ _ e
def pF (aA:Addr):Sp:=fun vs H Q _=>∃ (fv:V) (ea:Addr) (T:Str->Sx) (e:End),vs = [fv,.ref ea]/\FV H fv T/\H ea=some (.tup (d7 e))/\sy T 62 /\
 ∀ (t:Addr) (vs:List V) (H':Hp),H' t=some (.tup vs)->lN H' vs (cH T e)->ah H H'->Q (.ref t) H'
def nB (T:Str->Sx):Prop:=∀ x,T x ≠ cy->PyData.canLay0 (.str x)=true
theorem wX {T:Str->Sx} (h:nB T):∀ ss:List Str,(∀ x ∈ ss,T x ≠ cy)->(fM T ss).canLay0=true
 | [],_=>rfl
 | x :: ss,hs=>by
  have ih:=wX h ss fun y hy=>hs y (List.mem_cons_of_mem _ hy)
  show ((PyData.canLay0 (.str x) && ((dS (T x)).canLay0 && true)) && (fM T ss).canLay0)=true
  rw [h x (hs x (List.mem_cons_self ..)),ve,ih]
  rfl
theorem Bg (T:Str->Sx) (ss:List Str):(fM T ss).depth<=3:=by
 have go:∀ ss:List Str,PyData.depthAll (ss.map (dF T))<=2:=by
  intro ss
  induction ss with
  | nil=>exact Nat.zero_le _
  | cons x ss ih =>
   show max (max 0 (max ((dS (T x)).depth) 0)+1) (PyData.depthAll (ss.map (dF T)))<=2
   have hd:(dS (T x)).depth<=1:=by
    obtain⟨a,b⟩:=T x
    cases a <;> cases b <;> (show (1:Nat)<=1;decide)
   omega
 show PyData.depthAll (ss.map (dF T))+1<=3
 have:=go ss
 omega
theorem zQ {T:Str->Sx} {e:End} (h:(aP e).length < 2):gY T e=(aP e).map fun _=>some T:=by
 cases e with
 | stop=>rfl
 | go p=>rfl
 | cC b x n p q=>exact absurd h (by show ¬ 2 < 2;omega)
theorem uv {H:Hp} {fv:V} {T:Str->Sx} (h:FV H fv T):∀ l:List Nat,kG H (List.replicate l.length fv) (l.map fun _=>some T)
 | []=>.nil
 | _ :: l=>.cons h (uv h l)
def mU (H:Hp) (vs:List V) (rs:List Rs):Prop:=Paired (RV H) vs rs
theorem mU.same {H H':Hp} (s:ah H H'):∀ {vs:List V} {rs:List Rs},mU H vs rs->mU H' vs rs
 | _,_,.nil=>.nil
 | _,_,.cons h t=>.cons (h.same s) (mU.same s t)
theorem mU.put {H:Hp} {l:Addr} {xs:List V} {o:HO} (hl:H l=some (.lst xs)):∀ {vs:List V} {rs:List Rs},mU H vs rs->mU (upd H l o) vs rs
 | _,_,.nil=>.nil
 | _,_,.cons h t=>.cons (h.put hl) (mU.put hl t)
theorem RV.sv {aA:Addr} {H:Hp} {v:V} {s:Sx} (h:RV H v (some s)):SV aA H v s:=by
 obtain⟨a,b⟩:=s
 obtain⟨p,e,h⟩:=h
 exact .inl ⟨p,e,h⟩
def lO (ss:List Str):PyData:=.tuple (ss.map fun x=>.tuple [.str x,.tuple [.int 0,.int 0]])
def pG:Sp:=fun vs H Q _=>∃ (plv:V) (ps:List Piece) (xs:List Str) (m:Nat),vs = [plv]/\aV H plv (eN ps)/\cq xs m ps/\xs.length < 64/\(ba ps).length<=4000 /\
 ∀ (v:V) (ss:List Str) (H':Hp),aV H' v (lO ss)->ss.Perm (cw (ba ps))->sortedS ss=true->ah H H'->Q v H'
theorem gB:∀ ss:List Str,bR (ss.map fun x=>PyData.tuple [.str x,.tuple [.int 0,.int 0]])=true
 | []=>rfl
 | x :: ss=>by
  show (true && bR (ss.map fun x=>PyData.tuple [.str x,.tuple [.int 0,.int 0]]))=true
  rw [gB ss];rfl
theorem qo {T:Str->Sx} {e:End} {i k:Nat} {o:Option (Str->Sx)} (h1:(aP e)[i]? = some k) (h2:(gY T e)[i]? = some o) :
  (((aP e).zip (gY T e)).take (i+1)).filterMap (fun p=>p.2.map fun U=>(p.1,U))=(((aP e).zip (gY T e)).take i).filterMap (fun p=>p.2.map fun U=>(p.1,U))++(o.map fun U=>(k,U)).toList:=by
 have hz:((aP e).zip (gY T e))[i]? = some (k,o):=by rw [List.getElem?_zip_eq_some];exact⟨h1,h2⟩
 rw [List.take_add_one,hz,List.filterMap_append]
 cases o <;> rfl
theorem fO {α β : Type} {F:α->β->Prop} {l:List α} {m:List β} (h:Paired F l m) {i:Nat} {x:α} (e:l[i]? = some x):∃ y,m[i]? = some y/\F x y:=LS.j7 h e
theorem dE {α β : Type} {F:α->β->Prop}:∀ {l l':List α} {m m':List β},Paired F l m->Paired F l' m'->Paired F (l++l') (m++m')
 | _,_,_,_,.nil,h=>h
 | _,_,_,_,.cons r t,h=>.cons r (dE t h)
section
variable {prog:Program} {w:World} {A:Around} {E:Value->Shared->Prop} {s:Shared}
theorem sA {l:Addr} {vs:List Value} {ns:List Int} {Q:Value->Shared->Prop} (hl:s.heap.IsList l vs.toArray) (hI:IntsAre vs ns) (h64:vs.length < 64)
  (q:∀ (h':Heap) (D:Addr) (out:Array Value) (ns':List Int) (e:Nat),(∀ b o,s.heap.get? b=some o->h'.get? b=some o)->s.heap.objs.size<=D->h'.get? D=some { cls:=.type "list",data:=.seq out e } ->
   IntsAre out.toList ns'->ns'.Perm ns->ns'.Pairwise (· <= ·)->Q (.ref D) { s with heap:=h' }):wpAny (model prog w) A (call (.builtin "sorted") [.ref l]) Q E s:=by
 refine sorted_ints hl hI h64 fun out ns' a1 a2 a3=>?_
 unfold sortedAll
 generalize hg:((s.heap.push (seqObj "list" #[] 0)).update s.heap.objs.size (Obj.mapSeq (· ++ vs.toArray)))=g
 have hz:g.objs.size=s.heap.objs.size+1:=by rw [<-hg,Heap.size_update,size_push']
 have kp:∀ b o,s.heap.get? b=some o->g.get? b=some o:=fun b o e=>by
  rw [<-hg]
  exact (Heap.get?_update_other _ _ (Nat.ne_of_gt (Heap.lt_size e))).trans (Heap.get?_push_of_some _ e)
 have hoL:(g.push (seqObj "list" vs.toArray 0)).get? (s.heap.objs.size+1)=some (seqObj "list" vs.toArray 0):=by rw [<-hz];exact Heap.get?_push_size _ rfl
 obtain⟨e,he⟩:=sortedHeap_at (out:=out) hoL
 refine q _ _ out ns' e (fun b o ho=>?_) (Nat.le_succ _) he a1 a2 a3
 have h1:=kp b o ho
 have hlt:=Heap.lt_size ho
 rw [sortedHeap_old (Nat.ne_of_lt (Nat.lt_succ_of_lt hlt)) (by rw [size_push',hz];exact Nat.lt_succ_of_lt (Nat.lt_succ_of_lt hlt))]
 exact Heap.get?_push_of_some _ h1
end
section
variable {X:Cx}
theorem qC:dX X (.builtin "sorted") (fun vs H Q=>∃ (p:Addr) (ns:List Int),vs = [.ref p]/\aI X.K H p (ns.map V.int)/\ns.length < 64 /\
  ∀ (l:Addr) (ns':List Int),ns'.Perm ns->ns'.Pairwise (· <= ·)->H l=none->Q (.ref l) (upd H l (.lst (ns'.map V.int)))):=by
 intro pins s σ H xs us Q I r h
 obtain⟨p,ns,rfl,hp,h64,q⟩:=h
 obtain⟨u,rfl,ru⟩:=vals1 r
 cases (show u=Value.ref p from ru)
 obtain⟨its,hv,pl,_⟩:=I.list hp
 have hi:=intsAre_of hv
 refine sA pl.isList hi (by have:=hv.length;rw [List.length_map] at this;omega) fun h' D out ns' e hkeep hD he hS hp' hs=>?_
 have hv':Vals (ns'.map V.int) out.toList:=iC hS
 refine⟨.ref D,_,I.laid (t':=s.toks) (o:=.lst (ns'.map V.int)) hkeep hD (show bM X.prog X.w _ h' _ (.lst (ns'.map V.int)) from ⟨?_,out.toList,e,hv',by simpa using he⟩),rfl,q D ns' hp' hs (I.aN.fresh hD)⟩
 rw [List.length_map,hp'.length_eq]
 exact Nat.le_trans (Nat.le_of_lt h64) (by decide)
end
def nE (lo hi:Option Int):Rs:=match lo,hi with
 | some a,some b=>if b < a then none else some (some a,some b)
 | lo,hi=>some (lo,hi)
theorem wY (lo hi:Option Int) (n:Int):nE lo (some (iJ hi n))=fL lo hi n:=by
 cases lo <;> rfl
theorem yu (lo hi:Option Int) (n:Int):nE (some (iK lo n)) hi=gS lo hi n:=by
 cases hi <;> rfl
theorem zR {lo hi:Option Int} {n:Int} (le:mP lo hi):nE (if lo=some n then some (n+1) else lo) (if hi=some n then some (n - 1) else hi)=iL lo hi n:=by
 unfold iL
 by_cases h1:lo=some n
 ·rw [if_pos h1,if_pos h1]
  by_cases h2:hi=some n
  ·rw [if_pos h2,if_pos h2]
   show (if n - 1 < n+1 then none else _)=none
   rw [if_pos (by omega)]
  ·rw [if_neg h2,if_neg h2]
   subst h1
   cases hi with
   | none=>rfl
   | some h =>
    have:n<=h:=le
    have:¬ h=n:=fun z=>h2 (by rw [z])
    show (if h < n+1 then none else _)=_
    rw [if_neg (by omega)]
 ·rw [if_neg h1,if_neg h1]
  by_cases h2:hi=some n
  ·rw [if_pos h2,if_pos h2]
   subst h2
   cases lo with
   | none=>rfl
   | some a =>
    have:a<=n:=le
    have:¬ a=n:=fun z=>h1 (by rw [z])
    show (if n - 1 < a then none else _)=_
    rw [if_neg (by omega)]
  ·rw [if_neg h2,if_neg h2]
   cases lo with
   | none=>rfl
   | some a =>
    cases hi with
    | none=>rfl
    | some h =>
     have:a<=h:=le
     show (if h < a then none else _)=_
     rw [if_neg (by omega)]
def pH:Sp:=fun vs H Q _=>∃ (p:Addr) (b:Bool) (n:Int) (side:Bool) (lo hi:Option Int),vs = [.ref p,.str (wT b),.int n,.bl side]/\H p=some (.tup [vO lo,vO hi])/\mP lo hi/\∀ v H',RV H' v (di (wT b) lo hi n side)->ah H H'->Q v H'
def TV (m:Nat) (H:Hp) (v:V) (p:Nat × (Str->Sx)):Prop:=∃ q sv d,v=.ref q/\H q=some (.tup [sv,.int p.1,.ref d])/\LT H d p.2 m
def iG (m:Nat) (H:Hp) (vs:List V) (ps:List (Nat × (Str->Sx))):Prop:=Paired (TV m H) vs ps
theorem LT.put {H:Hp} {d l:Addr} {T:Str->Sx} {m:Nat} {xs:List V} {o:HO} (h:LT H d T m) (hl:H l=some (.lst xs)):LT (upd H l o) d T m:=by
 refine h.aJ (fun u e=>?_) fun p zs e=>by rw [au (bg e hl (by intro z;cases z))];exact e
 obtain⟨kvs,ks,g,_⟩:=h
 rw [au (bg g hl (by intro z;cases z))]
 exact e
theorem iG.same {m:Nat} {H H':Hp} (s:ah H H'):∀ {vs:List V} {ps:List (Nat × (Str->Sx))},iG m H vs ps->iG m H' vs ps
 | _,_,.nil=>.nil
 | _,_,.cons ⟨q,sv,d,e,h1,h2⟩ t=>.cons ⟨q,sv,d,e,s _ _ h1,h2.same s⟩ (iG.same s t)
theorem iG.put {m:Nat} {H:Hp} {l:Addr} {xs:List V} {o:HO} (hl:H l=some (.lst xs)):∀ {vs:List V} {ps:List (Nat × (Str->Sx))},iG m H vs ps->iG m (upd H l o) vs ps
 | _,_,.nil=>.nil
 | _,_,.cons ⟨q,sv,d,e,h1,h2⟩ t=>.cons ⟨q,sv,d,e,by rw [au (bg h1 hl (by intro z;cases z))];exact h1,h2.put hl⟩ (iG.put hl t)
def nF:Sp:=fun vs H Q _=>∃ (d ea:Addr) (T:Str->Sx) (e:End) (m:Nat),vs = [.ref d,.ref ea]/\LT H d T m/\m<=50/\(∀ x,mP (T x).1 (T x).2)/\H ea=some (.tup (d7 e)) /\
 ∀ (l:Addr) (vs:List V) (H':Hp),H' l=some (.lst vs)->iG (m+1) H' vs (cH T e)->ah H H'->Q (.ref l) H'
def sC:Sp:=fun vs H Q _=>∃ (plv:V) (ps:List Piece) (xs:List Str) (m:Nat),vs = [plv]/\aV H plv (eN ps)/\cq xs m ps/\xs.length < 64 /\
 ∀ (l:Addr) (ss:List Str) (H':Hp),H' l=some (.lst (ss.map V.str))->ss.Perm (cw (ba ps))->sortedS ss=true->ss.length < 64->ah H H'->Q (.ref l) H'
def KeysAre (kvs:List (Key × V)) (ns:List Str):Prop:=kvs.map (·.1)=(cw ns).map Sum.inr
theorem vj (ns:List Str) (x:Str):cw (ns ++ [x])=LS.putIn (cw ns) x:=by unfold cw;rw [List.foldl_append];rfl
theorem KeysAre.put {kvs:List (Key × V)} {ns:List Str} (h:KeysAre kvs ns) (x:Str) (v:V):KeysAre (putK kvs (Sum.inr x) v) (ns ++ [x]):=by
 unfold KeysAre at h ⊢
 rw [vj]
 unfold LS.putIn
 rcases lh (kvs:=kvs) (k:=(Sum.inr x:Key)) (v:=v) with ⟨e1,hm⟩ | ⟨e1,hn⟩
 ·rw [h] at hm
  obtain⟨y,hy,e⟩:=List.mem_map.mp hm
  cases e
  rw [if_pos hy,e1,h]
 ·rw [if_neg (fun z=>hn (by rw [h];exact List.mem_map.mpr ⟨x,z,rfl⟩)),e1,h,List.map_append];rfl
theorem KeysAre.len {kvs:List (Key × V)} {ns:List Str} (h:KeysAre kvs ns):kvs.length=(cw ns).length:=by have:=congrArg List.length h;simpa using this
theorem yw {ns xs:List Str} (h:∀ x ∈ ns,x ∈ xs):(cw ns).length<=xs.length:=sub_len (nj _) fun x hx=>h x (jx.mp hx)
theorem zS {xs:List Str} {m:Nat} {ps:List Piece} (ok:cq xs m ps):(ba ps).length<=ps.length * (2 * m+1):=by
 unfold ba
 have h:∀ p ∈ ps,(pNames p).length<=2 * m+1:=fun p hp=>by
  have h1:=(ok.gQ p hp).1
  unfold pNames
  rw [List.length_append]
  have h2:(p.1.flatMap bY).length<=2 * p.1.length:=by
   induction p.1 with
   | nil=>simp
   | cons d ds ih =>
    rw [List.flatMap_cons,List.length_append,List.length_cons]
    have:(bY d).length<=2:=by cases d <;> simp [bY]
    omega
  have h3:(gh p.2).length<=1:=by cases p.2 <;> simp [gh]
  omega
 clear ok
 induction ps with
 | nil=>simp
 | cons p ps ih =>
  rw [List.flatMap_cons,List.length_append,List.length_cons]
  have h1:=h p (List.mem_cons_self ..)
  have h2:=ih fun q hq=>h q (List.mem_cons_of_mem _ hq)
  rw [Nat.add_mul]
  omega
theorem tw {K:PySem.W.Frag} {cd:Value} {q:Str} (h:PySem.W.codeIn K cd q=true):PySem.W.kdsCode K cd=true:=by
 unfold PySem.W.codeIn at h
 unfold PySem.W.kdsCode
 split at h
 ·split at h
  ·rename_i ho
   dsimp only
   rw [ho]
  ·cases h
 ·cases h
theorem zT {prog:Program} {w:World} {A:Around} {E:Value->Shared->Prop} {s:Shared} {Q:Value->Shared->Prop} (q:Q (.ref s.heap.objs.size) { s with heap:=s.heap.push (cP w) }):wpAny (model prog w) A (newSet (.type "set")) Q E s:=by
 unfold newSet setsByText
 refine wpAny_bind (wpAny_bind (wpAny_askSetting (wpAny_pure ?_)))
 dsimp only
 simp only [newObj]
 first
  | exact wpAny_alloc (wpAny_pure q)
  | exact wpAny_bind (wpAny_alloc (wpAny_pure q))
  | exact wpAny_bind (wpAny_alloc (wpAny_pure (wpAny_pure q)))
  | exact wpAny_bind (wpAny_alloc q)
section
variable {X:Cx}
theorem zU {e:Expr} {k:Nat} {pos:Pos} {te:TE} (hc:PySem.W.kdsCode X.K X.env.code=true) (he:PE X e te) (hk:displayRoad k [e] = .oneByOne:=by rfl) (hs:starEach [e] X.env = [(false,eval e X.env)]:=by rfl) :
  PE X (.Set [e] k pos) (fun σ H Q=>∀ l,H l=none->te σ (upd H l (cx X.prog X.w l [])) fun x H1=>H1 l=some (cx X.prog X.w l [])/\∃ kk,x=kV kk/\Q (.ref l) (upd H1 l (cx X.prog X.w l [kk]))):=by
 intro pins s σ H Q I h
 rw [arm_eval_Set]
 refine wpAny_bind (wpAny_standAt ?_)
 refine wpAny_bind (PySem.W.kds_main I.iQ hc fun b=>?_)
 rw [hs,hk]
 unfold setDisplay
 dsimp only
 rw [if_neg (by decide)]
 refine wpAny_bind (zT ?_)
 dsimp only
 simp only [List.map_cons,List.map_nil,List.length_cons,List.length_nil,Nat.reduceAdd,gt_iff_lt,Nat.reduceLT,if_false,List.findIdx?_cons,List.findIdx?_nil,Option.map_none,Option.getD_none,List.take_succ_cons,List.take_zero,List.drop_succ_cons,List.drop_nil,evalAll,Bool.false_eq_true]
 have hS:d8 (aL X.prog X.w) (s.heap.push (cP X.w)) s.heap.objs.size []:=lj rfl (Heap.get?_push_size _ rfl)
 have I1:Inv X pins σ (upd H s.heap.objs.size (cx X.prog X.w s.heap.objs.size [])) { s with heap:=s.heap.push (cP X.w) }:=I.laid (t':=s.toks) (fun b o e=>Heap.get?_push_of_some _ e) (Nat.le_refl _) (jR hS)
 refine wpAny_bind (wpAny_holding ?_)
 refine wpAny_bind (wpAny_bind (wpAny_bind (br (he pins _ σ _ _ I1 (h _ I.fresh)) fun v s1 ⟨x,H1,I2,rx,hl1,kk,ex,q⟩=>wpAny_bind (wpAny_standAt (wpAny_pure ?_)))))
 subst ex
 refine wpAny_bind (wpAny_holding (wpAny_pure (wpAny_pure ?_)))
 refine wpAny_bind (wpAny_holding ?_)
 simp only [List.forIn_cons,List.forIn_nil]
 refine wpAny_bind (wpAny_bind (wpAny_bind (o8 (my rx) (I2.o7 hl1) (by decide) fun h' b S' c=>wpAny_pure ?_)))
 refine wpAny_pure ?_
 rw [if_neg (by decide)]
 refine wpAny_pure ?_
 refine wpAny_bind (wpAny_pure (wpAny_pure (wpAny_pure ?_)))
 have e1:LS.putIn ([]:List Key) kk = [kk]:=by unfold LS.putIn;rw [if_neg (by simp)];rfl
 rw [e1] at S'
 refine⟨.ref s.heap.objs.size,_,I2.write (t':=s1.toks+1) (x:=s.heap.objs.size) (e:=s.heap.objs.size) (by rw [hl1];exact trivial) (.inl rfl) (fun c u' hc hu=>b.extBut c u' hc hu) ?_ (jR S'),rfl,q⟩
 obtain⟨o,_,_,_,So⟩:=S'
 exact⟨o,So.at_⟩
end
section
variable {prog:Program} {w:World} {A:Around} {E:Value->Shared->Prop} {s:Shared}
theorem wZ {d:Addr} (hd:(d == sysModules)=false) :
  MeetsIn prog w (Builtin.«dict.__len__» ⟨[.ref d],[]⟩) (fun _ R s=>∃ (o:Obj) (es:Array DictEntry) (ep:Nat),s.heap.get? d=some o/\o.data=.dict es ep/\R (.ok (.ret (.int es.size s.toks))) { s with toks:=s.toks+1 }) :=
 .of_wp fun A R s ⟨o,es,ep,ho,hdat,h⟩=>by
  show wpAny _ _ (dictSize d >>= _) _ _ s
  unfold dictSize
  refine wpAny_bind (wpAny_bind (wpAny_dictEntries ho hdat (wpAny_pure ?_)))
  show wpAny _ _ (Builtin.Dict.pendingCount d >>= _) _ _ s
  refine wpAny_bind (wpAny_pendingCount_other hd ?_)
  refine wpAny_ret_mkInt ?_
  rw [Nat.add_zero];exact h
theorem zV {d:Addr} {o:Obj} {es:Array DictEntry} {ep:Nat} {Q:Value->Shared->Prop} (hd:(d == sysModules)=false) (ho:s.heap.get? d=some o) (hc:o.ExactDict) (hdat:o.data=.dict es ep) (hfit:(es.size:Int) < 2 ^ 63)
  (h:Q (.int es.size (s.toks+1)) { s with toks:=s.toks+1+1 }):wpAny (model prog w) A (call (.builtin "len") [.ref d]) Q E s:=by
 refine Calls.call_function_entry kind_len plain_len entry_len (args_len1 _) ?_
 have hT:s.TypeIs (.ref d) "dict" := ⟨o,ho,hc.1⟩
 unfold Builtin.«len»
 refine wpAny_bind (m:=oneArg "len" _) (wpAny_pure ?_)
 refine wpAny_bind (m:=callSpecial? (.ref d) (Str.ofString "__len__")) (wpAny_callSpecial?_slot (name:=Str.ofString "__len__") hT F.slot_dict_len
  (call_meetsIn F.slot_dict_len hT F.entry_dict_len (F.args_dict_len_1 _) (wZ hd) ⟨o,es,ep,ho,hdat,?_⟩))
 show wpAny _ _ _ _ _ { s with toks:=s.toks+1 }
 refine wpAny_bind (wpAny_holding (wpAny_pure ?_))
 refine wpAny_bind (wpAny_letGo ?_)
 show wpAny _ _ (if ((es.size:Nat):Int) < 0 then _ else _) _ _ _
 rw [if_neg (by omega)]
 show wpAny _ _ (if ((es.size:Nat):Int) >= 2 ^ 63 then _ else _) _ _ _
 rw [if_neg (by omega)]
 exact wpAny_bind (wpAny_mkInt (wpAny_pure ⟨_,rfl,h⟩))
end
section
variable {X:Cx}
theorem vk:dX X (.builtin "len") (fun xs H Q=>∃ a kvs,xs = [V.ref a]/\H a=some (fi X.prog X.w a kvs)/\Q (.int kvs.length) H):=by
 intro pins s σ H xs us Q I r h
 obtain⟨a,kvs,rfl,ha,q⟩:=h
 obtain⟨u,rfl,ru⟩:=vals1 r
 cases ru
 obtain⟨h1,h2,xs,o,es,ep,g1,g2,g3,g4,g5,g6⟩:=(show lK X.prog X.w a kvs s.heap from (I.aN a _ ha).1)
 have hz:es.size=kvs.length:=by rw [g6.len,<-Array.length_toList,g4,List.length_map]
 have hn:=iz
 refine zV h1 g1 g2 g3 (by omega) ?_
 rw [hz]
 exact⟨.int _,H,I.tok _,⟨_,rfl⟩,q⟩
theorem yx {pos:Pos} {keys:List (Option Expr)} {values:List Expr} {trs:List (TE × TE)} (hu:X.A.units+66 < cLine) (h:yW X pos keys values trs) (hall:keys.all (·.isSome)=true) (hl:keys.length=values.length) (h0:keys ≠ [])
  (h15:keys.length<=15):PE X (.Dict keys values pos) (fun σ H Q=>∀ p,H p=none->rL trs σ (upd H p (fi X.prog X.w p [])) fun ps H2=>H2 p=some (fi X.prog X.w p [])/\∃ k v d,ps = [(.ref k,v)]/\d9 d/\aV H2 (.ref k) d/\Q (.ref p) (upd H2 p (fi X.prog X.w p [(d,k,v)]))):=by
 intro pins s σ H Q I q
 have hn:=I.aN.fresh (Nat.le_refl s.heap.objs.size)
 obtain⟨_,hb,_⟩:=(show bM X.prog X.w H _ s.heap.objs.size (.dK []) from rK s.heap I.big)
 have D0:lK X.prog X.w s.heap.objs.size [] (s.heap.push { cls:=.type "dict",data:=.dict #[] }):=⟨hb,Nat.zero_le _,[],_,#[],0,Heap.get?_push_size _ rfl,⟨rfl,rfl,rfl⟩,rfl,rfl,List.nodup_nil,.nil⟩
 have I1:=I.laid (a:=s.heap.objs.size) (o:=fi X.prog X.w s.heap.objs.size []) (h':=s.heap.push { cls:=.type "dict",data:=.dict #[] }) (t':=s.toks) (fun _ _ q=>Heap.get?_push_of_some _ q) (Nat.le_refl _) (ny D0)
 refine wpAny_Dict_any hall hl h0 h15 (br (h pins _ σ _ _ I1 (q _ hn)) fun ws s2 ⟨ps,H2,I2,rel,e,k,v,d,ep,hk,r,q2⟩=>?_)
 subst ep
 cases rel with
 | @cons _ wp _ _ hr t =>
 cases t
 obtain⟨wk,wv⟩:=wp
 obtain⟨r1,r2⟩:=hr
 cases (show wk=Value.ref k from r1)
 obtain⟨hd0,_,xs,kx,dd⟩:=oB I2 e (fun p hp=>nomatch hp)
 cases kx
 unfold storeAll
 simp only [List.forIn_cons,List.forIn_nil]
 refine wpAny_bind (wpAny_bind (wpAny_dictSet_heap (knd:=jq X.prog X.w) (show X.A.units+64 < cLine by omega) (key_is I2 hk r) dd (fun h' hm' hs'=>wpAny_pure (wpAny_pure ?_)) (Nat.zero_le _)))
 obtain⟨o',es,ep,g1,g2,g3,g4,g5,g6⟩:=id hm'
 refine⟨.ref s.heap.objs.size,_,I2.write (t':=_) (x:=s.heap.objs.size) (e:=s.heap.objs.size) (by rw [e];exact trivial) (.inl rfl) (fun c u' hc hu=>(hs'.2 c hc).trans hu) ⟨o',g1⟩ (ny ⟨hd0,(by show 1<=sizeLine;decide),[(d,k,wv)],o',es,ep,g1,g2,g3,g4,g6,.cons ⟨rfl,rfl,r2⟩ .nil⟩),rfl,q2⟩
end
open Classical in
noncomputable def mV (h:Heap) (d:PyData) (u:Value):Bool:=if z:∃ (e:PyData) (as:List Addr),(eG e=true/\e.canLay0=true/\e.depth<=7)/\Reads h u e as then decide (z.choose=d) else false
theorem sD {h:Heap} {d e:PyData} {u:Value} {as:List Addr} (r:Reads h u e as) (k:d9 e):mV h d u=decide (e=d):=by
 have z:∃ (e:PyData) (as:List Addr),(eG e=true/\e.canLay0=true/\e.depth<=7)/\Reads h u e as:=⟨e,as,⟨k.key,k.lay,k.dep⟩,r⟩
 unfold mV
 rw [dif_pos z]
 obtain⟨as',hk,r'⟩:=z.choose_spec
 rw [lI r' r hk.1 k.key]
theorem Bh {s:Shared} {A:Around} {d e:PyData} {u v:Value} {as bs:List Addr} (hu:A.units+64 < cLine) (r:Reads s.heap u e as) (k:d9 e) (rv:Reads s.heap v d bs) (kd:d9 d):SeqAt.EqAt A s u v (mV s.heap d u):=by
 rw [sD r k]
 have h:=PySem.SeqAt.eqAt_reads e d A s u v _ _ r rv k.lay kd.lay (by have:=k.dep;omega)
 have e':PyData.eqv e d=decide (e=d):=by
  have:=ph k.key kd.key
  by_cases hxy:e=d
  ·rw [decide_eq_true hxy];exact this.mpr hxy
  ·rw [decide_eq_false hxy];exact Bool.eq_false_iff.mpr fun z=>hxy (this.mp z)
 rw [e'] at h
 exact h
inductive iR (h:Heap):List Value->List PyData->Prop
 | nil:iR h [] []
 | cons {u:Value} {us:List Value} {d:PyData} {ds:List PyData} (as:List Addr):Reads h u d as->d9 d->iR h us ds->iR h (u :: us) (d :: ds)
theorem sE {P:Program} {w:World} {H:Hp} {h:Heap} (ok:dz P w H h):∀ {xs:List V} {us:List Value} {ds:List PyData},Vals xs us->aZ H xs ds->(∀ d ∈ ds,d9 d)->iR h us ds
 | _,_,_,.nil,.nil,_=>.nil
 | _,_,_,.cons r t,.cons r1 t1,hk=>by
  obtain⟨as,ra⟩:=r1.reads ok r
  exact .cons as ra (hk _ (List.mem_cons_self ..)) (sE ok t t1 fun d hd=>hk d (List.mem_cons_of_mem _ hd))
theorem iR.any {h:Heap} {d:PyData}:∀ {us:List Value} {ds:List PyData},iR h us ds->us.any (mV h d)=decide (d ∈ ds)
 | _,_,.nil=>by simp
 | _,_,.cons as r k t=>by
  rw [List.any_cons,sD r k,iR.any t]
  rename_i e ds
  by_cases h1:e=d
  ·subst h1;simp
  ·rw [decide_eq_false h1,Bool.false_or]
   have:d ∈ e :: ds ↔ d ∈ ds:=by rw [List.mem_cons];exact⟨fun h=>h.resolve_left fun z=>h1 z.symm,.inr⟩
   simp only [this]
theorem iR.at_ {s:Shared} {A:Around} {d:PyData} {v:Value} {bs:List Addr} (hu:A.units+64 < cLine) (rv:Reads s.heap v d bs) (kd:d9 d):∀ {us:List Value} {ds:List PyData},iR s.heap us ds->∀ u ∈ us,SeqAt.EqAt A s u v (mV s.heap d u)
 | _,_,.nil,u,hu'=>nomatch hu'
 | _,_,.cons as r k t,u,hu'=>by
  rcases List.mem_cons.mp hu' with rfl | hu'
  ·exact Bh hu r k rv kd
  ·exact iR.at_ hu rv kd t u hu'
theorem iR.len {h:Heap}:∀ {us:List Value} {ds:List PyData},iR h us ds->us.length=ds.length
 | _,_,.nil=>rfl
 | _,_,.cons _ _ _ t=>congrArg (· + 1) t.len
theorem iR.get {h:Heap} {d:PyData}:∀ {us:List Value} {ds:List PyData},iR h us ds->∀ m (hm:m < us.length) (hm':m < ds.length),mV h d us[m] = decide (ds[m] = d)
 | _,_,.nil,m,hm,_=>absurd hm (Nat.not_lt_zero _)
 | _,_,.cons as r k t,0,_,_=>sD r k
 | _,_,.cons as r k t,m+1,hm,hm'=>t.get m (Nat.lt_of_succ_lt_succ hm) (Nat.lt_of_succ_lt_succ hm')
section
variable {X:Cx}
def BK (K:PySem.W.Frag) (neg:Bool):R2:=fun x y H Q=>∃ p xs ds d,y=.ref p/\aI K H p xs/\aZ H xs ds/\(∀ e ∈ ds,d9 e)/\aV H x d/\d9 d/\Q (.bl (if neg then !decide (d ∈ ds) else decide (d ∈ ds))) H
theorem oE (hu:X.A.units+66 < cLine):dY X (compareOp .NotIn) (BK X.K true):=by
 intro pins s σ H x y v u Q I rx ry h
 obtain⟨p,xs,ds,d,rfl,hq,rd,hk,r,kd,q⟩:=h
 cases ry
 obtain⟨its,rv,pl,hz⟩:=I.list hq
 obtain⟨bs,rb⟩:=r.reads I.aN rx
 have it:=sE I.aN rv rd hk
 refine SeqAt.notIn_listAt (mV s.heap d) pl.isList (fun w hw=>iR.at_ (by first | (rw [Around.in1_units];omega) | omega) rb kd it w (by simpa using hw)) ⟨.bl _,H,I,rfl,?_⟩
 rw [show its.toArray.any (mV s.heap d)=its.any (mV s.heap d) by simp,it.any]
 exact q
def zW:V->List V->Hp->VK->Prop:=fun x vs H Q=>∃ (l:Addr) (xs:List V) (ds:List PyData) (y:V) (d:PyData),x=.ref l/\vs = [y]/\H l=some (.lst xs)/\aZ H xs ds/\(∀ e ∈ ds,d9 e)/\aV H y d/\d9 d/\d ∈ ds/\Q (.int (ds.idxOf d:Nat)) H
theorem w6 (hu:X.A.units+66 < cLine):ua X "list.index" zW:=by
 intro pins s σ H x vs v us Q I rx rv h
 obtain⟨l,xs,ds,y,d,rfl,rfl,hH,rd,hk,r,kd,hm,q⟩:=h
 cases rx
 obtain⟨u,rfl,ru⟩:=rv.one
 obtain⟨z,its,n,rvs,hl,e⟩:=I.rA hH
 obtain⟨bs,rb⟩:=r.reads I.aN ru
 have it:=sE I.aN rvs rd hk
 have hln:=it.len
 have hj:ds.idxOf d < ds.length:=List.idxOf_lt_length_of_mem hm
 refine call_meets F.slot_list_index ⟨_,e,rfl⟩ F.entry_list_index (F.args_list_index_2 _ _)
  (SeqAt.list_indexAt l its.toArray n none #[] u (mV s.heap d) (ds.idxOf d) (by rw [List.size_toArray];omega) (by have:=iz;omega) ?_ ?_) ⟨e,fun y hy=>iR.at_ (by first | (rw [Around.in1_units,Around.in1_units];omega) | (rw [Around.in1_units];omega) | omega) rb kd it y (by simpa using hy),?_⟩
 ·rw [show its.toArray[ds.idxOf d]'(by rw [List.size_toArray];omega)=its[ds.idxOf d]'(by omega) from rfl,it.get _ (by omega) hj]
  exact decide_eq_true (List.getElem_idxOf hj)
 ·intro m hm1 hlt
  rw [List.size_toArray] at hm1
  rw [show its.toArray[m] = its[m]'hm1 from rfl,it.get m hm1 (by omega)]
  refine decide_eq_false fun z=>?_
  have:=List.not_of_lt_findIdx (p:=(· == d)) (xs:=ds) hlt
  rw [z] at this
  simp at this
 ·exact⟨.int _,H,I.BQ,⟨_,rfl⟩,q⟩
end
theorem lP {A:Around} {k:Nat} (hr:cU k A):A.units+66 < cLine:=by have:=hr.un;omega
section
variable {P:Program} {w:World} {K:PySem.W.Frag} {mg:Str->Option Value} {base:Heap}
theorem bZ.CV {x qual:Str} {st:Stmt} {f:Addr} {fd:FuncData} {N ps:List Str} {k:Nat} {sp:Sp} (F:bZ K x qual st f fd) (S:aS N ps (av st)) (len:∀ vs H Q E,sp vs H Q E->vs.length=ps.length)
  (hbody:∀ (cdv:Value) (A:Around) (outer:List Env) (s:Shared) (H:Hp) (vs:List V) (Q:VK) (E:XK),PySem.W.kdsCode K cdv=true->cU k (A.deeper (envOfC qual (av st) s.heap.objs.size f cdv))->sp vs H Q E ->
   ∃ t,jb (m9 bT P w K mg base N qual (av st) f cdv A outer s H E).tT (aO st) t/\t { nx:=fun _ H'=>Q .bf H',rt:=Q } (start N vs) H):bG P w K mg base bT (k+1) f fd ps sp:=by
 obtain⟨oc,od,kV,doc,pm,an,cdv,ct,osl,rfl,lk,hcd⟩:=F.ex
 refine yS lk hcd S len fun A outer s H vs Q E hr hsp=>?_
 obtain⟨t,h,q⟩:=hbody cdv A outer s H vs Q E (tw hcd) hr hsp
 exact⟨t,h.tT,q⟩
end
def de:Nat->List (PyData × Addr)->List (PyData × Addr × V)
 | _,[]=>[]
 | n,p :: ps=>(p.1,p.2,.int (n:Nat)) :: de (n+1) ps
theorem nG:∀ (n:Nat) (ms:List (PyData × Addr)),(de n ms).length=ms.length
 | _,[]=>rfl
 | n,_ :: ms=>congrArg (· + 1) (nG (n+1) ms)
theorem sF:∀ (n:Nat) (ms:List (PyData × Addr)) (p:PyData × Addr),de n (ms ++ [p])=de n ms ++ [(p.1,p.2,.int ((n+ms.length:Nat):Int))]
 | n,[],p=>rfl
 | n,q :: ms,p=>by
  show (q.1,q.2,V.int (n:Nat)) :: de (n+1) (ms ++ [p])=_
  rw [sF (n+1) ms p,show n+1+ms.length=n+(q :: ms).length by rw [List.length_cons];omega]
  rfl
theorem sG:∀ (n:Nat) (ms:List (PyData × Addr)),∀ q ∈ de n ms,∃ p ∈ ms,q.1=p.1/\q.2.1=p.2
 | _,[],q,hq=>nomatch hq
 | n,p :: ms,q,hq=>by
  rcases List.mem_cons.mp hq with rfl | hq
  ·exact⟨p,List.mem_cons_self ..,rfl,rfl⟩
  ·obtain⟨p',hp,r⟩:=sG (n+1) ms q hq
   exact⟨p',List.mem_cons_of_mem _ hp,r⟩
theorem kc (d:PyData):∀ (n:Nat) (ms:List (PyData × Addr)),eU (de n ms) d=if d ∈ ms.map (·.1) then some (.int ((n+(ms.map (·.1)).idxOf d:Nat):Int)) else none
 | n,[]=>by simp [de,eU]
 | n,p :: ms=>by
  have ih:=kc d (n+1) ms
  by_cases h:p.1=d
  ·have e1:eU (de n (p :: ms)) d=some (.int (n:Nat)):=by
    unfold eU de
    rw [List.find?_cons_of_pos (by exact decide_eq_true h)]
    rfl
   rw [e1,if_pos (by rw [List.map_cons,h];exact List.mem_cons_self ..),List.map_cons,h,List.idxOf_cons_self]
   rfl
  ·have e1:eU (de n (p :: ms)) d=eU (de (n+1) ms) d:=by
    show eU ((p.1,p.2,V.int (n:Nat)) :: de (n+1) ms) d=_
    unfold eU
    rw [List.find?_cons_of_neg (by rw [decide_eq_false h];decide)]
   rw [e1,ih,List.map_cons]
   by_cases hm:d ∈ ms.map (·.1)
   ·rw [if_pos hm,if_pos (List.mem_cons_of_mem _ hm),List.idxOf_cons,beq_false_of_ne h]
    simp only [cond_false]
    congr 3
    omega
   ·rw [if_neg hm,if_neg (fun z=>(List.mem_cons.mp z).elim (fun z=>h z.symm) hm)]
structure gZ (P:Program) (w:World) (C:Addr) (H:Hp) (r m d:Addr) (ms:List (PyData × Addr)):Prop where
 ob:∃ dx,H r=some (.ins C dx (pA (.ref m) (.ref d)))
 mem:H m=some (.lst (ms.map fun p=>V.ref p.2))
 lQ:H d=some (fi P w d (de 0 ms))
 keys:∀ p ∈ ms,d9 p.1/\aV H (.ref p.2) p.1
noncomputable def ke (ms:List (PyData × Addr)) (d:PyData) (k:Addr):List (PyData × Addr):=if d ∈ ms.map (·.1) then ms else ms ++ [(d,k)]
section
variable {P:Program} {w:World} {C r m d:Addr} {H H':Hp} {ms:List (PyData × Addr)}
theorem gZ.jJ (A:gZ P w C H r m d ms):za H (de 0 ms):=fun q hq=>by
 obtain⟨p,hp,e1,e2⟩:=sG 0 ms q hq
 rw [e1,e2]
 exact A.keys p hp
theorem gZ.CW (A:gZ P w C H r m d ms):r ≠ m/\r ≠ d/\d ≠ m:=by
 obtain⟨dx,h1⟩:=A.ob
 refine⟨bg h1 A.mem ?_,bg h1 A.lQ ?_,bg A.lQ A.mem ?_⟩ <;> (intro z;cases z)
end
section
variable (P:Program) (w:World) (C:Addr)
def kf:Sp:=fun vs H Q _=>∃ (r dx k:Addr) (d0:PyData),vs = [.ref r,.ref k]/\H r=some (.ins C dx [])/\d9 d0/\aV H (.ref k) d0/\bW d0=true /\
 ∀ (m d:Addr) (H':Hp),gZ P w C H' r m d [(d0,k)]->(∀ c o,H c=some o->c ≠ r->H' c=some o)->H m=none->H d=none->Q .bf H'
def kh:Sp:=fun vs H Q _=>∃ (r m d k:Addr) (d0:PyData) (ms:List (PyData × Addr)),vs = [.ref r,.ref k]/\gZ P w C H r m d ms/\ms.length<=1000/\d9 d0/\aV H (.ref k) d0/\bW d0=true/\(∀ p ∈ ms,bW p.1=true) /\
 ∀ H',gZ P w C H' r m d (ke ms d0 k)->j9 m d H H'->Q (.int (((ke ms d0 k).map (·.1)).idxOf d0:Nat)) H'
end
inductive iO (ps:List Piece):Nat->Prop
 | zero:iO ps 0
 | step {i k:Nat} {ds:List cL} {e:End}:iO ps i->ps[i]? = some (ds,e)->k ∈ aP e->iO ps k
def aX (ps:List Piece) (k:Nat):Prop:=∃ i ds e,iO ps i/\ps[i]? = some (ds,e)/\k ∈ aP e/\k<=i
abbrev kI (ks:List Nat):List Key:=ks.map fun k:Nat=>(Sum.inl (k:Int):Key)
theorem sH {ks:List Nat} {k:Nat}:(Sum.inl (k:Int):Key) ∈ kI ks ↔ k ∈ ks:=by
 rw [List.mem_map]
 constructor
 ·rintro⟨x,hx,e⟩
  have:=Sum.inl.inj e
  rw [show k=x by omega];exact hx
 ·intro h;exact⟨k,h,rfl⟩
theorem sI {ks:List Nat} {k:Nat}:LS.putIn (kI ks) (Sum.inl (k:Int))=kI (LS.putIn ks k):=by
 unfold LS.putIn
 by_cases h:k ∈ ks
 ·rw [if_pos h,if_pos (sH.mpr h)]
 ·rw [if_neg h,if_neg (fun z=>h (sH.mp z))]
  show _=(ks ++ [k]).map _
  rw [List.map_append];rfl
theorem pI (ks:List Nat):kI ks=(ks.map fun k:Nat=>(k:Int)).map Sum.inl:=by rw [List.map_map];rfl
structure vm (ps:List Piece) (ks ws:List Nat):Prop where
 nd:ks.Nodup
 lt:∀ k ∈ ks,k < ps.length
 sJ:∀ k ∈ ks,iO ps k
 zero:0 ∈ ks
 sub:∀ k ∈ ws,k ∈ ks
 done:∀ k ∈ ks,k ∈ ws\/∀ ds e,ps[k]? = some (ds,e)->∀ j ∈ aP e,j ∈ ks
theorem vm.all {ps:List Piece} {ks:List Nat} (h:vm ps ks []):∀ k,k ∈ ks ↔ iO ps k:=fun k=>by
 refine⟨h.sJ k,fun r=>?_⟩
 induction r with
 | zero=>exact h.zero
 | step r hp hk ih=>exact (h.done _ ih).elim (fun z=>nomatch z) fun z=>z _ _ hp _ hk
theorem mD {ps:List Piece} (hin:jP ps) {i:Nat} {ds:List cL} {e:End} (h:ps[i]? = some (ds,e)):∀ k ∈ aP e,k < ps.length:=fun k hk=>by
 have h1:=hin _ (List.mem_of_getElem? h)
 cases e with
 | stop=>cases hk
 | go p=>rw [List.mem_singleton.mp hk];exact h1
 | cC b x n p q =>
  rcases List.mem_cons.mp hk with z | z
  ·rw [z];exact h1.1
  ·rw [List.mem_singleton.mp z];exact h1.2
def lR:Sp:=fun vs H Q _=>∃ (plv:V) (ps:List Piece),vs = [plv]/\aV H plv (eN ps)/\jP ps/\0 < ps.length/\ps.length<=60 /\
 ∀ (t:Addr) (ks:List Nat) (H':Hp),H' t=some (.tup (vN ks))->(∀ k,k ∈ ks ↔ iO ps k)->(∀ k ∈ ks,k < ps.length)->ks.length<=60->ah H H'->Q (.ref t) H'
def pJ:Sp:=fun vs H Q _=>∃ (plv:V) (ps:List Piece),vs = [plv]/\aV H plv (eN ps)/\jP ps/\0 < ps.length/\ps.length<=60 /\
 ∀ (t:Addr) (ks:List Nat) (H':Hp),H' t=some (.tup (vN ks))->(∀ k,k ∈ ks ↔ aX ps k)->ks.length<=60->ah H H'->Q (.ref t) H'
theorem g9 {ss:List Int} {ks:List Nat} (h:ss.Perm (ks.map fun k:Nat=>(k:Int))):∃ ms:List Nat,ss=ms.map (fun k:Nat=>(k:Int))/\ms.Perm ks:=by
 refine⟨ss.map Int.toNat,?_,?_⟩
 ·rw [List.map_map]
  have:∀ x ∈ ss,((fun k:Nat=>(k:Int)) ∘ Int.toNat) x=x:=fun x hx=>by
   obtain⟨k,_,rfl⟩:=List.mem_map.mp (h.mem_iff.mp hx)
   show ((Int.toNat (k:Int):Nat):Int)=k
   omega
  rw [List.map_congr_left this,List.map_id']
 ·have:=h.map Int.toNat
  rw [List.map_map] at this
  have e:ks.map (Int.toNat ∘ fun k:Nat=>(k:Int))=ks:=by
   rw [List.map_congr_left (g:=id) (fun x _=>by show Int.toNat (x:Int)=x;omega),List.map_id]
  rw [e] at this
  exact this
abbrev Cp:=Nat × (Str->Sx)
def T0:Str->Sx:=fun _=>cy
def FD (T:Str->Sx) (d:PyData):Prop:=∃ ss:List Str,jn ss/\(∀ x,x ∈ ss ↔ T x ≠ cy)/\d=fM T ss
theorem FV.fd {H:Hp} {v:V} {T:Str->Sx} (h:FV H v T):∃ d,FD T d/\aV H v d:=by
 obtain⟨p,xs,ss,rfl,hp,srt,hm,r⟩:=h
 exact⟨_,⟨ss,srt,hm,rfl⟩,.tup hp r⟩
theorem FD.fv {H:Hp} {v:V} {T:Str->Sx} {d:PyData} (h:FD T d) (r:aV H v d):FV H v T:=by
 obtain⟨ss,srt,hm,rfl⟩:=h
 obtain⟨p,xs,rfl,hp,r⟩:=aV.bX r
 exact⟨p,xs,ss,rfl,hp,srt,hm,r⟩
theorem FD.unique {T:Str->Sx} {d d':PyData} (h:FD T d) (h':FD T d'):d=d':=by
 obtain⟨ss,srt,hm,rfl⟩:=h
 obtain⟨ss',srt',hm',rfl⟩:=h'
 rw [srt.unique srt' fun x=>by rw [hm,hm']]
theorem w9 {a b:Option Int} (h:dO a=dO b):a=b:=by
 cases a with
 | none=>cases b with
  | none=>rfl
  | some _=>cases h
 | some i=>cases b with
  | none=>cases h
  | some j=>injection h with h;rw [h]
theorem Bi {a b:Sx} (h:dS a=dS b):a=b:=by
 obtain⟨a1,a2⟩:=a
 obtain⟨b1,b2⟩:=b
 have h1:[dO a1,dO a2] = [dO b1,dO b2]:=by injection h
 injection h1 with h1 h2
 injection h2 with h2 _
 rw [w9 h1,w9 h2]
theorem uw {T T':Str->Sx}:∀ {ss ss':List Str},ss.map (dF T)=ss'.map (dF T')->ss=ss'/\∀ x ∈ ss,T x=T' x
 | [],[],_=>⟨rfl,fun _ h=>nomatch h⟩
 | [],_ :: _,h=>by cases h
 | _ :: _,[],h=>by cases h
 | x :: ss,y :: ss',h=>by
  rw [List.map_cons,List.map_cons] at h
  injection h with h1 h2
  have h3:[PyData.str x,dS (T x)] = [PyData.str y,dS (T' y)]:=by injection h1
  injection h3 with h4 h5
  injection h5 with h5 _
  have exy:x=y:=by injection h4
  subst exy
  obtain⟨e,hr⟩:=uw h2
  refine⟨by rw [e],fun z hz=>?_⟩
  rcases List.mem_cons.mp hz with rfl | hz
  ·exact Bi h5
  ·exact hr z hz
theorem FD.inj {T T':Str->Sx} {d:PyData} (h:FD T d) (h':FD T' d):T=T':=by
 obtain⟨ss,srt,hm,rfl⟩:=h
 obtain⟨ss',srt',hm',e⟩:=h'
 have e':ss.map (dF T)=ss'.map (dF T'):=by injection e
 obtain⟨rfl,hx⟩:=uw e'
 funext x
 by_cases h:x ∈ ss
 ·exact hx x h
 ·have h1:T x=cy:=Classical.byContradiction fun z=>h ((hm x).mpr z)
  have h2:T' x=cy:=Classical.byContradiction fun z=>h ((hm' x).mpr z)
  rw [h1,h2]
theorem FD.zero:FD T0 (.tuple []):=⟨[],⟨List.Pairwise.nil,List.nodup_nil⟩,fun x=>⟨fun h=>(nomatch h),fun h=>absurd rfl h⟩,rfl⟩
def CD (c:Cp) (d:PyData):Prop:=∃ fd,FD c.2 fd/\d=.tuple [.int (c.1:Nat),fd]
theorem CD.iff {c c':Cp} {d d':PyData} (h:CD c d) (h':CD c' d'):d=d' ↔ c=c':=by
 obtain⟨fd,hf,rfl⟩:=h
 obtain⟨fd',hf',rfl⟩:=h'
 constructor
 ·intro e
  have e1:[PyData.int (c.1:Nat),fd] = [PyData.int (c'.1:Nat),fd']:=by injection e
  injection e1 with e2 e3
  injection e3 with e3 _
  have e4:(c.1:Int)=(c'.1:Int):=by injection e2
  subst e3
  exact Prod.ext (by omega) (hf.inj hf')
 ·rintro rfl
  rw [hf.unique hf']
noncomputable instance BU:DecidableEq Cp:=fun a b=>Classical.propDecidable (a=b)
theorem CD.mem {c:Cp} {d:PyData} (h:CD c d):∀ {ds:List PyData} {cs:List Cp},Paired (fun d c=>CD c d) ds cs->(d ∈ ds ↔ c ∈ cs)/\ds.idxOf d=cs.idxOf c
 | _,_,.nil=>⟨by simp,rfl⟩
 | _,_,.cons (a:=d') (b:=c') (l₁:=ds) (l₂:=cs) h' t=>by
  obtain⟨i1,i2⟩:=CD.mem h t
  have e:=h'.iff h
  constructor
  ·rw [List.mem_cons,List.mem_cons,i1]
   constructor
   ·rintro (z | z)
    ·exact .inl (e.mp z.symm).symm
    ·exact .inr z
   ·rintro (z | z)
    ·exact .inl (e.mpr z.symm).symm
    ·exact .inr z
  ·rw [List.idxOf_cons,List.idxOf_cons]
   by_cases z:d' = d
   ·have z':=e.mp z
    rw [z,z',beq_self_eq_true,beq_self_eq_true]
    rfl
   ·have z':¬ c' = c:=fun w=>z (e.mpr w)
    rw [beq_false_of_ne z,beq_false_of_ne z',i2]
theorem oF {T:Str->Sx}:∀ ss:List Str,eG (fM T ss)=true
 | []=>rfl
 | x :: ss=>by
  have ih:dn (ss.map (dF T))=true:=oF ss
  show ((true && (eG (dS (T x)) && true)) && dn (ss.map (dF T)))=true
  rw [ih]
  obtain⟨a,b⟩:=T x
  cases a <;> cases b <;> rfl
theorem CD.key {c:Cp} {d:PyData} (h:CD c d) (hl:nB c.2):d9 d:=by
 obtain⟨fd,⟨ss,srt,hm,rfl⟩,rfl⟩:=h
 refine⟨?_,?_,?_,_,rfl⟩
 ·show (true && (eG (fM c.2 ss) && true))=true
  rw [oF];rfl
 ·show (true && ((fM c.2 ss).canLay0 && true))=true
  rw [wX hl ss fun x hx=>(hm x).mp hx];rfl
 ·show max 0 (max (fM c.2 ss).depth 0)+1<=7
  have:=Bg c.2 ss
  omega
section
variable (tops:Nat->Prop) (most:Nat)
open Classical in
noncomputable def bp (cs:List Cp) (c:Cp):Cp:=if tops c.1 then (c.1,T0) else if c ∈ cs\/cs.length < most then c else (c.1,T0)
noncomputable def fj (st:List Cp × List Nat) (l:Cp):List Cp × List Nat:=(LS.putIn st.1 (bp tops most st.1 l),st.2 ++ [(LS.putIn st.1 (bp tops most st.1 l)).idxOf (bp tops most st.1 l)])
noncomputable def aT (cs:List Cp) (ls:List Cp):List Cp × List Nat:=ls.foldl (fj tops most) (cs,[])
theorem mW {cs ls:List Cp} {i:Nat} {l:Cp} (h:ls[i]? = some l):aT tops most cs (ls.take (i+1))=fj tops most (aT tops most cs (ls.take i)) l:=by
 unfold aT
 rw [List.take_add_one,h,List.foldl_append]
 rfl
def iP (e:End):List Nat->End
 | [a]=>.go a
 | ns=>ym e ns
noncomputable def fk (ps:List Piece):Nat->List Cp->List Piece->List Cp × List Piece
 | 0,cs,outs=>(cs,outs)
 | f+1,cs,outs=>match cs[outs.length]? with
  | none=>(cs,outs)
  | some c=>match ps[c.1]? with
   | none=>(cs,outs)
   | some pc=>fk ps f (aT tops most cs (cH (bB c.2 pc.1) pc.2)).1 (outs ++ [(pc.1,iP pc.2 (aT tops most cs (cH (bB c.2 pc.1) pc.2)).2)])
end
theorem lS {T:Str->Sx}:∀ ss:List Str,bW (fM T ss)=true
 | []=>rfl
 | x :: ss=>by
  have ih:bR (ss.map (dF T))=true:=lS ss
  show ((true && (bW (dS (T x)) && true)) && bR (ss.map (dF T)))=true
  rw [ih]
  obtain⟨a,b⟩:=T x
  cases a <;> cases b <;> rfl
theorem CD.hV {c:Cp} {d:PyData} (h:CD c d):bW d=true:=by
 obtain⟨fd,⟨ss,srt,hm,rfl⟩,rfl⟩:=h
 show (true && (bW (fM c.2 ss) && true))=true
 rw [lS];rfl
def pK:Sp:=fun vs H Q _=>∃ (ea l:Addr) (e:End) (ns:List Nat),vs = [.ref ea,.ref l]/\H ea=some (.tup (d7 e))/\H l=some (.lst (vN ns))/\(ns.length=1\/ns.length=(aP e).length)/\ns.length<=2 /\
 ∀ t H',H' t=some (.tup (d7 (iP e ns)))->ah H H'->Q (.ref t) H'
abbrev mX (ms:List (PyData × Addr)) (cs:List Cp):Prop:=Paired (fun d c=>CD c d) (ms.map (·.1)) cs
def lT (P:Program) (w:World):Sp:=fun vs H Q _=>∃ (la tp d:Addr) (most k:Nat) (T:Str->Sx) (dl:PyData) (hs:List Nat) (fv:V) (ms:List (PyData × Addr)) (cs:List Cp) (tops:Nat->Prop),vs = [.ref la,.ref tp,.ref d,.int (most:Nat)] /\
 H la=some (.tup [.int (k:Nat),fv])/\aV H (.ref la) dl/\CD (k,T) dl/\nB T/\H tp=some (.tup (vN hs))/\(∀ j,j ∈ hs ↔ tops j)/\H d=some (fi P w d (de 0 ms))/\za H (de 0 ms)/\mX ms cs /\
 ∀ (a:Addr) (d':PyData) (H':Hp),aV H' (.ref a) d'->CD (bp tops most cs (k,T)) d'->ah H H'->Q (.ref a) H'
structure cB (xs:List Str) (T:Str->Sx):Prop where
 sup:∀ x,T x ≠ cy->x ∈ xs
 le:∀ x,mP (T x).1 (T x).2
theorem cB.zero {xs:List Str}:cB xs T0:=⟨fun x h=>absurd rfl h,fun x=>True.intro⟩
theorem cB.set {xs:List Str} {T:Str->Sx} (h:cB xs T) {x:Str} {s:Sx} (hx:x ∈ xs) (hs:mP s.1 s.2):cB xs (cA T x s):=by
 refine⟨fun y hy=>?_,fun y=>?_⟩
 ·unfold cA at hy
  by_cases e:y=x
  ·rw [e];exact hx
  ·rw [if_neg e] at hy;exact h.sup y hy
 ·unfold cA
  by_cases e:y=x
  ·rw [if_pos e];exact hs
  ·rw [if_neg e];exact h.le y
theorem zX {w:Str} {lo hi:Option Int} {n:Int} {side:Bool} {s:Sx} (le:mP lo hi) (h:di w lo hi n side=some s):mP s.1 s.2:=by
 unfold di at h
 split at h
 ·unfold j5 at h
  split at h
  ·unfold fL at h
   cases lo with
   | none=>cases h;exact True.intro
   | some l =>
    dsimp only at h
    split at h
    ·cases h
    ·cases h;show l<=iJ hi n;omega
  ·unfold gS at h
   cases hi with
   | none=>cases h;exact True.intro
   | some l =>
    dsimp only at h
    split at h
    ·cases h
    ·cases h;show iK lo n<=l;omega
 ·unfold rM at h
  split at h
  ·unfold jQ at h
   split at h
   ·cases h;exact Int.le_refl n
   ·cases h
  ·unfold iL at h
   split at h
   ·next h1 =>
    split at h
    ·cases h
    ·next h2 =>
     cases h
     subst h1
     cases hi with
     | none=>exact True.intro
     | some b =>
      have:n<=b:=le
      have:¬ b=n:=fun z=>h2 (by rw [z])
      show n+1<=b
      omega
   ·next h1 =>
    split at h
    ·next h2 =>
     cases h
     subst h2
     cases lo with
     | none=>exact True.intro
     | some a =>
      have:a<=n:=le
      have:¬ a=n:=fun z=>h1 (by rw [z])
      show a<=n - 1
      omega
    ·cases h;exact le
theorem cB.CY {xs:List Str} {T:Str->Sx} (h:cB xs T) {d:cL} (hd:eS xs d):cB xs (vf T d):=by
 refine h.set hd.name ?_
 cases d with
 | put x n=>exact Int.le_refl n
 | copy x y=>exact h.le y
 | add x n =>
  have:=h.le x
  show mP (jo (T x).1 n) (jo (T x).2 n)
  cases e1:(T x).1 with
  | none=>exact True.intro
  | some a=>cases e2:(T x).2 with
   | none=>exact True.intro
   | some b =>
    rw [e1,e2] at this
    have:a<=b:=this
    show a+n<=b+n
    omega
 | read x=>exact True.intro
 | tell x=>exact h.le x
theorem cB.pL {xs:List Str}:∀ {ds:List cL} {T:Str->Sx},cB xs T->(∀ d ∈ ds,eS xs d)->cB xs (bB T ds)
 | [],_,h,_=>h
 | d :: ds,T,h,hd=>cB.pL (ds:=ds) (h.CY (hd d (List.mem_cons_self ..))) fun e he=>hd e (List.mem_cons_of_mem _ he)
theorem pM {xs:List Str} {c:Nat} {T:Str->Sx} {e:End} (h:cB xs T) (he:iV xs c e):∀ p ∈ cH T e,p.1 < c/\cB xs p.2:=fun p hp=>by
 unfold cH at hp
 obtain⟨⟨k,o⟩,ho,hm⟩:=List.mem_filterMap.mp hp
 have hz:=List.of_mem_zip ho
 cases e with
 | stop=>cases hz.1
 | go q =>
  rw [List.mem_singleton.mp hz.2] at hm
  cases hm
  exact⟨by rw [List.mem_singleton.mp hz.1];exact he,h⟩
 | cC b x n q r =>
  have hk:k < c:=by
   rcases List.mem_cons.mp hz.1 with z | z
   ·rw [z];exact he.2.2.1
   ·rw [List.mem_singleton.mp z];exact he.2.2.2
  have key:∀ side,o=(fm T b x n side).map (cA T x)->p.1 < c/\cB xs p.2:=fun side eo=>by
   dsimp only at hm
   rw [eo] at hm
   cases z:fm T b x n side with
   | none=>rw [z] at hm;cases hm
   | some s =>
    rw [z] at hm
    cases hm
    exact⟨hk,h.set he.1 (zX (h.le x) z)⟩
  rcases List.mem_cons.mp hz.2 with z | z
  ·exact key true z
  ·exact key false (List.mem_singleton.mp z)
theorem jr {xs:List Str} {T:Str->Sx} {e:End} (h:cB xs T):((cH T e).length=1\/(cH T e).length=(aP e).length)/\(cH T e).length<=2:=by
 cases e with
 | stop=>exact⟨.inr rfl,Nat.zero_le _⟩
 | go q=>exact⟨.inl rfl,by show 1<=2;decide⟩
 | cC b x n q r =>
  have e:cH T (.cC b x n q r)=((fm T b x n true).map fun s=>(q,cA T x s)).toList++((fm T b x n false).map fun s=>(r,cA T x s)).toList:=by
   unfold cH
   show ([(q,(fm T b x n true).map (cA T x)),(r,(fm T b x n false).map (cA T x))].filterMap fun p=>p.2.map fun U=>(p.1,U))=_
   cases fm T b x n true <;> cases fm T b x n false <;> rfl
  rw [e]
  cases e1:fm T b x n true with
  | none=>cases e2:fm T b x n false with
   | none=>exact (xR (h.le x) e1 e2).elim
   | some s=>exact⟨.inl rfl,by show 1<=2;decide⟩
  | some s=>cases e2:fm T b x n false with
   | none=>exact⟨.inl rfl,by show 1<=2;decide⟩
   | some s=>exact⟨.inr rfl,Nat.le_refl 2⟩
theorem cB.lay {xs:List Str} {T:Str->Sx} (h:cB xs T) (hx:∀ x ∈ xs,dC x):nB T:=fun x hx'=>yt (hx x (h.sup x hx'))
theorem cB.cD {xs:List Str} {T:Str->Sx} (h:cB xs T):sy T xs.length:=fun ss hs nd=>sub_len nd fun x hx=>h.sup x (hs x hx)
open Classical in
noncomputable def lU (c:Cp):Bool:=decide (c.2 ≠ T0)
theorem qp {α : Type} (p:α->Bool):∀ l:List α,l.length=(l.filter p).length+(l.filter fun x=>!p x).length
 | []=>rfl
 | x :: l=>by
  have ih:=qp p l
  cases h:p x with
  | true=>rw [List.filter_cons_of_pos h,List.filter_cons_of_neg (by simp [h]),List.length_cons,List.length_cons];omega
  | false=>rw [List.filter_cons_of_neg (by simp [h]),List.filter_cons_of_pos (by simp [h]),List.length_cons,List.length_cons];omega
structure gg (n most:Nat) (cs:List Cp):Prop where
 nd:cs.Nodup
 cD:(cs.filter lU).length<=most
theorem gg.len {n most:Nat} {cs:List Cp} (h:gg n most cs) (hl:∀ c ∈ cs,c.1 < n):cs.length<=most+n:=by
 have e:=qp lU cs
 have h2:(cs.filter fun c=>!lU c).length<=n:=by
  have nd2:((cs.filter fun c=>!lU c).map (·.1)).Nodup:=by
   rw [List.Nodup,List.pairwise_map]
   refine (h.nd.filter _).imp_of_mem fun {a b} ha hb hne z=>hne ?_
   have ha2:=(List.mem_filter.mp ha).2
   have hb2:=(List.mem_filter.mp hb).2
   simp [lU] at ha2 hb2
   exact Prod.ext z (by rw [ha2,hb2])
  have:=dG (n:=n) nd2 fun x hx=>by
   obtain⟨c,hc,rfl⟩:=List.mem_map.mp hx
   exact hl c (List.mem_filter.mp hc).1
  rw [List.length_map] at this
  exact this
 have:=h.cD
 omega
theorem gg.put {n most:Nat} {tops:Nat->Prop} {cs:List Cp} {l:Cp} (h:gg n most cs):gg n most (LS.putIn cs (bp tops most cs l)):=by
 unfold LS.putIn
 by_cases hm:bp tops most cs l ∈ cs
 ·rw [if_pos hm];exact h
 ·rw [if_neg hm]
  refine⟨?_,?_⟩
  ·rw [List.nodup_append]
   refine⟨h.nd,by simp,fun x hx y hy z=>?_⟩
   rw [List.mem_singleton.mp hy] at z
   exact hm (z ▸ hx)
  ·rw [List.filter_append,List.length_append]
   by_cases hz:(bp tops most cs l).2=T0
   ·rw [List.filter_cons_of_neg (by simp [lU,hz])]
    simpa using h.cD
   ·have hlt:cs.length < most:=by
     unfold bp at hz hm
     split at hz
     ·exact absurd rfl hz
     ·split at hz
      ·next h1 h2 =>
       rw [if_neg h1,if_pos h2] at hm
       exact h2.resolve_left hm
      ·exact absurd rfl hz
    have h3:(cs.filter lU).length<=cs.length:=List.length_filter_le _ _
    have h4:(List.filter lU [bp tops most cs l]).length<=1:=List.length_filter_le _ _
    omega
open Classical in
noncomputable def startT (ps:List Piece):Str->Sx:=fun x=>if x ∈ ba ps then (some 0,some 0) else cy
open Classical in
noncomputable def gi (ps:List Piece):Cp:=if aX ps 0 then (0,T0) else (0,startT ps)
noncomputable def cF (ps:List Piece) (most:Nat):List Cp × List Piece:=fk (aX ps) most ps (most+ps.length) [gi ps] []
theorem yy {ps:List Piece} {ss:List Str} (hp:ss.Perm (LS.cw (ba ps))) (hs:sortedS ss=true):FD (startT ps) (lO ss):=by
 have hm:∀ x,x ∈ ss ↔ x ∈ ba ps:=fun x=>hp.mem_iff.trans LS.jx
 refine⟨ss,⟨lG hs,hp.nodup_iff.mpr (LS.nj _)⟩,fun x=>?_,?_⟩
 ·rw [hm]
  unfold startT
  by_cases h:x ∈ ba ps
  ·rw [if_pos h];exact⟨fun _ z=>(by cases z),fun _=>h⟩
  ·rw [if_neg h];exact⟨fun z=>absurd z h,fun z=>absurd rfl z⟩
 ·unfold lO fM
  congr 1
  refine List.map_congr_left fun x hx=>?_
  unfold dF startT
  rw [if_pos ((hm x).mp hx)]
  rfl
theorem ki {ps:List Piece} {xs:List Str} {m:Nat} (ok:cq xs m ps):cB xs (startT ps):=by
 refine⟨fun x hx=>?_,fun x=>?_⟩
 ·unfold startT at hx
  by_cases h:x ∈ ba ps
  ·exact lC ok x h
  ·rw [if_neg h] at hx;exact absurd rfl hx
 ·unfold startT
  split
  ·exact Int.le_refl 0
  ·exact True.intro
theorem kj {tops:Nat->Prop} {most:Nat} {ps:List Piece} {f:Nat} {cs:List Cp} {outs:List Piece} {c:Cp} {pc:Piece} (h:cs[outs.length]? = some c) (hp:ps[c.1]? = some pc) :
  fk tops most ps (f+1) cs outs=fk tops most ps f (aT tops most cs (cH (bB c.2 pc.1) pc.2)).1 (outs ++ [(pc.1,iP pc.2 (aT tops most cs (cH (bB c.2 pc.1) pc.2)).2)]):=by
 conv=>lhs;unfold fk
 rw [h]
 dsimp only
 rw [hp]
theorem lV {tops:Nat->Prop} {most:Nat} {ps:List Piece} {cs:List Cp} {outs:List Piece} (h:cs[outs.length]? = none):∀ f,fk tops most ps f cs outs=(cs,outs)
 | 0=>rfl
 | f+1=>by
  conv=>lhs;unfold fk
  rw [h]
def lW (P:Program) (w:World) (C:Addr):Sp:=fun vs H Q _=>∃ (plv:V) (ps:List Piece) (xs:List Str) (most:Nat),vs = [plv,.int (most:Nat)]/\aV H plv (eN ps)/\cq xs 6 ps/\(∀ x ∈ xs,dC x)/\xs.length<=10/\0 < ps.length/\ps.length<=60/\1<=most/\most<=300 /\
 ∀ (v:V) (ds:List PyData) (H':Hp),Paired (fun d c=>CD c d) ds (cF ps most).1->aV H' v (.tuple [.tuple ((cF ps most).2.map cb),.tuple ds])->ah H H'->Q v H'
theorem zY {X:Cx} {K:PySem.W.Frag} {e:Expr} {f:Str} {pos:Pos} {ta:TE} (hK:X.K=K) (he:PE X e ta) (hb:attributeBase e f X.env (eval e X.env)=eval e X.env):PE X (.Attribute e f pos) (As K ta f):=by
 subst hK
 exact gO he hb
theorem fP {tops:Nat->Prop} {most n:Nat} {xs:List Str}:∀ {ls cs:List Cp} {ns:List Nat},gg n most cs->(∀ c ∈ cs,c.1 < n/\cB xs c.2)->(∀ c ∈ ls,c.1 < n/\cB xs c.2)->gg n most (ls.foldl (fj tops most) (cs,ns)).1/\(∀ c ∈ (ls.foldl (fj tops most) (cs,ns)).1,c.1 < n/\cB xs c.2)/\(ls.foldl (fj tops most) (cs,ns)).2.length=ns.length+ls.length/\∃ more,(ls.foldl (fj tops most) (cs,ns)).1=cs++more
 | [],cs,ns,h,hc,_=>⟨h,hc,rfl,[],by simp⟩
 | l :: ls,cs,ns,h,hc,hl=>by
  have hl0:=hl l (List.mem_cons_self ..)
  have hcp:(bp tops most cs l).1 < n/\cB xs (bp tops most cs l).2:=by
   unfold bp
   split
   ·exact⟨hl0.1,cB.zero⟩
   ·split
    ·exact hl0
    ·exact⟨hl0.1,cB.zero⟩
  have hc':∀ c ∈ LS.putIn cs (bp tops most cs l),c.1 < n/\cB xs c.2:=fun c hc'=>by
   rcases LS.eD.mp hc' with z | z
   ·exact hc c z
   ·rw [z];exact hcp
  obtain⟨i1,i2,i3,more,i4⟩:=fP (tops:=tops) (ls:=ls) (cs:=LS.putIn cs (bp tops most cs l)) (ns:=ns ++ [(LS.putIn cs (bp tops most cs l)).idxOf (bp tops most cs l)]) (h.put (l:=l)) hc' fun c hc=>hl c (List.mem_cons_of_mem _ hc)
  refine⟨i1,i2,?_,?_⟩
  ·refine Eq.trans (show (ls.foldl (fj tops most) (fj tops most (cs,ns) l)).2.length=(ns ++ [(LS.putIn cs (bp tops most cs l)).idxOf (bp tops most cs l)]).length+ls.length from i3) ?_
   simp only [List.length_append,List.length_cons,List.length_nil]
   omega
  ·have i4':(ls.foldl (fj tops most) (fj tops most (cs,ns) l)).1=LS.putIn cs (bp tops most cs l)++more:=i4
   show ∃ more,(ls.foldl (fj tops most) (fj tops most (cs,ns) l)).1=cs++more
   rw [i4']
   unfold LS.putIn
   split
   ·exact⟨more,rfl⟩
   ·exact⟨bp tops most cs l :: more,by simp⟩
theorem gZ.mv {P:Program} {w:World} {C r m d:Addr} {H H':Hp} {ms:List (PyData × Addr)} (A:gZ P w C H r m d ms) (nls:∀ p ∈ ms,bW p.1=true) (k:∀ c o,H c=some o->(c=r\/c=m\/c=d)->H' c=some o) (kt:∀ p zs,H p=some (.tup zs)->H' p=some (.tup zs)):gZ P w C H' r m d ms:=by
 obtain⟨⟨dx,h1⟩,h2,h3,h4⟩:=A
 exact⟨⟨dx,k _ _ h1 (.inl rfl)⟩,k _ _ h2 (.inr (.inl rfl)),k _ _ h3 (.inr (.inr rfl)),fun p hp=>⟨(h4 p hp).1,(h4 p hp).2.aJ kt (nls p hp)⟩⟩
theorem mX.hV {ms:List (PyData × Addr)} {cs:List Cp} (h:mX ms cs):∀ p ∈ ms,bW p.1=true:=by
 have go:∀ {ds:List PyData} {cs:List Cp},Paired (fun d c=>CD c d) ds cs->∀ d ∈ ds,bW d=true:=by
  intro ds cs h
  induction h with
  | nil=>intro d hd;cases hd
  | cons r _ ih =>
   intro d hd
   rcases List.mem_cons.mp hd with rfl | hd
   ·exact r.hV
   ·exact ih d hd
 exact fun p hp=>go h p.1 (List.mem_map.mpr ⟨p,hp,rfl⟩)
theorem mX.put {ms:List (PyData × Addr)} {cs:List Cp} {c:Cp} {d:PyData} {a:Addr} (h:mX ms cs) (cd:CD c d):mX (ke ms d a) (LS.putIn cs c):=by
 obtain⟨hm,_⟩:=cd.mem h
 unfold ke LS.putIn
 by_cases z:c ∈ cs
 ·rw [if_pos z,if_pos (hm.mpr z)];exact h
 ·rw [if_neg z,if_neg (fun w=>z (hm.mp w))]
  show Paired _ ((ms ++ [(d,a)]).map (·.1)) _
  rw [List.map_append]
  exact dE h (.cons cd .nil)
theorem ux {H:Hp}:∀ {ms:List (PyData × Addr)},(∀ p ∈ ms,aV H (.ref p.2) p.1)->aZ H (ms.map fun p=>V.ref p.2) (ms.map (·.1))
 | [],_=>.nil
 | p :: ms,h=>.cons (h p (List.mem_cons_self ..)) (ux fun q hq=>h q (List.mem_cons_of_mem _ hq))
theorem oG:∀ {vs:List Value} {ks:List Int},vs.length=ks.length->(∀ (j:Nat) (v:Value) (x:Int),vs[j]? = some v->ks[j]? = some x->∃ t,v=.int x t)->IntsAre vs ks
 | [],[],_,_=>.nil
 | [],_ :: _,h,_=>by cases h
 | _ :: _,[],h,_=>by cases h
 | v :: vs,x :: ks,hl,h=>by
  obtain⟨t,rfl⟩:=h 0 v x rfl rfl
  exact .cons x t (oG (by simpa using hl) fun j v y h1 h2=>h (j+1) v y (by simpa using h1) (by simpa using h2))
section
variable {prog:Program} {w:World} {A:Around} {E:Value->Shared->Prop} {s:Shared}
theorem sL {a:Addr} {kvs:List (Key × Value)} {ks:List Int} {Q:Value->Shared->Prop} (hh:A.handled=none) (lo:(a == sysModules)=false) (dd:s.heap.DictOf (aL prog w) a kvs)
  (hk:kvs.map (·.1)=ks.map Sum.inl) (h64:ks.length < 64)
  (h:∀ (h':Heap) (tk:Nat) (D:Addr) (out:Array Value) (ss':List Int) (e:Nat),(∀ b o,s.heap.get? b=some o->h'.get? b=some o)->s.heap.objs.size<=D->h'.get? D=some { cls:=.type "list",data:=.seq out e } ->
   IntsAre out.toList ss'->ss'.Perm ks->Q (.ref D) { s with heap:=h',toks:=tk }) :
  wpAny (model prog w) A (call (.builtin "sorted") [.ref a]) Q E s:=by
 refine Calls.call_function_entry kind_sorted plain_sorted entry_sorted (args_sorted1 _) ?_
 unfold Builtin.«sorted»
 refine wpAny_bind (m:=checkCount "sorted" 1 1 _) (wpAny_pure ?_)
 obtain⟨ep,hat⟩:=dd.dictAt
 have hlk:kvs.length=ks.length:=by have:=congrArg List.length hk;simpa using this
 have hz:kvs.length<=sizeLine:=by rw [hlk];exact Nat.le_trans (Nat.le_of_lt h64) (by decide)
 refine wpAny_bind (gather (A:=A.in1) (PySem.W.kdl_dict (knd:=aL prog w) (kvs:=kvs) (ep:=ep) lo) hh hat hz fun h' tk acc hkeep hacc hsz=>?_)
 have hl:acc.toList.length=ks.length:=by rw [Array.length_toList,hacc.1,hlk]
 have hS:IntsAre acc.toList ks:=oG hl fun j v x h1 h2=>by
  obtain⟨k,y,e1,e2⟩:=hacc.2 j v (by rw [<-Array.getElem?_toList];exact h1)
  have e3:(kvs.map (·.1))[j]? = some k:=by rw [List.getElem?_map,e1];rfl
  rw [hk,List.getElem?_map,h2] at e3
  cases (Option.some.inj e3)
  exact mS e2
 refine wpAny_bind (wpAny_newList ?_ (by rw [hl];exact Nat.le_trans (Nat.le_of_lt h64) (by decide)))
 have hoL:(h'.push (seqObj "list" acc.toList.toArray 0)).get? h'.objs.size=some (seqObj "list" acc.toList.toArray 0):=Heap.get?_push_size _ rfl
 refine wpAny_bind (wpAny_holding (wpAny_call_entry slot_list_sort ⟨_,hoL,rfl⟩ entry_list_sort (list_sort_tree hoL hS (by rw [hl];exact h64) fun out ss' b1 b2 b3=>⟨_,rfl,?_⟩) (args_list_sort _)))
 obtain⟨e,he⟩:=sortedHeap_at (out:=out) hoL
 refine wpAny_pure ⟨_,rfl,h _ tk _ _ ss' e (fun b o ho=>?_) hsz he b1 b2⟩
 have h1:=hkeep b o ho
 have hlt:=Heap.lt_size h1
 rw [sortedHeap_old (Nat.ne_of_lt hlt) (by rw [size_push'];exact Nat.lt_succ_of_lt hlt)]
 exact Heap.get?_push_of_some _ h1
end
section
variable {X:Cx}
theorem qD (hc:X.calm=true):dX X (.builtin "sorted") (fun vs H Q=>∃ (a:Addr) (kvs:List (Key × V)) (ks:List Int),vs = [.ref a]/\H a=some (.dK kvs)/\kvs.map (·.1)=ks.map Sum.inl/\ks.length < 64 /\
  ∀ (l:Addr) (ss:List Int),ss.Perm ks->H l=none->Q (.ref l) (upd H l (.lst (ss.map V.int)))):=by
 intro pins s σ H xs us Q I r h
 obtain⟨a,kvs,ks,rfl,ha,hk,h64,q⟩:=h
 obtain⟨u,rfl,ru⟩:=vals1 r
 cases (show u=Value.ref a from ru)
 obtain⟨z,hd,vs,rel,dd⟩:=ml I.aN ha
 refine sL (I.ok.hd hc) hd dd (by rw [<-rel.keys];exact hk) h64 fun h' tk D out ss' e hkeep hD he hS hp=>?_
 have hv:Vals (ss'.map V.int) out.toList:=iC hS
 refine⟨.ref D,_,I.laid (t':=tk) (o:=.lst (ss'.map V.int)) hkeep hD (show bM X.prog X.w _ h' _ (.lst (ss'.map V.int)) from ⟨?_,out.toList,e,hv,by simpa using he⟩),rfl,q D ss' hp (I.aN.fresh hD)⟩
 rw [List.length_map,hp.length_eq]
 exact Nat.le_trans (Nat.le_of_lt h64) (by decide)
end
def km:Sp:=fun vs H Q _=>∃ (plv:V) (ps:List Piece),vs = [plv]/\aV H plv (eN ps)/\jP ps/\0 < ps.length/\ps.length<=60 /\
 ∀ (t:Addr) (ks:List Nat) (H':Hp),H' t=some (.lst (vN ks))->(∀ k,k ∈ ks ↔ iO ps k)->(∀ k ∈ ks,k < ps.length)->ks.length<=60->ah H H'->Q (.ref t) H'
def nH:Sp:=fun vs H Q _=>∃ (plv:V) (ps:List Piece),vs = [plv]/\aV H plv (eN ps)/\jP ps/\0 < ps.length/\ps.length<=60 /\
 ∀ (t:Addr) (ks:List Nat) (H':Hp),H' t=some (.lst (vN ks))->(∀ k,k ∈ ks ↔ aX ps k)->ks.length<=60->ah H H'->Q (.ref t) H'
def kn:Sp:=fun vs H Q _=>∃ (ea:Addr) (e:End),vs = [.ref ea]/\H ea=some (.tup (d7 e))/\∀ l H',H l=none->H' l=some (.lst (vN (aP e)))->ah H H'->Q (.ref l) H'
def lX:Sp:=fun vs H Q _=>∃ (fv:V) (T:Str->Sx) (m:Nat),vs = [fv]/\FV H fv T/\sy T m/\m<=60/\∀ d' H',LT H' d' T m->ah H H'->Q (.ref d') H'
open Classical in
noncomputable def ko (T:Str->Sx) (ss:List Str):Str->Sx:=fun x=>if x ∈ ss then T x else cy
theorem sM {T:Str->Sx} {ss:List Str} {x:Str}:cA (ko T ss) x (T x)=ko T (ss ++ [x]):=by
 funext y
 unfold cA ko
 by_cases e:y=x
 ·rw [if_pos e,if_pos (by rw [e];exact List.mem_append_right _ (List.mem_singleton.mpr rfl)),e]
 ·rw [if_neg e]
  by_cases h:y ∈ ss
  ·rw [if_pos h,if_pos (List.mem_append_left _ h)]
  ·rw [if_neg h,if_neg (fun z=>(List.mem_append.mp z).elim h fun w=>e (List.mem_singleton.mp w))]
theorem sN {T:Str->Sx} {ss:List Str} (h:∀ x,x ∈ ss ↔ T x ≠ cy):ko T ss=T:=by
 funext x
 unfold ko
 by_cases z:x ∈ ss
 ·rw [if_pos z]
 ·rw [if_neg z]
  exact (Classical.byContradiction fun w=>z ((h x).mpr fun e=>w e.symm))
def nI:Sp:=fun vs H Q _=>∃ (pc da ea nl:Addr) (ws:List V) (ds:List cL) (e:End) (ns:List Nat),vs = [.ref pc,.ref nl]/\H pc=some (.tup [.ref da,.ref ea])/\H da=some (.tup ws)/\aZ H ws (ds.map cQ)/\H ea=some (.tup (d7 e))/\H nl=some (.lst (vN ns))/\(ns.length=1\/ns.length=(aP e).length) /\
 ∀ v H',aV H' v (cb (ds,iP e ns))->ah H H'->Q v H'
theorem sO {H:Hp} {v:V} {o:Option Int} (h:aV H v (dO o)):v=vO o:=by
 cases o with
 | none=>cases h;rfl
 | some i=>cases h;rfl
theorem yz {H:Hp} {v:V} {s:Sx} (h:aV H v (dS s)):SH H v s:=by
 obtain⟨p,zs,rfl,hp,r⟩:=aV.bX h
 obtain⟨y1,t1,rfl,q1,r⟩:=r.cons_inv
 obtain⟨y2,t2,rfl,q2,r⟩:=r.cons_inv
 have z:=r.nil_inv
 subst z
 rw [sO q1,sO q2] at hp
 exact⟨p,rfl,hp⟩
def WV (m:Nat) (H:Hp) (v:V) (p:Cp):Prop:=∃ q d,v=.ref q/\H q=some (.tup [.int (p.1:Nat),.ref d])/\LT H d p.2 m
def qr (m:Nat) (H:Hp) (vs:List V) (ps:List Cp):Prop:=Paired (WV m H) vs ps
theorem LT.mono {H:Hp} {d:Addr} {T:Str->Sx} {m k:Nat} (h:LT H d T m) (hk:m<=k):LT H d T k:=by
 obtain⟨kvs,ks,g1,g2,g3,g4⟩:=h
 exact⟨kvs,ks,g1,g2,g3,Nat.le_trans g4 hk⟩
def lY:Sp:=fun vs H Q _=>∃ (plv:V) (ps:List Piece) (xs:List Str) (most:Nat),vs = [plv,.int (most:Nat)]/\aV H plv (eN ps)/\cq xs 6 ps/\(∀ x ∈ xs,dC x)/\xs.length<=10/\0 < ps.length/\ps.length<=60/\1<=most/\most<=300 /\
 ∀ (v:V) (ds:List PyData) (H':Hp),Paired (fun d c=>CD c d) ds (cF ps most).1->aV H' v (.tuple [.tuple ((cF ps most).2.map cb),.tuple ds])->ah H H'->Q v H'
theorem xa {ps:List Piece} {most:Nat} (h:1<=most):(aT (aX ps) most [] [(0,startT ps)]).1 = [gi ps]:=by
 show LS.putIn [] (bp (aX ps) most [] (0,startT ps))=_
 have e:bp (aX ps) most [] (0,startT ps)=gi ps:=by
  unfold bp gi
  by_cases z:aX ps 0
  ·rw [if_pos z,if_pos z]
  ·rw [if_neg z,if_neg z,if_pos (.inr (by show 0 < most;omega))]
 rw [e]
 unfold LS.putIn
 rw [if_neg (by simp)]
 rfl
theorem qr.mv {m:Nat} {H H':Hp} {vs:List V} {ps:List Cp} (h:qr m H vs ps) (kd:∀ c kvs,H c=some (.dK kvs)->H' c=some (.dK kvs)) (kt:∀ c zs,H c=some (.tup zs)->H' c=some (.tup zs)):qr m H' vs ps:=by
 unfold qr at h ⊢
 induction h with
 | nil=>exact .nil
 | cons r _ ih =>
  obtain⟨q,d,e,h1,h2⟩:=r
  refine .cons ⟨q,d,e,kt _ _ h1,h2.aJ (fun o e=>?_) kt⟩ ih
  obtain⟨kvs,ks,g,_⟩:=h2
  rw [g] at e
  cases e
  exact kd _ _ g
theorem fR {ds:List PyData} {cs:List Cp} (h:Paired (fun d c=>CD c d) ds cs):bR ds=true:=by
 induction h with
 | nil=>rfl
 | cons r _ ih =>
  rename_i d c ds cs _
  show (bW d && bR ds)=true
  rw [r.hV,ih];rfl
def yA (ps:List Piece) (most fu:Nat) (at_:Int) (cs:List Cp) (outs:List Piece) (ls:List Cp):Prop :=
 (at_ = -1/\cs = []/\outs = []/\ls = [(0,startT ps)]/\fu=most+ps.length+1) \/
 (at_=outs.length/\fk (aX ps) most ps fu cs outs=cF ps most/\fu+outs.length=most+ps.length/\outs.length<=cs.length/\∀ c,cs[outs.length]? = some c->∃ pc,ps[c.1]? = some pc/\ls=cH (bB c.2 pc.1) pc.2)
theorem yA.pos {ps:List Piece} {most fu:Nat} {at_:Int} {cs:List Cp} {outs:List Piece} {ls:List Cp} (h:yA ps most fu at_ cs outs ls) (hl:at_ < cs.length) (hn:cs.length<=most+ps.length):0 < fu:=by
 rcases h with ⟨_,_,_,_,h⟩ | ⟨h1,_,h3,_,_⟩ <;> omega
theorem FD.hV {T:Str->Sx} {d:PyData} (h:FD T d):bW d=true:=by
 obtain⟨ss,srt,hm,rfl⟩:=h
 exact lS ss
theorem mE {ds:List PyData} {cs:List Cp} (h:Paired (fun d c=>CD c d) ds cs) (hl:∀ c ∈ cs,nB c.2):∀ e ∈ ds,d9 e:=by
 induction h with
 | nil=>intro e he;cases he
 | cons r _ ih =>
  intro e he
  rcases List.mem_cons.mp he with rfl | he
  ·exact r.key (hl _ (List.mem_cons_self ..))
  ·exact ih (fun c hc=>hl c (List.mem_cons_of_mem _ hc)) e he
def jt (hs:List Nat) (k:Nat) (U:Str->Sx):Cp:=if k ∈ hs then (k,T0) else (k,U)
theorem xb {tops:Nat->Prop} {most:Nat} {cs:List Cp} {k:Nat} {U:Str->Sx} {hs:List Nat} (hh:∀ j,j ∈ hs ↔ tops j):bp tops most cs (k,U)=if jt hs k U ∈ cs\/cs.length < most then jt hs k U else (k,T0):=by
 unfold bp jt
 by_cases h:k ∈ hs
 ·rw [if_pos ((hh k).mp h),if_pos h]
  split <;> rfl
 ·rw [if_neg (fun z=>h ((hh k).mpr z)),if_neg h]
  by_cases h2:(k,U) ∈ cs\/cs.length < most
  ·rw [if_pos h2,if_pos h2]
  ·rw [if_neg h2,if_neg h2]
theorem sP {H:Hp} {fvs:List V} {fds:List PyData} {cs:List Cp} {j:Nat} {c:Cp} (r:aZ H fvs fds) (cc:Paired (fun d c=>CD c d) fds cs) (h:cs[j]? = some c):∃ a y,fvs[j]? = some (.ref a)/\H a=some (.tup [.int (c.1:Nat),y])/\FV H y c.2:=by
 have hl:j < fds.length:=by rw [Paired.length cc];exact (List.getElem?_eq_some_iff.mp h).1
 have hd:fds[j]? = some fds[j]:=by simp [hl]
 generalize fds[j] = d at hd
 obtain⟨c',hc',cd⟩:=fO cc hd
 rw [h] at hc'
 cases hc'
 obtain⟨v,hv,rv⟩:=r.get hd
 obtain⟨fd,hfd,rfl⟩:=cd
 obtain⟨pa,pvs,rfl,hpm,rpv⟩:=aV.bX rv
 obtain⟨y1,t1,rfl,q1,rpv⟩:=rpv.cons_inv
 obtain⟨y2,t2,rfl,q2,rpv⟩:=rpv.cons_inv
 have z:=rpv.nil_inv
 subst z
 rw [q1.int_inv] at hpm
 exact⟨pa,y2,hv,hpm,hfd.fv q2⟩
theorem iG.len {m:Nat} {H:Hp} {vs:List V} {ps:List (Nat × (Str->Sx))} (h:iG m H vs ps):vs.length=ps.length:=Paired.length h
theorem iG.at {m:Nat} {H:Hp} {vs:List V} {ps:List (Nat × (Str->Sx))} {i:Nat} {v:V} (h:iG m H vs ps) (hi:vs[i]? = some v):∃ pr,ps[i]? = some pr/\∃ q sv d,v=.ref q/\H q=some (.tup [sv,.int (pr.1:Nat),.ref d])/\LT H d pr.2 m:=by
 obtain⟨pr,h1,q,sv,d,h2,h3,h4⟩:=fO h hi
 exact⟨pr,h1,q,sv,d,h2,h3,h4⟩
section
variable {tops:Nat->Prop} {most:Nat}
def Goes (tops:Nat->Prop) (most:Nat) (cs:List Cp) (ls:List Cp) (ns:List Nat):Prop:=Paired (fun l k=>∃ c':Cp,cs[k]? = some c'/\c'.1=l.1/\((¬ tops l.1/\c'.2=l.2)\/(c'.2=T0/\(tops l.1\/most<=cs.length)))) ls ns
theorem Goes.more {cs ls more:List Cp} {ns:List Nat} (h:Goes tops most cs ls ns):Goes tops most (cs++more) ls ns:=by
 unfold Goes at h ⊢
 induction h with
 | nil=>exact .nil
 | cons r _ ih =>
  obtain⟨c',h1,h2,h3⟩:=r
  refine .cons ⟨c',?_,h2,?_⟩ ih
  ·rw [List.getElem?_append_left (List.getElem?_eq_some_iff.mp h1).1];exact h1
  ·rcases h3 with h3 | ⟨h3,h4 | h4⟩
   ·exact .inl h3
   ·exact .inr ⟨h3,.inl h4⟩
   ·exact .inr ⟨h3,.inr (by rw [List.length_append];omega)⟩
theorem yB {cs:List Cp} {c:Cp}:(LS.putIn cs c)[(LS.putIn cs c).idxOf c]? = some c:=by
 have hm:c ∈ LS.putIn cs c:=LS.eD.mpr (.inr rfl)
 have hl:=List.idxOf_lt_length_of_mem hm
 rw [List.getElem?_eq_getElem hl,List.getElem_idxOf hl]
theorem mY:∀ {ls cs:List Cp} {ns:List Nat},∃ more ms,(ls.foldl (fj tops most) (cs,ns)).1=cs++more/\(ls.foldl (fj tops most) (cs,ns)).2=ns++ms/\Goes tops most (ls.foldl (fj tops most) (cs,ns)).1 ls ms
 | [],cs,ns=>⟨[],[],by simp,by simp,.nil⟩
 | l :: ls,cs,ns=>by
  obtain⟨more,ms,e1,e2,g⟩:=mY (ls:=ls) (cs:=LS.putIn cs (bp tops most cs l)) (ns:=ns ++ [(LS.putIn cs (bp tops most cs l)).idxOf (bp tops most cs l)])
  have e0:(l :: ls).foldl (fj tops most) (cs,ns)=ls.foldl (fj tops most) (LS.putIn cs (bp tops most cs l),ns ++ [(LS.putIn cs (bp tops most cs l)).idxOf (bp tops most cs l)]):=rfl
  rw [e0]
  have hp:∃ m0,LS.putIn cs (bp tops most cs l)=cs++m0:=by
   unfold LS.putIn
   split
   ·exact⟨[],by simp⟩
   ·exact⟨_,rfl⟩
  obtain⟨m0,em⟩:=hp
  have hat:=yB (cs:=cs) (c:=bp tops most cs l)
  refine⟨m0++more,(LS.putIn cs (bp tops most cs l)).idxOf (bp tops most cs l) :: ms,by rw [e1,em,List.append_assoc],by rw [e2,List.append_assoc];rfl,.cons ⟨bp tops most cs l,?_,?_,?_⟩ g⟩
  ·rw [e1,List.getElem?_append_left (List.getElem?_eq_some_iff.mp hat).1];exact hat
  ·unfold bp
   split
   ·rfl
   ·split <;> rfl
  ·have hl:cs.length<=(ls.foldl (fj tops most) (LS.putIn cs (bp tops most cs l),ns ++ [(LS.putIn cs (bp tops most cs l)).idxOf (bp tops most cs l)])).1.length:=by rw [e1,em,List.length_append,List.length_append];omega
   generalize (ls.foldl (fj tops most) (LS.putIn cs (bp tops most cs l),ns ++ [(LS.putIn cs (bp tops most cs l)).idxOf (bp tops most cs l)])).1=cz at hl
   unfold bp
   by_cases h1:tops l.1
   ·rw [if_pos h1];exact .inr ⟨rfl,.inl h1⟩
   ·rw [if_neg h1]
    by_cases h2:l ∈ cs\/cs.length < most
    ·rw [if_pos h2];exact .inl ⟨h1,rfl⟩
    ·rw [if_neg h2];exact .inr ⟨rfl,.inr (by have:¬ cs.length < most:=fun z=>h2 (.inr z);omega)⟩
def CG (tops:Nat->Prop) (most:Nat) (ps:List Piece) (cs:List Cp) (outs:List Piece):Prop:=∀ (j:Nat) (p:Piece),outs[j]? = some p->∃ (c:Cp) (pc:Piece) (ns:List Nat),cs[j]? = some c/\ps[c.1]? = some pc/\p=(pc.1,iP pc.2 ns)/\Goes tops most cs (cH (bB c.2 pc.1) pc.2) ns
structure pN (tops:Nat->Prop) (most:Nat) (xs:List Str) (ps:List Piece) (cs:List Cp) (outs:List Piece):Prop where
 lZ:gg ps.length most cs
 ok:∀ c ∈ cs,c.1 < ps.length/\cB xs c.2
 le:outs.length<=cs.length
 rel:CG tops most ps cs outs
theorem pN.step {xs:List Str} {ps:List Piece} {cs:List Cp} {outs:List Piece} {m:Nat} (h:pN tops most xs ps cs outs) (pok:cq xs m ps) {c:Cp} {pc:Piece} (hc:cs[outs.length]? = some c) (hp:ps[c.1]? = some pc) :
  pN tops most xs ps (aT tops most cs (cH (bB c.2 pc.1) pc.2)).1 (outs ++ [(pc.1,iP pc.2 (aT tops most cs (cH (bB c.2 pc.1) pc.2)).2)])/\∃ more,(aT tops most cs (cH (bB c.2 pc.1) pc.2)).1=cs++more:=by
 have hcm:=List.mem_of_getElem? hc
 have dok:=pok.gQ _ (List.mem_of_getElem? hp)
 have eok:=pok.ends _ (List.mem_of_getElem? hp)
 have bok:=(h.ok c hcm).2.pL dok.2
 obtain⟨k1,k2,_,_⟩:=fP (tops:=tops) (ls:=cH (bB c.2 pc.1) pc.2) (ns:=[]) h.lZ h.ok (pM bok eok)
 obtain⟨more,ms,e1,e2,g⟩:=mY (tops:=tops) (most:=most) (ls:=cH (bB c.2 pc.1) pc.2) (cs:=cs) (ns:=[])
 have hol:outs.length < cs.length:=(List.getElem?_eq_some_iff.mp hc).1
 refine⟨⟨k1,k2,?_,?_⟩,more,e1⟩
 ·unfold aT
  rw [e1,List.length_append,List.length_append]
  show _+1<=_
  omega
 ·intro j p hj
  unfold aT
  by_cases hjl:j < outs.length
  ·rw [List.getElem?_append_left hjl] at hj
   obtain⟨c',pc',ns',h1,h2,h3,h4⟩:=h.rel j p hj
   refine⟨c',pc',ns',?_,h2,h3,?_⟩
   ·rw [e1,List.getElem?_append_left (by omega)];exact h1
   ·rw [e1];exact h4.more
  ·have hje:j=outs.length:=by
    have:=(List.getElem?_eq_some_iff.mp hj).1
    rw [List.length_append] at this
    have:j < outs.length+1:=this
    omega
   subst hje
   rw [List.getElem?_append_right (Nat.le_refl _),Nat.sub_self] at hj
   cases hj
   refine⟨c,pc,ms,?_,hp,?_,g⟩
   ·rw [e1,List.getElem?_append_left hol];exact hc
   ·unfold aT
    rw [e2]
    rfl
theorem qu {xs:List Str} {ps:List Piece} {m:Nat} (pok:cq xs m ps):∀ (fu:Nat) {cs:List Cp} {outs:List Piece},pN tops most xs ps cs outs->fu+outs.length=most+ps.length ->
  pN tops most xs ps (fk tops most ps fu cs outs).1 (fk tops most ps fu cs outs).2/\(fk tops most ps fu cs outs).2.length=(fk tops most ps fu cs outs).1.length/\∃ more,(fk tops most ps fu cs outs).1=cs++more
 | 0,cs,outs,h,hf=>by
  have:=h.lZ.len fun c hc=>(h.ok c hc).1
  have:=h.le
  exact⟨h,by show outs.length=cs.length;omega,[],by show cs=_;simp⟩
 | fu+1,cs,outs,h,hf=>by
  cases hc:cs[outs.length]? with
  | none =>
   rw [lV hc]
   have:cs.length<=outs.length:=List.getElem?_eq_none_iff.mp hc
   have:=h.le
   exact⟨h,by show outs.length=cs.length;omega,[],by simp⟩
  | some c =>
   have hcl:=(h.ok c (List.mem_of_getElem? hc)).1
   have hps:ps[c.1]? = some ps[c.1]:=by simp [hcl]
   rw [kj hc hps]
   obtain⟨h',more,e⟩:=h.step pok hc hps
   obtain⟨i1,i2,more',i3⟩:=qu pok fu h' (by rw [List.length_append];show fu+(_+1)=_;omega)
   exact⟨i1,i2,more++more',by rw [i3,e,List.append_assoc]⟩
end
theorem sQ {xs:List Str} {ps:List Piece} {m most:Nat} (pok:cq xs m ps) (hn0:0 < ps.length) (hm:1<=most) :
  pN (aX ps) most xs ps (cF ps most).1 (cF ps most).2/\(cF ps most).2.length=(cF ps most).1.length/\∃ more,(cF ps most).1 = [gi ps] ++ more:=by
 refine qu pok _ ⟨⟨by simp,Nat.le_trans (List.length_filter_le _ _) hm⟩,fun c hc=>?_,Nat.zero_le _,fun j p hj=>(by cases hj)⟩ rfl
 rw [List.mem_singleton.mp hc]
 unfold gi
 split
 ·exact⟨hn0,cB.zero⟩
 ·exact⟨hn0,ki pok⟩
theorem zZ {xs:List Str} {n n':Nat} {e:End} {ns:List Nat} (h:iV xs n e) (hl:ns.length=1\/ns.length=(aP e).length) (hb:∀ k ∈ ns,k < n'):iV xs n' (iP e ns):=by
 match ns,hl,hb with
 | [a],_,hb=>exact hb a (List.mem_singleton.mpr rfl)
 | [],hl,_ =>
  cases e with
  | stop=>exact True.intro
  | go p=>exact absurd (hl.resolve_left (by decide)) (by show ¬ 0=1;decide)
  | cC b x n p q=>exact absurd (hl.resolve_left (by decide)) (by show ¬ 0=2;decide)
 | [a,c],hl,hb =>
  have hl:=hl.resolve_left (by show ¬ 2=1;decide)
  cases e with
  | stop=>exact absurd hl (by show ¬ 2=0;decide)
  | go p=>exact absurd hl (by show ¬ 2=1;decide)
  | cC b x n p q=>exact⟨h.1,h.2.1,hb a (by simp),hb c (by simp)⟩
 | _ :: _ :: _ :: _,hl,_ =>
  exfalso
  have h3:(aP e).length<=2:=by cases e <;> (show _<=2) <;> simp [aP]
  simp only [List.length_cons] at hl
  omega
theorem Goes.lt {tops:Nat->Prop} {most:Nat} {cs ls:List Cp} {ns:List Nat} (h:Goes tops most cs ls ns):∀ k ∈ ns,k < cs.length:=by
 unfold Goes at h
 induction h with
 | nil=>intro k hk;cases hk
 | cons r _ ih =>
  intro k hk
  rcases List.mem_cons.mp hk with rfl | hk
  ·obtain⟨c',h1,_⟩:=r
   exact (List.getElem?_eq_some_iff.mp h1).1
  ·exact ih k hk
theorem xc {xs:List Str} {ps:List Piece} {m most:Nat} (pok:cq xs m ps) (hn0:0 < ps.length) (hm:1<=most):cq xs m (cF ps most).2:=by
 obtain⟨I,hl,_⟩:=sQ pok hn0 hm
 have key:∀ p ∈ (cF ps most).2,(p.1.length<=m/\∀ d ∈ p.1,eS xs d)/\iV xs (cF ps most).2.length p.2:=fun p hp=>by
  obtain⟨j,hj⟩:=List.getElem?_of_mem hp
  obtain⟨c,pc,ns,h1,h2,rfl,h4⟩:=I.rel j p hj
  have hpm:=List.mem_of_getElem? h2
  have bok:=(I.ok c (List.mem_of_getElem? h1)).2.pL (pok.gQ _ hpm).2
  refine⟨(show pc.1.length<=m/\∀ d ∈ pc.1,eS xs d from pok.gQ pc hpm),zZ (pok.ends _ hpm) ?_ (by rw [hl];exact h4.lt)⟩
  rw [<-Paired.length h4]
  exact (jr (e:=pc.2) bok).1
 exact⟨fun p hp=>(key p hp).1,fun p hp=>(key p hp).2⟩
def ij (outs:List Piece) (ds:List PyData):PyData:=.tuple [.tuple (outs.map cb),.tuple ds]
theorem z5 {ds ds':List PyData} {cs:List Cp} (h:Paired (fun d c=>CD c d) ds cs) (h':Paired (fun d c=>CD c d) ds' cs):ds=ds':=by
 induction h generalizing ds' with
 | nil=>cases h';rfl
 | cons r _ ih =>
  cases h' with
  | cons r' t'=>rw [ih t',(r.iff r').mpr rfl]
theorem z6 {ds:List PyData} {cs:List Cp} (h:Paired (fun d c=>CD c d) ds cs) (hl:∀ c ∈ cs,nB c.2):(∀ d ∈ ds,d.canLay0=true)/\∀ d ∈ ds,d.depth<=7 :=
 ⟨fun d hd=>(mE h hl d hd).lay,fun d hd=>(mE h hl d hd).dep⟩
theorem z7 {xs:List Str} {ps:List Piece} {m most:Nat} (pok:cq xs m ps) (nok:∀ x ∈ xs,dC x) (hn0:0 < ps.length) (hm:1<=most) {ds:List PyData} (h:Paired (fun d c=>CD c d) ds (cF ps most).1) :
  (ij (cF ps most).2 ds).canLay0=true/\(ij (cF ps most).2 ds).depth<=60:=by
 obtain⟨I,hl,_⟩:=sQ pok hn0 hm
 have lp:=yr nok (xc pok hn0 hm)
 obtain⟨l1,l2⟩:=z6 h fun c hc=>(I.ok c hc).2.lay nok
 constructor
 ·show ((PyData.tuple ((cF ps most).2.map cb)).canLay0 && ((PyData.tuple ds).canLay0 && true))=true
  rw [eh _ l1,eh _ fun d hd=>by
   obtain⟨p,hp,rfl⟩:=List.mem_map.mp hd
   show ((PyData.tuple (p.1.map cQ)).canLay0 && ((ji p.2).canLay0 && true))=true
   rw [(lp p hp).1,(lp p hp).2]
   rfl]
  rfl
 ·show max (PyData.depthAll ((cF ps most).2.map cb)+1) (max (PyData.depthAll ds+1) 0)+1<=60
  have h1:=mz (m:=3) ((cF ps most).2.map cb) fun d hd=>by
   obtain⟨p,_,rfl⟩:=List.mem_map.mp hd
   exact wR p
  have h2:=mz (m:=7) ds l2
  omega
theorem cq.up {xs:List Str} {m k:Nat} {ps:List Piece} (h:cq xs m ps) (hk:m<=k):cq xs k ps:=⟨fun p hp=>⟨Nat.le_trans (h.gQ p hp).1 hk,(h.gQ p hp).2⟩,h.ends⟩
section
variable {X:Cx}
theorem z8:dY X (binaryOp .Mult) (fun x y H Q=>∃ t n,x=.str t/\y=.int n/\MulOk t n/\Q (.str (Txt.mul t n)) H):=by
 intro pins s σ H x y v u Q I rx ry h
 obtain⟨t,n,rfl,rfl,hm,q⟩:=h
 obtain⟨k,rfl⟩:=rx
 obtain⟨k',rfl⟩:=ry
 exact SB.mul hm fun t' j=>⟨.str _,H,I.tok _,⟨_,rfl⟩,q⟩
end
def pO:Str := "abcdefghijkl"
theorem qv:pO.cps.toList=(List.range 12).map (· + 97):=by decide +kernel
theorem yC:pO.length<=sizeLine:=by decide +kernel
theorem z9 {r:Int} (h0:0<=r) (h1:r < 12):∃ c,e7 pO.cps.toList r=some c/\97<=c/\c<=122:=by
 have hl:pO.cps.toList.length=12:=by rw [qv];simp
 obtain⟨c,hc,hm⟩:=qO (xs:=pO.cps.toList) h0 (by rw [hl];exact h1)
 refine⟨c,hc,?_⟩
 rw [qv] at hm
 obtain⟨k,hk,rfl⟩:=List.mem_map.mp hm
 have:=List.mem_range.mp hk
 omega
theorem yD {c:Nat} {n:Int} (hc:97<=c/\c<=122) (h1:1<=n) (h3:n<=3):MulOk ⟨#[c]⟩ n/\dC (Txt.mul ⟨#[c]⟩ n):=by
 obtain rfl | rfl | rfl:n=1\/n=2\/n=3:=by omega
 ·refine⟨⟨by decide,fun _ h=>absurd h (by show ¬ true=false;decide),fun _ h=>absurd h (by show ¬ true=false;decide)⟩,⟨by show 1<=1;decide,by show 1<=8;decide,fun d hd=>?_⟩⟩
  have:d ∈ [c]:=hd
  rw [List.mem_singleton.mp this];exact hc
 ·refine⟨⟨by decide,fun _ _=>by show ¬ ((1:Nat):Int) > _;decide,fun _ _=>by show Builtin.Str.tooLong (1 * 2)=false;decide⟩,⟨by show 1<=2;decide,by show 2<=8;decide,fun d hd=>?_⟩⟩
  have:d ∈ [c,c]:=hd
  rcases List.mem_cons.mp this with e | e
  ·rw [e];exact hc
  ·rw [List.mem_singleton.mp e];exact hc
 ·refine⟨⟨by decide,fun _ _=>by show ¬ ((1:Nat):Int) > _;decide,fun _ _=>by show Builtin.Str.tooLong (1 * 3)=false;decide⟩,⟨by show 1<=3;decide,by show 3<=8;decide,fun d hd=>?_⟩⟩
  have:d ∈ [c,c,c]:=hd
  rcases List.mem_cons.mp this with e | e
  ·rw [e];exact hc
  ·rcases List.mem_cons.mp e with e | e
   ·rw [e];exact hc
   ·rw [List.mem_singleton.mp e];exact hc
end L2
namespace My
open PySem PySem.Spec PyProof.Rows L2
def top (i:Nat):Stmt:=PySem.Challenge.pw_ledpast_k10_copies_by_hand.main.body.getD i (.Pass ⟨0,0,0,0⟩)
structure Bl (mg:Str->Option Value):Prop where
 len:mg "len" = none
 zip:mg "zip" = none
 tuple:mg "tuple" = none
 sorted:mg "sorted" = none
 set:mg "set" = none
 dict:mg "dict" = none
 min:mg "min" = none
 max:mg "max" = none
 range:mg "range" = none
 list:mg "list" = none
 int:mg "int" = none
abbrev dt:Stmt:=top 6
theorem nJ:aS ["thing", "kinds", "wanted"] ["thing", "kinds", "wanted"] (av dt):=⟨rfl,rfl,rfl,by decide +kernel,rfl,by decide +kernel,by decide +kernel⟩
abbrev gC:Stmt:=top 8
theorem vn:aS ["end"] ["end"] (av gC):=⟨rfl,rfl,rfl,by decide +kernel,rfl,by decide +kernel,by decide +kernel⟩
abbrev dH:Stmt:=top 9
theorem oH:aS ["end"] ["end"] (av dH):=⟨rfl,rfl,rfl,by decide +kernel,rfl,by decide +kernel,by decide +kernel⟩
abbrev fS:Stmt:=top 7
theorem gm:aS ["plan", "names", "deeds", "end", "deed"] ["plan"] (av fS):=⟨rfl,rfl,rfl,by decide +kernel,rfl,by decide +kernel,by decide +kernel⟩
abbrev gF:Stmt:=top 14
theorem kq:aS ["number", "stretch", "low", "high"] ["number", "stretch"] (av gF):=⟨rfl,rfl,rfl,by decide +kernel,rfl,by decide +kernel,by decide +kernel⟩
abbrev eV:Stmt:=top 15
theorem gr:aS ["stretch", "number", "low", "high", "top"] ["stretch", "number"] (av eV):=⟨rfl,rfl,rfl,by decide +kernel,rfl,by decide +kernel,by decide +kernel⟩
abbrev fz:Stmt:=top 16
theorem hG:aS ["stretch", "number", "low", "high", "bottom"] ["stretch", "number"] (av fz):=⟨rfl,rfl,rfl,by decide +kernel,rfl,by decide +kernel,by decide +kernel⟩
abbrev gG:Stmt:=top 17
theorem vo:aS ["stretch", "number"] ["stretch", "number"] (av gG):=⟨rfl,rfl,rfl,by decide +kernel,rfl,by decide +kernel,by decide +kernel⟩
abbrev en:Stmt:=top 18
theorem ik:aS ["stretch", "number", "low", "high"] ["stretch", "number"] (av en):=⟨rfl,rfl,rfl,by decide +kernel,rfl,by decide +kernel,by decide +kernel⟩
abbrev gH:Stmt:=top 19
theorem vp:aS ["stretch", "word", "number", "side"] ["stretch", "word", "number", "side"] (av gH):=⟨rfl,rfl,rfl,by decide +kernel,rfl,by decide +kernel,by decide +kernel⟩
abbrev fT:Stmt:=top 22
theorem tD:aS ["stretches"] ["stretches"] (av fT):=⟨rfl,rfl,rfl,by decide +kernel,rfl,by decide +kernel,by decide +kernel⟩
abbrev i5:Stmt:=top 23
theorem yE:aS ["facts", "name"] ["facts", "name"] (av i5):=⟨rfl,rfl,rfl,by decide +kernel,rfl,by decide +kernel,by decide +kernel⟩
abbrev eW:Stmt:=top 24
theorem kH:aS ["facts", "name", "stretch", "stretches"] ["facts", "name", "stretch"] (av eW):=⟨rfl,rfl,rfl,by decide +kernel,rfl,by decide +kernel,by decide +kernel⟩
abbrev i6:Stmt:=top 25
theorem nK:aS ["stretch", "number", "low", "high"] ["stretch", "number"] (av i6):=⟨rfl,rfl,rfl,by decide +kernel,rfl,by decide +kernel,by decide +kernel⟩
abbrev df:Stmt:=top 26
theorem iS:aS ["stretches", "deed", "word", "name"] ["stretches", "deed"] (av df):=⟨rfl,rfl,rfl,by decide +kernel,rfl,by decide +kernel,by decide +kernel⟩
abbrev il:Stmt:=top 27
theorem ma:aS ["facts", "deeds", "stretches", "deed"] ["facts", "deeds"] (av il):=⟨rfl,rfl,rfl,by decide +kernel,rfl,by decide +kernel,by decide +kernel⟩
abbrev dI:Stmt:=top 28
theorem cW:aS ["facts", "end", "ways", "word", "name", "number", "stretch", "parts"] ["facts", "end"] (av dI):=⟨rfl,rfl,rfl,by decide +kernel,rfl,by decide +kernel,by decide +kernel⟩
abbrev i7:Stmt:=top 29
theorem sR:aS ["facts", "end", "beyond"] ["facts", "end"] (av i7):=⟨rfl,rfl,rfl,by decide +kernel,rfl,by decide +kernel,by decide +kernel⟩
abbrev i8:Stmt:=top 30
theorem yF:aS ["plan"] ["plan"] (av i8):=⟨rfl,rfl,rfl,by decide +kernel,rfl,by decide +kernel,by decide +kernel⟩
abbrev dJ:Stmt:=inClass (top 10) 0
theorem oJ:aS ["self", "first"] ["self", "first"] (av dJ):=⟨rfl,rfl,rfl,by decide +kernel,rfl,by decide +kernel,by decide +kernel⟩
abbrev dM:Stmt:=inClass (top 10) 1
theorem oK:aS ["self", "thing"] ["self", "thing"] (av dM):=⟨rfl,rfl,rfl,by decide +kernel,rfl,by decide +kernel,by decide +kernel⟩
abbrev gI:Stmt:=top 11
theorem hJ:aS ["plan", "found", "waiting", "at", "way"] ["plan"] (av gI):=⟨rfl,rfl,rfl,by decide +kernel,rfl,by decide +kernel,by decide +kernel⟩
abbrev i9:Stmt:=top 12
theorem ku:aS ["plan", "found", "at", "way"] ["plan"] (av i9):=⟨rfl,rfl,rfl,by decide +kernel,rfl,by decide +kernel,by decide +kernel⟩
abbrev fU:Stmt:=top 33
theorem mZ:aS ["lead", "tops", "places", "most", "piece"] ["lead", "tops", "places", "most"] (av fU):=⟨rfl,rfl,rfl,by decide +kernel,rfl,by decide +kernel,by decide +kernel⟩
abbrev ip:Stmt:=top 34
theorem xf:aS ["end", "ways"] ["end", "ways"] (av ip):=⟨rfl,rfl,rfl,by decide +kernel,rfl,by decide +kernel,by decide +kernel⟩
abbrev fV:Stmt:=top 35
theorem cS:aS ["plan", "most", "tops", "copies", "pieces", "piece", "facts", "deeds", "end", "ahead", "ways"] ["plan", "most"] (av fV):=⟨rfl,rfl,rfl,by decide +kernel,rfl,by decide +kernel,by decide +kernel⟩
abbrev gJ:Stmt:=top 37
theorem ky:aS ["script", "k", "cell"] ["script", "k"] (av gJ):=⟨rfl,rfl,rfl,by decide +kernel,rfl,by decide +kernel,by decide +kernel⟩
abbrev fW:Stmt:=top 38
theorem m3:aS ["bag", "many", "found"] ["bag", "many"] (av fW):=⟨rfl,rfl,rfl,by decide +kernel,rfl,by decide +kernel,by decide +kernel⟩
abbrev fA:Stmt:=top 39
theorem dm:aS ["bag", "letters", "many", "base", "at", "names", "k", "name"] ["bag"] (av fA):=⟨rfl,rfl,rfl,by decide +kernel,rfl,by decide +kernel,by decide +kernel⟩
abbrev eX:Stmt:=top 40
theorem qE:aS ["bag"] ["bag"] (av eX):=⟨rfl,rfl,rfl,by decide +kernel,rfl,by decide +kernel,by decide +kernel⟩
abbrev fX:Stmt:=top 41
theorem jG:aS ["bag", "names", "word", "name"] ["bag", "names"] (av fX):=⟨rfl,rfl,rfl,by decide +kernel,rfl,by decide +kernel,by decide +kernel⟩
abbrev gK:Stmt:=top 42
theorem iY:aS ["bag", "names", "count", "way", "word", "name"] ["bag", "names", "count"] (av gK):=⟨rfl,rfl,rfl,by decide +kernel,rfl,by decide +kernel,by decide +kernel⟩
abbrev fY:Stmt:=top 43
theorem fB:aS ["bag", "count", "most", "names", "pieces", "k", "many", "end"] ["bag", "count", "most"] (av fY):=⟨rfl,rfl,rfl,by decide +kernel,rfl,by decide +kernel,by decide +kernel⟩
abbrev du:Stmt:=top 44
theorem dW:aS ["plan", "names", "deeds", "end", "deed"] ["plan"] (av du):=⟨rfl,rfl,rfl,by decide +kernel,rfl,by decide +kernel,by decide +kernel⟩
abbrev fZ:Stmt:=top 48
theorem eI:aS ["stretch", "word", "number", "side", "low", "high"] ["stretch", "word", "number", "side"] (av fZ):=⟨rfl,rfl,rfl,by decide +kernel,rfl,by decide +kernel,by decide +kernel⟩
abbrev gc:Stmt:=top 49
theorem jH:aS ["facts", "name", "stretch", "more", "other"] ["facts", "name", "stretch"] (av gc):=⟨rfl,rfl,rfl,by decide +kernel,rfl,by decide +kernel,by decide +kernel⟩
abbrev eY:Stmt:=top 50
theorem bU:aS ["facts", "deeds", "deed", "stretch", "low", "high"] ["facts", "deeds"] (av eY):=⟨rfl,rfl,rfl,by decide +kernel,rfl,by decide +kernel,by decide +kernel⟩
abbrev fC:Stmt:=top 51
theorem hR:aS ["facts", "end", "found", "side", "part"] ["facts", "end"] (av fC):=⟨rfl,rfl,rfl,by decide +kernel,rfl,by decide +kernel,by decide +kernel⟩
abbrev gd:Stmt:=top 52
theorem tE:aS ["facts"] ["facts"] (av gd):=⟨rfl,rfl,rfl,by decide +kernel,rfl,by decide +kernel,by decide +kernel⟩
abbrev gf:Stmt:=top 45
theorem tF:aS ["end"] ["end"] (av gf):=⟨rfl,rfl,rfl,by decide +kernel,rfl,by decide +kernel,by decide +kernel⟩
abbrev er:Stmt:=top 46
theorem eZ:aS ["plan", "found", "at", "there"] ["plan"] (av er):=⟨rfl,rfl,rfl,by decide +kernel,rfl,by decide +kernel,by decide +kernel⟩
abbrev fD:Stmt:=top 47
theorem hU:aS ["plan", "found", "piece", "there"] ["plan"] (av fD):=⟨rfl,rfl,rfl,by decide +kernel,rfl,by decide +kernel,by decide +kernel⟩
abbrev dN:Stmt:=top 54
theorem fF:aS ["facts", "table", "name", "stretch"] ["facts"] (av dN):=⟨rfl,rfl,rfl,by decide +kernel,rfl,by decide +kernel,by decide +kernel⟩
abbrev fE:Stmt:=top 55
theorem ju:aS ["piece", "numbers", "deeds", "end"] ["piece", "numbers"] (av fE):=⟨rfl,rfl,rfl,by decide +kernel,rfl,by decide +kernel,by decide +kernel⟩
abbrev e6:Stmt:=top 53
theorem bF:aS ["plan", "most", "headed", "found", "pieces", "begun", "name", "waiting", "numbers", "at", "piece", "facts", "copy", "deeds", "end"] ["plan", "most"] (av e6):=⟨rfl,rfl,rfl,by decide +kernel,rfl,by decide +kernel,by decide +kernel⟩
abbrev iZ:Stmt:=top 56
theorem gn:aS ["script", "bag", "most", "count", "plan", "names", "wide", "k", "deeds", "due"] ["script"] (av iZ):=⟨rfl,rfl,rfl,by decide +kernel,rfl,by decide +kernel,by decide +kernel⟩
section
variable {P:Program} {w:World} {K:PySem.W.Frag} {mg:Str->Option Value} {base:Heap}
theorem nL {f:Addr} {fd:FuncData} (F:bZ K "parts_of_kind" "parts_of_kind" dt f fd) (Z:Bl mg)  : bG P w K mg base bT 1 f fd ["thing", "kinds", "wanted"] (mw K):=by
 refine F.ok (k:=0) nJ (fun vs H Q E h=>?_) (fun cdv A outer s H vs Q E hr h=>?_)
 ·obtain⟨t,s,v0,xs,ks,w,rfl,_⟩:=h
  rfl
 ·obtain⟨t,s,v0,xs,ks,w,rfl,ht,hs,hl,q⟩:=h
  refine⟨_,(ar (aF (eE ["part", "kind"] ["wanted"] [2] rfl (wg rfl Z.zip (aa (jZ mr (pv 0) (mh ao) mf) (aa (pv 1) af))) rfl (by decide +kernel) (by decide +kernel) (by decide +kernel) ⟨⟨rfl,.inl rfl,rfl⟩,True.intro⟩ (fun _ _ _ _=>(oZ (K:=K) (n:=2) rfl (cT (n:=2) rfl (aY (aC (i:=0) (show ((["part", "kind"]:List Str)++(["wanted"]:List Str)).Nodup by decide +kernel) rfl (Or.inl rfl) (hf:=Or.inr rfl)) (aY (aC (i:=1) (show ((["part", "kind"]:List Str)++(["wanted"]:List Str)).Nodup by decide +kernel) rfl (Or.inl rfl) (hf:=Or.inr rfl)) cE))))) (fun _ _ _ _=>(oY (aH cg (pv 1) (pv 2) (aQ _)))) (fun _ _ _ _=>(pv 0))))),?_⟩
  refine⟨_,rfl,_,rfl,t,_,rfl,ay.of ht,fun hw=>?_,fun _ p np=>?_⟩
  ·exfalso
   obtain⟨h1,_⟩:=hw
   simp [HT.bQ] at h1
  ·have ec:ia (v0 :: xs) (some 1) none=xs:=by simp [ia,HT.bQ]
   rw [ec]
   have sp:=ah.new (o:=.tup xs) np
   refine⟨_,rfl,p,s,rfl,⟨_,ay.of ae⟩,⟨_,hs.same sp⟩,fun acc na=>?_⟩
   refine wj (K:=K) (a:=p) (b:=s) (xs:=xs) (ys:=ks.map V.str) (fun i zs τ H'=>∃ (c1 c2:Option V),τ = [c1,c2,some (.str w)]/\zs=jw w xs ks i/\H' acc=some (.lst zs)/\H' p=some (.tup xs)/\ah H H') ?_ ?_ ?_ ?_
   ·exact⟨none,none,rfl,rfl,ae,ah.new na _ _ ae,sp.trans (ah.new na)⟩
   ·rintro i zs τ H4 hi ⟨c1,c2,rfl,rfl,ha,hp4,s4⟩
    exact⟨ay.of hp4,hs.same s4,ha,uU (by have:=wo (w:=w) (xs:=xs) (ks:=ks) (i:=i);omega)⟩
   ·rintro i x y zs τ H4 u hx hy hu ⟨c1,c2,rfl,rfl,ha,hp4,s4⟩
    obtain⟨k,rfl,hk⟩:∃ k,y=V.str k/\ks[i]? = some k:=by
     rw [List.getElem?_map] at hy
     cases e:ks[i]? with
     | none=>rw [e] at hy;cases hy
     | some k=>rw [e] at hy;exact⟨k,(Option.some.inj hy).symm,rfl⟩
    have su:=ah.new (o:=.tup [x,.str k]) hu
    refine⟨u,_,rfl,ay.of ae,rfl,_,_,rfl,_,_,rfl,rfl,?_⟩
    refine⟨_,rfl,_,rfl,rfl,_,rfl,?_⟩
    have hn:=uV (w:=w) hx hk
    by_cases hkw:k=w
    ·rw [if_pos hkw] at hn
     refine cf (decide_eq_true (congrArg V.str hkw)) ?_
     refine⟨_,rfl,su _ _ ha,_,_,rfl,hn.symm,ae,?_,?_⟩
     ·rw [au (bg hp4 ha (by intro z;cases z))]
      exact su _ _ hp4
     ·exact (s4.trans su).put (sp.free na)
    ·rw [if_neg hkw,List.append_nil] at hn
     refine bo (decide_eq_false fun z=>hkw (V.str.inj z)) ?_
     exact⟨_,_,rfl,hn.symm,su _ _ ha,su _ _ hp4,s4.trans su⟩
   ·rintro zs τ H4 ⟨c1,c2,rfl,rfl,ha,hp4,s4⟩
    rw [wm] at ha
    exact q acc H4 ha s4
theorem vq {f:Addr} {fd:FuncData} (F:bZ K "ways_on" "ways_on" gC f fd) (Z:Bl mg) {aE s0 s1 s2 s3:Addr} (GE:rQ K mg aE s0 s1 s2 s3) (O_parts_of_kind:Own P w K mg base "parts_of_kind" 1 ["thing", "kinds", "wanted"] (mw K)):bG P w K mg base bT 3 f fd ["end"] jm:=by
 refine F.ok (k:=2) vn (fun vs H Q E h=>?_) (fun cdv A outer s H vs Q E hr h=>?_)
 ·obtain⟨ea,e,rfl,_⟩:=h
  rfl
 ·obtain⟨ea,e,rfl,he,q⟩:=h
  refine⟨_,(ar (aF (bx bC rfl Z.tuple bV (aa (aB O_parts_of_kind (hr.mono (by decide)) rfl (aa (pv 0) (aa (o6 GE.tab rfl (aK bc (pv 0) ao (fun _ _=>rfl)) (fun _ _=>rfl)) (aa bH af)))) af)))),?_⟩
  obtain⟨xs,ev,hl,hp⟩:=wq e
  rw [ev] at he
  obtain⟨s,hs,ks⟩:=GE.at_ e
  refine⟨_,rfl,_,rfl,ea,_,0,_,rfl,rfl,ay.of he,cm,_,s,rfl,hs,ea,s,_,xs,kE e, "piece",rfl,he,.inr ks,hl,fun l H1 hl1 s1=>?_⟩
  rw [hp] at hl1
  exact⟨l,_,rfl,.inl ⟨aI.of hl1,fun t ht=>q t _ ae (s1.trans (ah.new ht))⟩⟩
theorem oM {f:Addr} {fd:FuncData} (F:bZ K "without_ways" "without_ways" dH f fd) (Z:Bl mg) (O_ways_on:Own P w K mg base "ways_on" 3 ["end"] jm):bG P w K mg base bT 4 f fd ["end"] lL:=by
 refine F.ok (k:=3) oH (fun vs H Q E h=>?_) (fun cdv A outer s H vs Q E hr h=>?_)
 ·obtain⟨ea,e,rfl,_⟩:=h
  rfl
 ·obtain⟨ea,e,rfl,he,q⟩:=h
  refine⟨_,(ar (aF (jZ mr (pv 0) mf (mh (bw fI (bD bE rfl Z.len cG (aa (pv 0) af)) (bD bE rfl Z.len cG (aa (aB O_ways_on (hr.mono (by decide)) rfl (aa (pv 0) af)) af))))))),?_⟩
  refine⟨_,rfl,_,rfl,ea,_,rfl,.inr (ay.of he),_,rfl,ea,e,rfl,he,fun t H1 ht s1=>⟨t,_,rfl,.inr (ay.of ht),_,_,rfl,rfl,?_⟩⟩
  have he1:=s1 _ _ he
  have el:((d7 e).length:Int) - (((aP e).map fun k=>V.int (k:Nat)).length:Int)=((gX e).length:Nat):=by cases e <;> rfl
  have ec:ia (d7 e) none (some ((gX e).length:Nat))=gX e:=by
   unfold ia
   rw [HT.rn,HT.tZ]
   cases e <;> rfl
  refine⟨_,congrArg V.int el,ea,_,rfl,ay.of he1,fun hw=>?_,fun _ p hp=>?_⟩
  ·unfold ia at ec
   rw [hw.1,hw.2] at ec
   refine q ea H1 ?_ s1
   rw [he1,<-ec]
   simp
  ·rw [ec]
   exact q p _ ae (s1.trans (ah.new hp))
theorem tG {f:Addr} {fd:FuncData} (F:bZ K "names_of" "names_of" fS f fd) (Z:Bl mg) {aD d0 d1 d2 d3 d4:Addr} (GD:qR K mg aD d0 d1 d2 d3 d4) {aE s0 s1 s2 s3:Addr} (GE:rQ K mg aE s0 s1 s2 s3) (O_parts_of_kind:Own P w K mg base "parts_of_kind" 1 ["thing", "kinds", "wanted"] (mw K)):bG P w K mg base bT 3 f fd ["plan"] lF:=by
 refine F.ok (k:=2) gm (fun vs H Q E h=>?_) (fun cdv A outer s H vs Q E hr h=>?_)
 ·obtain⟨plv,ps,xs,m,rfl,_⟩:=h
  rfl
 ·obtain⟨plv,ps,xs,m,rfl,hp,pok,hx64,hal,q⟩:=h
  refine⟨_,(ai (aG (i:=1) gm.nd rfl (Or.inl rfl) (bS af))
   (ai (cO PassesOwn.never rfl (eu (pv 0)) (cT rfl (aY (aC (i:=2) gm.nd rfl (Or.inl rfl)) (aY (aC (i:=3) gm.nd rfl (Or.inl rfl)) cE)))
   (ai (cO PassesOwn.never rfl (eu (pv 2)) (aC (i:=4) gm.nd rfl (Or.inl rfl))
   (ar (cX (eM PySem.F.plainAttrs_list PySem.F.slot_list_extend PySem.F.type_list_extend pZ (pv 1) (aa (aB O_parts_of_kind (hr.mono (by decide)) rfl (aa (pv 4) (aa (o6 GD.tab rfl (aK bc (pv 4) ao (fun _ _=>rfl)) (fun _ _=>rfl)) (aa bH af)))) af)))))
   (ar (cX (eM PySem.F.plainAttrs_list PySem.F.slot_list_extend PySem.F.type_list_extend pZ (pv 1) (aa (aB O_parts_of_kind (hr.mono (by decide)) rfl (aa (pv 3) (aa (o6 GE.tab rfl (aK bc (pv 3) ao (fun _ _=>rfl)) (fun _ _=>rfl)) (aa bH af)))) af))))))
   (ar (aF (bx bC rfl Z.tuple bV (aa (bD (qw rfl) rfl Z.sorted fb (aa (bx (wJ rfl) rfl Z.set wH (aa (pv 1) af)) af)) af)))))),?_⟩
  obtain⟨pp,vs,rfl,e1,r⟩:=aV.bX hp
  have hl:=r.len
  refine⟨(by show 0<=sizeLine;decide),fun nm nn=>?_⟩
  have s0:=ah.new (o:=.lst []) nn
  have big:∀ (i:Nat) (ys:List Str),ys.length<=4000->(ys.map V.str).length<=sizeLine:=fun i ys h=>by rw [List.length_map];exact Nat.le_trans h (by decide)
  refine⟨_,rfl,pp,rfl,⟨_,ay.of (s0 _ _ e1)⟩,ft (K:=K) (a:=pp) (xs:=vs) (fun i σ H'=>∃ (u1 u2 u3:Option V),σ = [some (.ref pp),some (.ref nm),u1,u2,u3]/\H' nm=some (.lst ((ba (ps.take i)).map V.str))/\ah H H') ?_ ?_ ?_ ?_⟩
  ·exact⟨_,_,_,rfl,ae,s0⟩
  ·rintro i σ H1 hi ⟨u1,u2,u3,rfl,h1,s1⟩
   exact ay.of (s1 _ _ e1)
  ·rintro i x σ H1 hi ⟨u1,u2,u3,rfl,h1,s1⟩
   have hlt:i < ps.length:=by
    have:=(List.getElem?_eq_some_iff.mp hi).1
    rw [hl,List.length_map] at this
    exact this
   have hpi:ps[i]? = some ps[i]:=by simp [hlt]
   generalize ps[i] = pe at hpi
   obtain⟨ds,e⟩:=pe
   have hnext:=jy (f:=pNames) hpi
   have hsz:(ba (ps.take (i+1))).length<=4000:=Nat.le_trans (kC (f:=pNames) (i+1)) hal
   have hsz':(ba (ps.take i)).length+((ds.flatMap bY).length+(gh e).length)<=4000:=by
    have z:=congrArg List.length hnext
    unfold ba at hsz ⊢
    rw [z] at hsz
    simp only [List.length_append,pNames] at hsz
    omega
   obtain⟨p',xs',pc,da,ea,ws,ep,e1',el',hx',e2,e3,r3,e4⟩:=ff hp hpi
   cases ep
   rw [e1] at e1'
   cases e1'
   rw [hi] at hx'
   cases hx'
   refine⟨pc,_,rfl,ay.of (s1 _ _ e2),rfl,_,_,rfl,_,_,rfl,rfl,?_⟩
   refine⟨_,rfl,da,rfl,⟨_,ay.of (s1 _ _ e3)⟩,ft (K:=K) (a:=da) (xs:=ws) (fun j σ H'=>∃ (u3:Option V),σ = [some (.ref pp),some (.ref nm),some (.ref da),some (.ref ea),u3]/\H' nm=some (.lst ((ba (ps.take i)++(ds.take j).flatMap bY).map V.str))/\ah H H') ?_ ?_ ?_ ?_⟩
   ·exact⟨_,rfl,by simpa using h1,s1⟩
   ·rintro j σ H2 hj ⟨u3',rfl,h2,s2⟩
    exact ay.of (s2 _ _ e3)
   ·rintro j y σ H2 hj ⟨u3',rfl,h2,s2⟩
    have hjl:j < ds.length:=by
     have:=(List.getElem?_eq_some_iff.mp hj).1
     rw [r3.len,List.length_map] at this
     exact this
    have hdj:ds[j]? = some ds[j]:=by simp [hjl]
    generalize ds[j] = dd at hdj
    obtain⟨v,hv,rd⟩:=r3.get (i:=j) (d:=cQ dd) (by rw [List.getElem?_map,hdj];rfl)
    rw [hj] at hv
    cases hv
    obtain⟨dp,rfl,hdp⟩:=gy rd
    have hdp2:=s2 _ _ hdp
    obtain⟨zs,ez,hzl,hpk⟩:=va dd
    rw [ez] at hdp2
    obtain⟨s,hs,ks⟩:=GD.at_ dd
    have hnj:=jy (f:=bY) hdj
    have hsj:((ds.take (j+1)).flatMap bY).length<=(ds.flatMap bY).length:=kC (f:=bY) (j+1)
    refine cu ?_
    refine⟨_,rfl,.inl ⟨rfl,_,aI.of h2⟩,_,rfl,_,rfl,dp,_,0,_,rfl,rfl,ay.of hdp2,cm,_,s,rfl,hs,dp,s,_,zs,kD dd, "name",rfl,hdp2,.inr ks,hzl,fun l H3 hl3 s3=>?_⟩
    rw [hpk] at hl3
    have h3:=s3 _ _ h2
    refine⟨nm,l,_,_,rfl,rfl,h3,hl3,?_,?_⟩
    ·rw [List.length_map,List.length_map,List.length_append]
     rw [hnj,List.length_append] at hsj
     exact Nat.le_trans (show _<=4000 by omega) (by decide)
    ·refine⟨_,rfl,?_,(s2.trans s3).put nn⟩
     rw [ae,hnj,<-List.append_assoc];simp only [List.map_append]
   ·rintro σ H2 ⟨u3',rfl,h2,s2⟩
    rw [show ws.length=ds.length by rw [r3.len,List.length_map],List.take_length] at h2
    have e42:=s2 _ _ e4
    obtain⟨zs,ez,hzl,hpk⟩:=vb e
    rw [ez] at e42
    obtain⟨s,hs,ks⟩:=GE.at_ e
    refine⟨_,rfl,.inl ⟨rfl,_,aI.of h2⟩,_,rfl,_,rfl,ea,_,0,_,rfl,rfl,ay.of e42,cm,_,s,rfl,hs,ea,s,_,zs,kE e, "name",rfl,e42,.inr ks,hzl,fun l H3 hl3 s3=>?_⟩
    rw [hpk] at hl3
    have h3:=s3 _ _ h2
    refine⟨nm,l,_,_,rfl,rfl,h3,hl3,?_,?_⟩
    ·rw [List.length_map,List.length_map,List.length_append]
     exact Nat.le_trans (show _<=4000 by omega) (by decide)
    ·refine⟨_,_,_,rfl,?_,(s2.trans s3).put nn⟩
     rw [ae,<-List.map_append]
     unfold ba at hnext ⊢
     rw [hnext]
     simp only [pNames,List.append_assoc]
  ·rintro σ H1 ⟨u1,u2,u3,rfl,h1,s1⟩
   rw [show vs.length=ps.length by rw [hl,List.length_map],List.take_length] at h1
   have hk:aI K H1 nm (((ba ps).map (Sum.inr:Str->Key)).map kV):=by rw [zI];exact aI.of h1
   refine⟨_,rfl,nm,(ba ps).map Sum.inr,rfl,hk,(by rw [List.length_map];show _+1 < 4096;omega),fun sa hsa=>?_⟩
   have hf:=nq pok
   refine⟨sa,LS.cw (ba ps),rfl,(by rw [ae,vc]),(by omega),fun l ss hperm hsort hn=>?_⟩
   have s2:=ah.new (o:=cx P w sa (LS.cw ((ba ps).map (Sum.inr:Str->Key)))) hsa
   refine⟨l,_,rfl,.inl ⟨aI.of ae,fun t ht=>?_⟩⟩
   exact q t ss _ ae hperm hsort (by rw [hperm.length_eq];omega) (((s1.trans s2).trans (ah.new hn)).trans (ah.new ht))
theorem vt {f:Addr} {fd:FuncData} (F:bZ K "lies_in" "lies_in" gF f fd) (Z:Bl mg)  : bG P w K mg base bT 1 f fd ["number", "stretch"] (pD K):=by
 refine F.ok (k:=0) kq (fun vs H Q E h=>?_) (fun cdv A outer s H vs Q E hr h=>?_)
 ·obtain⟨n,q,lo,hi,rfl,_⟩:=h
  rfl
 ·obtain⟨n,q,lo,hi,rfl,hq,k⟩:=h
  refine⟨_,(ai (dA (pv 1) (cT rfl (aY (aC (i:=2) kq.nd rfl (Or.inl rfl)) (aY (aC (i:=3) kq.nd rfl (Or.inl rfl)) cE))))
   (ar (aF (vG (qK (nP (gM (pv 2))) (jK (gx qN (pv 2) (pv 0) (aQ _)))) (jK (qK (nP (gM (pv 3))) (jK (gx qN (pv 0) (pv 3) (aQ _))))))))),?_⟩
  refine⟨_,rfl,q,_,rfl,hq,rfl,_,_,rfl,_,_,rfl,rfl,?_⟩
  cases lo with
  | none =>
   refine⟨_,rfl,_,rfl,bJ ⟨_,rfl,bJ ?_⟩⟩
   cases hi with
   | none=>exact⟨_,rfl,_,rfl,bJ k⟩
   | some b =>
    refine⟨_,rfl,_,rfl,bI ⟨_,rfl,_,rfl,_,_,rfl,rfl,?_⟩⟩
    simpa only [eO,Bool.true_and] using k
  | some a =>
   refine⟨_,rfl,_,rfl,bI ⟨_,rfl,_,rfl,_,_,rfl,rfl,_,rfl,?_⟩⟩
   cases hx:decide (a<=n) with
   | false=>exact bI (by have k':=k;simp only [eO,hx,Bool.false_and] at k';exact k')
   | true =>
    refine bJ ?_
    cases hi with
    | none=>exact⟨_,rfl,_,rfl,bJ (by have k':=k;simp only [eO,hx,Bool.true_and] at k';exact k')⟩
    | some b =>
     refine⟨_,rfl,_,rfl,bI ⟨_,rfl,_,rfl,_,_,rfl,rfl,?_⟩⟩
     have k':=k
     simp only [eO,hx,Bool.true_and] at k'
     exact k'
theorem qF {f:Addr} {fd:FuncData} (F:bZ K "part_below" "part_below" eV f fd) (Z:Bl mg)  : bG P w K mg base bT 1 f fd ["stretch", "number"] (iN K fL):=by
 refine F.ok (k:=0) gr (fun vs H Q E h=>?_) (fun cdv A outer s H vs Q E hr h=>?_)
 ·obtain⟨p,n,lo,hi,rfl,_⟩:=h
  rfl
 ·obtain⟨p,n,lo,hi,rfl,hp,q⟩:=h
  refine⟨_,(ai (dA (pv 0) (cT rfl (aY (aC (i:=2) gr.nd rfl (Or.inl rfl)) (aY (aC (i:=3) gr.nd rfl (Or.inl rfl)) cE))))
   (ai (aG (i:=4) gr.nd rfl (Or.inl rfl) (fG (dP (gM (pv 3))) (bw fI (pv 1) ao) (bD (vK rfl) rfl Z.min AI (aa (pv 3) (aa (bw fI (pv 1) ao) af)))))
   (ai (bu (PW.pt (iw (dP (fo (pv 2))) (hX (aH me (pv 2) (pv 4) (aQ _)))))
   (ar (aF cJ))
   aM)
   (ar (aF (aU (aa (pv 2) (aa (pv 4) af)))))))),?_⟩
  refine⟨_,rfl,p,_,rfl,hp,rfl,_,_,rfl,_,_,rfl,rfl,?_⟩
  cases hi with
  | none =>
   refine⟨_,rfl,_,rfl,bJ ⟨_,rfl,_,_,rfl,rfl,?_⟩⟩
   cases lo with
   | none =>
    refine⟨_,rfl,_,rfl,bI (bI ⟨_,rfl,_,rfl,ln2,fun l hl=>?_⟩)⟩
    exact q _ _ ⟨l,rfl,ae⟩ (ah.new hl)
   | some i =>
    refine⟨_,rfl,_,rfl,bJ ⟨_,rfl,_,rfl,_,_,rfl,rfl,_,rfl,?_⟩⟩
    refine cM (fun hc=>?_) (fun hc=>?_)
    ·have hlt:iJ none n < i:=of_decide_eq_true hc
     exact q _ _ (by simp only [fL];rw [if_pos hlt];rfl) (ah.refl H)
    ·have hlt:¬ iJ none n < i:=fun z=>hc (decide_eq_true z)
     refine⟨_,rfl,_,rfl,ln2,fun l hl=>?_⟩
     exact q _ _ (by simp only [fL];rw [if_neg hlt];exact⟨l,rfl,ae⟩) (ah.new hl)
  | some j =>
   refine⟨_,rfl,_,rfl,bI ⟨_,rfl,_,rfl,_,_,rfl,rfl,_,_,rfl,?_⟩⟩
   cases lo with
   | none =>
    refine⟨_,rfl,_,rfl,bI (bI ⟨_,rfl,_,rfl,ln2,fun l hl=>?_⟩)⟩
    exact q _ _ ⟨l,rfl,ae⟩ (ah.new hl)
   | some i =>
    refine⟨_,rfl,_,rfl,bJ ⟨_,rfl,_,rfl,_,_,rfl,rfl,_,rfl,?_⟩⟩
    refine cM (fun hc=>?_) (fun hc=>?_)
    ·have hlt:iJ (some j) n < i:=of_decide_eq_true hc
     exact q _ _ (by simp only [fL];rw [if_pos hlt];rfl) (ah.refl H)
    ·have hlt:¬ iJ (some j) n < i:=fun z=>hc (decide_eq_true z)
     refine⟨_,rfl,_,rfl,ln2,fun l hl=>?_⟩
     exact q _ _ (by simp only [fL];rw [if_neg hlt];exact⟨l,rfl,ae⟩) (ah.new hl)
theorem sS {f:Addr} {fd:FuncData} (F:bZ K "part_from" "part_from" fz f fd) (Z:Bl mg)  : bG P w K mg base bT 1 f fd ["stretch", "number"] (iN K gS):=by
 refine F.ok (k:=0) hG (fun vs H Q E h=>?_) (fun cdv A outer s H vs Q E hr h=>?_)
 ·obtain⟨p,n,lo,hi,rfl,_⟩:=h
  rfl
 ·obtain⟨p,n,lo,hi,rfl,hp,q⟩:=h
  refine⟨_,(ai (dA (pv 0) (cT rfl (aY (aC (i:=2) hG.nd rfl (Or.inl rfl)) (aY (aC (i:=3) hG.nd rfl (Or.inl rfl)) cE))))
   (ai (aG (i:=4) hG.nd rfl (Or.inl rfl) (fG (dP (gM (pv 2))) (pv 1) (bD (vJ rfl) rfl Z.max AJ (aa (pv 2) (aa (pv 1) af)))))
   (ai (bu (PW.pt (iw (dP (fo (pv 3))) (hX (aH me (pv 4) (pv 3) (aQ _)))))
   (ar (aF cJ))
   aM)
   (ar (aF (aU (aa (pv 4) (aa (pv 3) af)))))))),?_⟩
  refine⟨_,rfl,p,_,rfl,hp,rfl,_,_,rfl,_,_,rfl,rfl,?_⟩
  cases lo with
  | none =>
   refine⟨_,rfl,_,rfl,bJ ⟨_,rfl,?_⟩⟩
   cases hi with
   | none =>
    refine⟨_,rfl,_,rfl,bI (bI ⟨_,rfl,_,rfl,ln2,fun l hl=>?_⟩)⟩
    exact q _ _ ⟨l,rfl,ae⟩ (ah.new hl)
   | some j =>
    refine⟨_,rfl,_,rfl,bJ ⟨_,rfl,_,rfl,_,_,rfl,rfl,_,rfl,?_⟩⟩
    refine cM (fun hc=>?_) (fun hc=>?_)
    ·have hlt:j < iK none n:=of_decide_eq_true hc
     exact q _ _ (by simp only [gS];rw [if_pos hlt];rfl) (ah.refl H)
    ·have hlt:¬ j < iK none n:=fun z=>hc (decide_eq_true z)
     refine⟨_,rfl,_,rfl,ln2,fun l hl=>?_⟩
     exact q _ _ (by simp only [gS];rw [if_neg hlt];exact⟨l,rfl,ae⟩) (ah.new hl)
  | some i =>
   refine⟨_,rfl,_,rfl,bI ⟨_,rfl,_,rfl,_,_,rfl,?_⟩⟩
   cases hi with
   | none =>
    refine⟨_,rfl,_,rfl,bI (bI ⟨_,rfl,_,rfl,ln2,fun l hl=>?_⟩)⟩
    exact q _ _ ⟨l,rfl,ae⟩ (ah.new hl)
   | some j =>
    refine⟨_,rfl,_,rfl,bJ ⟨_,rfl,_,rfl,_,_,rfl,rfl,_,rfl,?_⟩⟩
    refine cM (fun hc=>?_) (fun hc=>?_)
    ·have hlt:j < iK (some i) n:=of_decide_eq_true hc
     exact q _ _ (by simp only [gS];rw [if_pos hlt];rfl) (ah.refl H)
    ·have hlt:¬ j < iK (some i) n:=fun z=>hc (decide_eq_true z)
     refine⟨_,rfl,_,rfl,ln2,fun l hl=>?_⟩
     exact q _ _ (by simp only [gS];rw [if_neg hlt];exact⟨l,rfl,ae⟩) (ah.new hl)
theorem vv {f:Addr} {fd:FuncData} (F:bZ K "part_at" "part_at" gG f fd) (Z:Bl mg) (O_lies_in:Own P w K mg base "lies_in" 1 ["number", "stretch"] (pD K)):bG P w K mg base bT 2 f fd ["stretch", "number"] (iN K jQ):=by
  refine F.ok (k:=1) vo (fun vs H Q E h=>?_) (fun cdv A outer s H vs Q E hr h=>?_)
  · obtain⟨p,n,lo,hi,rfl,_⟩:=h
    rfl
  · obtain⟨p,n,lo,hi,rfl,hp,q⟩:=h
    refine⟨_,(ai (bu (kN (aB O_lies_in (hr.mono (by decide)) rfl (aa (pv 1) (aa (pv 0) af))))
      (ar (aF (aU (aa (pv 1) (aa (pv 1) af)))))
      aM)
      (ar (aF cJ))),?_⟩
    refine⟨_,rfl,_,rfl,n,p,lo,hi,rfl,hp,_,rfl,?_⟩
    refine cM (fun hc=>?_) (fun hc=>?_)
    · refine⟨_,rfl,_,rfl,ln2,fun l hl=>?_⟩
      exact q _ _ (by simp only [jQ,if_pos hc];exact⟨l,rfl,ae⟩) (ah.new hl)
    · exact q _ _ (by simp only [jQ,if_neg hc];rfl) (ah.refl H)
theorem pP {f:Addr} {fd:FuncData} (F:bZ K "part_beside" "part_beside" en f fd) (Z:Bl mg)  : bG P w K mg base bT 1 f fd ["stretch", "number"] (iN K iL):=by
 refine F.ok (k:=0) ik (fun vs H Q E h=>?_) (fun cdv A outer s H vs Q E hr h=>?_)
 ·obtain⟨p,n,lo,hi,rfl,_⟩:=h
  rfl
 ·obtain⟨p,n,lo,hi,rfl,hp,q⟩:=h
  refine⟨_,(ai (dA (pv 0) (cT rfl (aY (aC (i:=2) ik.nd rfl (Or.inl rfl)) (aY (aC (i:=3) ik.nd rfl (Or.inl rfl)) cE))))
   (ai (bu (PW.pt (iw (aH cg (pv 2) (pv 1) (aQ _)) (hX (aH cg (pv 3) (pv 1) (aQ _)))))
   (ar (aF cJ))
   aM)
   (ai (bu (aH cg (pv 2) (pv 1) (aQ _))
   (ar (aF (aU (aa (bw cK (pv 1) ao) (aa (pv 3) af)))))
   aM)
   (ai (bu (aH cg (pv 3) (pv 1) (aQ _))
   (ar (aF (aU (aa (pv 2) (aa (bw fI (pv 1) ao) af)))))
   aM)
   (ar (aF (aU (aa (pv 2) (aa (pv 3) af))))))))),?_⟩
  refine⟨_,rfl,p,_,rfl,hp,rfl,_,_,rfl,_,_,rfl,rfl,?_⟩
  refine⟨_,rfl,_,rfl,iE,_,rfl,?_⟩
  rw [jv]
  refine cM (fun hc=>?_) (fun hc=>?_)
  ·have h1:lo=some n:=of_decide_eq_true hc
   refine⟨_,rfl,_,rfl,iE,_,rfl,?_⟩
   rw [jv]
   refine cM (fun hd=>?_) (fun hd=>?_)
   ·have h2:hi=some n:=of_decide_eq_true hd
    exact q _ _ (by simp only [iL,if_pos h1,if_pos h2];rfl) (ah.refl H)
   ·have h2:¬ hi=some n:=fun z=>hd (decide_eq_true z)
    refine⟨_,rfl,_,rfl,iE,_,rfl,?_⟩
    rw [jv,hc]
    refine bJ ⟨_,rfl,_,_,rfl,rfl,_,rfl,ln2,fun l hl=>?_⟩
    exact q _ _ (by simp only [iL,if_pos h1,if_neg h2];exact⟨l,rfl,ae⟩) (ah.new hl)
  ·have h1:¬ lo=some n:=fun z=>hc (decide_eq_true z)
   refine bI ?_
   refine⟨_,rfl,_,rfl,iE,_,rfl,?_⟩
   rw [jv,show decide (lo=some n)=false from decide_eq_false h1]
   refine bI ?_
   refine⟨_,rfl,_,rfl,iE,_,rfl,?_⟩
   rw [jv]
   refine cM (fun hd=>?_) (fun hd=>?_)
   ·have h2:hi=some n:=of_decide_eq_true hd
    refine⟨_,rfl,_,rfl,_,_,rfl,rfl,ln2,fun l hl=>?_⟩
    exact q _ _ (by simp only [iL,if_neg h1,if_pos h2];exact⟨l,rfl,ae⟩) (ah.new hl)
   ·have h2:¬ hi=some n:=fun z=>hd (decide_eq_true z)
    refine⟨_,rfl,_,rfl,ln2,fun l hl=>?_⟩
    exact q _ _ (by simp only [iL,if_neg h1,if_neg h2];exact⟨l,rfl,ae⟩) (ah.new hl)
theorem vw {f:Addr} {fd:FuncData} (F:bZ K "part_of" "part_of" gH f fd) (Z:Bl mg) (O_part_below:Own P w K mg base "part_below" 1 ["stretch", "number"] (iN K fL)) (O_part_from:Own P w K mg base "part_from" 1 ["stretch", "number"] (iN K gS)) (O_part_at:Own P w K mg base "part_at" 2 ["stretch", "number"] (iN K jQ)) (O_part_beside:Own P w K mg base "part_beside" 1 ["stretch", "number"] (iN K iL)):bG P w K mg base bT 3 f fd ["stretch", "word", "number", "side"] (pE K):=by
 refine F.ok (k:=2) vp (fun vs H Q E h=>?_) (fun cdv A outer s H vs Q E hr h=>?_)
 ·obtain⟨p,w,n,side,lo,hi,rfl,_⟩:=h
  rfl
 ·obtain⟨p,w,n,side,lo,hi,rfl,hp,q⟩:=h
  refine⟨_,(ai (bu (aH cg (pv 1) bH (aQ _))
   (ar (aF (fG (kN (pv 3)) (aB O_part_below (hr.mono (by decide)) rfl (aa (pv 0) (aa (pv 2) af))) (aB O_part_from (hr.mono (by decide)) rfl (aa (pv 0) (aa (pv 2) af))))))
   aM)
   (ar (aF (fG (kN (pv 3)) (aB O_part_at (hr.mono (by decide)) rfl (aa (pv 0) (aa (pv 2) af))) (aB O_part_beside (hr.mono (by decide)) rfl (aa (pv 0) (aa (pv 2) af))))))),?_⟩
  refine⟨_,rfl,rfl,_,rfl,?_⟩
  by_cases hw:w = "less"
  ·subst hw
   rw [wc]
   refine bJ ⟨_,rfl,_,rfl,?_⟩
   cases side with
   | true=>exact bJ ⟨_,rfl,_,rfl,p,n,lo,hi,rfl,hp,fun v H1 r s1=>q v H1 (by simp only [di,j5,if_true];exact r) s1⟩
   | false=>exact bI ⟨_,rfl,_,rfl,p,n,lo,hi,rfl,hp,fun v H1 r s1=>q v H1 (by simp only [di,j5,if_true,Bool.false_eq_true,if_false];exact r) s1⟩
  ·have e:decide (V.str w=V.str "less")=false:=decide_eq_false fun z=>hw (V.str.inj z)
   rw [e]
   refine bI ⟨_,rfl,_,rfl,?_⟩
   cases side with
   | true=>exact bJ ⟨_,rfl,_,rfl,p,n,lo,hi,rfl,hp,fun v H1 r s1=>q v H1 (by simp only [di,rM,if_neg hw,if_true];exact r) s1⟩
   | false=>exact bI ⟨_,rfl,_,rfl,p,n,lo,hi,rfl,hp,fun v H1 r s1=>q v H1 (by simp only [di,rM,if_neg hw,Bool.false_eq_true,if_false];exact r) s1⟩
theorem tH {f:Addr} {fd:FuncData} (F:bZ K "facts_of" "facts_of" fT f fd) (Z:Bl mg) {aA:Addr} (GA:iM K mg aA)  : bG P w K mg base bT 1 f fd ["stretches"] (jA aA):=by
 refine F.ok (k:=0) tD (fun vs H Q E h=>?_) (fun cdv A outer s H vs Q E hr h=>?_)
 ·obtain⟨d,kvs,ks,T,rfl,_⟩:=h
  rfl
 ·obtain⟨d,kvs,ks,T,rfl,hd,tb,hl,q⟩:=h
  refine⟨_,(ar (aF (bx bC rfl Z.tuple bV (aa (eE ["name"] ["stretches"] [0] rfl (fq (bD (jl rfl) rfl Z.sorted fb (aa (pv 0) af))) rfl (by decide +kernel) (by decide +kernel) (by decide +kernel) ⟨⟨rfl,.inl rfl,rfl⟩,True.intro⟩ (fun _ _ _ _=>(aC (i:=0) (show ((["name"]:List Str)++(["stretches"]:List Str)).Nodup by decide +kernel) rfl (Or.inl rfl) (hf:=Or.inr rfl))) (fun _ _ _ _=>(oY (aH (Be (aA:=aA) hr.units GA) (mn (dh hr) (pv 1) (pv 0) (fun _ _=>rfl)) (gu (v:=.ref aA) rfl GA.qd rfl) (aQ _)))) (fun _ _ _ _=>(aU (aa (pv 0) (aa (mn (dh hr) (pv 1) (pv 0) (fun _ _=>rfl)) af))))) af)))),?_⟩
  refine⟨_,rfl,d,kvs,ks,rfl,hd,tb.keys,hl,fun l ss hp hs hn=>?_⟩
  have srt:jn ss:=⟨lG hs,hp.nodup_iff.mpr tb.nd⟩
  have hl1:(upd H l (.lst (ss.map V.str))) l=some (.lst (ss.map V.str)):=ae
  have s1:ah H (upd H l (.lst (ss.map V.str))):=ah.new hn
  have hssl:ss.length < 64:=by rw [hp.length_eq];exact hl
  generalize (upd H l (.lst (ss.map V.str)))=H1 at hl1 s1
  refine⟨l,rfl,⟨_,aI.of hl1⟩,fun acc na=>?_⟩
  refine mi (K:=K) (a:=l) (xs:=ss.map V.str) (fun i ys τ H'=>∃ c:Option V,τ = [c,some (.ref d)]/\aZ H' ys (((ss.take i).filter fun x=>!decide (T x=cy)).map (dF T))/\H' acc=some (.lst ys)/\ah H1 H') ?_ ?_ ?_ ?_
  ·exact⟨none,rfl,.nil,ae,ah.new na⟩
  ·rintro i ys τ H2 hi ⟨c,rfl,r,ha,s2⟩
   refine⟨aI.of (s2 _ _ hl1),ha,?_⟩
   have h1:=r.len
   rw [List.length_map] at h1
   have h2:=List.length_filter_le (fun x=>!decide (T x=cy)) (ss.take i)
   have h3:=List.length_take_le i ss
   have h4:(ss.take i).length<=ss.length:=by rw [List.length_take];omega
   exact bh (by omega)
  ·rintro i x ys τ H2 hi ⟨c,rfl,r,ha,s2⟩
   obtain⟨y,hy,rfl⟩:∃ y,ss[i]? = some y/\x=V.str y:=by
    rw [List.getElem?_map] at hi
    cases e:ss[i]? with
    | none=>rw [e] at hi;cases hi
    | some k=>rw [e] at hi;exact⟨k,rfl,(Option.some.inj hi).symm⟩
   have hym:y ∈ ks:=hp.mem_iff.mp (List.mem_of_getElem? hy)
   have tk:ss.take (i+1)=ss.take i ++ [y]:=by rw [List.take_add_one,hy];rfl
   obtain⟨v,ev,sv,_⟩:∃ v,bO kvs (Sum.inr y)=some v/\SV aA H v (T y)/\y ∈ ks:=by
    rcases tb.val y with ⟨_,_,c⟩ | h
    ·exact absurd hym c
    ·exact h
   have sv2:SV aA H2 v (T y):=sv.aJ fun p xs e=>s2 _ _ (s1 _ _ e)
   have hd2:H2 d=some (.dK kvs):=s2 _ _ (s1 _ _ hd)
   have dg:dU H2 d (.str y) (some v):=by
    have:=dU.k (k:=Sum.inr y) hd2
    rw [ev] at this
    exact this
   refine cu ?_
   refine⟨_,rfl,_,rfl,d,v,rfl,dg,T y,sv2,rfl,_,rfl,?_⟩
   by_cases hT:T y=cy
   ·refine bo (by rw [decide_eq_true hT];rfl) ?_
    refine⟨_,rfl,?_,ha,s2⟩
    rw [tk,List.filter_append,List.filter_cons_of_neg (by rw [decide_eq_true hT];decide),List.filter_nil,List.append_nil]
    exact r
   ·refine cf (by rw [decide_eq_false hT];rfl) ?_
    refine⟨_,rfl,_,rfl,_,rfl,d,v,rfl,dg,ln2,fun t nt=>?_⟩
    have s3:=ah.new (o:=.tup [.str y,v]) nt
    have ht:(upd H2 t (.tup [.str y,v])) t=some (.tup [.str y,v]):=ae
    generalize (upd H2 t (.tup [.str y,v]))=H3 at s3 ht
    have sh:SH H3 v (T y):=by
     rcases sv2 with h | ⟨_,h⟩
     ·exact h.aJ fun p xs e=>s3 _ _ e
     ·exact absurd h hT
    have ha3:=s3 _ _ ha
    refine⟨ha3,_,rfl,?_,ae,(s2.trans s3).put na⟩
    rw [tk,List.filter_append,List.filter_cons_of_pos (by rw [decide_eq_false hT];rfl),List.filter_nil,List.map_append]
    refine aZ.app ((r.same s3 (iu T _)).put ha3 (iu T _)) ?_
    refine aV.aJ (H:=H3) (fun p zs e=>by rw [au (bg e ha3 (by intro z;cases z))];exact e) (.tup ht (.cons (.str y) (.cons sh.rd .nil))) ?_
    have:=iu T [y]
    simpa [bR] using this
  ·rintro ys τ H2 ⟨c,rfl,r,ha,s2⟩
   rw [List.length_map,List.take_length] at r
   refine⟨acc,ys,rfl,.inl ⟨aI.of ha,fun t nt=>?_⟩⟩
   refine q _ _ ⟨t,ys,_,rfl,ae,srt.filter _,fun x=>?_,r.same (ah.new nt) (iu T _)⟩ ((s1.trans s2).trans (ah.new nt))
   rw [List.mem_filter]
   constructor
   ·rintro⟨_,h⟩ e
    rw [decide_eq_true e] at h
    cases h
   ·intro h
    refine⟨?_,by rw [decide_eq_false h];rfl⟩
    rcases tb.val x with ⟨_,a,_⟩ | ⟨_,_,_,a⟩
    ·exact absurd a h
    ·exact hp.mem_iff.mpr a
theorem yG {f:Addr} {fd:FuncData} (F:bZ K "known" "known" i5 f fd) (Z:Bl mg) {aA:Addr} (GA:iM K mg aA)  : bG P w K mg base bT 1 f fd ["facts", "name"] (pC aA):=by
 refine F.ok (k:=0) yE (fun vs H Q E h=>?_) (fun cdv A outer s H vs Q E hr h=>?_)
 ·obtain⟨fv,x,T,rfl,_⟩:=h
  rfl
 ·obtain⟨fv,x,T,rfl,hf,q⟩:=h
  refine⟨_,(ar (aF (fK (dh hr) (bx (gU rfl) rfl Z.dict o4 (aa (pv 0) af)) (pv 1) (gu (v:=.ref aA) rfl GA.qd rfl) ⟨rfl,rfl,rfl,rfl⟩))),?_⟩
  obtain⟨fp,xs,ss,rfl,hfp,srt,hmem,rf⟩:=hf
  obtain⟨kvs,l1,l2,l3,tb⟩:=FV.tb aA srt hmem rf
  refine⟨_,rfl,fp,xs,kvs,rfl,hfp,l1,l2,l3,fun d nd=>?_⟩
  obtain⟨v,ev,sv⟩:=tb.getD x
  exact⟨d,rfl,.inl ⟨kvs,.inl ae⟩,_,rfl,_,v,dU.k (k:=Sum.inr x) ae,ev,q v _ (sv.aJ fun p zs e=>ah.new nd _ _ e) (ah.new nd)⟩
theorem qG {f:Addr} {fd:FuncData} (F:bZ K "with_known" "with_known" eW f fd) (Z:Bl mg) {aA:Addr} (GA:iM K mg aA) (O_facts_of:Own P w K mg base "facts_of" 1 ["stretches"] (jA aA)):bG P w K mg base bT 2 f fd ["facts", "name", "stretch"] (jF aA):=by
 refine F.ok (k:=1) kH (fun vs H Q E h=>?_) (fun cdv A outer s H vs Q E hr h=>?_)
 ·obtain⟨fv,sv,x,T,s,rfl,_⟩:=h
  rfl
 ·obtain⟨fv,sv,x,T,s,rfl,hf,hs,cD,q⟩:=h
  refine⟨_,(ai (aG (i:=3) kH.nd rfl (Or.inl rfl) (bx (gU rfl) rfl Z.dict o4 (aa (pv 0) af)))
   (ai (fw (dh hr) (pv 3) (pv 1) (pv 2) rfl)
   (ar (aF (aB O_facts_of (hr.mono (by decide)) rfl (aa (pv 3) af)))))),?_⟩
  obtain⟨fp,xs,ss,rfl,hfp,srt,hmem,rf⟩:=hf
  obtain⟨kvs,l1,l2,l3,tb⟩:=FV.tb aA srt hmem rf
  have hssl:ss.length<=62:=cD ss (fun x hx=>(hmem x).mp hx) srt.nd
  have kl:kvs.length=ss.length:=by have:=congrArg List.length tb.keys;simpa using this
  refine⟨_,rfl,fp,xs,kvs,rfl,hfp,l1,l2,l3,fun d nd=>?_⟩
  have k1:∀ p zs,H p=some (.tup zs)->(upd H d (.dK kvs)) p=some (.tup zs):=fun p zs e=>ah.new nd _ _ e
  refine⟨_,rfl,_,rfl,_,rfl,d,_,rfl,gR.k (k:=Sum.inr x) ae (bh (by omega)),?_⟩
  obtain⟨ks2,t2,k2,m2⟩:=(tb.aJ k1).put x (hs.aJ k1)
  have hd1:(upd H d (.dK kvs)) d=some (.dK kvs):=ae
  refine⟨_,rfl,d,_,ks2,_,rfl,ae,t2.aJ (fun p zs e=>by rw [au (bg e hd1 (by intro z;cases z))];exact e),(by omega),fun v H2 f2 s2=>q v H2 f2 (((ah.new nd).put nd).trans s2)⟩
theorem yH {f:Addr} {fd:FuncData} (F:bZ K "moved" "moved" i6 f fd) (Z:Bl mg)  : bG P w K mg base bT 1 f fd ["stretch", "number"] (pd K):=by
 refine F.ok (k:=0) nK (fun vs H Q E h=>?_) (fun cdv A outer s H vs Q E hr h=>?_)
 ·obtain⟨p,s,n,rfl,_⟩:=h
  rfl
 ·obtain⟨p,s,n,rfl,hp,q⟩:=h
  refine⟨_,(ai (dA (pv 0) (cT rfl (aY (aC (i:=2) nK.nd rfl (Or.inl rfl)) (aY (aC (i:=3) nK.nd rfl (Or.inl rfl)) cE))))
   (ar (aF (aU (aa (fG (dP (gM (pv 2))) cJ (bw cK (pv 2) (pv 1))) (aa (fG (dP (gM (pv 3))) cJ (bw cK (pv 3) (pv 1))) af)))))),?_⟩
  obtain⟨lo,hi⟩:=s
  refine⟨_,rfl,p,_,rfl,hp,rfl,_,_,rfl,_,_,rfl,rfl,?_⟩
  cases lo with
  | none =>
   refine⟨_,rfl,_,rfl,bJ ?_⟩
   cases hi with
   | none=>exact⟨_,rfl,_,rfl,bJ ⟨ln2,fun t nt=>q _ _ ⟨t,rfl,ae⟩ (ah.new nt)⟩⟩
   | some b=>exact⟨_,rfl,_,rfl,bI ⟨_,rfl,_,rfl,_,_,rfl,rfl,ln2,fun t nt=>q _ _ ⟨t,rfl,ae⟩ (ah.new nt)⟩⟩
  | some a =>
   refine⟨_,rfl,_,rfl,bI ⟨_,rfl,_,rfl,_,_,rfl,rfl,?_⟩⟩
   cases hi with
   | none=>exact⟨_,rfl,_,rfl,bJ ⟨ln2,fun t nt=>q _ _ ⟨t,rfl,ae⟩ (ah.new nt)⟩⟩
   | some b=>exact⟨_,rfl,_,rfl,bI ⟨_,rfl,_,rfl,_,_,rfl,rfl,ln2,fun t nt=>q _ _ ⟨t,rfl,ae⟩ (ah.new nt)⟩⟩
theorem mH {f:Addr} {fd:FuncData} (F:bZ K "stretch_behind" "stretch_behind" df f fd) (Z:Bl mg) {aA:Addr} (GA:iM K mg aA) (O_moved:Own P w K mg base "moved" 1 ["stretch", "number"] (pd K)):bG P w K mg base bT 2 f fd ["stretches", "deed"] (j8 aA):=by
  refine F.ok (k:=1) iS (fun vs H Q E h=>?_) (fun cdv A outer s H vs Q E hr h=>?_)
  · obtain⟨d,w,kvs,ks,T,dd,rfl,_⟩:=h
    rfl
  · obtain⟨d,w,kvs,ks,T,dd,rfl,hd,tb,hw,q⟩:=h
    refine⟨_,(ai (eC (Aj (i:=2) (j:=3) rfl iS.nd rfl rfl (by decide) rfl rfl (aa (aK bc (pv 1) ao (fun _ _=>rfl)) (aa (aK bc (pv 1) ao (fun _ _=>rfl)) af)) rfl))
      (ai (bu (aH cg (pv 2) bH (aQ _))
      (ar (aF (aU (aa (aK bc (pv 1) ao (fun _ _=>rfl)) (aa (aK bc (pv 1) ao (fun _ _=>rfl)) af)))))
      aM)
      (ai (bu (aH cg (pv 2) bH (aQ _))
      (ar (aF (fK (dh hr) (pv 0) (aK bc (pv 1) ao (fun _ _=>rfl)) (gu (v:=.ref aA) rfl GA.qd rfl) ⟨rfl,rfl,rfl,rfl⟩)))
      aM)
      (ai (bu (aH cg (pv 2) bH (aQ _))
      (ar (aF (aB O_moved (hr.mono (by decide)) rfl (aa (fK (dh hr) (pv 0) (pv 3) (gu (v:=.ref aA) rfl GA.qd rfl) ⟨rfl,rfl,rfl,rfl⟩) (aa (aK bc (pv 1) ao (fun _ _=>rfl)) af)))))
      aM)
      (ai (bu (aH cg (pv 2) bH (aQ _))
      (ar (aF (gu (v:=.ref aA) rfl GA.qd rfl)))
      aM)
      (ar (aF (fK (dh hr) (pv 0) (pv 3) (gu (v:=.ref aA) rfl GA.qd rfl) ⟨rfl,rfl,rfl,rfl⟩)))))))),?_⟩
    cases dd
    case put x n =>
      refine⟨fun σ' H'=>σ' = [some (.ref d),some (.ref w),some (.str "put"),some (.str x)]/\H=H',⟨_,rfl,w,_,0,_,rfl,rfl,ay.of hw,cm,_,rfl,w,_,1,_,rfl,rfl,ay.of hw,cZ,_,_,rfl,rfl,rfl⟩,?_⟩
      rintro σ' H' ⟨rfl,rfl⟩
      refine⟨_,rfl,rfl,_,rfl,?_⟩
      refine cf (show decide (V.str "put" = V.str "put")=true by decide +kernel) ?_
      exact⟨_,rfl,w,_,2,_,rfl,rfl,ay.of hw,at2,_,rfl,w,_,2,_,rfl,rfl,ay.of hw,at2,ln2,fun t nt=>q _ _ (.inl ⟨t,rfl,ae⟩) (ah.new nt)⟩
    case copy x y =>
      refine⟨fun σ' H'=>σ' = [some (.ref d),some (.ref w),some (.str "copy"),some (.str x)]/\H=H',⟨_,rfl,w,_,0,_,rfl,rfl,ay.of hw,cm,_,rfl,w,_,1,_,rfl,rfl,ay.of hw,cZ,_,_,rfl,rfl,rfl⟩,?_⟩
      rintro σ' H' ⟨rfl,rfl⟩
      refine⟨_,rfl,rfl,_,rfl,?_⟩
      refine bo (show decide (V.str "copy" = V.str "put")=false by decide +kernel) ?_
      refine⟨_,rfl,rfl,_,rfl,?_⟩
      refine cf (show decide (V.str "copy" = V.str "copy")=true by decide +kernel) ?_
      obtain⟨v,ev,sv⟩:=tb.getD y
      exact⟨_,rfl,d,rfl,.inl ⟨kvs,.inl hd⟩,_,rfl,w,_,2,_,rfl,rfl,ay.of hw,at2,_,v,dU.k (k:=Sum.inr y) hd,ev,q _ _ sv (ah.refl H)⟩
    case add x n =>
      refine⟨fun σ' H'=>σ' = [some (.ref d),some (.ref w),some (.str "add"),some (.str x)]/\H=H',⟨_,rfl,w,_,0,_,rfl,rfl,ay.of hw,cm,_,rfl,w,_,1,_,rfl,rfl,ay.of hw,cZ,_,_,rfl,rfl,rfl⟩,?_⟩
      rintro σ' H' ⟨rfl,rfl⟩
      refine⟨_,rfl,rfl,_,rfl,?_⟩
      refine bo (show decide (V.str "add" = V.str "put")=false by decide +kernel) ?_
      refine⟨_,rfl,rfl,_,rfl,?_⟩
      refine bo (show decide (V.str "add" = V.str "copy")=false by decide +kernel) ?_
      refine⟨_,rfl,rfl,_,rfl,?_⟩
      refine cf (show decide (V.str "add" = V.str "add")=true by decide +kernel) ?_
      obtain⟨v,ev,sv⟩:=tb.getD x
      obtain⟨qa,rfl,hqa⟩:=sv.sq GA
      exact⟨_,rfl,d,rfl,.inl ⟨kvs,.inl hd⟩,_,rfl,_,_,dU.k (k:=Sum.inr x) hd,ev,_,rfl,w,_,2,_,rfl,rfl,ay.of hw,at2,qa,T x,n,rfl,hqa,fun v H' sh s1=>q _ _ (.inl sh) s1⟩
    case read x =>
      refine⟨fun σ' H'=>σ' = [some (.ref d),some (.ref w),some (.str "read"),some (.str x)]/\H=H',⟨_,rfl,w,_,0,_,rfl,rfl,ay.of hw,cm,_,rfl,w,_,1,_,rfl,rfl,ay.of hw,cZ,_,_,rfl,rfl,rfl⟩,?_⟩
      rintro σ' H' ⟨rfl,rfl⟩
      refine⟨_,rfl,rfl,_,rfl,?_⟩
      refine bo (show decide (V.str "read" = V.str "put")=false by decide +kernel) ?_
      refine⟨_,rfl,rfl,_,rfl,?_⟩
      refine bo (show decide (V.str "read" = V.str "copy")=false by decide +kernel) ?_
      refine⟨_,rfl,rfl,_,rfl,?_⟩
      refine bo (show decide (V.str "read" = V.str "add")=false by decide +kernel) ?_
      refine⟨_,rfl,rfl,_,rfl,?_⟩
      refine cf (show decide (V.str "read" = V.str "read")=true by decide +kernel) ?_
      exact q _ _ (.inr ⟨rfl,rfl⟩) (ah.refl H)
    case tell x =>
      refine⟨fun σ' H'=>σ' = [some (.ref d),some (.ref w),some (.str "tell"),some (.str x)]/\H=H',⟨_,rfl,w,_,0,_,rfl,rfl,ay.of hw,cm,_,rfl,w,_,1,_,rfl,rfl,ay.of hw,cZ,_,_,rfl,rfl,rfl⟩,?_⟩
      rintro σ' H' ⟨rfl,rfl⟩
      refine⟨_,rfl,rfl,_,rfl,?_⟩
      refine bo (show decide (V.str "tell" = V.str "put")=false by decide +kernel) ?_
      refine⟨_,rfl,rfl,_,rfl,?_⟩
      refine bo (show decide (V.str "tell" = V.str "copy")=false by decide +kernel) ?_
      refine⟨_,rfl,rfl,_,rfl,?_⟩
      refine bo (show decide (V.str "tell" = V.str "add")=false by decide +kernel) ?_
      refine⟨_,rfl,rfl,_,rfl,?_⟩
      refine bo (show decide (V.str "tell" = V.str "read")=false by decide +kernel) ?_
      obtain⟨v,ev,sv⟩:=tb.getD x
      exact⟨_,rfl,d,rfl,.inl ⟨kvs,.inl hd⟩,_,rfl,_,v,dU.k (k:=Sum.inr x) hd,ev,q _ _ sv (ah.refl H)⟩
theorem xg {f:Addr} {fd:FuncData} (F:bZ K "behind" "behind" il f fd) (Z:Bl mg) {aA:Addr} (GA:iM K mg aA) (O_stretch_behind:Own P w K mg base "stretch_behind" 2 ["stretches", "deed"] (j8 aA)) (O_facts_of:Own P w K mg base "facts_of" 1 ["stretches"] (jA aA)):bG P w K mg base bT 3 f fd ["facts", "deeds"] nv:=by
 refine F.ok (k:=2) ma (fun vs H Q E h=>?_) (fun cdv A outer s H vs Q E hr h=>?_)
 ·obtain⟨fv,p,ws,ds,T,m,rfl,_⟩:=h
  rfl
 ·obtain⟨fv,p,ws,ds,T,m,rfl,hf,hp,r,cD,hm,q⟩:=h
  refine⟨_,(ai (aG (i:=2) ma.nd rfl (Or.inl rfl) (bx (gU rfl) rfl Z.dict o4 (aa (pv 0) af)))
   (ai (cO PassesOwn.never rfl (eu (pv 1)) (aC (i:=3) ma.nd rfl (Or.inl rfl))
   (ar (fw (dh hr) (pv 2) (aK bc (pv 3) ao (fun _ _=>rfl)) (aB O_stretch_behind (hr.mono (by decide)) rfl (aa (pv 2) (aa (pv 3) af))) rfl)))
   (ar (aF (aB O_facts_of (hr.mono (by decide)) rfl (aa (pv 2) af)))))),?_⟩
  obtain⟨fp,xs,ss,rfl,hfp,srt,hmem,rf⟩:=hf
  obtain⟨kvs,l1,l2,l3,tb⟩:=FV.tb aA srt hmem rf
  have hssl:ss.length<=m:=cD ss (fun x hx=>(hmem x).mp hx) srt.nd
  refine⟨_,rfl,fp,xs,kvs,rfl,hfp,l1,l2,l3,fun d nd=>?_⟩
  have tb1:Tb aA (upd H d (.dK kvs)) kvs ss T:=tb.aJ fun p xs e=>ah.new nd _ _ e
  refine⟨_,rfl,p,rfl,⟨_,ay.of (ah.new nd _ _ hp)⟩,ft (K:=K) (a:=p) (xs:=ws) (fun i σ H'=>∃ (c:Option V) (kvs':List (Key × V)) (ks':List Str),σ = [some (.ref fp),some (.ref p),some (.ref d),c]/\H' d=some (.dK kvs')/\Tb aA H' kvs' ks' (bB T (ds.take i))/\ks'.length<=m+i/\ah H H') ?_ ?_ ?_ ?_⟩
  ·exact⟨none,kvs,ss,rfl,ae,tb1,hssl,ah.new nd⟩
  ·rintro i σ H1 hi ⟨c,kvs1,ks1,rfl,h1,t1,k1,s1⟩
   exact ay.of (s1 _ _ hp)
  ·rintro i x σ H1 hi ⟨c,kvs1,ks1,rfl,h1,t1,k1,s1⟩
   have hil:i < ds.length:=by
    have:=(List.getElem?_eq_some_iff.mp hi).1
    rw [r.len,List.length_map] at this
    exact this
   have hdi:ds[i]? = some ds[i]:=by simp [hil]
   generalize ds[i] = dd at hdi
   obtain⟨v,hv,rd⟩:=r.get (i:=i) (d:=cQ dd) (by rw [List.getElem?_map,hdi];rfl)
   rw [hi] at hv
   cases hv
   obtain⟨dp,rfl,hdp⟩:=gy rd
   have tk:bB T (ds.take (i+1))=vf (bB T (ds.take i)) dd:=by
    unfold bB
    rw [List.take_add_one,hdi,Option.toList_some,List.foldl_append]
    rfl
   refine cu ?_
   refine⟨_,rfl,_,rfl,d,dp,kvs1,ks1,_,dd,rfl,h1,t1,s1 _ _ hdp,fun v H2 sv s2=>?_⟩
   have h2:=s2 _ _ h1
   have kl:kvs1.length=ks1.length:=by have:=congrArg List.length t1.keys;simpa using this
   refine⟨_,rfl,_,rfl,dp,_,1,_,rfl,rfl,ay.of (s2 _ _ (s1 _ _ hdp)),rO dd,d,_,rfl,gR.k (k:=Sum.inr (fg dd)) h2 (bh (by omega)),?_⟩
   obtain⟨ks2,t2,k2,_⟩:=(t1.aJ fun p xs e=>s2 _ _ e).put (fg dd) sv
   refine⟨_,_,ks2,rfl,ae,?_,by omega,(s1.trans s2).put nd⟩
   rw [tk]
   exact t2.aJ fun p xs e=>by rw [au (bg e h2 (by intro z;cases z))];exact e
  ·rintro σ H1 ⟨c,kvs1,ks1,rfl,h1,t1,k1,s1⟩
   have hwl:ws.length=ds.length:=by rw [r.len,List.length_map]
   rw [hwl,List.take_length] at t1
   refine⟨_,rfl,d,kvs1,ks1,_,rfl,h1,t1,(by omega),fun v H2 f2 s2=>q v H2 f2 (s1.trans s2)⟩
theorem oN {f:Addr} {fd:FuncData} (F:bZ K "known_beyond" "known_beyond" dI f fd) (Z:Bl mg) {aA:Addr} (GA:iM K mg aA) (O_ways_on:Own P w K mg base "ways_on" 3 ["end"] jm) (O_known:Own P w K mg base "known" 1 ["facts", "name"] (pC aA)) (O_part_of:Own P w K mg base "part_of" 3 ["stretch", "word", "number", "side"] (pE K)) (O_with_known:Own P w K mg base "with_known" 2 ["facts", "name", "stretch"] (jF aA)):bG P w K mg base bT 4 f fd ["facts", "end"] (nz aA):=by
  refine F.ok (k:=3) cW (fun vs H Q E h=>?_) (fun cdv A outer s H vs Q E hr h=>?_)
  · obtain⟨fv,ea,T,e,rfl,_⟩:=h
    rfl
  · obtain⟨fv,ea,T,e,rfl,hf,he,cD,q⟩:=h
    refine⟨_,(ai (aG (i:=2) cW.nd rfl (Or.inl rfl) (aB O_ways_on (hr.mono (by decide)) rfl (aa (pv 1) af)))
      (ai (bu (aH gN (bD bE rfl Z.len cG (aa (pv 2) af)) ao (aQ _))
      (ar (aF (bx bC rfl Z.tuple bV (aa (eE ["way"] ["facts"] [0] rfl (eu (pv 2)) rfl (by decide +kernel) (by decide +kernel) (by decide +kernel) ⟨⟨rfl,.inl rfl,rfl⟩,True.intro⟩ (fun _ _ _ _=>(aC (i:=0) (show ((["way"]:List Str)++(["facts"]:List Str)).Nodup by decide +kernel) rfl (Or.inl rfl) (hf:=Or.inr rfl))) (fun _ _ _ _=>eR) (fun _ _ _ _=>(pv 1))) af))))
      aM)
      (ai (eC (dA (aU (aa (aK bc (pv 1) ao (fun _ _=>rfl)) (aa (aK bc (pv 1) ao (fun _ _=>rfl)) (aa (aK bc (pv 1) ao (fun _ _=>rfl)) af)))) (cT rfl (aY (aC (i:=3) cW.nd rfl (Or.inr rfl)) (aY (aC (i:=4) cW.nd rfl (Or.inr rfl)) (aY (aC (i:=5) cW.nd rfl (Or.inr rfl)) cE))))))
      (ai (aG (i:=6) cW.nd rfl (Or.inr rfl) (aB O_known (hr.mono (by decide)) rfl (aa (pv 0) (aa (pv 4) af))))
      (ai (j0 (i:=7) ["side"] ["stretch", "word", "number"] [6,3,5] rfl cW.nd rfl rfl rfl (eu (aU (aa iT (aa iT af)))) rfl (by decide +kernel) (by decide +kernel) (by decide +kernel) ⟨⟨rfl,.inl rfl,rfl⟩,⟨⟨rfl,.inl rfl,rfl⟩,⟨⟨rfl,.inl rfl,rfl⟩,True.intro⟩⟩⟩ (fun _ _ _ _=>(aC (i:=0) (show ((["side"]:List Str)++(["stretch", "word", "number"]:List Str)).Nodup by decide +kernel) rfl (Or.inl rfl) (hf:=Or.inr rfl))) (fun _ _ _ _=>eR) (fun _ _ _ _=>(aB O_part_of (hr.mono (by decide)) rfl (aa (pv 1) (aa (pv 2) (aa (pv 3) (aa (pv 0) af)))))))
      (ar (aF (bx bC rfl Z.tuple bV (aa (eE ["part"] ["facts", "name"] [0,4] rfl (fq (pv 7)) rfl (by decide +kernel) (by decide +kernel) (by decide +kernel) ⟨⟨rfl,.inl rfl,rfl⟩,⟨⟨rfl,.inl rfl,rfl⟩,True.intro⟩⟩ (fun _ _ _ _=>(aC (i:=0) (show ((["part"]:List Str)++(["facts", "name"]:List Str)).Nodup by decide +kernel) rfl (Or.inl rfl) (hf:=Or.inr rfl))) (fun _ _ _ _=>eR) (fun _ _ _ _=>(fG (dP (gM (pv 0))) cJ (aB O_with_known (hr.mono (by decide)) rfl (aa (pv 1) (aa (pv 2) (aa (pv 0) af))))))) af))))))))),?_⟩
    refine⟨_,rfl,ea,e,rfl,he,fun wt H1 hw s1=>?_⟩
    have he1:=s1 _ _ he
    have hf1:=hf.same s1
    refine⟨_,rfl,wt,_,rfl,.inr (ay.of hw),_,_,rfl,rfl,_,rfl,?_⟩
    by_cases hl:(aP e).length < 2
    · refine cf (decide_eq_true (by rw [List.length_map];omega)) ?_
      refine⟨_,rfl,wt,rfl,⟨_,ay.of hw⟩,fun acc na=>?_⟩
      refine nX (K:=K) (a:=wt) (xs:=(aP e).map fun k=>V.int (k:Nat)) (fun i zs τ H'=>∃ c:Option V,τ = [c,some fv]/\zs=List.replicate i fv/\H' acc=some (.lst zs)/\ah H1 H') ?_ ?_ ?_ ?_
      · exact⟨none,rfl,rfl,ae,ah.new na⟩
      · rintro i zs τ H2 hi ⟨c,rfl,rfl,ha,s2⟩
        refine⟨ay.of (s2 _ _ hw),ha,?_⟩
        rw [List.length_replicate]
        rw [List.length_map] at hi
        exact bh (by omega)
      · rintro i x zs τ H2 hi ⟨c,rfl,rfl,ha,s2⟩
        refine cu ?_
        refine jj ?_
        refine bJ ?_
        refine⟨_,rfl,ha,_,rfl,?_,ae,s2.put na⟩
        rw [<-List.replicate_succ']
      · rintro zs τ H2 ⟨c,rfl,rfl,ha,s2⟩
        rw [List.length_map] at ha
        refine⟨acc,_,rfl,.inl ⟨aI.of ha,fun t nt=>?_⟩⟩
        refine q t _ _ ae ?_ ((s1.trans s2).trans (ah.new nt))
        rw [zQ hl]
        exact uv (hf1.same (s2.trans (ah.new nt))) _
    · refine bo (decide_eq_false (by rw [List.length_map];omega)) ?_
      cases e with
      | stop=>exact absurd (by show 0 < 2;omega) hl
      | go p=>exact absurd (by show 1 < 2;omega) hl
      | cC b x n p r =>
        refine⟨fun σ' H'=>σ' = [some fv,some (.ref ea),some (.ref wt),some (.str (wT b)),some (.str x),some (.int n),none,none]/\ah H1 H',?_,?_⟩
        · refine⟨_,rfl,ea,_,0,_,rfl,rfl,ay.of he1,cm,_,rfl,ea,_,1,_,rfl,rfl,ay.of he1,cZ,_,rfl,ea,_,2,_,rfl,rfl,ay.of he1,at2,rC,fun tt htt=>?_⟩
          exact⟨tt,_,rfl,ay.of ae,rfl,_,_,rfl,_,_,rfl,_,_,rfl,rfl,rfl,ah.new htt⟩
        rintro σ' H2 ⟨rfl,s2⟩
        refine⟨_,rfl,_,rfl,fv,x,T,rfl,hf1.same s2,fun sv H3 hsv s3=>?_⟩
        obtain⟨sp,rfl,hsp⟩:=hsv.sq GA
        have s13:=s2.trans s3
        refine⟨ln2,fun st hst=>⟨st,rfl,⟨_,ay.of ae⟩,fun acc na=>?_⟩⟩
        have s4:=ah.new (o:=.tup [.bl true,.bl false]) hst
        have hst4:(upd H3 st (.tup [.bl true,.bl false])) st=some (.tup [.bl true,.bl false]):=ae
        generalize (upd H3 st (.tup [.bl true,.bl false]))=H4 at s4 hst4 na
        refine nX (K:=K) (a:=st) (xs:=[.bl true,.bl false]) (fun i zs τ H'=>∃ c:Option V,τ = [c,some (.ref sp),some (.str (wT b)),some (.int n)]/\mU H' zs ([fm T b x n true,fm T b x n false].take i)/\H' acc=some (.lst zs)/\ah H4 H') ?_ ?_ ?_ ?_
        · exact⟨none,rfl,.nil,ae,ah.new na⟩
        · rintro i zs τ H5 hi ⟨c,rfl,rv,ha,s5⟩
          refine⟨ay.of (s5 _ _ hst4),ha,?_⟩
          have h1:=Paired.length rv
          rw [List.length_take] at h1
          exact bh (by rw [h1];exact Nat.le_trans (Nat.min_le_right _ _) (by show 2<=1000;decide))
        · rintro i y zs τ H5 hi ⟨c,rfl,rv,ha,s5⟩
          obtain⟨side,rfl,hsd⟩:∃ side:Bool,y=.bl side/\[fm T b x n true,fm T b x n false][i]? = some (fm T b x n side):=by
            match i,hi with
            | 0,hi=>cases hi;exact⟨true,rfl,rfl⟩
            | 1,hi=>cases hi;exact⟨false,rfl,rfl⟩
            | i+2,hi=>simp at hi
          refine cu ?_
          refine jj ?_
          refine bJ ?_
          refine⟨_,rfl,_,rfl,_,rfl,_,rfl,sp,wT b,n,side,_,_,rfl,hsp.same (s4.trans s5),fun v H6 r6 s6=>?_⟩
          have ha6:=s6 _ _ ha
          refine⟨ha6,_,rfl,?_,ae,(s5.trans s6).put na⟩
          rw [List.take_add_one,hsd]
          exact dE ((rv.same s6).put ha6) (.cons (RV.put r6 ha6) .nil)
        · rintro zs τ H5 ⟨c,rfl,rv,ha,s5⟩
          have s15:=s13.trans (s4.trans s5)
          have rv:mU H5 zs [fm T b x n true,fm T b x n false]:=rv
          have rvl:zs.length=2:=Paired.length rv
          refine⟨_,rfl,acc,rfl,⟨_,aI.of ha⟩,fun ac2 na2=>?_⟩
          refine mi (K:=K) (a:=acc) (xs:=zs) (fun i us τ H'=>∃ c:Option V,τ = [c,some fv,some (.str x)]/\kG H' us ((gY T (.cC b x n p r)).take i)/\H' ac2=some (.lst us)/\ah H5 H') ?_ ?_ ?_ ?_
          · exact⟨none,rfl,.nil,ae,ah.new na2⟩
          · rintro i us τ H6 hi ⟨c,rfl,bv,ha2,s6⟩
            refine⟨aI.of (s6 _ _ ha),ha2,?_⟩
            have h1:=Paired.length bv
            rw [List.length_take] at h1
            exact bh (by rw [h1];exact Nat.le_trans (Nat.min_le_right _ _) (by show 2<=1000;decide))
          · rintro i y us τ H6 hi ⟨c,rfl,bv,ha2,s6⟩
            obtain⟨rs,hrs,hry⟩:=fO rv hi
            have hb:(gY T (.cC b x n p r))[i]? = some (rs.map (cA T x)):=by
              show ([fm T b x n true,fm T b x n false].map fun z:Rs=>Option.map (cA T x) z)[i]? = _
              rw [List.getElem?_map,hrs];rfl
            refine cu ?_
            refine jj ?_
            refine bJ ?_
            cases rs with
            | none =>
              cases (show y=V.bf from hry)
              refine⟨_,rfl,_,rfl,bJ ?_⟩
              refine⟨ha2,_,rfl,?_,ae,s6.put na2⟩
              rw [List.take_add_one,hb]
              refine dE (bv.aJ fun p zs e=>?_) (.cons rfl .nil)
              rw [au (bg e ha2 (by intro z;cases z))];exact e
            | some s =>
              have hsv6:SV aA H6 y s:=RV.sv (hry.same s6)
              obtain⟨yp,rfl,hyp⟩:∃ yp,y=.ref yp/\True:=by
                obtain⟨a1,b1⟩:=s
                obtain⟨yp,e,_⟩:=hry
                exact⟨yp,e,trivial⟩
              refine⟨_,rfl,_,rfl,bI ?_⟩
              refine⟨_,rfl,_,rfl,_,rfl,fv,.ref yp,x,T,s,rfl,hf1.same (s13.trans (s4.trans (s5.trans s6))),hsv6,cD,fun v H7 f7 s7=>?_⟩
              have ha7:=s7 _ _ ha2
              refine⟨ha7,_,rfl,?_,ae,(s6.trans s7).put na2⟩
              rw [List.take_add_one,hb]
              have kt:∀ p zs,H7 p=some (.tup zs)->(upd H7 ac2 (.lst (us ++ [v]))) p=some (.tup zs):=fun p zs e=>by rw [au (bg e ha7 (by intro z;cases z))];exact e
              exact dE ((bv.same s7).aJ kt) (.cons (FV.aJ f7 kt) .nil)
          · rintro us τ H6 ⟨c,rfl,bv,ha2,s6⟩
            rw [rvl] at bv
            refine⟨ac2,_,rfl,.inl ⟨aI.of ha2,fun t nt=>?_⟩⟩
            exact q t _ _ ae (kG.same (show kG H6 us (gY T (.cC b x n p r)) from bv) (ah.new nt)) ((s1.trans (s15.trans s6)).trans (ah.new nt))
theorem yI {f:Addr} {fd:FuncData} (F:bZ K "leads" "leads" i7 f fd) (Z:Bl mg) (O_known_beyond:Own P w K mg base "known_beyond" 4 ["facts", "end"] (nz aA)) (O_ways_on:Own P w K mg base "ways_on" 3 ["end"] jm):bG P w K mg base bT 5 f fd ["facts", "end"] (pF aA):=by
  refine F.ok (k:=4) sR (fun vs H Q E h=>?_) (fun cdv A outer s H vs Q E hr h=>?_)
  · obtain⟨fv,ea,T,e,rfl,_⟩:=h
    rfl
  · obtain⟨fv,ea,T,e,rfl,hf,he,cD,q⟩:=h
    refine⟨_,(ai (aG (i:=2) sR.nd rfl (Or.inl rfl) (aB O_known_beyond (hr.mono (by decide)) rfl (aa (pv 0) (aa (pv 1) af))))
      (ar (aF (bx bC rfl Z.tuple bV (aa (eE ["way", "there"] [] [] rfl (wg rfl Z.zip (aa (aB O_ways_on (hr.mono (by decide)) rfl (aa (pv 1) af)) (aa (pv 2) af))) rfl (by decide +kernel) (by decide +kernel) (by decide +kernel) True.intro (fun _ _ _ _=>(oZ (K:=K) (n:=2) rfl (cT (n:=2) rfl (aY (aC (i:=0) (show ((["way", "there"]:List Str)++([]:List Str)).Nodup by decide +kernel) rfl (Or.inl rfl) (hf:=Or.inr rfl)) (aY (aC (i:=1) (show ((["way", "there"]:List Str)++([]:List Str)).Nodup by decide +kernel) rfl (Or.inl rfl) (hf:=Or.inr rfl)) cE))))) (fun _ _ _ _=>(oY (dP (fo (pv 1))))) (fun _ _ _ _=>(aU (aa (pv 0) (aa (pv 1) af))))) af))))),?_⟩
    refine⟨_,rfl,_,rfl,fv,ea,T,e,rfl,hf,he,cD,fun bt us H1 hb bv s1=>?_⟩
    refine⟨_,rfl,ea,e,rfl,s1 _ _ he,fun wt H2 hw s2=>?_⟩
    have hb2:=s2 _ _ hb
    have bv2:=bv.same s2
    refine⟨_,rfl,wt,bt,rfl,⟨_,ay.of hw⟩,⟨_,ay.of hb2⟩,fun acc na=>?_⟩
    refine wj (K:=K) (a:=wt) (b:=bt) (xs:=(aP e).map fun k=>V.int (k:Nat)) (ys:=us) (fun i zs τ H'=>∃ (c1 c2:Option V),τ = [c1,c2]/\lN H' zs ((((aP e).zip (gY T e)).take i).filterMap fun p=>p.2.map fun U=>(p.1,U))/\zs.length<=i/\H' acc=some (.lst zs)/\ah H2 H') ?_ ?_ ?_ ?_
    · exact⟨none,none,rfl,.nil,Nat.le_refl _,ae,ah.new na⟩
    · rintro i zs τ H3 hi ⟨c1,c2,rfl,pv,hz,ha,s3⟩
      refine⟨ay.of (s3 _ _ hw),ay.of (s3 _ _ hb2),ha,?_⟩
      have h1:i<=(aP e).length:=by rw [List.length_map] at hi;omega
      have h2:(aP e).length<=2:=by cases e <;> (show _<=2) <;> simp [aP]
      exact bh (by omega)
    · rintro i x y zs τ H3 u hx hy hu ⟨c1,c2,rfl,pv,hz,ha,s3⟩
      obtain⟨k,hk,rfl⟩:∃ k,(aP e)[i]? = some k/\x=V.int (k:Nat):=by
        rw [List.getElem?_map] at hx
        cases z:(aP e)[i]? with
        | none=>rw [z] at hx;cases hx
        | some k=>rw [z] at hx;exact⟨k,rfl,(Option.some.inj hx).symm⟩
      obtain⟨o,ho,hyo⟩:=fO bv2 hy
      have hnext:=qo (T:=T) hk ho
      have su:=ah.new (o:=.tup [.int (k:Nat),y]) hu
      have hu4:(upd H3 u (.tup [.int (k:Nat),y])) u=some (.tup [.int (k:Nat),y]):=ae
      generalize (upd H3 u (.tup [.int (k:Nat),y]))=H4 at su hu4
      refine⟨u,_,rfl,ay.of hu4,rfl,_,_,rfl,_,_,rfl,rfl,?_⟩
      refine⟨_,rfl,_,rfl,?_⟩
      cases o with
      | none =>
        cases (show y=V.bf from hyo)
        refine bI ?_
        refine⟨_,_,rfl,?_,Nat.le_succ_of_le hz,su _ _ ha,s3.trans su⟩
        rw [hnext]
        simpa using pv.same su
      | some U =>
        obtain⟨yp,zsy,ssy,rfl,_⟩:=id hyo
        refine bJ ?_
        refine⟨_,rfl,_,rfl,ln2,fun t nt=>?_⟩
        have s5:=ah.new (o:=.tup [.int (k:Nat),.ref yp]) nt
        have ht:(upd H4 t (.tup [.int (k:Nat),.ref yp])) t=some (.tup [.int (k:Nat),.ref yp]):=ae
        generalize (upd H4 t (.tup [.int (k:Nat),.ref yp]))=H5 at s5 ht
        have ha5:=s5 _ _ (su _ _ ha)
        have kt:∀ p ws,H5 p=some (.tup ws)->(upd H5 acc (.lst (zs ++ [V.ref t]))) p=some (.tup ws):=fun p ws e=>by rw [au (bg e ha5 (by intro z;cases z))];exact e
        refine⟨ha5,_,_,rfl,?_,(by rw [List.length_append];show _+1<=_;omega),ae,(s3.trans (su.trans s5)).put na⟩
        rw [hnext]
        exact dE ((pv.same (su.trans s5)).aJ kt) (.cons ⟨t,.ref yp,rfl,kt _ _ ht,FV.aJ (FV.same hyo (s3.trans (su.trans s5))) kt⟩ .nil)
    · rintro zs τ H3 ⟨c1,c2,rfl,pv,hz,ha,s3⟩
      have hm:min ((aP e).map fun k=>V.int (k:Nat)).length us.length=((aP e).zip (gY T e)).length:=by
        rw [List.length_zip,List.length_map,Paired.length bv2]
      rw [hm,List.take_length] at pv
      refine⟨acc,_,rfl,.inl ⟨aI.of ha,fun t nt=>?_⟩⟩
      exact q t zs _ ae (lN.same (show lN H3 zs (cH T e) from pv) (ah.new nt)) (((s1.trans s2).trans s3).trans (ah.new nt))
theorem yJ {f:Addr} {fd:FuncData} (F:bZ K "start" "start" i8 f fd) (Z:Bl mg) (O_names_of:Own P w K mg base "names_of" 3 ["plan"] lF):bG P w K mg base bT 4 f fd ["plan"] pG:=by
 refine F.ok (k:=3) yF (fun vs H Q E h=>?_) (fun cdv A outer s H vs Q E hr h=>?_)
 ·obtain⟨plv,ps,xs,m,rfl,_⟩:=h
  rfl
 ·obtain⟨plv,ps,xs,m,rfl,hp,pok,hx,hal,q⟩:=h
  refine⟨_,(ar (aF (bx bC rfl Z.tuple bV (aa (eE ["name"] [] [] rfl (eu (aB O_names_of (hr.mono (by decide)) rfl (aa (pv 0) af))) rfl (by decide +kernel) (by decide +kernel) (by decide +kernel) True.intro (fun _ _ _ _=>(aC (i:=0) (show ((["name"]:List Str)++([]:List Str)).Nodup by decide +kernel) rfl (Or.inl rfl) (hf:=Or.inr rfl))) (fun _ _ _ _=>eR) (fun _ _ _ _=>(aU (aa (pv 0) (aa (aU (aa ao (aa ao af))) af))))) af)))),?_⟩
  refine⟨_,rfl,plv,ps,xs,m,rfl,hp,pok,hx,hal,fun nt ss H1 hnt hperm hsort hsl s1=>?_⟩
  refine⟨nt,rfl,⟨_,ay.of hnt⟩,fun acc na=>?_⟩
  refine nX (K:=K) (a:=nt) (xs:=ss.map V.str) (fun i zs τ H'=>∃ c:Option V,τ = [c]/\aZ H' zs ((ss.take i).map fun x=>.tuple [.str x,.tuple [.int 0,.int 0]])/\H' acc=some (.lst zs)/\ah H1 H') ?_ ?_ ?_ ?_
  ·exact⟨none,rfl,.nil,ae,ah.new na⟩
  ·rintro i zs τ H2 hi ⟨c,rfl,r,ha,s2⟩
   refine⟨ay.of (s2 _ _ hnt),ha,?_⟩
   have h1:=r.len
   rw [List.length_map,List.length_take] at h1
   exact bh (by omega)
  ·rintro i x zs τ H2 hi ⟨c,rfl,r,ha,s2⟩
   obtain⟨y,hy,rfl⟩:∃ y,ss[i]? = some y/\x=V.str y:=by
    rw [List.getElem?_map] at hi
    cases e:ss[i]? with
    | none=>rw [e] at hi;cases hi
    | some k=>rw [e] at hi;exact⟨k,rfl,(Option.some.inj hi).symm⟩
   refine cu ?_
   refine jj ?_
   refine bJ ?_
   refine⟨_,rfl,ln2,fun t1 n1=>⟨ln2,fun t2 n2=>?_⟩⟩
   have q1:=ah.new (o:=.tup [.int 0,.int 0]) n1
   have q2:=ah.new (o:=.tup [.str y,.ref t1]) n2
   have ha3:=q2 _ _ (q1 _ _ ha)
   have kt:∀ p ws,(upd (upd H2 t1 (.tup [.int 0,.int 0])) t2 (.tup [.str y,.ref t1])) p=some (.tup ws)->(upd (upd (upd H2 t1 (.tup [.int 0,.int 0])) t2 (.tup [.str y,.ref t1])) acc (.lst (zs ++ [V.ref t2]))) p=some (.tup ws):=fun p ws e=>by rw [au (bg e ha3 (by intro z;cases z))];exact e
   refine⟨ha3,_,rfl,?_,ae,((s2.trans q1).trans q2).put na⟩
   rw [List.take_add_one,hy,List.map_append]
   exact (((r.same q1 (gB _)).same q2 (gB _)).aJ kt (gB _)).app (.tup (kt _ _ ae) (.cons (.str _) (.cons (.tup (kt _ _ (q2 _ _ ae)) (.cons (.int _) (.cons (.int _) .nil))) .nil)))
  ·rintro zs τ H2 ⟨c,rfl,r,ha,s2⟩
   rw [List.length_map,List.take_length] at r
   refine⟨acc,_,rfl,.inl ⟨aI.of ha,fun t ht=>?_⟩⟩
   exact q (.ref t) ss _ (.tup ae (r.same (ah.new ht) (gB _))) hperm hsort ((s1.trans s2).trans (ah.new ht))
theorem oO {f:Addr} {fd:FuncData} (F:bZ K "__init__" "Row.__init__" dJ f fd) (Z:Bl mg) {C:Addr} (T:si K C)  : bG P w K mg base bT 1 f fd ["self", "first"] (kf P w C):=by
 refine F.ok (k:=0) oJ (fun vs H Q E h=>?_) (fun cdv A outer s H vs Q E hr h=>?_)
 ·obtain⟨r,dx,k,d0,rfl,_⟩:=h
  rfl
 ·obtain⟨r,dx,k,d0,rfl,hr0,hk,rd,nl,q⟩:=h
  refine⟨_,(ai (vP (pv 0) (bS (aa (pv 1) af)) rfl)
   (ar (vP (pv 0) (yx (lP hr) (xO (pv 1) ao zv) rfl rfl (List.cons_ne_nil _ _) (by show 1<=15;decide)) rfl))),?_⟩
  refine⟨_,rfl,rB,fun m nm=>?_⟩
  have s1:=ah.new (o:=.lst [.ref k]) nm
  have hm1:(upd H m (.lst [.ref k])) m=some (.lst [.ref k]):=ae
  have nrm:r ≠ m:=aw hr0 nm
  have rd1:=rd.same s1 nl
  generalize (upd H m (.lst [.ref k]))=H1 at s1 hm1 rd1
  have hr1:=s1 _ _ hr0
  refine⟨_,rfl,r,C,dx,_,rfl,hr1,T.cl,T.members,(by show 0 < 1000;decide),?_⟩
  have kt1:∀ p zs,H1 p=some (.tup zs)->∀ o,(upd H1 r o) p=some (.tup zs):=fun p zs e o=>by rw [au (bg e hr1 (by intro z;cases z))];exact e
  refine fun d nd=>?_
  have ndr:r ≠ d:=fun z=>by rw [<-z,ae] at nd;cases nd
  have nd1:H1 d=none:=by rw [au ndr.symm] at nd;exact nd
  have ndm:d ≠ m:=fun z=>by rw [z,hm1] at nd1;cases nd1
  have kt2:∀ p zs,H1 p=some (.tup zs)->∀ o o',(upd (upd H1 r o) d o') p=some (.tup zs):=fun p zs e o o'=>by rw [au (aw e nd1)];exact kt1 p zs e o
  refine⟨_,rfl,ae,k,.int 0,d0,rfl,hk,rd1.aJ (fun p zs e=>kt2 p zs e _ _) nl,?_⟩
  refine⟨_,rfl,r,C,dx,_,rfl,(by rw [au ndr,au ndr,ae]),T.cl,T.places,(by rw [oC];show 1 < 1000;decide),?_⟩
  refine q m d _ ⟨⟨dx,by rw [ae,oC,wO]⟩,?_,?_,fun p hp=>?_⟩ (fun c o e n=>?_) nm (s1.free nd1)
  ·rw [au nrm.symm,au ndm.symm,au ndm.symm,au nrm.symm];exact hm1
  ·rw [au ndr.symm,ae];rfl
  ·rw [List.mem_singleton.mp hp]
   refine⟨hk,rd1.aJ (fun p zs e=>?_) nl⟩
   have hpr:p ≠ r:=bg e hr1 (by intro z;cases z)
   have hpd:p ≠ d:=aw e nd1
   rw [au hpr,au hpd,au hpd,au hpr];exact e
  ·rw [au n,au (aw (s1 _ _ e) nd1),au (aw (s1 _ _ e) nd1),au n];exact s1 _ _ e
theorem oP {f:Addr} {fd:FuncData} (F:bZ K "place_of" "Row.place_of" dM f fd) (Z:Bl mg) {C:Addr} (T:si K C)  : bG P w K mg base bT 1 f fd ["self", "thing"] (kh P w C):=by
  refine F.ok (k:=0) oK (fun vs H Q E h=>?_) (fun cdv A outer s H vs Q E hr h=>?_)
  · obtain⟨r,m,d,k,d0,ms,rfl,_⟩:=h
    rfl
  · obtain⟨r,m,d,k,d0,ms,rfl,A,hms,hk,rd,nl,nls,q⟩:=h
    refine⟨_,(ai (bu (aH (vh (lP hr)) (pv 1) (gO (pv 0) rfl) (by with_unfolding_all rfl))
      (ai (dA (bD bE rfl Z.len cG (aa (gO (pv 0) rfl) af)) (nQ (gO (pv 0) rfl) (pv 1) (yl (lP hr))))
      (ar (cX (eM PySem.F.plainAttrs_list PySem.F.slot_list_append PySem.F.type_list_append cY (gO (pv 0) rfl) (aa (pv 1) af)))))
      aM)
      (ar (aF (zK (lP hr) (gO (pv 0) rfl) (pv 1) (fun _ _=>rfl))))),?_⟩
    obtain⟨dx,hob⟩:=A.ob
    obtain⟨n1,n2,n3⟩:=A.CW
    have hml:(ms.map fun p=>V.ref p.2).length=ms.length:=List.length_map ..
    have hv:=kc d0 0 ms
    refine⟨_,rfl,_,rfl,r,C,dx,_,_,rfl,hob,T.cl,T.places,iF,k,d,d0,de 0 ms,rfl,rfl,⟨A.lQ,A.jJ,hk,rd⟩,_,rfl,?_⟩
    by_cases hm:d0 ∈ ms.map (·.1)
    · rw [if_pos hm] at hv
      refine bo (by rw [hv];rfl) ?_
      have e:ke ms d0 k=ms:=by unfold ke;rw [if_pos hm]
      rw [e] at q
      refine⟨_,rfl,r,C,dx,_,_,rfl,hob,T.cl,T.places,iF,_,rfl,k,d,d0,de 0 ms,_,rfl,rfl,⟨A.lQ,A.jJ,hk,rd⟩,hv,?_⟩
      rw [Nat.zero_add]
      exact q H A j9.refl
    · rw [if_neg hm] at hv
      refine cf (by rw [hv];rfl) ?_
      refine⟨_,rfl,r,C,dx,_,_,rfl,hob,T.cl,T.members,gW,m,_,rfl,.inl (aI.of A.mem),_,rfl,r,C,dx,_,_,rfl,hob,T.cl,T.places,iF,_,rfl,k,d,d0,de 0 ms,rfl,rfl,⟨A.lQ,A.jJ,hk,rd⟩,bh (by rw [nG];omega),?_⟩
      have eput:putD (de 0 ms) d0 k (.int ((ms.map fun p=>V.ref p.2).length:Nat))=de 0 (ms ++ [(d0,k)]):=by
        unfold putD
        rw [hv,sF,hml,Nat.zero_add]
        rfl
      rw [eput]
      change (_:Hp->Prop) (upd H d (fi P w d (de 0 (ms ++ [(d0,k)]))))
      have hob1:(upd H d (fi P w d (de 0 (ms ++ [(d0,k)])))) r=some (.ins C dx (pA (.ref m) (.ref d))):=by rw [au n2];exact hob
      have hm1:(upd H d (fi P w d (de 0 (ms ++ [(d0,k)])))) m=some (.lst (ms.map fun p=>V.ref p.2)):=by rw [au n3.symm];exact A.mem
      refine⟨_,rfl,r,C,dx,_,_,rfl,hob1,T.cl,T.members,gW,.inl ⟨rfl,_,aI.of hm1⟩,_,rfl,m,_,_,rfl,rfl,hm1,bh (by omega),?_⟩
      have e:ke ms d0 k=ms ++ [(d0,k)]:=by unfold ke;rw [if_neg hm]
      rw [e] at q
      have kt:∀ p zs,H p=some (.tup zs)->∀ o o',(upd (upd H d o) m o') p=some (.tup zs):=fun p zs h o o'=>by
        rw [au (bg h A.mem (by intro z;cases z)),au (bg h A.lQ (by intro z;cases z))];exact h
      have keys:∀ (H':Hp),(∀ p zs,H p=some (.tup zs)->H' p=some (.tup zs))->∀ p ∈ ms ++ [(d0,k)],d9 p.1/\aV H' (.ref p.2) p.1:=fun H' kt' p hp=>by
        rcases List.mem_append.mp hp with hp | hp
        · exact⟨(A.keys p hp).1,(A.keys p hp).2.aJ kt' (nls p hp)⟩
        · rw [List.mem_singleton.mp hp];exact⟨hk,rd.aJ kt' nl⟩
      have A2:gZ P w C (upd (upd H d (fi P w d (de 0 (ms ++ [(d0,k)])))) m (.lst ((ms.map fun p=>V.ref p.2) ++ [.ref k]))) r m d (ms ++ [(d0,k)]) :=
        ⟨⟨dx,by rw [au n1];exact hob1⟩,by rw [ae,List.map_append];rfl,by rw [au n3,ae],keys _ fun p zs h=>kt p zs h _ _⟩
      have hv2:=kc d0 0 (ms ++ [(d0,k)])
      rw [if_pos (by rw [List.map_append];exact List.mem_append_right _ (List.mem_singleton.mpr rfl)),Nat.zero_add] at hv2
      obtain⟨dx2,hob2⟩:=A2.ob
      refine⟨_,rfl,r,C,dx2,_,_,rfl,hob2,T.cl,T.places,iF,_,rfl,k,d,d0,_,_,rfl,rfl,⟨A2.lQ,A2.jJ,hk,(A2.keys (d0,k) (List.mem_append_right _ (List.mem_singleton.mpr rfl))).2⟩,hv2,?_⟩
      exact q _ A2 fun c o h c1 c2=>by rw [au c1,au c2];exact h
theorem vx {f:Addr} {fd:FuncData} (F:bZ K "reached" "reached" gI f fd) (Z:Bl mg) (O_ways_on:Own P w K mg base "ways_on" 3 ["end"] jm):bG P w K mg base bT 4 f fd ["plan"] lR:=by
  refine bZ.CV F (k:=3) hJ (fun vs H Q E h=>?_) (fun cdv A outer s H vs Q E hcd hr h=>?_)
  · obtain⟨plv,ps,rfl,_⟩:=h
    rfl
  · obtain⟨plv,ps,rfl,hp,hin,hn0,hn,q⟩:=h
    refine⟨_,(ai (aG (i:=1) hJ.nd rfl (Or.inl rfl) (zU hcd ao))
      (ai (aG (i:=2) hJ.nd rfl (Or.inl rfl) (bS (aa ao af)))
      (ai (jY PassesOwn.never (xu (pv 2) (fun _=>rfl))
      (ai (aG (i:=3) hJ.nd rfl (Or.inl rfl) (AG PySem.F.plainAttrs_list PySem.F.slot_list_pop PySem.F.type_list_pop AH (pv 2)))
      (ar (cO PassesOwn.never rfl (eu (aB O_ways_on (hr.mono (by decide)) rfl (aa (aK bc (aK bc (pv 0) (pv 3) (fun _ _=>rfl)) ao (fun _ _=>rfl)) af))) (aC (i:=4) hJ.nd rfl (Or.inl rfl))
      (ar (bu (aH wK (pv 4) (pv 1) (by with_unfolding_all rfl))
      (ai (cX (wL PySem.F.slot_set_add PySem.F.type_set_add ur (pv 1) (aa (pv 4) af)))
      (ar (cX (eM PySem.F.plainAttrs_list PySem.F.slot_list_append PySem.F.type_list_append cY (pv 2) (aa (pv 4) af)))))
      aM))))))
      (ar (aF (bx bC rfl Z.tuple bV (aa (bD (kB rfl) rfl Z.sorted fb (aa (pv 1) af)) af))))))),?_⟩
    obtain⟨pp,vs,rfl,e1,r1⟩:=aV.bX hp
    have hvl:=r1.len
    rw [List.length_map] at hvl
    refine fun fs nfs=>?_
    refine⟨ae,Sum.inl (0:Int),rfl,?_⟩
    change (_:Hp->Prop) (upd (upd H fs (cx P w fs [])) fs (cx P w fs [Sum.inl (0:Int)]))
    rw [zb]
    have s1:=ah.new (o:=cx P w fs [Sum.inl (0:Int)]) nfs
    have hf1:(upd H fs (cx P w fs [Sum.inl (0:Int)])) fs=some (cx P w fs (kI [0])):=ae
    generalize (upd H fs (cx P w fs [Sum.inl (0:Int)]))=H1 at s1 hf1
    refine⟨rB,fun wl nwl=>?_⟩
    have s2:=ah.new (o:=.lst [.int 0]) nwl
    have hf2:=s2 _ _ hf1
    have hw2:(upd H1 wl (.lst [.int 0])) wl=some (.lst (vN [0])):=ae
    have nfw:fs ≠ wl:=aw hf1 nwl
    have nwH:H wl=none:=s1.free nwl
    have s12:=s1.trans s2
    generalize (upd H1 wl (.lst [.int 0]))=H2 at s2 hf2 hw2 s12
    refine⟨fun m σ H'=>∃ (ks ws:List Nat) (u1 u2:Option V),σ = [some (.ref pp),some (.ref fs),some (.ref wl),u1,u2]/\H' fs=some (cx P w fs (kI ks))/\H' wl=some (.lst (vN ws))/\vm ps ks ws/\m=2 * (ps.length - ks.length)+ws.length/\ws.length<=ks.length/\ah H H',⟨_,[0],[0],_,_,rfl,hf2,hw2,⟨by simp,fun k hk=>by rw [List.mem_singleton.mp hk];exact hn0,fun k hk=>by rw [List.mem_singleton.mp hk];exact .zero,by simp,fun k hk=>hk,fun k hk=>.inl hk⟩,rfl,Nat.le_refl _,s12⟩,?_⟩
    rintro m σ H3 ⟨ks,ws,u1,u2,rfl,hf3,hw3,sk,hm,hwk,s3⟩
    have hkn:=dG sk.nd sk.lt
    refine⟨_,rfl,!(vN ws).isEmpty,.inl ⟨_,aI.of hw3,rfl⟩,?_⟩
    rcases (show ws = []\/∃ ws' at_,ws=ws' ++ [at_] from (List.eq_nil_or_concat ws).imp id fun ⟨a,b,h⟩=>⟨a,b,by rw [h,List.concat_eq_append]⟩) with rfl | ⟨ws',at_,rfl⟩
    · refine bo rfl ?_
      refine⟨_,rfl,fs,ks.map (fun k:Nat=>(k:Int)),rfl,(by rw [hf3,pI];rfl),(by rw [List.length_map];omega),fun l ss hperm _ nl=>?_⟩
      obtain⟨ms,rfl,hms⟩:=g9 hperm
      refine⟨l,_,rfl,.inl ⟨aI.of ae,?_⟩⟩
      rw [<-lM]
      intro t nt
      refine q t ms _ ae (fun k=>(hms.mem_iff).trans (sk.all k)) (fun k hk=>sk.lt k (hms.mem_iff.mp hk)) (by rw [hms.length_eq];omega) ((s3.trans (ah.new nl)).trans (ah.new nt))
    · have hwl:(ws' ++ [at_]).length=ws'.length+1:=by rw [List.length_append];rfl
      have hev:vN (ws' ++ [at_])=vN ws' ++ [V.int (at_:Nat)]:=by show (ws' ++ [at_]).map _=_;rw [List.map_append];rfl
      refine cf (by rw [hev];cases vN ws' <;> rfl) ?_
      have hak:at_ ∈ ks:=sk.sub at_ (List.mem_append_right _ (List.mem_singleton.mpr rfl))
      have hat:=sk.lt at_ hak
      have hps:ps[at_]? = some ps[at_]:=by simp [hat]
      generalize ps[at_] = pce at hps
      obtain⟨ds,e⟩:=pce
      obtain⟨p',xs',pc,da,ea,wsv,ep,e1',el',hx',e2,e3,r3,e4⟩:=ff hp hps
      cases ep
      rw [e1] at e1'
      cases e1'
      refine⟨fun σ' H'=>∃ (ks' ws2:List Nat) (u1 u2:Option V),σ' = [some (.ref pp),some (.ref fs),some (.ref wl),u1,u2]/\H' fs=some (cx P w fs (kI ks'))/\H' wl=some (.lst (vN ws2))/\vm ps ks' ws2/\2 * (ps.length - ks'.length)+ws2.length < m/\ws2.length<=ks'.length/\ah H H',fun σ' H' ⟨ks',ws2,u1,u2,h1,h2,h3,h4,h5,h6,h7⟩=>⟨_,h5,ks',ws2,u1,u2,h1,h2,h3,h4,rfl,h6,h7⟩,?_⟩
      refine⟨_,rfl,.inl ⟨rfl,_,aI.of hw3⟩,wl,_,.int (at_:Nat),rfl,rfl,hw3,(by rw [hev];simp),?_⟩
      have hdl:(vN (ws' ++ [at_])).dropLast=vN ws':=by rw [hev,List.dropLast_concat]
      rw [hdl]
      have hw4:(upd H3 wl (.lst (vN ws'))) wl=some (.lst (vN ws')):=ae
      have hf4:(upd H3 wl (.lst (vN ws'))) fs=some (cx P w fs (kI ks)):=by rw [au nfw];exact hf3
      have s4:ah H (upd H3 wl (.lst (vN ws'))):=s3.put nwH
      generalize (upd H3 wl (.lst (vN ws')))=H4 at hw4 hf4 s4
      refine⟨_,rfl,_,rfl,pp,_,_,_,rfl,rfl,ay.of (s4 _ _ e1),bL hx',pc,_,1,_,rfl,rfl,ay.of (s4 _ _ e2),cZ,ea,e,rfl,s4 _ _ e4,fun wt H5 hwt s5=>?_⟩
      refine⟨wt,rfl,⟨_,ay.of hwt⟩,ft (K:=K) (a:=wt) (xs:=vN (aP e)) (fun i σ H'=>∃ (ks' add:List Nat) (u2:Option V),σ = [some (.ref pp),some (.ref fs),some (.ref wl),some (.int (at_:Nat)),u2]/\H' fs=some (cx P w fs (kI ks'))/\H' wl=some (.lst (vN (ws' ++ add)))/\ks' = ks++add/\ks'.Nodup/\(∀ k ∈ ks',k < ps.length)/\(∀ k ∈ add,iO ps k)/\(∀ k ∈ (aP e).take i,k ∈ ks')/\(∀ c o,H5 c=some o->c ≠ fs->c ≠ wl->H' c=some o)) ?_ ?_ ?_ ?_⟩
      · exact⟨ks,[],_,rfl,s5 _ _ hf4,by rw [List.append_nil];exact s5 _ _ hw4,by rw [List.append_nil],sk.nd,sk.lt,(fun _ h=>nomatch h),(fun _ h=>by simp at h),fun c o h _ _=>h⟩
      · rintro i σ H6 hi ⟨ks',add,u2,rfl,h1,h2,rfl,h4,h5,h6,h7,h8⟩
        exact ay.of (h8 _ _ hwt (bg hwt (s5 _ _ hf4) (by intro z;cases z)) (bg hwt (s5 _ _ hw4) (by intro z;cases z)))
      · rintro i y σ H6 hi ⟨ks',add,u2,rfl,h1,h2,rfl,h4,h5,h6,h7,h8⟩
        obtain⟨k0,hk0,rfl⟩:∃ k,(aP e)[i]? = some k/\y=V.int (k:Nat):=by
          rw [List.getElem?_map] at hi
          cases z:(aP e)[i]? with
          | none=>rw [z] at hi;cases hi
          | some k=>rw [z] at hi;exact⟨k,rfl,(Option.some.inj hi).symm⟩
        have hk0m:=List.mem_of_getElem? hk0
        have hk0b:=mD hin hps k0 hk0m
        have htk:(aP e).take (i+1)=(aP e).take i ++ [k0]:=by rw [List.take_add_one,hk0];rfl
        refine cu ?_
        refine⟨_,rfl,_,rfl,fs,_,Sum.inl (k0:Int),rfl,h1,rfl,fun b hb=>⟨_,rfl,?_⟩⟩
        rw [sH] at hb
        by_cases hm0:k0 ∈ ks++add
        · refine bo (by rw [hb.mpr hm0];rfl) ?_
          refine⟨ks++add,add,_,rfl,h1,h2,rfl,h4,h5,h6,fun k hk=>?_,h8⟩
          rw [htk] at hk
          rcases List.mem_append.mp hk with hk | hk
          · exact h7 k hk
          · rw [List.mem_singleton.mp hk];exact hm0
        · refine cf (by rw [Bool.eq_false_iff.mpr fun z=>hm0 (hb.mp z)];rfl) ?_
          have hfew:=dG h4 h5
          refine⟨_,rfl,⟨fs,_,rfl,h1⟩,_,rfl,fs,_,Sum.inl (k0:Int),rfl,rfl,h1,(by rw [List.length_map];exact Nat.lt_of_le_of_lt (show (ks++add).length+1<=1002 by omega) (by decide)),?_⟩
          rw [sI,show LS.putIn (ks++add) k0=ks++(add ++ [k0]) by unfold LS.putIn;rw [if_neg hm0,List.append_assoc]]
          change (_:Hp->Prop) (upd H6 fs (cx P w fs (kI (ks++(add ++ [k0])))))
          have h27:(upd H6 fs (cx P w fs (kI (ks++(add ++ [k0]))))) wl=some (.lst (vN (ws' ++ add))):=by rw [au nfw.symm];exact h2
          have hal:(ws' ++ add).length<=200:=by
            rw [List.length_append] at hfew ⊢
            omega
          refine⟨_,rfl,.inl ⟨rfl,_,aI.of h27⟩,_,rfl,wl,_,_,rfl,rfl,h27,bh (by rw [List.length_map];omega),?_⟩
          refine⟨_,add ++ [k0],_,rfl,by rw [au nfw,ae],?_,rfl,?_,?_,?_,?_,fun c o h c1 c2=>by rw [au c2,au c1];exact h8 c o h c1 c2⟩
          · rw [ae]
            show _=some (HO.lst ((ws' ++ (add ++ [k0])).map _))
            rw [<-List.append_assoc,List.map_append]
            rfl
          · rw [<-List.append_assoc,List.nodup_append]
            refine⟨h4,by simp,fun x hx y hy z=>?_⟩
            rw [List.mem_singleton.mp hy] at z
            exact hm0 (z ▸ hx)
          · intro k hk
            rw [<-List.append_assoc] at hk
            rcases List.mem_append.mp hk with hk | hk
            · exact h5 k hk
            · rw [List.mem_singleton.mp hk];exact hk0b
          · intro k hk
            rcases List.mem_append.mp hk with hk | hk
            · exact h6 k hk
            · rw [List.mem_singleton.mp hk];exact .step (sk.sJ at_ hak) hps hk0m
          · intro k hk
            rw [htk] at hk
            rw [<-List.append_assoc]
            rcases List.mem_append.mp hk with hk | hk
            · exact List.mem_append_left _ (h7 k hk)
            · exact List.mem_append_right _ hk
      · rintro σ H6 ⟨ks',add,u2,rfl,h1,h2,rfl,h4,h5,h6,h7,h8⟩
        rw [show (vN (aP e)).length=(aP e).length from List.length_map ..,List.take_length] at h7
        have hfew:=dG h4 h5
        refine⟨ks++add,ws' ++ add,_,_,rfl,h1,h2,⟨h4,h5,fun k hk=>?_,List.mem_append_left _ sk.zero,fun k hk=>?_,fun k hk=>?_⟩,?_,?_,fun c o h=>?_⟩
        · rcases List.mem_append.mp hk with hk | hk
          · exact sk.sJ k hk
          · exact h6 k hk
        · rcases List.mem_append.mp hk with hk | hk
          · exact List.mem_append_left _ (sk.sub k (List.mem_append_left _ hk))
          · exact List.mem_append_right _ hk
        · rcases List.mem_append.mp hk with hk | hk
          · by_cases hka:k=at_
            · subst hka
              refine .inr fun ds' e' he' j hj=>?_
              rw [hps] at he'
              cases he'
              exact h7 j hj
            · rcases sk.done k hk with hw | hd
              · rcases List.mem_append.mp hw with hw | hw
                · exact .inl (List.mem_append_left _ hw)
                · exact absurd (List.mem_singleton.mp hw) hka
              · exact .inr fun ds' e' he' j hj=>List.mem_append_left _ (hd ds' e' he' j hj)
          · exact .inl (List.mem_append_right _ hk)
        · rw [List.length_append] at hfew ⊢
          rw [List.length_append] at ⊢
          rw [hwl] at hm
          omega
        · rw [List.length_append,List.length_append]
          omega
        · exact h8 c o (s5 _ _ (s4 _ _ h)) (aw h nfs) (aw h nwH)
theorem yK {f:Addr} {fd:FuncData} (F:bZ K "heads" "heads" i9 f fd) (Z:Bl mg) (O_reached:Own P w K mg base "reached" 4 ["plan"] lR) (O_ways_on:Own P w K mg base "ways_on" 3 ["end"] jm):bG P w K mg base bT 5 f fd ["plan"] pJ:=by
  refine F.ok (k:=4) ku (fun vs H Q E h=>?_) (fun cdv A outer s H vs Q E hr h=>?_)
  · obtain⟨plv,ps,rfl,_⟩:=h
    rfl
  · obtain⟨plv,ps,rfl,hp,hin,hn0,hn,q⟩:=h
    refine⟨_,(ai (aG (i:=1) ku.nd rfl (Or.inl rfl) (uL wI rfl Z.set wH))
      (ai (cO PassesOwn.never rfl (eu (aB O_reached (hr.mono (by decide)) rfl (aa (pv 0) af))) (aC (i:=2) ku.nd rfl (Or.inl rfl))
      (ar (cO PassesOwn.never rfl (eu (aB O_ways_on (hr.mono (by decide)) rfl (aa (aK bc (aK bc (pv 0) (pv 2) (fun _ _=>rfl)) ao (fun _ _=>rfl)) af))) (aC (i:=3) ku.nd rfl (Or.inl rfl))
      (ar (bu (aH qN (pv 3) (pv 2) (aQ _))
      (ar (cX (wL PySem.F.slot_set_add PySem.F.type_set_add ur (pv 1) (aa (pv 3) af))))
      aM)))))
      (ar (aF (bx bC rfl Z.tuple bV (aa (bD (kB rfl) rfl Z.sorted fb (aa (pv 1) af)) af)))))),?_⟩
    obtain⟨pp,vs,rfl,e1,r1⟩:=aV.bX hp
    have hvl:=r1.len
    rw [List.length_map] at hvl
    refine⟨rfl,fun fs nfs=>?_⟩
    change (_:Hp->Prop) (upd H fs (cx P w fs []))
    have s1:=ah.new (o:=cx P w fs []) nfs
    have hf1:(upd H fs (cx P w fs [])) fs=some (cx P w fs (kI [])):=ae
    generalize (upd H fs (cx P w fs []))=H1 at s1 hf1
    refine⟨_,rfl,_,ps,rfl,hp.same s1 (bP ps),hin,hn0,hn,fun t ks H2 ht hks hlt hkl s2=>?_⟩
    have hf2:=s2 _ _ hf1
    have s12:=s1.trans s2
    refine⟨t,rfl,⟨_,ay.of ht⟩,ft (K:=K) (a:=t) (xs:=vN ks) (fun i σ H'=>∃ (hs:List Nat) (u1 u2:Option V),σ = [some (.ref pp),some (.ref fs),u1,u2]/\H' fs=some (cx P w fs (kI hs))/\hs.Nodup/\(∀ k ∈ hs,k < ps.length)/\(∀ k,k ∈ hs ↔ ∃ j ∈ ks.take i,∃ ds e,ps[j]? = some (ds,e)/\k ∈ aP e/\k<=j)/\(∀ c o,H2 c=some o->c ≠ fs->H' c=some o)) ?_ ?_ ?_ ?_⟩
    · exact⟨[],_,_,rfl,hf2,List.nodup_nil,(fun _ h=>nomatch h),fun k=>⟨fun h=>(nomatch h),fun ⟨j,hj,_⟩=>(by simp at hj)⟩,fun c o h _=>h⟩
    · rintro i σ H3 hi ⟨hs,u1,u2,rfl,h1,h2,h3,h4,h5⟩
      exact ay.of (h5 _ _ ht (bg ht hf2 (by intro z;cases z)))
    · rintro i y σ H3 hi ⟨hs,u1,u2,rfl,h1,h2,h3,h4,h5⟩
      obtain⟨at_,hat,rfl⟩:∃ k,ks[i]? = some k/\y=V.int (k:Nat):=by
        rw [List.getElem?_map] at hi
        cases z:ks[i]? with
        | none=>rw [z] at hi;cases hi
        | some k=>rw [z] at hi;exact⟨k,rfl,(Option.some.inj hi).symm⟩
      have hatl:=hlt at_ (List.mem_of_getElem? hat)
      have hps:ps[at_]? = some ps[at_]:=by simp [hatl]
      generalize ps[at_] = pce at hps
      obtain⟨ds,e⟩:=pce
      obtain⟨p',xs',pc,da,ea,wsv,ep,e1',el',hx',e2,e3,r3,e4⟩:=ff hp hps
      cases ep
      rw [e1] at e1'
      cases e1'
      have k3:∀ p zs,H p=some (.tup zs)->H3 p=some (.tup zs):=fun p zs h=>h5 _ _ (s12 _ _ h) (bg (s12 _ _ h) hf2 (by intro z;cases z))
      refine cu ?_
      refine⟨_,rfl,_,rfl,pp,_,_,_,rfl,rfl,ay.of (k3 _ _ e1),bL hx',pc,_,1,_,rfl,rfl,ay.of (k3 _ _ e2),cZ,ea,e,rfl,k3 _ _ e4,fun wt H5 hwt s5=>?_⟩
      refine⟨wt,rfl,⟨_,ay.of hwt⟩,ft (K:=K) (a:=wt) (xs:=vN (aP e)) (fun j σ H'=>∃ (hs':List Nat) (u2:Option V),σ = [some (.ref pp),some (.ref fs),some (.int (at_:Nat)),u2]/\H' fs=some (cx P w fs (kI hs'))/\hs'.Nodup/\(∀ k ∈ hs',k < ps.length)/\(∀ k,k ∈ hs' ↔ k ∈ hs\/(k ∈ (aP e).take j/\k<=at_))/\(∀ c o,H5 c=some o->c ≠ fs->H' c=some o)) ?_ ?_ ?_ ?_⟩
      · exact⟨hs,_,rfl,s5 _ _ h1,h2,h3,fun k=>⟨.inl,fun h=>h.elim id fun ⟨z,_⟩=>by simp at z⟩,fun c o h _=>h⟩
      · rintro j σ H6 hj ⟨hs',u2,rfl,g1,g2,g3,g4,g5⟩
        exact ay.of (g5 _ _ hwt (bg hwt (s5 _ _ h1) (by intro z;cases z)))
      · rintro j y σ H6 hj ⟨hs',u2,rfl,g1,g2,g3,g4,g5⟩
        obtain⟨k0,hk0,rfl⟩:∃ k,(aP e)[j]? = some k/\y=V.int (k:Nat):=by
          rw [List.getElem?_map] at hj
          cases z:(aP e)[j]? with
          | none=>rw [z] at hj;cases hj
          | some k=>rw [z] at hj;exact⟨k,rfl,(Option.some.inj hj).symm⟩
        have hk0m:=List.mem_of_getElem? hk0
        have hk0b:=mD hin hps k0 hk0m
        have htk:(aP e).take (j+1)=(aP e).take j ++ [k0]:=by rw [List.take_add_one,hk0];rfl
        refine cu ?_
        refine⟨_,rfl,_,rfl,_,_,rfl,rfl,_,rfl,?_⟩
        refine cM (fun hc=>?_) (fun hc=>?_)
        · have hle:k0<=at_:=by have:=of_decide_eq_true hc;omega
          have hfew:=dG g2 g3
          refine⟨_,rfl,⟨fs,_,rfl,g1⟩,_,rfl,fs,_,Sum.inl (k0:Int),rfl,rfl,g1,(by rw [List.length_map];exact Nat.lt_of_le_of_lt (show hs'.length+1<=1002 by omega) (by decide)),?_⟩
          rw [sI]
          change (_:Hp->Prop) (upd H6 fs (cx P w fs (kI (LS.putIn hs' k0))))
          refine⟨LS.putIn hs' k0,_,rfl,ae,sj g2,fun k hk=>?_,fun k=>?_,fun c o h c1=>by rw [au c1];exact g5 c o h c1⟩
          · rcases LS.eD.mp hk with hk | hk
            · exact g3 k hk
            · rw [hk];exact hk0b
          · rw [LS.eD,g4,htk]
            constructor
            · rintro ((h | ⟨h,h'⟩) | rfl)
              · exact .inl h
              · exact .inr ⟨List.mem_append_left _ h,h'⟩
              · exact .inr ⟨List.mem_append_right _ (List.mem_singleton.mpr rfl),hle⟩
            · rintro (h | ⟨h,h'⟩)
              · exact .inl (.inl h)
              · rcases List.mem_append.mp h with h | h
                · exact .inl (.inr ⟨h,h'⟩)
                · exact .inr (List.mem_singleton.mp h)
        · have hle:¬ k0<=at_:=fun z=>hc (decide_eq_true (by omega))
          refine⟨hs',_,rfl,g1,g2,g3,fun k=>?_,g5⟩
          rw [g4,htk]
          constructor
          · rintro (h | ⟨h,h'⟩)
            · exact .inl h
            · exact .inr ⟨List.mem_append_left _ h,h'⟩
          · rintro (h | ⟨h,h'⟩)
            · exact .inl h
            · rcases List.mem_append.mp h with h | h
              · exact .inr ⟨h,h'⟩
              · rw [List.mem_singleton.mp h] at h';exact absurd h' hle
      · rintro σ H6 ⟨hs',u2,rfl,g1,g2,g3,g4,g5⟩
        rw [show (vN (aP e)).length=(aP e).length from List.length_map ..,List.take_length] at g4
        refine⟨hs',_,_,rfl,g1,g2,g3,fun k=>?_,fun c o h c1=>g5 c o (s5 _ _ (h5 c o h c1)) c1⟩
        rw [g4,h4,List.take_add_one,hat]
        constructor
        · rintro (⟨j,hj,r⟩ | ⟨h,h'⟩)
          · exact⟨j,List.mem_append_left _ hj,r⟩
          · exact⟨at_,List.mem_append_right _ (List.mem_singleton.mpr rfl),ds,e,hps,h,h'⟩
        · rintro⟨j,hj,ds',e',hp',h,h'⟩
          rcases List.mem_append.mp hj with hj | hj
          · exact .inl ⟨j,hj,ds',e',hp',h,h'⟩
          · have hj:j=at_:=List.mem_singleton.mp hj
            subst hj
            rw [hps] at hp'
            cases hp'
            exact .inr ⟨h,h'⟩
    · rintro σ H3 ⟨hs,u1,u2,rfl,h1,h2,h3,h4,h5⟩
      rw [show (vN ks).length=ks.length from List.length_map ..,List.take_length] at h4
      have hfew:=dG h2 h3
      refine⟨_,rfl,fs,hs.map (fun k:Nat=>(k:Int)),rfl,(by rw [h1,pI];rfl),(by rw [List.length_map];omega),fun l ss hperm _ nl=>?_⟩
      obtain⟨ms,rfl,hms⟩:=g9 hperm
      refine⟨l,_,rfl,.inl ⟨aI.of ae,?_⟩⟩
      rw [<-lM]
      intro t' nt
      have s3:ah H H3:=fun c o h=>h5 c o (s12 c o h) (aw h nfs)
      refine q t' ms _ ae (fun k=>(hms.mem_iff).trans ((h4 k).trans ?_)) (by rw [hms.length_eq];omega) ((s3.trans (ah.new nl)).trans (ah.new nt))
      constructor
      · rintro⟨j,hj,ds,e,r1,r2,r3⟩
        exact⟨j,ds,e,(hks j).mp hj,r1,r2,r3⟩
      · rintro⟨j,ds,e,hj,r1,r2,r3⟩
        exact⟨j,(hks j).mpr hj,ds,e,r1,r2,r3⟩
theorem tI {f:Addr} {fd:FuncData} (F:bZ K "copy_for" "copy_for" fU f fd) (Z:Bl mg)  : bG P w K mg base bT 1 f fd ["lead", "tops", "places", "most"] (lT P w):=by
  refine F.ok (k:=0) mZ (fun vs H Q E h=>?_) (fun cdv A outer s H vs Q E hr h=>?_)
  · obtain⟨la,tp,d,most,k,T,dl,hs,fv,ms,cs,tops,rfl,_⟩:=h
    rfl
  · obtain⟨la,tp,d,most,k,T,dl,hs,fv,ms,cs,tops,rfl,hla,rl,cd,lay,htp,hts,hd,jJ,cc,q⟩:=h
    refine⟨_,(ai (aG (i:=4) mZ.nd rfl (Or.inl rfl) (aK bc (pv 0) ao (fun _ _=>rfl)))
      (ai (bu (aH kT (pv 4) (pv 1) (by with_unfolding_all rfl))
      (ar (aF (aU (aa (pv 4) (aa (aU af) af)))))
      aM)
      (ai (bu (PW.pt (uz (aH (zJ (lP hr)) (pv 0) (pv 2) (by with_unfolding_all rfl)) (rg (aH gN (bD vk rfl Z.len cG (aa (pv 2) af)) (pv 3) (aQ _)))))
      (ar (aF (pv 0)))
      aM)
      (ar (aF (aU (aa (pv 4) (aa (aU af) af)))))))),?_⟩
    refine⟨_,rfl,la,_,0,_,rfl,rfl,ay.of hla,cm,?_⟩
    have out:bp tops most cs (k,T)=(k,T0)->∀ t1 t2,H t1=none->(upd H t1 (.tup [])) t2=none->Q (.ref t2) (upd (upd H t1 (.tup [])) t2 (.tup [.int (k:Nat),.ref t1])):=fun e t1 t2 n1 n2=>by
      rw [e] at q
      have q2:=ah.new (o:=.tup [.int (k:Nat),.ref t1]) n2
      exact q t2 (.tuple [.int (k:Nat),.tuple []]) _ (.tup ae (.cons (.int _) (.cons (.tup (q2 _ _ ae) .nil) .nil))) ⟨_,FD.zero,rfl⟩ ((ah.new n1).trans q2)
    refine⟨_,rfl,_,rfl,tp,_,rfl,.inr (ay.of htp),rfl,mB _,_,rfl,?_⟩
    rw [show (if false=true then !kA (.int (k:Nat)) (vN hs) else kA (.int (k:Nat)) (vN hs))=decide (k ∈ hs) from jU k hs]
    by_cases hk:k ∈ hs
    · refine cf (decide_eq_true hk) ?_
      exact⟨_,rfl,(by show 0<=sizeLine;decide),fun t1 n1=>⟨ln2,fun t2 n2=>out (by unfold bp;rw [if_pos ((hts k).mp hk)]) t1 t2 n1 n2⟩⟩
    · refine bo (decide_eq_false hk) ?_
      have hnt:¬ tops k:=fun z=>hk ((hts k).mpr z)
      obtain⟨hmem,_⟩:=cd.mem cc
      have hcl:(ms.map (·.1)).length=cs.length:=Paired.length cc
      have hml:ms.length=cs.length:=by rw [<-hcl,List.length_map]
      have hv:=kc dl 0 ms
      refine⟨_,rfl,_,rfl,la,d,dl,de 0 ms,rfl,rfl,⟨hd,jJ,cd.key lay,rl⟩,_,rfl,?_⟩
      by_cases hin:(k,T) ∈ cs
      · rw [if_pos (hmem.mpr hin)] at hv
        refine cf (by rw [hv];rfl) (bJ ?_)
        exact⟨_,rfl,q la dl H rl (by unfold bp;rw [if_neg hnt,if_pos (.inl hin)];exact cd) (ah.refl H)⟩
      · rw [if_neg (fun z=>hin (hmem.mp z))] at hv
        refine bo (by rw [hv];rfl) ?_
        refine⟨_,rfl,d,de 0 ms,rfl,hd,_,rfl,_,_,rfl,rfl,_,rfl,?_⟩
        rw [nG]
        refine cM (fun hc=>?_) (fun hc=>?_)
        · have hlt:cs.length < most:=by have:=of_decide_eq_true hc;omega
          exact⟨_,rfl,q la dl H rl (by unfold bp;rw [if_neg hnt,if_pos (.inr hlt)];exact cd) (ah.refl H)⟩
        · have hlt:¬ cs.length < most:=fun z=>hc (decide_eq_true (by omega))
          exact⟨_,rfl,(by show 0<=sizeLine;decide),fun t1 n1=>⟨ln2,fun t2 n2=>out (by unfold bp;rw [if_neg hnt,if_neg (fun z=>z.elim hin hlt)]) t1 t2 n1 n2⟩⟩
theorem xh {f:Addr} {fd:FuncData} (F:bZ K "end_to" "end_to" ip f fd) (Z:Bl mg) (O_without_ways:Own P w K mg base "without_ways" 4 ["end"] lL):bG P w K mg base bT 5 f fd ["end", "ways"] pK:=by
 refine F.ok (k:=4) xf (fun vs H Q E h=>?_) (fun cdv A outer s H vs Q E hr h=>?_)
 ·obtain⟨ea,l,e,ns,rfl,_⟩:=h
  rfl
 ·obtain⟨ea,l,e,ns,rfl,he,hl,hns,hn2,q⟩:=h
  refine⟨_,(ai (bu (aH cg (bD bE rfl Z.len cG (aa (pv 1) af)) ao (aQ _))
   (ar (aF (aU (aa bH (aa (aK bN (pv 1) ao (fun _ _=>rfl)) af)))))
   aM)
   (ar (aF (bw ug (aB O_without_ways (hr.mono (by decide)) rfl (aa (pv 0) af)) (bx bC rfl Z.tuple bV (aa (pv 1) af)))))),?_⟩
  refine⟨_,rfl,l,_,rfl,.inl (aI.of hl),rfl,_,rfl,?_⟩
  have hlen:(vN ns).length=ns.length:=List.length_map ..
  by_cases h1:ns.length=1
  ·obtain⟨a,rfl⟩:∃ a,ns = [a]:=List.length_eq_one_iff.mp h1
   refine cf (decide_eq_true rfl) ?_
   exact⟨_,rfl,l,_,0,_,rfl,rfl,aI.of hl,cm,ln2,fun t nt=>q t _ ae (ah.new nt)⟩
  ·refine bo (decide_eq_false fun z=>h1 (by have:=V.int.inj z;omega)) ?_
   have hns:=hns.resolve_left h1
   refine⟨_,rfl,ea,e,rfl,he,fun t H1 ht s1=>⟨_,rfl,l,_,rfl,.inl ⟨aI.of (s1 _ _ hl),fun t2 nt2=>?_⟩⟩⟩
   have q2:=ah.new (o:=.tup (vN ns)) nt2
   have hhl:(gX e).length<=3:=by cases e <;> simp [gX]
   refine⟨t,t2,_,_,rfl,rfl,q2 _ _ ht,ae,Nat.le_of_lt (bh (by omega)),fun t3 H3 ht3 s3=>?_⟩
   refine q t3 H3 ?_ ((s1.trans q2).trans s3)
   have e1:iP e ns=ym e ns:=by
    match ns,h1 with
    | [],_=>rfl
    | [a],h=>exact absurd rfl h
    | _ :: _ :: _,_=>rfl
   rw [e1,yn hns]
   exact ht3
theorem tJ {f:Addr} {fd:FuncData} (F:bZ K "led_past" "led_past" fV f fd) (Z:Bl mg) {tk_MOST_TO_LEAD:Tok} (G_MOST_TO_LEAD:mg "MOST_TO_LEAD" = some (.int 60 tk_MOST_TO_LEAD)) {C:Addr} (T:si K C) (O_heads:Own P w K mg base "heads" 5 ["plan"] pJ) (O_start:Own P w K mg base "start" 4 ["plan"] pG) (O_Row___init__:xT P w K mg base C "Row" 1 ["self", "first"] (kf P w C)) (O_Row_place_of:xS P w K mg base C "place_of" 1 ["self", "thing"] (kh P w C)) (O_behind:Own P w K mg base "behind" 3 ["facts", "deeds"] nv) (O_leads:Own P w K mg base "leads" 5 ["facts", "end"] (pF aA)) (O_copy_for:Own P w K mg base "copy_for" 1 ["lead", "tops", "places", "most"] (lT P w)) (O_end_to:Own P w K mg base "end_to" 5 ["end", "ways"] pK):bG P w K mg base bT 7 f fd ["plan", "most"] (lW P w C):=by
  refine F.ok (k:=6) cS (fun vs H Q E h=>?_) (fun cdv A outer s H vs Q E hr h=>?_)
  · obtain⟨plv,ps,xs,most,rfl,_⟩:=h
    rfl
  · obtain⟨plv,ps,xs,most,rfl,hp,pok,nok,hx10,hn0,hn,hm1,hm3,q⟩:=h
    refine⟨_,(ai (bu (aH me (bD bE rfl Z.len cG (aa (pv 0) af)) (gu (v:=.int 60) rfl G_MOST_TO_LEAD ⟨_,rfl⟩) (aQ _))
      (ar xl)
      aM)
      (ai (aG (i:=2) cS.nd rfl (Or.inr rfl) (aB O_heads (hr.mono (by decide)) rfl (aa (pv 0) af)))
      (ai (eC (aG (i:=3) cS.nd rfl (Or.inr rfl) (zA O_Row___init__ (hr.mono (by decide)) rfl (aa (aU (aa ao (aa (fG (aH kT ao (pv 2) (by with_unfolding_all rfl)) (aU af) (aB O_start (hr.mono (by decide)) rfl (aa (pv 0) af))) af))) af))))
      (ai (aG (i:=4) cS.nd rfl (Or.inl rfl) (bS af))
      (ai (jY PassesOwn.never (aH gN (bD bE rfl Z.len cG (aa (pv 4) af)) (bD bE rfl Z.len cG (aa (gO (pv 3) rfl) af)) (aQ _))
      (ai (dA (aK bN (gO (pv 3) rfl) (bD bE rfl Z.len cG (aa (pv 4) af)) (fun _ _=>rfl)) (cT rfl (aY (aC (i:=5) cS.nd rfl (Or.inl rfl)) (aY (aC (i:=6) cS.nd rfl (Or.inl rfl)) cE))))
      (ai (dA (aK bc (pv 0) (pv 5) (fun _ _=>rfl)) (cT rfl (aY (aC (i:=7) cS.nd rfl (Or.inl rfl)) (aY (aC (i:=8) cS.nd rfl (Or.inl rfl)) cE))))
      (ai (aG (i:=9) cS.nd rfl (Or.inl rfl) (aB O_leads (hr.mono (by decide)) rfl (aa (aB O_behind (hr.mono (by decide)) rfl (aa (pv 6) (aa (pv 7) af))) (aa (pv 8) af))))
      (ai (j0 (i:=10) ["lead"] ["copies", "tops", "most"] [3,2,1] rfl cS.nd rfl rfl rfl (eu (pv 9)) rfl (by decide +kernel) (by decide +kernel) (by decide +kernel) ⟨⟨rfl,.inl rfl,rfl⟩,⟨⟨rfl,.inl rfl,rfl⟩,⟨⟨rfl,.inl rfl,rfl⟩,True.intro⟩⟩⟩ (fun _ _ _ _=>(aC (i:=0) (show ((["lead"]:List Str)++(["copies", "tops", "most"]:List Str)).Nodup by decide +kernel) rfl (Or.inl rfl) (hf:=Or.inr rfl))) (fun _ _ _ _=>eR) (fun _ _ _ _=>(zy O_Row_place_of (pv 1) (hr.mono (by decide)) (aa (aB O_copy_for (hr.mono (by decide)) rfl (aa (pv 0) (aa (pv 2) (aa (zY (K:=K) rfl (pv 1) rfl) (aa (pv 3) af))))) af))))
      (ar (cX (eM PySem.F.plainAttrs_list PySem.F.slot_list_append PySem.F.type_list_append cY (pv 4) (aa (aU (aa (pv 7) (aa (aB O_end_to (hr.mono (by decide)) rfl (aa (pv 8) (aa (pv 10) af))) af))) af)))))))))
      (ar (aF (aU (aa (bx bC rfl Z.tuple bV (aa (pv 4) af)) (aa (bx bC rfl Z.tuple bV (aa (gO (pv 3) rfl) af)) af)))))))))),?_⟩
    obtain⟨pp,vs,rfl,e1,r1⟩:=aV.bX hp
    have hvl:=r1.len
    rw [List.length_map] at hvl
    have hin:=pok.wb
    refine⟨_,rfl,pp,_,rfl,.inr (ay.of e1),_,_,rfl,rfl,_,rfl,?_⟩
    refine bo (decide_eq_false (by omega)) ?_
    refine⟨_,rfl,_,ps,rfl,hp,hin,hn0,hn,fun tp hs H1 htp hhs hsl s1=>?_⟩
    have hp1:=hp.same s1 (bP ps)
    have hal:(ba ps).length<=4000:=by
      have h1:=zS pok
      have h2:ps.length * (2 * 6+1)<=60 * 13:=Nat.mul_le_mul hn (Nat.le_refl 13)
      omega
    refine⟨fun σ' H'=>∃ (r m d ka:Addr) (d0:PyData),σ' = [some (.ref pp),some (.int (most:Nat)),some (.ref tp),some (.ref r),none,none,none,none,none,none,none]/\gZ P w C H' r m d [(d0,ka)]/\CD (gi ps) d0/\H m=none/\H d=none/\H r=none/\ah H1 H',?_,?_⟩
    · have layc:nB (gi ps).2:=by
        unfold gi
        split
        · exact cB.zero.lay nok
        · exact (ki pok).lay nok
      refine⟨_,rfl,tp,_,rfl,.inr (ay.of htp),rfl,mB _,_,rfl,?_⟩
      rw [show (if false=true then !kA (.int 0) (vN hs) else kA (.int 0) (vN hs))=decide (0 ∈ hs) from jU 0 hs]
      by_cases h0':0 ∈ hs
      · have h0:=(hhs 0).mp h0'
        refine cf (decide_eq_true h0') ?_
        refine⟨(by show 0<=sizeLine;decide),fun t1 n1=>⟨ln2,fun ka nka=>fun r dx nx ndx nex=>?_⟩⟩
        have cd:=(show CD (gi ps) (.tuple [.int ((0:Nat):Int),.tuple []]) from by unfold gi;rw [if_pos h0];exact⟨_,FD.zero,rfl⟩)
        have nl:=cd.hV
        have q2:=ah.new (o:=.tup [.int 0,.ref t1]) nka
        have s3:=(ah.new (o:=.tup []) n1).trans q2
        have rd3:aV (upd (upd H1 t1 (.tup [])) ka (.tup [.int 0,.ref t1])) (.ref ka) (.tuple [.int ((0:Nat):Int),.tuple []]):=.tup ae (.cons (.int _) (.cons (.tup (q2 _ _ ae) .nil) .nil))
        generalize (upd (upd H1 t1 (.tup [])) ka (.tup [.int 0,.ref t1]))=H3 at q2 s3 rd3 nx ndx
        have s0:ah H3 (upd (upd H3 dx (.own r)) r (.ins C dx [])):=fun b o e=>by
          rw [au (aw e nx),au (aw e ndx)]
          exact e
        refine⟨r,dx,ka,_,rfl,ae,cd.key layc,rd3.same s0 nl,nl,fun m d H4 A4 k4 nm nd=>⟨rfl,?_⟩⟩
        exact⟨r,m,d,ka,_,rfl,A4,cd,s1.free (s3.free (s0.free nm)),s1.free (s3.free (s0.free nd)),s1.free (s3.free nx),fun c o e=>k4 c o (s0 c o (s3 c o e)) (aw (s3 c o e) nx)⟩
      · have h0:¬ aX ps 0:=fun z=>h0' ((hhs 0).mpr z)
        refine bo (decide_eq_false h0') ?_
        refine⟨_,rfl,_,ps,xs,6,rfl,hp1,pok,(by omega),hal,fun v ss H2 rv hperm hsort s3'=>⟨ln2,fun ka nka=>fun r dx nx ndx nex=>?_⟩⟩
        have cd:=(show CD (gi ps) (.tuple [.int ((0:Nat):Int),lO ss]) from by unfold gi;rw [if_neg h0];exact⟨_,yy hperm hsort,rfl⟩)
        have nl:=cd.hV
        have q2:=ah.new (o:=.tup [.int 0,v]) nka
        have s3:=s3'.trans q2
        have rd3:aV (upd H2 ka (.tup [.int 0,v])) (.ref ka) (.tuple [.int ((0:Nat):Int),lO ss]):=.tup ae (.cons (.int _) (.cons (rv.same q2 (gB ss)) .nil))
        generalize (upd H2 ka (.tup [.int 0,v]))=H3 at q2 s3 rd3 nx ndx
        have s0:ah H3 (upd (upd H3 dx (.own r)) r (.ins C dx [])):=fun b o e=>by
          rw [au (aw e nx),au (aw e ndx)]
          exact e
        refine⟨r,dx,ka,_,rfl,ae,cd.key layc,rd3.same s0 nl,nl,fun m d H4 A4 k4 nm nd=>⟨rfl,?_⟩⟩
        exact⟨r,m,d,ka,_,rfl,A4,cd,s1.free (s3.free (s0.free nm)),s1.free (s3.free (s0.free nd)),s1.free (s3.free nx),fun c o e=>k4 c o (s0 c o (s3 c o e)) (aw (s3 c o e) nx)⟩
    rintro σ' H2 ⟨r,m,d,ka,d0,rfl,A2,cd0,nm,nd,nr,s2⟩
    have s12:=s1.trans s2
    have htp2:=s2 _ _ htp
    have cc2:mX [(d0,ka)] [gi ps]:=.cons cd0 .nil
    refine⟨(by show 0<=sizeLine;decide),fun pz npz=>?_⟩
    have npzH:H pz=none:=s12.free npz
    have q3:=ah.new (o:=.lst []) npz
    have s3:=s12.trans q3
    have A3:=A2.mv cc2.hV (fun c o h _=>q3 c o h) (fun p zs h=>q3 _ _ h)
    have htp3:=q3 _ _ htp2
    have hz3:(upd H2 pz (.lst [])) pz=some (.lst []):=ae
    have npm:pz ≠ m:=(aw A2.mem npz).symm
    have npd:pz ≠ d:=(aw A2.lQ npz).symm
    have npr:pz ≠ r:=by obtain⟨dx,h⟩:=A2.ob;exact (aw h npz).symm
    generalize (upd H2 pz (.lst []))=H3 at q3 s3 A3 hz3 htp3
    have c0ok:(gi ps).1 < ps.length/\cB xs (gi ps).2:=by
      unfold gi
      split
      · exact⟨hn0,cB.zero⟩
      · exact⟨hn0,ki pok⟩
    refine⟨fun fu σ H'=>∃ (ms:List (PyData × Addr)) (cs:List Cp) (outs:List Piece) (zs:List V) (u1 u2 u3 u4 u5 u6:Option V),σ = [some (.ref pp),some (.int (most:Nat)),some (.ref tp),some (.ref r),some (.ref pz),u1,u2,u3,u4,u5,u6]/\gZ P w C H' r m d ms/\mX ms cs/\gg ps.length most cs/\(∀ c ∈ cs,c.1 < ps.length/\cB xs c.2)/\H' pz=some (.lst zs)/\aZ H' zs (outs.map cb)/\fk (aX ps) most ps fu cs outs=cF ps most/\fu+outs.length=most+ps.length/\outs.length<=cs.length/\H' tp=some (.tup (vN hs))/\ah H H',⟨most+ps.length,[(d0,ka)],[gi ps],[],[],_,_,_,_,_,_,rfl,A3,cc2,⟨by simp,Nat.le_trans (List.length_filter_le _ _) hm1⟩,(fun c hc=>by rw [List.mem_singleton.mp hc];exact c0ok),hz3,.nil,rfl,rfl,Nat.zero_le _,htp3,s3⟩,?_⟩
    clear A2 A3 hz3 s3 q3 htp3 cc2 cd0 npz htp2 s2
    rintro fu σ H4 ⟨ms,cs,outs,zs,u1,u2,u3,u4,u5,u6,rfl,A4,cc4,lZ,hcs,hz4,rz4,hloop,hfu,hoc,htp4,s4⟩
    obtain⟨dx4,hob4⟩:=A4.ob
    have hzl:zs.length=outs.length:=by have:=rz4.len;rw [List.length_map] at this;exact this
    have hml:ms.length=cs.length:=by have:=Paired.length cc4;rw [List.length_map] at this;exact this
    have hml':(ms.map fun p=>V.ref p.2).length=ms.length:=List.length_map ..
    have hcn:=lZ.len fun c hc=>(hcs c hc).1
    refine⟨_,rfl,pz,_,rfl,.inl (aI.of hz4),_,rfl,r,C,dx4,_,_,rfl,hob4,T.cl,T.members,gW,m,_,rfl,.inl (aI.of A4.mem),_,_,rfl,rfl,_,rfl,?_⟩
    refine cM (fun hc=>?_) (fun hc=>?_)
    · have hlt:outs.length < ms.length:=by have:=of_decide_eq_true hc;omega
      obtain⟨fu,rfl⟩:∃ f',fu=f' + 1:=⟨fu - 1,by omega⟩
      have hmsi:ms[outs.length]? = some ms[outs.length]:=by simp [hlt]
      generalize ms[outs.length] = pm at hmsi
      obtain⟨c,hci,cd⟩:=fO cc4 (i:=outs.length) (x:=pm.1) (by rw [List.getElem?_map,hmsi];rfl)
      have hcm:=List.mem_of_getElem? hci
      obtain⟨hcl,hct⟩:=hcs c hcm
      have hps:ps[c.1]? = some ps[c.1]:=by simp [hcl]
      generalize ps[c.1] = pce at hps
      rw [kj hci hps] at hloop
      obtain⟨ds,e⟩:=pce
      obtain⟨p',xs',pc,da,ea,ws,ep,e1',el',hx',e2,e3,r3,e4⟩:=ff hp hps
      cases ep
      rw [e1] at e1'
      cases e1'
      have dok:=pok.gQ _ (List.mem_of_getElem? hps)
      have eok:=pok.ends _ (List.mem_of_getElem? hps)
      obtain⟨fd,hfd,epm⟩:=id cd
      have rdm:=(A4.keys pm (List.mem_of_getElem? hmsi)).2
      rw [epm] at rdm
      obtain⟨pa,pvs,ere,hpm,rpv⟩:=aV.bX rdm
      cases ere
      obtain⟨y1,t1,rfl,q1,rpv⟩:=rpv.cons_inv
      obtain⟨y2,t2,rfl,q2,rpv⟩:=rpv.cons_inv
      have z:=rpv.nil_inv
      subst z
      rw [q1.int_inv] at hpm
      have fv2:FV H4 y2 c.2:=hfd.fv q2
      refine⟨_,fun σ' H' h=>⟨fu,Nat.lt_succ_self fu,h⟩,?_⟩
      refine⟨_,rfl,r,C,dx4,_,_,rfl,hob4,T.cl,T.members,gW,_,rfl,pz,_,rfl,.inl (aI.of hz4),m,_,_,_,rfl,rfl,aI.of A4.mem,bL (j:=zs.length) (by rw [hzl,List.getElem?_map,hmsi];rfl),pm.2,_,rfl,ay.of hpm,rfl,_,_,rfl,_,_,rfl,rfl,?_⟩
      refine⟨_,rfl,_,rfl,pp,_,_,_,rfl,rfl,ay.of (s4 _ _ e1),bL hx',pc,_,rfl,ay.of (s4 _ _ e2),rfl,_,_,rfl,_,_,rfl,rfl,?_⟩
      have bok:=hct.pL dok.2
      refine⟨_,rfl,_,rfl,y2,da,ws,ds,c.2,10,rfl,fv2,s4 _ _ e3,r3.same s4 (bK ds),(fun ss hs nd=>Nat.le_trans (hct.cD ss hs nd) hx10),(by have:ds.length<=6:=dok.1;omega),fun gv H5 g5 s5=>⟨_,rfl,gv,ea,bB c.2 ds,e,rfl,g5,s5 _ _ (s4 _ _ e4),(fun ss hs nd=>Nat.le_trans (bok.cD ss hs nd) (by omega)),fun at_ vs2 H6 hat pv s6=>?_⟩⟩
      have lok:=pM bok eok
      obtain⟨hll,hl2⟩:=jr (e:=e) bok
      have s46:=s5.trans s6
      have A6:=A4.mv cc4.hV (fun c o h _=>s46 c o h) (fun p zs h=>s46 _ _ h)
      have hz6:=s46 _ _ hz4
      have htp6:=s46 _ _ htp4
      have hvl:vs2.length=(cH (bB c.2 ds) e).length:=Paired.length pv
      generalize hls:cH (bB c.2 ds) e=ls at hloop lok hll hl2 pv hvl
      refine⟨_,rfl,at_,rfl,⟨_,ay.of hat⟩,fun acc na=>?_⟩
      have nam:acc ≠ m:=(aw A6.mem na).symm
      have nad:acc ≠ d:=(aw A6.lQ na).symm
      have nar:acc ≠ r:=by obtain⟨dx,h⟩:=A6.ob;exact (aw h na).symm
      have kb:∀ {H':Hp},j9 m d H6 H'->∀ p zs,H6 p=some (.tup zs)->H' p=some (.tup zs):=fun b p zs h=>b p _ h (bg h A6.mem (by intro z;cases z)) (bg h A6.lQ (by intro z;cases z))
      refine nX (K:=K) (a:=at_) (xs:=vs2) (fun i ys τ H'=>∃ (cv:Option V) (ms':List (PyData × Addr)),τ = [cv,some (.ref r),some (.ref tp),some (.int (most:Nat))]/\gZ P w C H' r m d ms'/\mX ms' (aT (aX ps) most cs (ls.take i)).1/\ys=vN (aT (aX ps) most cs (ls.take i)).2/\H' acc=some (.lst ys)/\j9 m d H6 H') ?_ ?_ ?_ ?_
      · have qn:=ah.new (o:=.lst []) na
        exact⟨none,ms,rfl,A6.mv cc4.hV (fun c o h _=>qn c o h) (fun p zs h=>qn _ _ h),cc4,rfl,ae,j9.of_same qn⟩
      · rintro i ys τ H7 hi ⟨cv,ms',rfl,A7,cc7,rfl,ha,b7⟩
        refine⟨ay.of (kb b7 _ _ hat),ha,bh ?_⟩
        obtain⟨_,_,hlen,_⟩:=fP (tops:=aX ps) (ls:=ls.take i) (ns:=[]) lZ hcs fun c hc=>lok c (List.mem_of_mem_take hc)
        rw [List.length_map]
        unfold aT
        rw [hlen,List.length_take]
        show 0+_<=_
        omega
      · rintro i y ys τ H7 hi ⟨cv,ms',rfl,A7,cc7,rfl,ha,b7⟩
        obtain⟨pr,hpr,qa,u,rfl,hq,fvu⟩:=fO pv hi
        obtain⟨k,U⟩:=pr
        obtain⟨hkl,hUok⟩:=lok _ (List.mem_of_getElem? hpr)
        obtain⟨cok7,hcs7,_,_⟩:=fP (tops:=aX ps) (ls:=ls.take i) (ns:=[]) lZ hcs fun c hc=>lok c (List.mem_of_mem_take hc)
        have hcn7:=gg.len cok7 fun c hc=>(hcs7 c hc).1
        have hml7:ms'.length=(aT (aX ps) most cs (ls.take i)).1.length:=by have:=Paired.length cc7;rw [List.length_map] at this;exact this
        have hnx:=mW (aX ps) most (cs:=cs) hpr
        have fvu7:=fvu.aJ (kb b7)
        obtain⟨fdu,hfdu,ru⟩:=fvu7.fd
        have hq7:=kb b7 _ _ hq
        have cdl:CD (k,U) (.tuple [.int (k:Nat),fdu]):=⟨fdu,hfdu,rfl⟩
        obtain⟨dx7,hob7⟩:=A7.ob
        have htp7:=kb b7 _ _ htp6
        refine cu ?_
        refine jj ?_
        refine bJ ?_
        refine⟨_,rfl,r,dx7,_,rfl,hob7,sg,_,rfl,_,rfl,_,rfl,r,C,dx7,_,_,rfl,hob7,T.cl,T.places,iF,_,rfl,qa,tp,d,most,k,U,_,hs,u,ms',_,aX ps,rfl,hq7,.tup hq7 (.cons (.int _) (.cons ru .nil)),cdl,hUok.lay nok,htp7,hhs,A7.lQ,A7.jJ,cc7,fun a d' H8 rd' cd' s8=>?_⟩
        have A8:=A7.mv cc7.hV (fun c o h _=>s8 c o h) (fun p zs h=>s8 _ _ h)
        have hcpok:cB xs (bp (aX ps) most (aT (aX ps) most cs (ls.take i)).1 (k,U)).2:=by
          unfold bp
          split
          · exact cB.zero
          · split
            · exact hUok
            · exact cB.zero
        refine⟨r,m,d,a,d',ms',rfl,A8,(by rw [hml7];unfold aT;omega),cd'.key (hcpok.lay nok),rd',cd'.hV,cc7.hV,fun H9 A9 b9=>?_⟩
        have ha9:=b9 _ _ (s8 _ _ ha) nam nad
        have cc9:=mX.put (a:=a) cc7 cd'
        have eix:=(cd'.mem cc9).2
        rw [eix]
        refine⟨ha9,_,ke ms' d' a,rfl,?_,?_,?_,ae,fun c' o h c1 c2=>?_⟩
        · refine A9.mv cc9.hV (fun x o h z=>?_) (fun p zs h=>by rw [au (bg h ha9 (by intro z;cases z))];exact h)
          rw [au ?_]
          · exact h
          · rcases z with rfl | rfl | rfl
            · exact nar.symm
            · exact nam.symm
            · exact nad.symm
        · rw [hnx];exact cc9
        · rw [hnx]
          show _=((aT (aX ps) most cs (ls.take i)).2 ++ [_]).map _
          rw [List.map_append]
          rfl
        · rw [au (aw h na)]
          exact b9 c' o (s8 _ _ (b7 c' o h c1 c2)) c1 c2
      rintro ys τ H7 ⟨cv,ms',rfl,A7,cc7,rfl,ha,b7⟩
      rw [hvl,List.take_length] at cc7 ha
      obtain⟨cok7,hcs7,hlen7,more,emore⟩:=fP (tops:=aX ps) (ls:=ls) (ns:=[]) lZ hcs lok
      have hcn7:=gg.len cok7 fun c hc=>(hcs7 c hc).1
      have s7:ah H H7:=fun c o h=>b7 c o (s46 c o (s4 c o h)) (aw h nm) (aw h nd)
      have hz7:H7 pz=some (.lst zs):=b7 _ _ hz6 npm npd
      have hlen7':(aT (aX ps) most cs ls).2.length=ls.length:=by unfold aT;rw [hlen7];show 0+_=_;omega
      refine⟨_,rfl,.inl ⟨rfl,_,aI.of hz7⟩,_,rfl,_,rfl,_,rfl,ea,acc,e,(aT (aX ps) most cs ls).2,rfl,s7 _ _ e4,ha,(by rw [hlen7'];exact hll),(by rw [hlen7'];exact hl2),fun t3 H8 ht3 s8=>⟨ln2,fun t4 nt4=>?_⟩⟩
      have q4:=ah.new (o:=.tup [.ref da,.ref t3]) nt4
      have s79:=s8.trans q4
      have ht9:=q4 _ _ ht3
      have h49:(upd H8 t4 (.tup [.ref da,.ref t3])) t4=some (.tup [.ref da,.ref t3]):=ae
      generalize (upd H8 t4 (.tup [.ref da,.ref t3]))=H9 at q4 s79 ht9 h49
      have hz9:=s79 _ _ hz7
      refine⟨pz,_,_,rfl,rfl,hz9,bh (by omega),?_⟩
      have kt:∀ p xs,H9 p=some (.tup xs)->(upd H9 pz (.lst (zs ++ [.ref t4]))) p=some (.tup xs):=fun p xs h=>by rw [au (bg h hz9 (by intro z;cases z))];exact h
      have s9:=s7.trans s79
      have kt49:∀ p xs,H4 p=some (.tup xs)->(upd H9 pz (.lst (zs ++ [.ref t4]))) p=some (.tup xs):=fun p xs h=>kt _ _ (s79 _ _ (kb b7 _ _ (s46 _ _ h)))
      refine⟨ms',(aT (aX ps) most cs ls).1,outs ++ [(ds,iP e (aT (aX ps) most cs ls).2)],_,_,_,_,_,_,_,rfl,A7.mv cc7.hV (fun x o h z=>?_) (fun p zs h=>kt _ _ (s79 _ _ h)),cc7,cok7,hcs7,ae,?_,hloop,(by rw [List.length_append];show fu+(_+1)=_;omega),?_,kt49 _ _ htp4,s9.put npzH⟩
      · rw [au ?_]
        · exact s79 _ _ h
        · rcases z with rfl | rfl | rfl
          · exact npr.symm
          · exact npm.symm
          · exact npd.symm
      · rw [List.map_append]
        have rd4:aV H9 (.ref t4) (cb (ds,iP e (aT (aX ps) most cs ls).2)):=.tup h49 (.cons (.tup (s9 _ _ e3) (r3.same s9 (bK ds))) (.cons (wQ ht9) .nil))
        exact aZ.app (rz4.aJ kt49 (aW outs)) (rd4.aJ kt (fJ _))
      · have:(aT (aX ps) most cs ls).1.length=cs.length+more.length:=by unfold aT;rw [emore,List.length_append]
        rw [this,List.length_append]
        show _+1<=_
        omega
    · have hnl:¬ outs.length < ms.length:=fun z=>hc (decide_eq_true (by omega))
      rw [lV (List.getElem?_eq_none (by omega))] at hloop
      rw [<-hloop] at q
      refine⟨_,rfl,pz,_,rfl,.inl ⟨aI.of hz4,fun t1 n1=>?_⟩⟩
      have q1:=ah.new (o:=.tup zs) n1
      refine⟨_,rfl,r,C,dx4,_,_,rfl,q1 _ _ hob4,T.cl,T.members,gW,m,_,rfl,.inl ⟨aI.of (q1 _ _ A4.mem),fun t2 n2=>⟨ln2,fun t3 n3=>?_⟩⟩⟩
      have q2:=ah.new (o:=.tup (ms.map fun p=>V.ref p.2)) n2
      have q3:=ah.new (o:=.tup [.ref t1,.ref t2]) n3
      have q13:=(q1.trans q2).trans q3
      refine q (.ref t3) (ms.map (·.1)) _ cc4 (.tup ae (.cons (.tup (q3 _ _ (q2 _ _ ae)) (rz4.same q13 (aW outs))) (.cons (.tup (q3 _ _ ae) (ux fun p hp=>(A4.keys p hp).2.same q13 (cc4.hV p hp))) .nil))) (s4.trans q13)
theorem vy {f:Addr} {fd:FuncData} (F:bZ K "_law_bag" "_law_bag" gJ f fd) (Z:Bl mg)  : bG P w K mg base bT 1 f fd ["script", "k"] (uR K):=by
 refine F.ok (k:=0) ky (fun vs H Q E h=>?_) (fun cdv A outer s H vs Q E hr h=>?_)
 ·obtain⟨a,ns,k,rfl,_⟩:=h
  rfl
 ·obtain⟨a,ns,k,rfl,hS,hk,q⟩:=h
  refine⟨_,(ai (aG (i:=2) ky.nd rfl (Or.inl rfl) ao)
   (ai (bu (aH gN (pv 1) (bD bE rfl Z.len cG (aa (pv 0) af)) (aQ _))
   (ar (aG (i:=2) ky.nd rfl (Or.inl rfl) (bw iy (aK bN (pv 0) (pv 1) (fun _ _=>rfl)) (bw zu (bw nR ao ao) (bw nR ao ao)))))
   aM)
   (ai (bu (aH gN (pv 2) (bw nR ao ao) (aQ _))
   (ar (aF (bS (aa ao (aa (bw cK ao (bw iy (bw cK (bw jL (pv 2) ao) (bw jL ao (pv 1))) ao)) af)))))
   aM)
   (ar (aF (bS (aa (pv 2) (aa (bw cK ao (bw iy (bw cK (pv 2) (pv 1)) ao)) af)))))))),?_⟩
  refine⟨_,rfl,_,rfl,_,_,rfl,.inl hS,_,_,rfl,rfl,_,rfl,?_⟩
  refine cM (fun hc=>?_) (fun hc=>?_)
  ·have hl:k < ((ns.map V.int).length:Nat):=of_decide_eq_true hc
   obtain⟨v,hv,hm⟩:=qO hk hl
   obtain⟨z,_,rfl⟩:=List.mem_map.mp hm
   refine⟨_,rfl,_,rfl,_,_,_,_,rfl,rfl,hS,hv,10,60,rfl,rfl,⟨by decide,by decide,by decide⟩,10,60,rfl,rfl,⟨by decide,by decide,by decide⟩,_,_,rfl,rfl,(by unfold IntMulOk;decide +kernel),_,_,rfl,rfl,(show (0:Int) < 10 ^ (60:Int).toNat * 10 ^ (60:Int).toNat by decide +kernel),?_⟩
   refine⟨_,rfl,10,18,rfl,rfl,⟨by decide,by decide,by decide⟩,_,_,rfl,rfl,_,rfl,?_⟩
   refine cM (fun hd=>?_) (fun hd=>?_)
   ·refine⟨_,rfl,_,_,rfl,rfl,.inr ⟨by decide,by decide⟩,_,rfl,_,_,rfl,rfl,.inl ⟨by decide,by decide⟩,_,_,rfl,rfl,_,_,rfl,rfl,(show (0:Int) < 2147483646 by decide),_,_,rfl,rfl,ln2,fun p hp=>?_⟩
    exact q p _ hp ⟨_,_,ae,by omega,by omega⟩ (ah.new hp)
   ·refine⟨_,rfl,_,rfl,_,rfl,_,_,rfl,rfl,_,_,rfl,rfl,(show (0:Int) < 2147483646 by decide),_,_,rfl,rfl,ln2,fun p hp=>?_⟩
    exact q p _ hp ⟨_,_,ae,by omega,by omega⟩ (ah.new hp)
  ·refine⟨_,rfl,10,18,rfl,rfl,⟨by decide,by decide,by decide⟩,_,_,rfl,rfl,_,rfl,?_⟩
   refine cM (fun hd=>?_) (fun hd=>?_)
   ·refine⟨_,rfl,_,_,rfl,rfl,.inr ⟨by decide,by decide⟩,_,rfl,_,_,rfl,rfl,.inl ⟨by decide,by decide⟩,_,_,rfl,rfl,_,_,rfl,rfl,(show (0:Int) < 2147483646 by decide),_,_,rfl,rfl,ln2,fun p hp=>?_⟩
    exact q p _ hp ⟨_,_,ae,by omega,by omega⟩ (ah.new hp)
   ·refine⟨_,rfl,_,rfl,_,rfl,_,_,rfl,rfl,_,_,rfl,rfl,(show (0:Int) < 2147483646 by decide),_,_,rfl,rfl,ln2,fun p hp=>?_⟩
    exact q p _ hp ⟨_,_,ae,by omega,by omega⟩ (ah.new hp)
theorem tK {f:Addr} {fd:FuncData} (F:bZ K "_law_take" "_law_take" fW f fd) (Z:Bl mg)  : bG P w K mg base bT 1 f fd ["bag", "many"] iD:=by
 refine F.ok (k:=0) m3 (fun vs H Q E h=>?_) (fun cdv A outer s H vs Q E hr h=>?_)
 ·obtain⟨b,m,rfl,_⟩:=h
  rfl
 ·obtain⟨b,m,rfl,⟨x,y,hb,h0,h1⟩,hm,q⟩:=h
  refine⟨_,(ai (bu (aH me (aK bN (pv 0) ao (fun _ _=>rfl)) ao (aQ _))
   (ai (aG (i:=2) m3.nd rfl (Or.inl rfl) (bw iy (aK bN (pv 0) ao (fun _ _=>rfl)) (pv 1)))
   (ai (dA (bw xH (aK bN (pv 0) ao (fun _ _=>rfl)) (pv 1)) (nQ (pv 0) ao set_list))
   (ar (aF (pv 2)))))
   aM)
   (ai (dA (bw iy (bw jL (aK bN (pv 0) ao (fun _ _=>rfl)) ao) ao) (nQ (pv 0) ao set_list))
   (ar (aF (bw iy (bw tY (bw iy (bw jL (aK bN (pv 0) ao (fun _ _=>rfl)) (aK bN (pv 0) ao (fun _ _=>rfl))) ao) ao) (pv 1)))))),?_⟩
  refine⟨_,rfl,b,_,0,_,rfl,rfl,aI.of hb,cm,_,_,rfl,rfl,_,rfl,?_⟩
  refine cM (fun hc=>?_) (fun hc=>?_)
  ·refine⟨_,rfl,b,_,0,_,rfl,rfl,aI.of hb,cm,_,rfl,_,_,rfl,rfl,hm.1,?_⟩
   refine⟨_,rfl,b,_,0,_,rfl,rfl,aI.of hb,cm,_,rfl,_,_,rfl,rfl,hm,_,rfl,b,_,0,0,rfl,rfl,hb,rfl,?_⟩
   refine⟨_,rfl,?_⟩
   exact q _ _ (Int.emod_nonneg _ (by have:=hm.1;omega)) (Int.emod_lt_of_pos _ hm.1) ⟨_,_,ae,h0,h1⟩ Fix.yU
  ·refine⟨_,rfl,b,_,1,_,rfl,rfl,aI.of hb,cZ,_,_,rfl,rfl,.inr ⟨by decide,by decide⟩,_,_,rfl,rfl,(show (0:Int) < 2147483647 by decide),_,rfl,b,_,1,1,rfl,rfl,hb,rfl,?_⟩
   refine⟨_,rfl,b,_,1,_,rfl,rfl,aI.of ae,cZ,_,rfl,b,_,1,_,rfl,rfl,aI.of ae,cZ,_,_,rfl,rfl,.inl ⟨by omega,by omega⟩,_,_,rfl,rfl,(show (0:Int) < 2147483629 by decide),_,_,rfl,rfl,⟨by decide,by decide⟩,_,rfl,_,_,rfl,rfl,hm.1,?_⟩
   exact q _ _ (Int.emod_nonneg _ (by have:=hm.1;omega)) (Int.emod_lt_of_pos _ hm.1) ⟨_,_,ae,by omega,by omega⟩ Fix.yU
theorem sT {f:Addr} {fd:FuncData} (F:bZ K "_law_names" "_law_names" fA f fd) (Z:Bl mg) (O_law_take:Own P w K mg base "_law_take" 1 ["bag", "many"] iD):bG P w K mg base bT 2 f fd ["bag"] o1:=by
  refine F.ok (k:=1) dm (fun vs H Q E h=>?_) (fun cdv A outer s H vs Q E hr h=>?_)
  · obtain⟨b,rfl,_⟩:=h
    rfl
  · obtain⟨b,rfl,hB,q⟩:=h
    refine⟨_,(ai (aG (i:=1) dm.nd rfl (Or.inr rfl) bH)
      (ai (aG (i:=2) dm.nd rfl (Or.inl rfl) (bw cK ao (aB O_law_take (hr.mono (by decide)) rfl (aa (pv 0) (aa ao af)))))
      (ai (j0 (i:=3) ["k"] ["letters", "bag"] [1,0] rfl dm.nd rfl rfl rfl (fH rfl Z.range (aa (bw cK ao (aB O_law_take (hr.mono (by decide)) rfl (aa (pv 0) (aa ao af)))) af)) rfl (by decide +kernel) (by decide +kernel) (by decide +kernel) ⟨⟨rfl,.inl rfl,rfl⟩,⟨⟨rfl,.inl rfl,rfl⟩,True.intro⟩⟩ (fun _ _ _ _=>(aC (i:=0) (show ((["k"]:List Str)++(["letters", "bag"]:List Str)).Nodup by decide +kernel) rfl (Or.inl rfl) (hf:=Or.inr rfl))) (fun _ _ _ _=>eR) (fun _ _ _ _=>(aK rp (pv 1) (aB O_law_take (hr.mono (by decide)) rfl (aa (pv 2) (aa ao af))) (fun _ _=>rfl))))
      (ai (aG (i:=4) dm.nd rfl (Or.inl rfl) (aB O_law_take (hr.mono (by decide)) rfl (aa (pv 0) (aa (bD bE rfl Z.len cG (aa (pv 3) af)) af))))
      (ai (aG (i:=5) dm.nd rfl (Or.inl rfl) (bS af))
      (ai (cO PassesOwn.never rfl (fH rfl Z.range (aa (pv 2) af)) (aC (i:=6) dm.nd rfl (Or.inl rfl))
      (ai (aG (i:=7) dm.nd rfl (Or.inl rfl) (bx kW rfl Z.list ub (aa (pv 3) af)))
      (ai (dA (aK rp (pv 1) (aB O_law_take (hr.mono (by decide)) rfl (aa (pv 0) (aa ao af))) (fun _ _=>rfl)) (nQ (pv 7) (pv 4) set_list))
      (ar (bu (aH kU (eM PySem.F.plainAttrs_str PySem.F.slot_str_join PySem.F.type_str_join ue bH (aa (pv 7) af)) (pv 5) (by with_unfolding_all rfl))
      (ar (cX (eM PySem.F.plainAttrs_list PySem.F.slot_list_append PySem.F.type_list_append cY (pv 5) (aa (eM PySem.F.plainAttrs_str PySem.F.slot_str_join PySem.F.type_str_join ue bH (aa (pv 7) af)) af))))
      aM)))))
      (ar (aF (pv 5))))))))),?_⟩
    refine⟨_,rfl,b,4,rfl,hB,⟨by decide,by decide +kernel⟩,fun m H1 m0 m1 B1 X1=>⟨_,_,rfl,rfl,?_⟩⟩
    refine⟨_,rfl,b,8,rfl,B1,⟨by decide,by decide +kernel⟩,fun k H2 k0 k1 B2 X2=>⟨_,_,rfl,rfl,_,rfl,(by omega),(by omega),fun acc na=>?_⟩⟩
    refine j1 (lo:=0) (fun i ys τ H'=>∃ (v:Option V) (cs:List Nat),τ = [v,some (.str n4),some (.ref b)]/\ys=(cs.map one).map V.str/\cs.length=i/\(∀ c ∈ cs,97<=c/\c<=122)/\H' acc=some (.lst ys)/\dB H' b/\Fix b H2 H') ?_ ?_ ?_ ?_
    · exact⟨none,[],rfl,rfl,rfl,(fun _ h=>nomatch h),ae,B2.new na,Fix.new na⟩
    · rintro i ys τ H' hi ⟨v,cs,rfl,rfl,hl,_,ha,_⟩
      refine⟨ha,?_⟩
      rw [List.length_map,List.length_map]
      exact bh (by omega)
    · rintro i ys τ H' hi ⟨v,cs,rfl,rfl,hl,hc,ha,B',X'⟩
      refine cu ?_
      refine jj ?_
      refine bJ ?_
      refine⟨_,rfl,_,rfl,b,26,rfl,B',⟨by decide,by decide +kernel⟩,fun r H3 r0 r1 B3 X3=>?_⟩
      obtain⟨c,hat,c0,c1⟩:=vZ r0 r1
      have hab:acc ≠ b:=B2.eB na
      have ha3:=X3 acc _ ha hab
      refine⟨n4,r,c,rfl,rfl,uf,hat,ha3,_,cs ++ [c],rfl,?_,?_,?_,ae,?_,?_⟩
      · rw [List.map_append,List.map_append];rfl
      · rw [List.length_append,hl];rfl
      · intro d hd
        rcases List.mem_append.mp hd with hd | hd
        · exact hc d hd
        · rw [List.mem_singleton.mp hd];exact⟨c0,c1⟩
      · obtain⟨x,y,e,z⟩:=B3
        exact⟨x,y,by rw [au hab.symm];exact e,z⟩
      · intro d o hd nd
        rw [au (aw hd na)]
        exact (X'.trans X3) d o hd nd
    · rintro ys τ H3 ⟨v,cs,rfl,rfl,hl,hc,ha,B3,X3⟩
      have hab:acc ≠ b:=B2.eB na
      have hl1:1<=cs.length:=by omega
      have hl8:cs.length<=8:=by omega
      have F3:Fix b H H3:=(X1.trans X2).trans X3
      have el:(((cs.map one).map V.str).length:Int)=cs.length:=by simp
      refine⟨_,rfl,_,rfl,acc,_,rfl,.inl (aI.of ha),b,_,rfl,B3,⟨by omega,jO (by omega) (by omega)⟩,fun at_ H4 t0 t1 B4 X4=>?_⟩
      refine⟨(by show 0<=sizeLine;decide),fun nl nn=>?_⟩
      have hnb:nl ≠ b:=B4.eB nn
      have ha4:H4 acc=some (.lst ((cs.map one).map V.str)):=X4 acc _ ha hab
      have hna:nl ≠ acc:=fun z=>by rw [z,ha4] at nn;cases nn
      have F4:Fix b H H4:=F3.trans X4
      refine⟨_,rfl,_,rfl,(by omega),(by omega),kQ (lo:=0) (fun i σ H'=>∃ (u1 u2:Option V) (xs:List Str),σ = [some (.ref b),some (.str n4),some (.int (1+m)),some (.ref acc),some (.int at_),some (.ref nl),u1,u2] /\
        H' nl=some (.lst (xs.map V.str))/\xs.length<=i/\(0 < i->xs ≠ [])/\(∀ x ∈ xs,dC x)/\H' acc=some (.lst ((cs.map one).map V.str))/\dB H' b/\Fix b H H') ?_ ?_ ?_⟩
      · exact⟨_,_,[],rfl,ae,Nat.le_refl _,(fun h=>absurd h (Nat.lt_irrefl _)),(fun _ h=>nomatch h),(by rw [au hna.symm];exact ha4),B4.new nn,F4.trans (Fix.new nn)⟩
      · rintro i σ H' hi ⟨u1,u2,xs,rfl,hn,hx,hx0,aN,ha',B',X'⟩
        refine⟨_,rfl,acc,_,rfl,.inl (aI.of ha'),fun nm mm=>?_⟩
        have nmb:nm ≠ b:=B'.eB mm
        have nma:nm ≠ acc:=fun z=>by rw [z,ha'] at mm;cases mm
        have nmn:nm ≠ nl:=fun z=>by rw [z,hn] at mm;cases mm
        refine⟨_,rfl,_,rfl,b,26,rfl,B'.new mm,⟨by decide,by decide +kernel⟩,fun r H5 r0 r1 B5 X5=>?_⟩
        obtain⟨c,hat,c0,c1⟩:=vZ r0 r1
        have h5:H5 nm=some (.lst ((cs.map one).map V.str)):=X5 nm _ ae nmb
        have hn5:H5 nl=some (.lst (xs.map V.str)):=X5 nl _ (by rw [au nmn.symm];exact hn) hnb
        have ha5:H5 acc=some (.lst ((cs.map one).map V.str)):=X5 acc _ (by rw [au nma.symm];exact ha') hab
        obtain⟨j,rfl⟩:∃ j:Nat,at_=j:=⟨at_.toNat,by omega⟩
        have hj:j < cs.length:=by omega
        have hix:nU ((cs.map one).map V.str).length (j:Int)=some j:=by
          unfold nU
          rw [if_pos (by omega),if_pos (by rw [el];omega)]
          simp
        refine⟨n4,r,c,rfl,rfl,uf,hat,_,rfl,_,rfl,nm,_,(j:Int),j,rfl,rfl,h5,hix,?_⟩
        have eset:((cs.map one).map V.str).set j (.str ⟨#[c]⟩)=((cs.set j c).map one).map V.str:=by
          rw [List.map_set,List.map_set];rfl
        rw [eset]
        have hc':∀ d ∈ cs.set j c,97<=d/\d<=122:=fun d hd=>by
          rcases List.mem_or_eq_of_mem_set hd with hd | hd
          · exact hc d hd
          · rw [hd];exact⟨c0,c1⟩
        have hjl:(((cs.set j c).map one).map (·.length)).sum+((cs.set j c).map one).length * (Str.ofString "").length<=16777216:=by
          have e1:(Str.ofString "").length=0:=by decide +kernel
          have e2:∀ l:List Nat,((l.map one).map (·.length)).sum=l.length:=by
            intro l
            induction l with
            | nil=>rfl
            | cons a l ih=>simp only [List.map_cons,List.sum_cons,ih,List.length_cons];show 1+l.length=_;omega
          rw [e1,e2,List.length_set]
          omega
        have nk:dC (Txt.join (Str.ofString "") ((cs.set j c).map one)):=by
          rw [xI]
          have ej:=L2.join_ones (cs.set j c)
          have eL:(Txt.join Str.empty ((cs.set j c).map one)).length=(cs.set j c).length:=by
            have:=congrArg List.length ej
            rw [Array.length_toList] at this
            exact this
          refine⟨?_,?_,?_⟩
          · rw [eL,List.length_set];exact hl1
          · rw [eL,List.length_set];exact hl8
          · rw [ej];exact hc'
        have n6:upd H5 nm (.lst (((cs.set j c).map one).map V.str)) nl=some (.lst (xs.map V.str)):=by rw [au nmn.symm];exact hn5
        have a6:upd H5 nm (.lst (((cs.set j c).map one).map V.str)) acc=some (.lst ((cs.map one).map V.str)):=by rw [au nma.symm];exact ha5
        have B6:dB (upd H5 nm (.lst (((cs.set j c).map one).map V.str))) b:=by
          obtain⟨x,y,e,z⟩:=B5
          exact⟨x,y,by rw [au nmb.symm];exact e,z⟩
        have F6:Fix b H (upd H5 nm (.lst (((cs.set j c).map one).map V.str))):=fun d o hd nd=>by
          have h1:=X' d o hd nd
          have nd':d ≠ nm:=fun z=>by rw [z,mm] at h1;cases h1
          rw [au nd']
          exact X5 d o (by rw [au nd'];exact h1) nd
        have flat:(xs.map V.str).all ir=true:=by
          rw [List.all_eq_true]
          intro v hv
          obtain⟨x,_,rfl⟩:=List.mem_map.mp hv
          rfl
        refine⟨rfl,_,rfl,_,nm,_,rfl,rfl,aI.of ae,hjl,_,rfl,nl,_,rfl,.inl (aI.of n6),rfl,flat,_,rfl,?_⟩
        refine cM (fun hin=>?_) (fun hin=>?_)
        · refine⟨_,rfl,.inl ⟨rfl,_,aI.of n6⟩,rfl,_,rfl,_,nm,_,rfl,rfl,aI.of ae,hjl,nl,_,_,rfl,rfl,n6,?_,?_⟩
          · rw [List.length_map]
            have:i < 4:=by omega
            exact bh (by omega)
          · refine⟨_,_,xs ++ [_],rfl,(by rw [ae,List.map_append];rfl),(by rw [List.length_append];exact Nat.succ_le_succ hx),(fun _=>by simp),?_,(by rw [au hna.symm];exact a6),?_,?_⟩
            · intro x hxm
              rcases List.mem_append.mp hxm with hxm | hxm
              · exact aN x hxm
              · rw [List.mem_singleton.mp hxm];exact nk
            · obtain⟨x,y,e,z⟩:=B6
              exact⟨x,y,by rw [au hnb.symm];exact e,z⟩
            · intro d o hd nd
              have h1:=F6 d o hd nd
              have nd':d ≠ nl:=fun z=>by
                have h2:=F4 d o hd nd
                rw [z,nn] at h2
                cases h2
              rw [au nd']
              exact h1
        · have hx':xs ≠ []:=by
            intro e
            subst e
            exact hin rfl
          exact⟨_,_,xs,rfl,n6,Nat.le_succ_of_le hx,fun _=>hx',aN,a6,B6,F6⟩
      · rintro σ H' ⟨u1,u2,xs,rfl,hn,hx,hx0,aN,ha',B',X'⟩
        refine⟨_,rfl,?_⟩
        have hm:(1+m).toNat<=4:=by omega
        have hm0:0 < (1+m).toNat:=by omega
        exact q nl xs H' ⟨hn,hnb,hx0 hm0,by omega,aN⟩ (Nat.le_trans hx hm) B' X'
theorem qH {f:Addr} {fd:FuncData} (F:bZ K "_law_number" "_law_number" eX f fd) (Z:Bl mg) (O_law_take:Own P w K mg base "_law_take" 1 ["bag", "many"] iD):bG P w K mg base bT 2 f fd ["bag"] j3:=by
  refine F.ok (k:=1) qE (fun vs H Q E h=>?_) (fun cdv A outer s H vs Q E hr h=>?_)
  · obtain⟨b,rfl,_⟩:=h
    rfl
  · obtain⟨b,rfl,hB,q⟩:=h
    refine⟨_,(ai (bu (aH cg (aB O_law_take (hr.mono (by decide)) rfl (aa (pv 0) (aa ao af))) ao (aQ _))
      (ar (aF (bw jL (bw fI (bw fI (bw nR ao ao) ao) (aB O_law_take (hr.mono (by decide)) rfl (aa (pv 0) (aa ao af)))) (bw fI ao (bw jL ao (aB O_law_take (hr.mono (by decide)) rfl (aa (pv 0) (aa ao af))))))))
      aM)
      (ar (aF (bw fI (aB O_law_take (hr.mono (by decide)) rfl (aa (pv 0) (aa ao af))) ao)))),?_⟩
    refine⟨_,rfl,b,8,rfl,hB,⟨by decide,by decide +kernel⟩,fun r H1 r0 r1 B1 X1=>⟨rfl,_,rfl,?_⟩⟩
    refine cM (fun hc=>?_) (fun hc=>?_)
    · refine⟨10,40,rfl,rfl,⟨by decide,by decide,by decide⟩,_,_,rfl,rfl,?_⟩
      refine⟨_,rfl,b,3,rfl,B1,⟨by decide,by decide +kernel⟩,fun r2 H2 r20 r21 B2 X2=>⟨_,_,rfl,rfl,?_⟩⟩
      refine⟨_,rfl,b,2,rfl,B2,⟨by decide,by decide +kernel⟩,fun r3 H3 r30 r31 B3 X3=>?_⟩
      refine⟨_,_,rfl,rfl,.inl ⟨by decide,by decide⟩,_,_,rfl,rfl,_,_,rfl,rfl,.inr ⟨by omega,by omega⟩,?_⟩
      refine q _ H3 ?_ B3 ((X1.trans X2).trans X3)
      have e:(10:Int) ^ (40:Int).toNat=10 ^ 40:=by decide +kernel
      rw [e]
      obtain rfl | rfl:r3=0\/r3=1:=by omega
      · rw [show (1:Int) - 2 * 0=1 by decide,Int.mul_one];unfold j2;omega
      · rw [show (1:Int) - 2 * 1 = -1 by decide,Int.mul_neg,Int.mul_one];unfold j2;omega
    · refine⟨_,rfl,b,8,rfl,B1,⟨by decide,by decide +kernel⟩,fun r2 H2 r20 r21 B2 X2=>⟨_,_,rfl,rfl,?_⟩⟩
      exact q _ H2 (by unfold j2;omega) B2 (X1.trans X2)
theorem tL {f:Addr} {fd:FuncData} (F:bZ K "_law_deed" "_law_deed" fX f fd) (Z:Bl mg) (O_law_take:Own P w K mg base "_law_take" 1 ["bag", "many"] iD) (O_law_number:Own P w K mg base "_law_number" 2 ["bag"] j3):bG P w K mg base bT 3 f fd ["bag", "names"] nY:=by
  refine F.ok (k:=2) jG (fun vs H Q E h=>?_) (fun cdv A outer s H vs Q E hr h=>?_)
  · obtain⟨b,l,xs,rfl,_⟩:=h
    rfl
  · obtain⟨b,l,xs,rfl,hB,hN,q⟩:=h
    refine⟨_,(ai (aG (i:=2) jG.nd rfl (Or.inl rfl) (aK bN (bS (aa bH (aa bH (aa bH (aa bH (aa bH (aa bH (aa bH af)))))))) (aB O_law_take (hr.mono (by decide)) rfl (aa (pv 0) (aa ao af))) (fun _ _=>rfl)))
      (ai (aG (i:=3) jG.nd rfl (Or.inl rfl) (aK bN (pv 1) (aB O_law_take (hr.mono (by decide)) rfl (aa (pv 0) (aa (bD bE rfl Z.len cG (aa (pv 1) af)) af))) (fun _ _=>rfl)))
      (ai (bu (aH cg (pv 2) bH (aQ _))
      (ar (aF (aU (aa (pv 2) (aa (pv 3) (aa (aK bN (pv 1) (aB O_law_take (hr.mono (by decide)) rfl (aa (pv 0) (aa (bD bE rfl Z.len cG (aa (pv 1) af)) af))) (fun _ _=>rfl)) af))))))
      aM)
      (ai (bu (PW.pt (uz (aH cg (pv 2) bH (aQ _)) (rg (aH cg (pv 2) bH (aQ _)))))
      (ar (aF (aU (aa (pv 2) (aa (pv 3) (aa (aB O_law_number (hr.mono (by decide)) rfl (aa (pv 0) af)) af))))))
      aM)
      (ar (aF (aU (aa (pv 2) (aa (pv 3) af))))))))),?_⟩
    refine⟨CP,fun l0 m0=>?_⟩
    refine⟨_,rfl,b,7,rfl,hB.new m0,⟨by decide,by decide +kernel⟩,fun r H1 r0 r1 B1 X1=>?_⟩
    have h0:H1 l0=some (.lst [.str "put",.str "copy",.str "add",.str "read",.str "tell",.str "tell",.str "add"]):=X1 l0 _ ae (hB.eB m0)
    have F1:Fix b H H1:=(Fix.new m0).trans X1
    have N1:=hN.fix F1
    have hw:∃ w:Str,(w = "put" \/ w = "copy" \/ w = "add" \/ w = "read" \/ w = "tell")/\e7 [V.str "put",.str "copy",.str "add",.str "read",.str "tell",.str "tell",.str "add"] r=some (V.str w):=by
      obtain rfl | rfl | rfl | rfl | rfl | rfl | rfl:r=0\/r=1\/r=2\/r=3\/r=4\/r=5\/r=6:=by omega
      · exact⟨_,.inl rfl,bL (j:=0) rfl⟩
      · exact⟨_,.inr (.inl rfl),bL (j:=1) rfl⟩
      · exact⟨_,.inr (.inr (.inl rfl)),bL (j:=2) rfl⟩
      · exact⟨_,.inr (.inr (.inr (.inl rfl))),bL (j:=3) rfl⟩
      · exact⟨_,.inr (.inr (.inr (.inr rfl))),bL (j:=4) rfl⟩
      · exact⟨_,.inr (.inr (.inr (.inr rfl))),bL (j:=5) rfl⟩
      · exact⟨_,.inr (.inr (.inl rfl)),bL (j:=6) rfl⟩
    obtain⟨w,hw,hat⟩:=hw
    refine⟨l0,_,r,_,rfl,rfl,aI.of h0,hat,?_⟩
    obtain⟨p0,p1⟩:=N1.pos
    refine⟨_,rfl,_,rfl,_,rfl,l,_,rfl,.inl (aI.of N1.at_),b,_,rfl,B1,⟨p0,jO p0 p1⟩,fun r2 H2 r20 r21 B2 X2=>?_⟩
    have N2:=N1.fix X2
    obtain⟨x,hx,hxm⟩:=nc r20 r21
    refine⟨l,_,r2,_,rfl,rfl,aI.of N2.at_,hx,?_⟩
    refine⟨_,rfl,rfl,_,rfl,?_⟩
    rcases hw with rfl | rfl | rfl | rfl | rfl
    ·
      rw [show decide (V.str "put" = V.str "copy")=false by decide +kernel]
      refine bI ⟨_,rfl,rfl,_,rfl,?_⟩
      rw [show decide (V.str "put" = V.str "put")=true by decide +kernel]
      refine bJ (bJ ⟨_,rfl,_,rfl,_,rfl,b,rfl,B2,fun n H3 nk B3 X3=>⟨rC,fun t mt=>?_⟩⟩)
      exact q _ (.put x n) _ (.tup ae (.cons (.str _) (.cons (.str _) (.cons (.int _) .nil)))) ⟨hxm,nk⟩ (B3.new mt) (((F1.trans X2).trans X3).trans (Fix.new mt))
    ·
      rw [show decide (V.str "copy" = V.str "copy")=true by decide +kernel]
      obtain⟨p0,p1⟩:=N2.pos
      refine bJ ⟨_,rfl,_,rfl,_,rfl,_,rfl,_,rfl,l,_,rfl,.inl (aI.of N2.at_),b,_,rfl,B2,⟨p0,jO p0 p1⟩,fun r3 H3 r30 r31 B3 X3=>?_⟩
      have N3:=N2.fix X3
      obtain⟨y,hy,hym⟩:=nc r30 r31
      refine⟨l,_,r3,_,rfl,rfl,aI.of N3.at_,hy,rC,fun t mt=>?_⟩
      exact q _ (.copy x y) _ (.tup ae (.cons (.str _) (.cons (.str _) (.cons (.str _) .nil)))) ⟨hxm,hym⟩ (B3.new mt) (((F1.trans X2).trans X3).trans (Fix.new mt))
    ·
      rw [show decide (V.str "add" = V.str "copy")=false by decide +kernel]
      refine bI ⟨_,rfl,rfl,_,rfl,?_⟩
      rw [show decide (V.str "add" = V.str "put")=false by decide +kernel]
      refine bI ⟨_,rfl,rfl,_,rfl,?_⟩
      rw [show decide (V.str "add" = V.str "add")=true by decide +kernel]
      refine bJ ⟨_,rfl,_,rfl,_,rfl,b,rfl,B2,fun n H3 nk B3 X3=>⟨rC,fun t mt=>?_⟩⟩
      exact q _ (.add x n) _ (.tup ae (.cons (.str _) (.cons (.str _) (.cons (.int _) .nil)))) ⟨hxm,nk⟩ (B3.new mt) (((F1.trans X2).trans X3).trans (Fix.new mt))
    ·
      rw [show decide (V.str "read" = V.str "copy")=false by decide +kernel]
      refine bI ⟨_,rfl,rfl,_,rfl,?_⟩
      rw [show decide (V.str "read" = V.str "put")=false by decide +kernel]
      refine bI ⟨_,rfl,rfl,_,rfl,?_⟩
      rw [show decide (V.str "read" = V.str "add")=false by decide +kernel]
      refine bI ⟨_,rfl,_,rfl,ln2,fun t mt=>?_⟩
      exact q _ (.read x) _ (.tup ae (.cons (.str _) (.cons (.str _) .nil))) hxm (B2.new mt) ((F1.trans X2).trans (Fix.new mt))
    ·
      rw [show decide (V.str "tell" = V.str "copy")=false by decide +kernel]
      refine bI ⟨_,rfl,rfl,_,rfl,?_⟩
      rw [show decide (V.str "tell" = V.str "put")=false by decide +kernel]
      refine bI ⟨_,rfl,rfl,_,rfl,?_⟩
      rw [show decide (V.str "tell" = V.str "add")=false by decide +kernel]
      refine bI ⟨_,rfl,_,rfl,ln2,fun t mt=>?_⟩
      exact q _ (.tell x) _ (.tup ae (.cons (.str _) (.cons (.str _) .nil))) hxm (B2.new mt) ((F1.trans X2).trans (Fix.new mt))
theorem vz {f:Addr} {fd:FuncData} (F:bZ K "_law_end" "_law_end" gK f fd) (Z:Bl mg) (O_law_take:Own P w K mg base "_law_take" 1 ["bag", "many"] iD) (O_law_number:Own P w K mg base "_law_number" 2 ["bag"] j3):bG P w K mg base bT 3 f fd ["bag", "names", "count"] nZ:=by
  refine F.ok (k:=2) iY (fun vs H Q E h=>?_) (fun cdv A outer s H vs Q E hr h=>?_)
  · obtain⟨b,l,xs,c,rfl,_⟩:=h
    rfl
  · obtain⟨b,l,xs,c,rfl,hB,hN,c0,c1,q⟩:=h
    refine⟨_,(ai (aG (i:=3) iY.nd rfl (Or.inl rfl) (aB O_law_take (hr.mono (by decide)) rfl (aa (pv 0) (aa ao af))))
      (ai (bu (aH cg (pv 3) ao (aQ _))
      (ar (aF (aU (aa bH af))))
      aM)
      (ai (bu (aH gN (pv 3) ao (aQ _))
      (ar (aF (aU (aa bH (aa (aB O_law_take (hr.mono (by decide)) rfl (aa (pv 0) (aa (pv 2) af))) af)))))
      aM)
      (ai (aG (i:=4) iY.nd rfl (Or.inl rfl) (aK bN (bS (aa bH (aa bH af))) (bw tY (aB O_law_take (hr.mono (by decide)) rfl (aa (pv 0) (aa ao af))) ao) (fun _ _=>rfl)))
      (ai (aG (i:=5) iY.nd rfl (Or.inl rfl) (aK bN (pv 1) (aB O_law_take (hr.mono (by decide)) rfl (aa (pv 0) (aa (bD bE rfl Z.len cG (aa (pv 1) af)) af))) (fun _ _=>rfl)))
      (ar (aF (aU (aa (pv 4) (aa (pv 5) (aa (aB O_law_number (hr.mono (by decide)) rfl (aa (pv 0) af)) (aa (aB O_law_take (hr.mono (by decide)) rfl (aa (pv 0) (aa (pv 2) af))) (aa (aB O_law_take (hr.mono (by decide)) rfl (aa (pv 0) (aa (pv 2) af))) af))))))))))))),?_⟩
    have ck:(0:Int) < (c:Int)/\(c:Int).natAbs.log2 < 9000:=⟨by omega,jO (by omega) (by omega)⟩
    refine⟨_,rfl,b,9,rfl,hB,⟨by decide,by decide +kernel⟩,fun r H1 r0 r1 B1 X1=>?_⟩
    refine⟨_,rfl,rfl,_,rfl,?_⟩
    refine cM (fun hc=>?_) (fun hc=>?_)
    · refine⟨rB,fun t mt=>?_⟩
      exact q _ .stop _ (.tup ae (.cons (.str _) .nil)) True.intro (B1.new mt) (X1.trans (Fix.new mt))
    refine⟨_,rfl,_,_,rfl,rfl,_,rfl,?_⟩
    refine cM (fun hd=>?_) (fun hd=>?_)
    · refine⟨_,rfl,_,rfl,b,_,rfl,B1,ck,fun p H2 p0 p1 B2 X2=>⟨ln2,fun t mt=>?_⟩⟩
      obtain⟨k,rfl⟩:∃ k:Nat,p=k:=⟨p.toNat,by omega⟩
      exact q _ (.go k) _ (.tup ae (.cons (.str _) (.cons (.int _) .nil))) (show k < c by omega) (B2.new mt) ((X1.trans X2).trans (Fix.new mt))
    · refine⟨ln2,fun l0 m0=>?_⟩
      refine⟨_,rfl,b,3,rfl,B1.new m0,⟨by decide,by decide +kernel⟩,fun z H2 z0 z1 B2 X2=>⟨_,_,rfl,rfl,⟨by decide,by decide⟩,?_⟩⟩
      have h0:H2 l0=some (.lst [.str "less",.str "is"]):=X2 l0 _ ae (B1.eB m0)
      have hw:∃ w:Bool,e7 [V.str "less",V.str "is"] (z / 2)=some (V.str (wT w)):=by
        obtain h | h:z / 2=0\/z / 2=1:=by omega
        · rw [h];exact⟨true,cm⟩
        · rw [h];exact⟨false,cZ⟩
      obtain⟨w,hat⟩:=hw
      refine⟨l0,_,_,_,rfl,rfl,aI.of h0,hat,?_⟩
      have F2:Fix b H H2:=(X1.trans (Fix.new m0)).trans X2
      have N2:=hN.fix F2
      obtain⟨p0,p1⟩:=N2.pos
      refine⟨_,rfl,_,rfl,_,rfl,l,_,rfl,.inl (aI.of N2.at_),b,_,rfl,B2,⟨p0,jO p0 p1⟩,fun r3 H3 r30 r31 B3 X3=>?_⟩
      have N3:=N2.fix X3
      obtain⟨x,hx,hxm⟩:=nc r30 r31
      refine⟨l,_,r3,_,rfl,rfl,aI.of N3.at_,hx,?_⟩
      refine⟨_,rfl,_,rfl,_,rfl,b,rfl,B3,fun n H4 nk B4 X4=>?_⟩
      refine⟨_,rfl,_,rfl,b,_,rfl,B4,ck,fun p H5 p0 p1 B5 X5=>?_⟩
      refine⟨_,rfl,_,rfl,b,_,rfl,B5,ck,fun p' H6 p0' p1' B6 X6=>⟨CO,fun t mt=>?_⟩⟩
      obtain⟨k,rfl⟩:∃ k:Nat,p=k:=⟨p.toNat,by omega⟩
      obtain⟨k',rfl⟩:∃ k:Nat,p' = k:=⟨p'.toNat,by omega⟩
      exact q _ (.cC w x n k k') _ (.tup ae (.cons (.str _) (.cons (.str _) (.cons (.int _) (.cons (.int _) (.cons (.int _) .nil)))))) ⟨hxm,nk,by omega,by omega⟩ (B6.new mt) ((((F2.trans X3).trans X4).trans (X5.trans X6)).trans (Fix.new mt))
theorem tM {f:Addr} {fd:FuncData} (F:bZ K "_law_plan" "_law_plan" fY f fd) (Z:Bl mg) (O_law_take:Own P w K mg base "_law_take" 1 ["bag", "many"] iD) (O_law_names:Own P w K mg base "_law_names" 2 ["bag"] o1) (O_law_deed:Own P w K mg base "_law_deed" 3 ["bag", "names"] nY) (O_law_end:Own P w K mg base "_law_end" 3 ["bag", "names", "count"] nZ):bG P w K mg base bT 4 f fd ["bag", "count", "most"] rG:=by
  refine F.ok (k:=3) fB (fun vs H Q E h=>?_) (fun cdv A outer s H vs Q E hr h=>?_)
  · obtain⟨b,c,m,rfl,_⟩:=h
    rfl
  · obtain⟨b,c,m,rfl,hB,c0,c1,hm,q⟩:=h
    refine⟨_,(ai (aG (i:=3) fB.nd rfl (Or.inr rfl) (aB O_law_names (hr.mono (by decide)) rfl (aa (pv 0) af)))
      (ai (aG (i:=4) fB.nd rfl (Or.inl rfl) (bS af))
      (ai (cO PassesOwn.never rfl (fH rfl Z.range (aa (pv 1) af)) (aC (i:=5) fB.nd rfl (Or.inl rfl))
      (ai (aG (i:=6) fB.nd rfl (Or.inl rfl) (aB O_law_take (hr.mono (by decide)) rfl (aa (pv 0) (aa (bw cK (pv 2) ao) af))))
      (ai (aG (i:=7) fB.nd rfl (Or.inl rfl) (aB O_law_end (hr.mono (by decide)) rfl (aa (pv 0) (aa (pv 3) (aa (pv 1) af)))))
      (ar (cX (eM PySem.F.plainAttrs_list PySem.F.slot_list_append PySem.F.type_list_append cY (pv 4) (aa (aU (aa (bx bC rfl Z.tuple bV (aa (eE ["j"] ["bag", "names"] [0,3] rfl (fH rfl Z.range (aa (pv 6) af)) rfl (by decide +kernel) (by decide +kernel) (by decide +kernel) ⟨⟨rfl,.inl rfl,rfl⟩,⟨⟨rfl,.inl rfl,rfl⟩,True.intro⟩⟩ (fun _ _ _ _=>(aC (i:=0) (show ((["j"]:List Str)++(["bag", "names"]:List Str)).Nodup by decide +kernel) rfl (Or.inl rfl) (hf:=Or.inr rfl))) (fun _ _ _ _=>eR) (fun _ _ _ _=>(aB O_law_deed (hr.mono (by decide)) rfl (aa (pv 1) (aa (pv 2) af))))) af)) (aa (pv 7) af))) af)))))))
      (ar (aF (bx bC rfl Z.tuple bV (aa (pv 4) af))))))),?_⟩
    refine⟨_,rfl,b,rfl,hB,fun l xs H1 N1 x4 B1 X1=>?_⟩
    refine⟨(by show 0<=sizeLine;decide),fun pl pn=>?_⟩
    have hpb:pl ≠ b:=B1.eB pn
    refine⟨_,rfl,_,rfl,(by omega),(by omega),kQ (lo:=0) (fun i σ H'=>∃ (u1 u2 u3:Option V) (ps:List Piece) (vs:List V),σ = [some (.ref b),some (.int c),some (.int m),some (.ref l),some (.ref pl),u1,u2,u3] /\
      H' pl=some (.lst vs)/\aZ H' vs (ps.map cb)/\ps.length=i/\(∀ p ∈ ps,(p.1.length<=m/\∀ d ∈ p.1,eS xs d)/\iV xs c p.2)/\eT H' b l xs/\dB H' b/\Fix b H H'/\(∀ d o,H1 d=some o->d ≠ b->H' d=some o)) ?_ ?_ ?_⟩
    · exact⟨_,_,_,[],[],rfl,ae,.nil,rfl,(fun _ h=>nomatch h),N1.fix (Fix.new pn),B1.new pn,X1.trans (Fix.new pn),Fix.new pn⟩
    · rintro i σ H' hi ⟨u1,u2,u3,ps,vs,rfl,hp,hr,hl,aN,N',B',X',Y'⟩
      refine⟨_,rfl,_,rfl,_,_,rfl,rfl,b,_,rfl,B',⟨by omega,jO (by omega) (by omega)⟩,fun k H2 k0 k1 B2 X2=>?_⟩
      have N2:=N'.fix X2
      refine⟨_,rfl,_,rfl,_,rfl,b,l,xs,c,rfl,B2,N2,c0,(by omega),fun ev e H3 re ek B3 X3=>?_⟩
      have N3:=N2.fix X3
      have hp3:H3 pl=some (.lst vs):=(X2.trans X3) pl _ hp hpb
      have hr3:aZ H3 vs (ps.map cb):=hr.fix B' (X2.trans X3) (aW ps)
      refine⟨_,rfl,.inl ⟨rfl,_,aI.of hp3⟩,_,rfl,_,rfl,(by omega),(by omega),fun acc na=>?_⟩
      have hab:acc ≠ b:=B3.eB na
      refine j1 (lo:=0) (fun i ys τ H'=>∃ (v:Option V) (ds:List cL),τ = [v,some (.ref b),some (.ref l)]/\aZ H' ys (ds.map cQ)/\ds.length=i/\(∀ d ∈ ds,eS xs d)/\H' acc=some (.lst ys)/\dB H' b/\Fix b H3 H') ?_ ?_ ?_ ?_
      · exact⟨none,[],rfl,.nil,rfl,(fun _ h=>nomatch h),ae,B3.new na,Fix.new na⟩
      · rintro i' ys τ H4 hi' ⟨v,ds,rfl,rds,hl',_,ha,_⟩
        refine⟨ha,?_⟩
        rw [rds.len,List.length_map]
        exact bh (by omega)
      · rintro i' ys τ H4 hi' ⟨v,ds,rfl,rds,hl',hdk,ha,B4,X4⟩
        refine cu ?_
        refine jj ?_
        refine bJ ?_
        refine⟨_,rfl,_,rfl,b,l,xs,rfl,B4,N3.fix X4,fun dv d H5 rd dk B5 X5=>?_⟩
        have ha5:=X5 acc _ ha hab
        refine⟨ha5,_,ds ++ [d],rfl,?_,(by rw [List.length_append,hl'];rfl),?_,ae,?_,?_⟩
        · rw [List.map_append]
          refine aZ.app ((rds.fix B4 X5 (bK ds)).put ha5 (bK ds)) ?_
          exact rd.aJ (fun p zs e=>by rw [au (bg e ha5 (by intro z;cases z))];exact e) (jC d)
        · intro d' hd
          rcases List.mem_append.mp hd with hd | hd
          · exact hdk d' hd
          · rw [List.mem_singleton.mp hd];exact dk
        · obtain⟨x,y,e,z⟩:=B5
          exact⟨x,y,by rw [au hab.symm];exact e,z⟩
        · intro d' o hd nd
          rw [au (aw hd na)]
          exact (X4.trans X5) d' o hd nd
      · rintro ys τ H4 ⟨v,ds,rfl,rds,hl',hdk,ha,B4,X4⟩
        refine⟨acc,ys,rfl,.inl ⟨aI.of ha,fun tp tn=>?_⟩⟩
        refine⟨_,rfl,ln2,fun pc pcn=>?_⟩
        have S6:ah H4 (upd (upd H4 tp (.tup ys)) pc (.tup [.ref tp,ev])):=(ah.new tn).trans (ah.new pcn)
        have hp6:(upd (upd H4 tp (.tup ys)) pc (.tup [.ref tp,ev])) pl=some (.lst vs):=S6 _ _ (X4 pl _ hp3 hpb)
        refine⟨pl,_,_,rfl,rfl,hp6,?_,?_⟩
        · rw [hr.len,List.length_map,hl]
          exact bh (by omega)
        have hpiece:aV (upd (upd H4 tp (.tup ys)) pc (.tup [.ref tp,ev])) (.ref pc) (cb (ds,e)):=by
          refine .tup ae (.cons (.tup (ah.new pcn _ _ ae) (rds.same S6 (bK ds))) (.cons ?_ .nil))
          exact (re.fix B3 X4 (iW e)).same S6 (iW e)
        have F6:Fix b H (upd (upd H4 tp (.tup ys)) pc (.tup [.ref tp,ev])):=((X'.trans (X2.trans X3)).trans X4).trans (Fix.of_same S6)
        have plH:∀ d o,H1 d=some o->d ≠ b->d ≠ pl:=fun d o hd nd z=>by rw [z,pn] at hd;cases hd
        refine⟨_,_,_,ps ++ [(ds,e)],vs ++ [.ref pc],rfl,ae,?_,(by rw [List.length_append,hl];rfl),?_,?_,?_,?_,?_⟩
        · rw [List.map_append]
          refine aZ.app (((hr3.fix B3 X4 (aW ps)).same S6 (aW ps)).put hp6 (aW ps)) ?_
          exact hpiece.aJ (fun p zs e=>by rw [au (bg e hp6 (by intro z;cases z))];exact e) (fJ (ds,e))
        · intro p hpm
          rcases List.mem_append.mp hpm with hpm | hpm
          · exact aN p hpm
          · rw [List.mem_singleton.mp hpm]
            exact⟨⟨by show ds.length<=m;omega,hdk⟩,ek⟩
        · have hll:l ≠ pl:=fun z=>by
            have:=N1.at_
            rw [z,pn] at this
            cases this
          have N6:=(N3.fix X4).fix (Fix.of_same (b:=b) S6)
          exact⟨by rw [au hll];exact N6.at_,N6.ne,N6.qQ,N6.cD,N6.ok⟩
        · obtain⟨x,y,e',z⟩:=B4.same S6
          exact⟨x,y,by rw [au hpb.symm];exact e',z⟩
        · intro d o hd nd
          have h1:=X1 d o hd nd
          rw [au (plH d o h1 nd)]
          exact F6 d o hd nd
        · intro d o hd nd
          rw [au (plH d o hd nd)]
          exact S6 d o (X4 d o ((X2.trans X3) d o (Y' d o hd nd) nd) nd)
    · rintro σ H' ⟨u1,u2,u3,ps,vs,rfl,hp,hr,hl,aN,N',B',X',Y'⟩
      have hl':ps.length=c:=by rw [hl];omega
      refine⟨_,rfl,pl,_,rfl,.inl ⟨aI.of hp,fun tp tn=>?_⟩⟩
      refine q (.ref tp) xs ps _ (.tup ae (hr.same (ah.new tn) (aW ps))) hl' ⟨fun p hpm=>(aN p hpm).1,fun p hpm=>?_⟩ ⟨N'.ok,x4⟩ (B'.new tn) (X'.trans (Fix.new tn))
      rw [hl']
      exact (aN p hpm).2
theorem nM {f:Addr} {fd:FuncData} (F:bZ K "_law_all_names" "_law_all_names" du f fd) (Z:Bl mg)  : bG P w K mg base bT 1 f fd ["plan"] sC:=by
 refine F.ok (k:=0) dW (fun vs H Q E h=>?_) (fun cdv A outer s H vs Q E hr h=>?_)
 ·obtain⟨plv,ps,xs,m,rfl,_⟩:=h
  rfl
 ·obtain⟨plv,ps,xs,m,rfl,hp,pok,hx64,q⟩:=h
  refine⟨_,(ai (aG (i:=1) dW.nd rfl (Or.inl rfl) ie)
   (ai (cO PassesOwn.never rfl (eu (pv 0)) (cT rfl (aY (aC (i:=2) dW.nd rfl (Or.inl rfl)) (aY (aC (i:=3) dW.nd rfl (Or.inl rfl)) cE)))
   (ai (cO PassesOwn.never rfl (eu (pv 2)) (aC (i:=4) dW.nd rfl (Or.inl rfl))
   (ai (fw (dh hr) (pv 1) (aK bc (pv 4) ao (fun _ _=>rfl)) iT rfl)
   (ar (bu (aH cg (aK bc (pv 4) ao (fun _ _=>rfl)) bH (aQ _))
   (ar (fw (dh hr) (pv 1) (aK bc (pv 4) ao (fun _ _=>rfl)) iT rfl))
   aM))))
   (ar (bu (aH cg (bD bE rfl Z.len cG (aa (pv 3) af)) ao (aQ _))
   (ar (fw (dh hr) (pv 1) (aK bc (pv 3) ao (fun _ _=>rfl)) iT rfl))
   aM))))
   (ar (aF (bD (jl rfl) rfl Z.sorted fb (aa (pv 1) af)))))),?_⟩
  obtain⟨pp,vs,rfl,e1,r⟩:=aV.bX hp
  have hl:=r.len
  refine fun nm nn=>?_
  have s0:=ah.new (o:=.dK []) nn
  have kl:∀ (i:Nat) (ds:List cL) (kvs:List (Key × V)) (ns:List Str),(∀ x ∈ ns,x ∈ xs)->KeysAre kvs ns->kvs.length < sizeLine:=fun i ds kvs ns hn h=>by
   have:=yw hn
   rw [h.len]
   exact bh (by omega)
  refine⟨_,rfl,pp,rfl,⟨_,ay.of (s0 _ _ e1)⟩,ft (K:=K) (a:=pp) (xs:=vs) (fun i σ H'=>∃ (kvs:List (Key × V)) (u1 u2 u3:Option V),σ = [some (.ref pp),some (.ref nm),u1,u2,u3]/\H' nm=some (.dK kvs)/\KeysAre kvs (ba (ps.take i))/\ah H H') ?_ ?_ ?_ ?_⟩
  ·exact⟨[],_,_,_,rfl,ae,rfl,s0⟩
  ·rintro i σ H1 hi ⟨kvs,u1,u2,u3,rfl,h1,k1,s1⟩
   exact ay.of (s1 _ _ e1)
  ·rintro i x σ H1 hi ⟨kvs,u1,u2,u3,rfl,h1,k1,s1⟩
   have hlt:i < ps.length:=by
    have:=(List.getElem?_eq_some_iff.mp hi).1
    rw [hl,List.length_map] at this
    exact this
   have hpi:ps[i]? = some ps[i]:=by simp [hlt]
   generalize ps[i] = pe at hpi
   obtain⟨ds,e⟩:=pe
   have hnext:=jy (f:=pNames) hpi
   have hin:∀ x ∈ ba (ps.take (i+1)),x ∈ xs:=fun x hx=>by
    refine lC pok x ?_
    obtain⟨p,hp',hx'⟩:=List.mem_flatMap.mp hx
    exact List.mem_flatMap.mpr ⟨p,List.mem_of_mem_take hp',hx'⟩
   have hin':∀ y,y ∈ ba (ps.take i)\/y ∈ ds.flatMap bY\/y ∈ gh e->y ∈ xs:=fun y hy=>by
    refine hin y ?_
    unfold ba at hy ⊢
    rw [hnext,List.mem_append]
    unfold pNames at hy ⊢
    rcases hy with h | h
    ·exact .inl h
    ·exact .inr (List.mem_append.mpr h)
   obtain⟨p',xs',pc,da,ea,ws,ep,e1',el',hx',e2,e3,r3,e4⟩:=ff hp hpi
   cases ep
   rw [e1] at e1'
   cases e1'
   rw [hi] at hx'
   cases hx'
   refine⟨pc,_,rfl,ay.of (s1 _ _ e2),rfl,_,_,rfl,_,_,rfl,rfl,?_⟩
   refine⟨_,rfl,da,rfl,⟨_,ay.of (s1 _ _ e3)⟩,ft (K:=K) (a:=da) (xs:=ws) (fun j σ H'=>∃ (kvs:List (Key × V)) (u3:Option V),σ = [some (.ref pp),some (.ref nm),some (.ref da),some (.ref ea),u3]/\H' nm=some (.dK kvs)/\KeysAre kvs (ba (ps.take i)++(ds.take j).flatMap bY)/\ah H H') ?_ ?_ ?_ ?_⟩
   ·exact⟨kvs,_,rfl,h1,by simpa using k1,s1⟩
   ·rintro j σ H2 hj ⟨kvs2,u3',rfl,h2,k2,s2⟩
    exact ay.of (s2 _ _ e3)
   ·rintro j y σ H2 hj ⟨kvs2,u3',rfl,h2,k2,s2⟩
    have hjl:j < ds.length:=by
     have:=(List.getElem?_eq_some_iff.mp hj).1
     rw [r3.len,List.length_map] at this
     exact this
    have hdj:ds[j]? = some ds[j]:=by simp [hjl]
    generalize ds[j] = dd at hdj
    obtain⟨v,hv,rd⟩:=r3.get (i:=j) (d:=cQ dd) (by rw [List.getElem?_map,hdj];rfl)
    rw [hj] at hv
    cases hv
    obtain⟨dp,rfl,hdp⟩:=gy rd
    have hdp2:=s2 _ _ hdp
    have ndp:dp ≠ nm:=bg hdp2 h2 (by intro z;cases z)
    have hnj:=jy (f:=bY) hdj
    have hinj:∀ y ∈ ba (ps.take i)++(ds.take j).flatMap bY,y ∈ xs:=fun y hy=>by
     rcases List.mem_append.mp hy with h | h
     ·exact hin' y (.inl h)
     ·obtain⟨d',hd',h'⟩:=List.mem_flatMap.mp h
      exact hin' y (.inr (.inl (List.mem_flatMap.mpr ⟨d',List.mem_of_mem_take hd',h'⟩)))
    have hmd:∀ y ∈ bY dd,y ∈ xs:=fun y hy=>hin' y (.inr (.inl (List.mem_flatMap.mpr ⟨dd,List.mem_of_getElem? hdj,hy⟩)))
    have e1d:∃ tl,bY dd=fg dd :: tl:=by cases dd <;> exact⟨_,rfl⟩
    refine cu ?_
    refine⟨_,rfl,_,rfl,dp,_,1,_,rfl,rfl,ay.of hdp2,rO dd,nm,_,rfl,gR.k (k:=Sum.inr (fg dd)) h2 (kl i ds _ _ hinj k2),?_⟩
    have k3:=k2.put (fg dd) (.bl true)
    have h3:(upd H2 nm (.dK (putK kvs2 (Sum.inr (fg dd)) (.bl true)))) nm=some (.dK (putK kvs2 (Sum.inr (fg dd)) (.bl true))):=ae
    have hdp3:(upd H2 nm (.dK (putK kvs2 (Sum.inr (fg dd)) (.bl true)))) dp=some (.tup (mq dd)):=by rw [au ndp];exact hdp2
    have s3:ah H (upd H2 nm (.dK (putK kvs2 (Sum.inr (fg dd)) (.bl true)))):=s2.put nn
    generalize (upd H2 nm (.dK (putK kvs2 (Sum.inr (fg dd)) (.bl true))))=H3 at h3 hdp3 s3
    refine⟨_,rfl,dp,_,0,_,rfl,rfl,ay.of hdp3,(by cases dd <;> exact cm:e7 (mq dd) 0=some (V.str (wD dd))),rfl,_,rfl,?_⟩
    have one:bY dd = [fg dd]->KeysAre (putK kvs2 (Sum.inr (fg dd)) (.bl true)) (ba (ps.take i)++(ds.take (j+1)).flatMap bY):=fun e=>by
     rw [hnj,e,<-List.append_assoc];exact k3
    cases dd with
    | put a n=>exact bo (show decide (V.str "put" = V.str "copy")=false by decide +kernel) ⟨_,_,rfl,h3,one rfl,s3⟩
    | add a n=>exact bo (show decide (V.str "add" = V.str "copy")=false by decide +kernel) ⟨_,_,rfl,h3,one rfl,s3⟩
    | read a=>exact bo (show decide (V.str "read" = V.str "copy")=false by decide +kernel) ⟨_,_,rfl,h3,one rfl,s3⟩
    | tell a=>exact bo (show decide (V.str "tell" = V.str "copy")=false by decide +kernel) ⟨_,_,rfl,h3,one rfl,s3⟩
    | copy a c =>
     refine cf (show decide (V.str "copy" = V.str "copy")=true by decide +kernel) ?_
     have hin3:∀ y ∈ (ba (ps.take i)++(ds.take j).flatMap bY) ++ [a],y ∈ xs:=fun y hy=>by
      rcases List.mem_append.mp hy with h | h
      ·exact hinj y h
      ·rw [List.mem_singleton.mp h];exact hmd a (List.mem_cons_self ..)
     refine⟨_,rfl,_,rfl,dp,_,2,_,rfl,rfl,ay.of hdp3,at2,nm,_,rfl,gR.k (k:=Sum.inr c) h3 (kl i ds _ _ hin3 k3),?_⟩
     refine⟨_,_,rfl,ae,?_,s3.put nn⟩
     rw [hnj,show bY (.copy a c) = [a] ++ [c] from rfl,<-List.append_assoc,<-List.append_assoc]
     exact k3.put c (.bl true)
   ·rintro σ H2 ⟨kvs2,u3',rfl,h2,k2,s2⟩
    rw [show ws.length=ds.length by rw [r3.len,List.length_map],List.take_length] at k2
    have e42:=s2 _ _ e4
    refine⟨_,rfl,ea,_,rfl,.inr (ay.of e42),rfl,_,rfl,?_⟩
    have none_:gh e = []->KeysAre kvs2 (ba (ps.take (i+1))):=fun z=>by
     unfold ba at k2 ⊢
     rw [hnext]
     simp only [pNames,z,List.append_nil]
     exact k2
    cases e with
    | stop =>
     refine bo (show decide (V.int ((1:Nat):Int)=V.int 5)=false by decide +kernel) ?_
     exact⟨kvs2,_,_,_,rfl,h2,none_ rfl,s2⟩
    | go q1 =>
     refine bo (show decide (V.int ((2:Nat):Int)=V.int 5)=false by decide +kernel) ?_
     exact⟨kvs2,_,_,_,rfl,h2,none_ rfl,s2⟩
    | cC b x n q1 q2 =>
     refine cf (show decide (V.int ((5:Nat):Int)=V.int 5)=true by decide +kernel) ?_
     have hine:∀ y ∈ ba (ps.take i)++ds.flatMap bY,y ∈ xs:=fun y hy=>by
      rcases List.mem_append.mp hy with h | h
      ·exact hin' y (.inl h)
      ·exact hin' y (.inr (.inl h))
     refine⟨_,rfl,_,rfl,ea,_,1,_,rfl,rfl,ay.of e42,cZ,nm,_,rfl,gR.k (k:=Sum.inr x) h2 (kl i ds _ _ hine k2),?_⟩
     refine⟨_,_,_,_,rfl,ae,?_,s2.put nn⟩
     have k3:=k2.put x (.bl true)
     unfold ba at k3 ⊢
     rw [hnext]
     simp only [pNames,gh]
     rw [<-List.append_assoc]
     exact k3
  ·rintro σ H1 ⟨kvs,u1,u2,u3,rfl,h1,k1,s1⟩
   rw [show vs.length=ps.length by rw [hl,List.length_map],List.take_length] at k1
   have hf:=nq pok
   refine⟨_,rfl,nm,kvs,LS.cw (ba ps),rfl,h1,k1,(by omega),fun l ss hperm hs hn=>?_⟩
   exact q l ss _ ae hperm hs (by rw [hperm.length_eq];omega) (s1.trans (ah.new hn))
theorem tN {f:Addr} {fd:FuncData} (F:bZ K "_law_part" "_law_part" fZ f fd) (Z:Bl mg)  : bG P w K mg base bT 1 f fd ["stretch", "word", "number", "side"] pH:=by
 refine F.ok (k:=0) eI (fun vs H Q E h=>?_) (fun cdv A outer s H vs Q E hr h=>?_)
 ·obtain⟨p,b,n,side,lo,hi,rfl,_⟩:=h
  rfl
 ·obtain⟨p,b,n,side,lo,hi,rfl,hp,le,q⟩:=h
  refine⟨_,(ai (dA (pv 0) (cT rfl (aY (aC (i:=4) eI.nd rfl (Or.inl rfl)) (aY (aC (i:=5) eI.nd rfl (Or.inl rfl)) cE))))
   (ai (eC (bu (aH cg (pv 1) bH (aQ _))
   (ar (bu (kN (pv 3))
   (ar (aG (i:=5) eI.nd rfl (Or.inl rfl) (aK bN (bS (aa (pv 5) (aa (bw fI (pv 2) ao) af))) (bx iA rfl Z.int kX (aa (qK (nP (gM (pv 5))) (jK (gx uD (pv 5) (pv 2) (aQ _)))) af)) (fun _ _=>rfl))))
   (ar (aG (i:=4) eI.nd rfl (Or.inl rfl) (aK bN (bS (aa (pv 4) (aa (pv 2) af))) (bx iA rfl Z.int kX (aa (qK (nP (gM (pv 4))) (jK (gx gN (pv 4) (pv 2) (aQ _)))) af)) (fun _ _=>rfl))))))
   (ar (bu (kN (pv 3))
   (ai (bu (PW.pt (uz (PW.pt (iw (dP (fo (pv 4))) (hX (aH gN (pv 2) (pv 4) (aQ _))))) (rg (PW.pt (iw (dP (fo (pv 5))) (hX (aH me (pv 2) (pv 5) (aQ _))))))))
   (ar (aF cJ))
   aM)
   (ar (aF (aU (aa (pv 2) (aa (pv 2) af))))))
   (ai (bu (aH cg (pv 4) (pv 2) (aQ _))
   (ar (aG (i:=4) eI.nd rfl (Or.inl rfl) (bw cK (pv 2) ao)))
   aM)
   (ar (bu (aH cg (pv 5) (pv 2) (aQ _))
   (ar (aG (i:=5) eI.nd rfl (Or.inl rfl) (bw fI (pv 2) ao)))
   aM)))))))
   (ai (bu (PW.pt (iw (dP (fo (pv 4))) (iw (dP (fo (pv 5))) (hX (aH me (pv 4) (pv 5) (aQ _))))))
   (ar (aF cJ))
   aM)
   (ar (aF (aU (aa (pv 4) (aa (pv 5) af)))))))),?_⟩
  refine⟨_,rfl,p,_,rfl,ay.of hp,rfl,_,_,rfl,_,_,rfl,rfl,?_⟩
  refine⟨fun σ' H'=>∃ lo' hi':Option Int,σ' = [some (.ref p),some (.str (wT b)),some (.int n),some (.bl side),some (vO lo'),some (vO hi')]/\nE lo' hi' = di (wT b) lo hi n side/\ah H H',?_,?_⟩
  ·refine⟨_,rfl,rfl,_,rfl,?_⟩
   cases b with
   | true =>
    have ew:(wT true:Str) = "less" := rfl
    refine cf (show decide (V.str (wT true)=V.str "less")=true by decide +kernel) ?_
    refine⟨_,rfl,_,rfl,?_⟩
    cases side with
    | true =>
     have ep:∀ hi',some (iJ hi n)=hi'->nE lo hi' = di (wT true) lo hi n true:=fun hi' e=>by
      rw [<-e,wY];simp only [di,ew,if_pos,j5]
     refine bJ ?_
     refine⟨_,rfl,_,rfl,_,_,rfl,rfl,ln2,fun l hl=>?_⟩
     cases hi with
     | none =>
      refine⟨_,rfl,_,rfl,bJ (.inr ⟨_,rfl,?_⟩)⟩
      exact⟨l,_,_,_,rfl,rfl,aI.of ae,cZ,lo,some (n - 1),rfl,ep _ rfl,ah.new hl⟩
     | some h =>
      refine⟨_,rfl,_,rfl,bI ⟨_,rfl,_,rfl,_,_,rfl,rfl,.inr ⟨_,rfl,?_⟩⟩⟩
      have key:∀ bb:Bool,e7 [vO (some h),V.int (n - 1)] (if bb=true then 1 else 0)=some (vO (if bb=true then some (n - 1) else some h)):=fun bb=>by
       cases bb
       ·exact cm
       ·exact cZ
      refine⟨l,_,_,_,rfl,rfl,aI.of ae,key _,lo,_,rfl,ep _ ?_,ah.new hl⟩
      simp only [iJ]
      by_cases hc:n<=h
      ·rw [if_pos (by omega),if_pos (decide_eq_true hc)]
      ·rw [if_neg (by omega),if_neg (fun z=>hc (of_decide_eq_true z))]
    | false =>
     have ep:∀ lo',some (iK lo n)=lo'->nE lo' hi=di (wT true) lo hi n false:=fun lo' e=>by
      rw [<-e,yu];simp only [di,ew,if_pos,j5,Bool.false_eq_true,if_false]
     refine bI ?_
     refine⟨_,rfl,_,rfl,ln2,fun l hl=>?_⟩
     cases lo with
     | none =>
      refine⟨_,rfl,_,rfl,bJ (.inr ⟨_,rfl,?_⟩)⟩
      exact⟨l,_,_,_,rfl,rfl,aI.of ae,cZ,some n,hi,rfl,ep _ rfl,ah.new hl⟩
     | some a =>
      refine⟨_,rfl,_,rfl,bI ⟨_,rfl,_,rfl,_,_,rfl,rfl,.inr ⟨_,rfl,?_⟩⟩⟩
      have key:∀ bb:Bool,e7 [vO (some a),V.int n] (if bb=true then 1 else 0)=some (vO (if bb=true then some n else some a)):=fun bb=>by
       cases bb
       ·exact cm
       ·exact cZ
      refine⟨l,_,_,_,rfl,rfl,aI.of ae,key _,_,hi,rfl,ep _ ?_,ah.new hl⟩
      simp only [iK]
      by_cases hc:a < n
      ·rw [if_pos (by omega),if_pos (decide_eq_true hc)]
      ·rw [if_neg (by omega),if_neg (fun z=>hc (of_decide_eq_true z))]
   | false =>
    have ew:¬ (wT false:Str) = "less" := by decide +kernel
    refine bo (show decide (V.str (wT false)=V.str "less")=false by decide +kernel) ?_
    refine⟨_,rfl,_,rfl,?_⟩
    cases side with
    | true =>
     refine bJ ?_
     have eq_:di (wT false) lo hi n true=jQ lo hi n:=by simp only [di,if_neg ew,rM,if_true]
     rw [eq_] at q
     have yes:eO n lo hi=true->∀ t,RV (upd H t (.tup [.int n,.int n])) (.ref t) (jQ lo hi n):=fun h t=>by
      unfold jQ;rw [if_pos h];exact⟨t,rfl,ae⟩
     have no:eO n lo hi=false->RV H .bf (jQ lo hi n):=fun h=>by
      unfold jQ;rw [if_neg (by rw [h];decide)];rfl
     have fin:eO n lo hi=true->_:=fun h=>(show Ah (Au (uK (oR 2) (uK (oR 2) xA))) ⟨fun _ _=>False,Q,fun _ _=>False,fun _ _=>False⟩ [some (.ref p),some (.str (wT false)),some (.int n),some (.bl true),some (vO lo),some (vO hi)] H from ⟨_,rfl,_,rfl,ln2,fun t nt=>q _ _ (yes h t) (ah.new nt)⟩)
     cases lo with
     | none =>
      cases hi with
      | none =>
       refine⟨_,rfl,_,rfl,bI ⟨_,rfl,_,rfl,bI (bI ?_)⟩⟩
       exact⟨_,rfl,_,rfl,ln2,fun t nt=>q _ _ (yes rfl t) (ah.new nt)⟩
      | some h =>
       refine⟨_,rfl,_,rfl,bI ⟨_,rfl,_,rfl,bJ ⟨_,rfl,_,rfl,_,_,rfl,rfl,_,rfl,?_⟩⟩⟩
       refine cM (fun hc=>?_) (fun hc=>?_)
       ·refine q _ _ (no ?_) (ah.refl H)
        have:h < n:=of_decide_eq_true hc
        simp [eO];omega
       ·refine⟨_,rfl,_,rfl,ln2,fun t nt=>q _ _ (yes ?_ t) (ah.new nt)⟩
        have:¬ h < n:=fun z=>hc (decide_eq_true z)
        simp [eO];omega
     | some a =>
      refine⟨_,rfl,_,rfl,bJ ⟨_,rfl,_,rfl,_,_,rfl,rfl,_,rfl,?_⟩⟩
      refine cM (fun hc=>?_) (fun hc=>?_)
      ·refine q _ _ (no ?_) (ah.refl H)
       have:n < a:=of_decide_eq_true hc
       cases hi <;> simp [eO] <;> omega
      ·have hna:¬ n < a:=fun z=>hc (decide_eq_true z)
       cases hi with
       | none =>
        refine⟨_,rfl,_,rfl,bI (bI ?_)⟩
        refine⟨_,rfl,_,rfl,ln2,fun t nt=>q _ _ (yes ?_ t) (ah.new nt)⟩
        simp [eO];omega
       | some h =>
        refine⟨_,rfl,_,rfl,bJ ⟨_,rfl,_,rfl,_,_,rfl,rfl,_,rfl,?_⟩⟩
        refine cM (fun hc=>?_) (fun hc=>?_)
        ·refine q _ _ (no ?_) (ah.refl H)
         have:h < n:=of_decide_eq_true hc
         simp [eO];omega
        ·refine⟨_,rfl,_,rfl,ln2,fun t nt=>q _ _ (yes ?_ t) (ah.new nt)⟩
         have:¬ h < n:=fun z=>hc (decide_eq_true z)
         simp [eO];omega
    | false =>
     refine bI ?_
     have ep:nE (if lo=some n then some (n+1) else lo) (if hi=some n then some (n - 1) else hi)=di (wT false) lo hi n false:=by
      rw [zR le];simp only [di,if_neg ew,rM,Bool.false_eq_true,if_false]
     refine⟨_,rfl,_,rfl,iE,_,rfl,?_⟩
     rw [jv]
     refine cM (fun hc=>?_) (fun hc=>?_)
     ·have h1:lo=some n:=of_decide_eq_true hc
      rw [if_pos h1] at ep
      refine⟨_,rfl,_,_,rfl,rfl,?_⟩
      refine⟨_,rfl,_,rfl,iE,_,rfl,?_⟩
      rw [jv]
      refine cM (fun hd=>?_) (fun hd=>?_)
      ·rw [if_pos (of_decide_eq_true hd)] at ep
       exact⟨_,rfl,_,_,rfl,rfl,_,_,rfl,ep,ah.refl H⟩
      ·rw [if_neg (fun z=>hd (decide_eq_true z))] at ep
       exact⟨_,_,rfl,ep,ah.refl H⟩
     ·rw [if_neg (fun z=>hc (decide_eq_true z))] at ep
      refine⟨_,rfl,_,rfl,iE,_,rfl,?_⟩
      rw [jv]
      refine cM (fun hd=>?_) (fun hd=>?_)
      ·rw [if_pos (of_decide_eq_true hd)] at ep
       exact⟨_,rfl,_,_,rfl,rfl,_,_,rfl,ep,ah.refl H⟩
      ·rw [if_neg (fun z=>hd (decide_eq_true z))] at ep
       exact⟨_,_,rfl,ep,ah.refl H⟩
  rintro σ' H1 ⟨lo',hi',rfl,ec,s1⟩
  rw [<-ec] at q
  cases lo' with
  | none =>
   refine⟨_,rfl,_,rfl,bI (bI ?_)⟩
   exact⟨_,rfl,_,rfl,ln2,fun t nt=>q _ _ (by cases hi' <;> exact⟨t,rfl,ae⟩) (s1.trans (ah.new nt))⟩
  | some a =>
   cases hi' with
   | none =>
    refine⟨_,rfl,_,rfl,bJ ⟨_,rfl,_,rfl,bI (bI ?_)⟩⟩
    exact⟨_,rfl,_,rfl,ln2,fun t nt=>q _ _ ⟨t,rfl,ae⟩ (s1.trans (ah.new nt))⟩
   | some h =>
    refine⟨_,rfl,_,rfl,bJ ⟨_,rfl,_,rfl,bJ ⟨_,rfl,_,rfl,_,_,rfl,rfl,_,rfl,?_⟩⟩⟩
    refine cM (fun hc=>?_) (fun hc=>?_)
    ·have:h < a:=of_decide_eq_true hc
     exact q _ _ (by show RV H1 .bf (if h < a then none else _);rw [if_pos this];rfl) s1
    ·have:¬ h < a:=fun z=>hc (decide_eq_true z)
     exact⟨_,rfl,_,rfl,ln2,fun t nt=>q _ _ (by show RV _ (.ref t) (if h < a then none else _);rw [if_neg this];exact⟨t,rfl,ae⟩) (s1.trans (ah.new nt))⟩
theorem tO {f:Addr} {fd:FuncData} (F:bZ K "_law_with" "_law_with" gc f fd) (Z:Bl mg)  : bG P w K mg base bT 1 f fd ["facts", "name", "stretch"] mC:=by
 refine F.ok (k:=0) jH (fun vs H Q E h=>?_) (fun cdv A outer s H vs Q E hr h=>?_)
 ·obtain⟨d,T,m,x,sv,s,rfl,_⟩:=h
  rfl
 ·obtain⟨d,T,m,x,sv,s,rfl,lt,hm,sh,q⟩:=h
  refine⟨_,(ai (aG (i:=3) jH.nd rfl (Or.inl rfl) ie)
   (ai (eC (zP PassesOwn.never rfl (pv 0) (aC (i:=4) jH.nd rfl (Or.inl rfl))
   (ar (fw (dh hr) (pv 3) (pv 4) (mn (dh hr) (pv 0) (pv 4) (fun _ _=>rfl)) rfl))))
   (ai (eC (cX (xP (pv 3) (pv 1) cJ ⟨rfl,rfl,rfl,rfl⟩)))
   (ai (bu (aH (vY hr.units) (pv 2) (aU (aa cJ (aa cJ af))) (aQ _))
   (ar (fw (dh hr) (pv 3) (pv 1) (pv 2) rfl))
   aM)
   (ar (aF (pv 3))))))),?_⟩
  obtain⟨kvs,ks,hd,tb,cl,hl⟩:=lt
  have kl:kvs.length=ks.length:=by have:=congrArg List.length tb.keys;simpa using this
  have ndk:(kvs.map (·.1)).Nodup:=by
   rw [tb.keys]
   exact List.Pairwise.map _ (fun a b n z=>n (Sum.inr.inj z)) tb.nd
  refine fun md nmd=>?_
  have ndm:d ≠ md:=aw hd nmd
  refine⟨fun σ' H'=>∃ u:Option V,σ' = [some (.ref d),some (.str x),some sv,some (.ref md),u]/\H' md=some (.dK kvs)/\ah H H',?_,?_⟩
  ·refine⟨_,rfl,d,kvs,rfl,(by rw [au ndm];exact hd),fun ob=>⟨fun j τ H2=>∃ u:Option V,τ = [some (.ref d),some (.str x),some sv,some (.ref md),u]/\H2 d=some (.eJ ob (.dK kvs))/\H2 md=some (.dK (kvs.take j))/\∀ c o,H c=some o->c ≠ d->H2 c=some o,?_,?_,?_,?_⟩⟩
   ·refine⟨none,rfl,ae,by rw [au ndm.symm,ae];rfl,fun c o e n=>?_⟩
    rw [au n,au (aw e nmd)]
    exact e
   ·rintro j τ H2 ⟨u,_,h,_⟩
    exact h
   ·rintro j k v τ H2 hj ⟨u,rfl,h1,h2,h3⟩
    have hj':j < kvs.length:=(List.getElem?_eq_some_iff.mp hj).1
    refine cu ?_
    have dg:dU H2 d (kV k) (some v):=.inl ⟨kvs,k,.inr ⟨ob,h1⟩,rfl,(xV ndk (List.mem_of_getElem? hj)).symm⟩
    refine⟨_,rfl,_,rfl,d,v,rfl,dg,_,rfl,_,rfl,md,_,rfl,gR.k (k:=k) h2 (bh (by rw [List.length_take];omega)),?_⟩
    refine⟨_,rfl,by rw [au ndm];exact h1,by rw [ae,wW ndk hj],fun c o e n=>?_⟩
    rw [au (aw e nmd)]
    exact h3 c o e n
   ·rintro τ H2 ⟨u,rfl,h1,h2,h3⟩
    refine⟨u,rfl,by rw [au ndm.symm,h2,List.take_length],fun c o e=>?_⟩
    by_cases z:c=d
    ·subst z
     rw [hd] at e
     cases e
     exact ae
    ·rw [au z]
     exact h3 c o e z
  rintro σ' H1 ⟨u,rfl,hmd,s1⟩
  have tb1:Tb 0 H1 kvs ks T:=tb.aJ fun p xs e=>s1 _ _ e
  have sh1:SH H1 sv s:=sh.aJ fun p xs e=>s1 _ _ e
  refine⟨fun σ' H2=>∃ (kvs2:List (Key × V)) (ks2:List Str),σ' = [some (.ref d),some (.str x),some sv,some (.ref md),u]/\H2 md=some (.dK kvs2)/\Tb 0 H2 kvs2 ks2 (cA T x cy)/\(∀ y ∈ ks2,cA T x cy y ≠ cy)/\ks2.length<=m/\ah H H2,
   ⟨_,rfl,md,rfl,.inl ⟨kvs,.inl hmd⟩,_,rfl,kvs,Sum.inr x,hmd,rfl,fun v ev=>?_,fun ev=>?_⟩,?_⟩
  ·refine⟨_,_,rfl,ae,(tb1.drop x).aJ (fun p xs e=>by rw [au (bg e hmd (by intro z;cases z))];exact e),fun y hy=>?_,Nat.le_trans (List.length_filter_le _ _) hl,s1.put nmd⟩
   obtain⟨h1,h2⟩:=List.mem_filter.mp hy
   have hne:y ≠ x:=of_decide_eq_true h2
   unfold cA
   rw [if_neg hne]
   exact cl y h1
  ·have hT:T x=cy:=by
    rcases tb.val x with ⟨_,a,_⟩ | ⟨v,a,_⟩
    ·exact a
    ·rw [ev] at a;cases a
   exact⟨kvs,ks,rfl,hmd,by rw [ql hT];exact tb1,by rw [ql hT];exact cl,hl,s1⟩
  rintro σ' H2 ⟨kvs2,ks2,rfl,hm2,tb2,cl2,hl2,s2⟩
  have kl2:kvs2.length=ks2.length:=by have:=congrArg List.length tb2.keys;simpa using this
  refine⟨_,rfl,ln2,fun t nt=>?_⟩
  have s3:=ah.new (o:=.tup [.bf,.bf]) nt
  have ht:(upd H2 t (.tup [.bf,.bf])) t=some (.tup [.bf,.bf]):=ae
  generalize (upd H2 t (.tup [.bf,.bf]))=H3 at s3 ht
  have sh3:SH H3 sv s:=sh.aJ fun p xs e=>s3 _ _ (s2 _ _ e)
  have tb3:=tb2.aJ (H':=H3) fun p xs e=>s3 _ _ e
  have hm3:=s3 _ _ hm2
  refine⟨dS s,.tuple [.none,.none],sh3.rd,.tup ht (.cons .bf (.cons .bf .nil)),ve s,rfl,(by have:=y8 s;omega),_,rfl,?_⟩
  by_cases hs:s=cy
  ·refine bo (by rw [o9,decide_eq_true hs];rfl) ?_
   subst hs
   exact⟨_,rfl,q md H3 ⟨kvs2,ks2,hm3,tb3,cl2,Nat.le_succ_of_le hl2⟩ (s2.trans s3)⟩
  ·refine cf (by rw [o9,decide_eq_false hs];rfl) ?_
   refine⟨_,rfl,_,rfl,_,rfl,md,_,rfl,gR.k (k:=Sum.inr x) hm3 (bh (by omega)),?_⟩
   obtain⟨ks4,tb4,k4,m4⟩:=tb3.put x (.inl sh3)
   rw [wV] at tb4
   refine⟨_,rfl,q md _ ⟨_,ks4,ae,tb4.aJ (fun p xs e=>by rw [au (bg e hm3 (by intro z;cases z))];exact e),fun y hy=>?_,by omega⟩ ((s2.trans s3).put nmd)⟩
   unfold cA
   by_cases e:y=x
   ·rw [if_pos e];exact hs
   ·rw [if_neg e]
    have h1:=cl2 y (((m4 y).mp hy).elim id fun z=>absurd z e)
    unfold cA at h1
    rw [if_neg e] at h1
    exact h1
theorem qI {f:Addr} {fd:FuncData} (F:bZ K "_law_behind" "_law_behind" eY f fd) (Z:Bl mg) (O_law_with:Own P w K mg base "_law_with" 1 ["facts", "name", "stretch"] mC):bG P w K mg base bT 2 f fd ["facts", "deeds"] sr:=by
 refine F.ok (k:=1) bU (fun vs H Q E h=>?_) (fun cdv A outer s H vs Q E hr h=>?_)
 ·obtain⟨d,p,T,m,ws,ds,rfl,_⟩:=h
  rfl
 ·obtain⟨d,p,T,m,ws,ds,rfl,lt,hp,r,hm,q⟩:=h
  refine⟨_,(ai (cO PassesOwn.never rfl (eu (pv 1)) (aC (i:=2) bU.nd rfl (Or.inl rfl))
   (ai (eC (aG (i:=3) bU.nd rfl (Or.inl rfl) (fK (dh hr) (pv 0) (aK bc (pv 2) ao (fun _ _=>rfl)) (aU (aa cJ (aa cJ af))) ⟨rfl,rfl,rfl,rfl⟩)))
   (ai (bu (aH cg (aK bc (pv 2) ao (fun _ _=>rfl)) bH (aQ _))
   (ar (aG (i:=3) bU.nd rfl (Or.inl rfl) (aU (aa (aK bc (pv 2) ao (fun _ _=>rfl)) (aa (aK bc (pv 2) ao (fun _ _=>rfl)) af)))))
   aM)
   (ai (bu (aH cg (aK bc (pv 2) ao (fun _ _=>rfl)) bH (aQ _))
   (ar (aG (i:=3) bU.nd rfl (Or.inl rfl) (fK (dh hr) (pv 0) (aK bc (pv 2) ao (fun _ _=>rfl)) (aU (aa cJ (aa cJ af))) ⟨rfl,rfl,rfl,rfl⟩)))
   aM)
   (ai (bu (aH cg (aK bc (pv 2) ao (fun _ _=>rfl)) bH (aQ _))
   (ar (aG (i:=3) bU.nd rfl (Or.inl rfl) (aU (aa cJ (aa cJ af)))))
   aM)
   (ai (bu (aH cg (aK bc (pv 2) ao (fun _ _=>rfl)) bH (aQ _))
   (ai (dA (pv 3) (cT rfl (aY (aC (i:=4) bU.nd rfl (Or.inl rfl)) (aY (aC (i:=5) bU.nd rfl (Or.inl rfl)) cE))))
   (ai (eC (bu (dP (fo (pv 4)))
   (ar (aG (i:=4) bU.nd rfl (Or.inl rfl) (bw cK (pv 4) (aK bc (pv 2) ao (fun _ _=>rfl)))))
   aM))
   (ai (eC (bu (dP (fo (pv 5)))
   (ar (aG (i:=5) bU.nd rfl (Or.inl rfl) (bw cK (pv 5) (aK bc (pv 2) ao (fun _ _=>rfl)))))
   aM))
   (ar (aG (i:=3) bU.nd rfl (Or.inl rfl) (aU (aa (pv 4) (aa (pv 5) af))))))))
   aM)
   (ar (aG (i:=0) bU.nd rfl (Or.inl rfl) (aB O_law_with (hr.mono (by decide)) rfl (aa (pv 0) (aa (aK bc (pv 2) ao (fun _ _=>rfl)) (aa (pv 3) af))))))))))))
   (ar (aF (pv 0)))),?_⟩
  refine⟨_,rfl,p,rfl,⟨_,ay.of hp⟩,ft (K:=K) (a:=p) (xs:=ws) (fun i σ H'=>∃ (u0 u1 u2 u3:Option V) (dc:Addr),σ = [some (.ref dc),some (.ref p),u0,u1,u2,u3]/\LT H' dc (bB T (ds.take i)) (m+i)/\ah H H') ?_ ?_ ?_ ?_⟩
  ·exact⟨_,_,_,_,d,rfl,lt,ah.refl H⟩
  ·rintro i σ H1 hi ⟨u0,u1,u2,u3,dc,rfl,lt1,s1⟩
   exact ay.of (s1 _ _ hp)
  ·rintro i y σ H1 hi ⟨u0,u1,u2,u3,dc,rfl,lt1,s1⟩
   have hil:i < ds.length:=by
    have:=(List.getElem?_eq_some_iff.mp hi).1
    rw [r.len,List.length_map] at this
    exact this
   have hdi:ds[i]? = some ds[i]:=by simp [hil]
   generalize ds[i] = dd at hdi
   obtain⟨v,hv,rd⟩:=r.get (i:=i) (d:=cQ dd) (by rw [List.getElem?_map,hdi];rfl)
   rw [hi] at hv
   cases hv
   have tkb:bB T (ds.take (i+1))=vf (bB T (ds.take i)) dd:=by
    unfold bB
    rw [List.take_add_one,hdi,Option.toList_some,List.foldl_append]
    rfl
   refine cu ?_
   cases dd
   case put x n =>
    obtain⟨dp,rfl,hdp⟩:=gy rd
    obtain⟨kvs1,ks1,hd1,tb1,cl1,hl1⟩:=id lt1
    refine⟨fun σ' H2=>∃ v:V,σ' = [some (.ref dc),some (.ref p),some (.ref dp),some v,u2,u3]/\SH H2 v (bB T (ds.take i) x)/\ah H1 H2,⟨_,rfl,dc,rfl,.inl ⟨kvs1,.inl hd1⟩,_,rfl,dp,_,1,_,rfl,rfl,ay.of (s1 _ _ hdp),cZ,ln2,fun t nt=>?_⟩,?_⟩
    ·obtain⟨v,ev,sv⟩:=LT.get (tb1.aJ fun p xs e=>ah.new (o:=.tup [.bf,.bf]) nt _ _ e) cl1 ae x
     exact⟨_,v,dU.k (k:=Sum.inr x) (ah.new nt _ _ hd1),ev,v,rfl,sv,ah.new nt⟩
    rintro σ' H2 ⟨v,rfl,sv,s2⟩
    have lt2:=lt1.same s2
    have hdp2:=s2 _ _ (s1 _ _ hdp)
    refine⟨_,rfl,dp,_,0,_,rfl,rfl,ay.of hdp2,cm,rfl,_,rfl,?_⟩
    refine cf (show decide (V.str "put" = V.str "put")=true by decide +kernel) ?_
    refine⟨_,rfl,dp,_,2,_,rfl,rfl,ay.of hdp2,at2,_,rfl,dp,_,2,_,rfl,rfl,ay.of hdp2,at2,ln2,fun t nt=>?_⟩
    have s3:=ah.new (o:=.tup [.int n,.int n]) nt
    have ht:(upd H2 t (.tup [.int n,.int n])) t=some (.tup [.int n,.int n]):=ae
    generalize (upd H2 t (.tup [.int n,.int n]))=H3 at s3 ht
    have hdp3:=s3 _ _ hdp2
    refine⟨_,rfl,dp,_,0,_,rfl,rfl,ay.of hdp3,cm,rfl,_,rfl,?_⟩
    refine bo (show decide (V.str "put" = V.str "copy")=false by decide +kernel) ?_
    refine⟨_,rfl,dp,_,0,_,rfl,rfl,ay.of hdp3,cm,rfl,_,rfl,?_⟩
    refine bo (show decide (V.str "put" = V.str "read")=false by decide +kernel) ?_
    refine⟨_,rfl,dp,_,0,_,rfl,rfl,ay.of hdp3,cm,rfl,_,rfl,?_⟩
    refine bo (show decide (V.str "put" = V.str "add")=false by decide +kernel) ?_
    refine⟨_,rfl,_,rfl,dp,_,1,_,rfl,rfl,ay.of hdp3,cZ,_,rfl,dc,_,m+i,x,_,nu (bB T (ds.take i)) (.put x n),rfl,lt2.same s3,(by omega),⟨t,rfl,ht⟩,fun d' H' lt' s'=>?_⟩
    refine⟨_,_,_,_,d',rfl,?_,(s1.trans s2).trans (s3.trans s')⟩
    rw [tkb]
    exact lt'
   case copy x y =>
    obtain⟨dp,rfl,hdp⟩:=gy rd
    obtain⟨kvs1,ks1,hd1,tb1,cl1,hl1⟩:=id lt1
    refine⟨fun σ' H2=>∃ v:V,σ' = [some (.ref dc),some (.ref p),some (.ref dp),some v,u2,u3]/\SH H2 v (bB T (ds.take i) x)/\ah H1 H2,⟨_,rfl,dc,rfl,.inl ⟨kvs1,.inl hd1⟩,_,rfl,dp,_,1,_,rfl,rfl,ay.of (s1 _ _ hdp),cZ,ln2,fun t nt=>?_⟩,?_⟩
    ·obtain⟨v,ev,sv⟩:=LT.get (tb1.aJ fun p xs e=>ah.new (o:=.tup [.bf,.bf]) nt _ _ e) cl1 ae x
     exact⟨_,v,dU.k (k:=Sum.inr x) (ah.new nt _ _ hd1),ev,v,rfl,sv,ah.new nt⟩
    rintro σ' H2 ⟨v,rfl,sv,s2⟩
    have lt2:=lt1.same s2
    have hdp2:=s2 _ _ (s1 _ _ hdp)
    refine⟨_,rfl,dp,_,0,_,rfl,rfl,ay.of hdp2,cm,rfl,_,rfl,?_⟩
    refine bo (show decide (V.str "copy" = V.str "put")=false by decide +kernel) ?_
    refine⟨_,rfl,dp,_,0,_,rfl,rfl,ay.of hdp2,cm,rfl,_,rfl,?_⟩
    refine cf (show decide (V.str "copy" = V.str "copy")=true by decide +kernel) ?_
    obtain⟨kvs2,ks2,hd2,tb2,cl2,hl2⟩:=id lt2
    refine⟨_,rfl,dc,rfl,.inl ⟨kvs2,.inl hd2⟩,_,rfl,dp,_,2,_,rfl,rfl,ay.of hdp2,at2,ln2,fun t nt=>?_⟩
    obtain⟨v2,ev2,sv2⟩:=LT.get (tb2.aJ fun p xs e=>ah.new (o:=.tup [.bf,.bf]) nt _ _ e) cl2 ae y
    refine⟨_,v2,dU.k (k:=Sum.inr y) (ah.new nt _ _ hd2),ev2,?_⟩
    have s3:=ah.new (o:=.tup [.bf,.bf]) nt
    clear ev2
    generalize (upd H2 t (.tup [.bf,.bf]))=H3 at s3 sv2
    have hdp3:=s3 _ _ hdp2
    refine⟨_,rfl,dp,_,0,_,rfl,rfl,ay.of hdp3,cm,rfl,_,rfl,?_⟩
    refine bo (show decide (V.str "copy" = V.str "read")=false by decide +kernel) ?_
    refine⟨_,rfl,dp,_,0,_,rfl,rfl,ay.of hdp3,cm,rfl,_,rfl,?_⟩
    refine bo (show decide (V.str "copy" = V.str "add")=false by decide +kernel) ?_
    refine⟨_,rfl,_,rfl,dp,_,1,_,rfl,rfl,ay.of hdp3,cZ,_,rfl,dc,_,m+i,x,_,nu (bB T (ds.take i)) (.copy x y),rfl,lt2.same s3,(by omega),sv2,fun d' H' lt' s'=>?_⟩
    refine⟨_,_,_,_,d',rfl,?_,(s1.trans s2).trans (s3.trans s')⟩
    rw [tkb]
    exact lt'
   case read x =>
    obtain⟨dp,rfl,hdp⟩:=gy rd
    obtain⟨kvs1,ks1,hd1,tb1,cl1,hl1⟩:=id lt1
    refine⟨fun σ' H2=>∃ v:V,σ' = [some (.ref dc),some (.ref p),some (.ref dp),some v,u2,u3]/\SH H2 v (bB T (ds.take i) x)/\ah H1 H2,⟨_,rfl,dc,rfl,.inl ⟨kvs1,.inl hd1⟩,_,rfl,dp,_,1,_,rfl,rfl,ay.of (s1 _ _ hdp),cZ,ln2,fun t nt=>?_⟩,?_⟩
    ·obtain⟨v,ev,sv⟩:=LT.get (tb1.aJ fun p xs e=>ah.new (o:=.tup [.bf,.bf]) nt _ _ e) cl1 ae x
     exact⟨_,v,dU.k (k:=Sum.inr x) (ah.new nt _ _ hd1),ev,v,rfl,sv,ah.new nt⟩
    rintro σ' H2 ⟨v,rfl,sv,s2⟩
    have lt2:=lt1.same s2
    have hdp2:=s2 _ _ (s1 _ _ hdp)
    refine⟨_,rfl,dp,_,0,_,rfl,rfl,ay.of hdp2,cm,rfl,_,rfl,?_⟩
    refine bo (show decide (V.str "read" = V.str "put")=false by decide +kernel) ?_
    refine⟨_,rfl,dp,_,0,_,rfl,rfl,ay.of hdp2,cm,rfl,_,rfl,?_⟩
    refine bo (show decide (V.str "read" = V.str "copy")=false by decide +kernel) ?_
    refine⟨_,rfl,dp,_,0,_,rfl,rfl,ay.of hdp2,cm,rfl,_,rfl,?_⟩
    refine cf (show decide (V.str "read" = V.str "read")=true by decide +kernel) ?_
    refine⟨ln2,fun t nt=>?_⟩
    have s3:=ah.new (o:=.tup [.bf,.bf]) nt
    have ht:(upd H2 t (.tup [.bf,.bf])) t=some (.tup [.bf,.bf]):=ae
    generalize (upd H2 t (.tup [.bf,.bf]))=H3 at s3 ht
    have hdp3:=s3 _ _ hdp2
    refine⟨_,rfl,dp,_,0,_,rfl,rfl,ay.of hdp3,cm,rfl,_,rfl,?_⟩
    refine bo (show decide (V.str "read" = V.str "add")=false by decide +kernel) ?_
    refine⟨_,rfl,_,rfl,dp,_,1,_,rfl,rfl,ay.of hdp3,cZ,_,rfl,dc,_,m+i,x,_,nu (bB T (ds.take i)) (.read x),rfl,lt2.same s3,(by omega),⟨t,rfl,ht⟩,fun d' H' lt' s'=>?_⟩
    refine⟨_,_,_,_,d',rfl,?_,(s1.trans s2).trans (s3.trans s')⟩
    rw [tkb]
    exact lt'
   case add x n =>
    obtain⟨dp,rfl,hdp⟩:=gy rd
    obtain⟨kvs1,ks1,hd1,tb1,cl1,hl1⟩:=id lt1
    refine⟨fun σ' H2=>∃ v:V,σ' = [some (.ref dc),some (.ref p),some (.ref dp),some v,u2,u3]/\SH H2 v (bB T (ds.take i) x)/\ah H1 H2,⟨_,rfl,dc,rfl,.inl ⟨kvs1,.inl hd1⟩,_,rfl,dp,_,1,_,rfl,rfl,ay.of (s1 _ _ hdp),cZ,ln2,fun t nt=>?_⟩,?_⟩
    ·obtain⟨v,ev,sv⟩:=LT.get (tb1.aJ fun p xs e=>ah.new (o:=.tup [.bf,.bf]) nt _ _ e) cl1 ae x
     exact⟨_,v,dU.k (k:=Sum.inr x) (ah.new nt _ _ hd1),ev,v,rfl,sv,ah.new nt⟩
    rintro σ' H2 ⟨v,rfl,sv,s2⟩
    have lt2:=lt1.same s2
    have hdp2:=s2 _ _ (s1 _ _ hdp)
    refine⟨_,rfl,dp,_,0,_,rfl,rfl,ay.of hdp2,cm,rfl,_,rfl,?_⟩
    refine bo (show decide (V.str "add" = V.str "put")=false by decide +kernel) ?_
    refine⟨_,rfl,dp,_,0,_,rfl,rfl,ay.of hdp2,cm,rfl,_,rfl,?_⟩
    refine bo (show decide (V.str "add" = V.str "copy")=false by decide +kernel) ?_
    refine⟨_,rfl,dp,_,0,_,rfl,rfl,ay.of hdp2,cm,rfl,_,rfl,?_⟩
    refine bo (show decide (V.str "add" = V.str "read")=false by decide +kernel) ?_
    refine⟨_,rfl,dp,_,0,_,rfl,rfl,ay.of hdp2,cm,rfl,_,rfl,?_⟩
    refine cf (show decide (V.str "add" = V.str "add")=true by decide +kernel) ?_
    obtain⟨sq,rfl,hsq⟩:=id sv
    refine⟨_,rfl,sq,_,rfl,ay.of hsq,rfl,_,_,rfl,_,_,rfl,rfl,?_⟩
    refine⟨fun σ' H'=>σ' = [some (.ref dc),some (.ref p),some (.ref dp),some (.ref sq),some (vO (jo (bB T (ds.take i) x).1 n)),some (vO (bB T (ds.take i) x).2)]/\H2=H',?_,?_⟩
    ·cases (bB T (ds.take i) x).1 with
     | none=>exact⟨_,rfl,_,rfl,bI ⟨rfl,rfl⟩⟩
     | some z=>exact⟨_,rfl,_,rfl,bJ ⟨_,rfl,_,rfl,dp,_,2,_,rfl,rfl,ay.of hdp2,at2,_,_,rfl,rfl,rfl,rfl⟩⟩
    rintro σ' H' ⟨rfl,rfl⟩
    refine⟨fun σ' H'=>σ' = [some (.ref dc),some (.ref p),some (.ref dp),some (.ref sq),some (vO (jo (bB T (ds.take i) x).1 n)),some (vO (jo (bB T (ds.take i) x).2 n))]/\H2=H',?_,?_⟩
    ·cases (bB T (ds.take i) x).2 with
     | none=>exact⟨_,rfl,_,rfl,bI ⟨rfl,rfl⟩⟩
     | some z=>exact⟨_,rfl,_,rfl,bJ ⟨_,rfl,_,rfl,dp,_,2,_,rfl,rfl,ay.of hdp2,at2,_,_,rfl,rfl,rfl,rfl⟩⟩
    rintro σ' H' ⟨rfl,rfl⟩
    refine⟨_,rfl,_,rfl,ln2,fun t nt=>?_⟩
    have s3:=ah.new (o:=.tup [vO (jo (bB T (ds.take i) x).1 n),vO (jo (bB T (ds.take i) x).2 n)]) nt
    have ht:(upd H2 t (.tup [vO (jo (bB T (ds.take i) x).1 n),vO (jo (bB T (ds.take i) x).2 n)])) t=some (.tup [vO (jo (bB T (ds.take i) x).1 n),vO (jo (bB T (ds.take i) x).2 n)]):=ae
    generalize (upd H2 t (.tup [vO (jo (bB T (ds.take i) x).1 n),vO (jo (bB T (ds.take i) x).2 n)]))=H3 at s3 ht
    have hdp3:=s3 _ _ hdp2
    refine⟨_,rfl,_,rfl,dp,_,1,_,rfl,rfl,ay.of hdp3,cZ,_,rfl,dc,_,m+i,x,_,nu (bB T (ds.take i)) (.add x n),rfl,lt2.same s3,(by omega),⟨t,rfl,ht⟩,fun d' H' lt' s'=>?_⟩
    refine⟨_,_,_,_,d',rfl,?_,(s1.trans s2).trans (s3.trans s')⟩
    rw [tkb]
    exact lt'
   case tell x =>
    obtain⟨dp,rfl,hdp⟩:=gy rd
    obtain⟨kvs1,ks1,hd1,tb1,cl1,hl1⟩:=id lt1
    refine⟨fun σ' H2=>∃ v:V,σ' = [some (.ref dc),some (.ref p),some (.ref dp),some v,u2,u3]/\SH H2 v (bB T (ds.take i) x)/\ah H1 H2,⟨_,rfl,dc,rfl,.inl ⟨kvs1,.inl hd1⟩,_,rfl,dp,_,1,_,rfl,rfl,ay.of (s1 _ _ hdp),cZ,ln2,fun t nt=>?_⟩,?_⟩
    ·obtain⟨v,ev,sv⟩:=LT.get (tb1.aJ fun p xs e=>ah.new (o:=.tup [.bf,.bf]) nt _ _ e) cl1 ae x
     exact⟨_,v,dU.k (k:=Sum.inr x) (ah.new nt _ _ hd1),ev,v,rfl,sv,ah.new nt⟩
    rintro σ' H2 ⟨v,rfl,sv,s2⟩
    have lt2:=lt1.same s2
    have hdp2:=s2 _ _ (s1 _ _ hdp)
    refine⟨_,rfl,dp,_,0,_,rfl,rfl,ay.of hdp2,cm,rfl,_,rfl,?_⟩
    refine bo (show decide (V.str "tell" = V.str "put")=false by decide +kernel) ?_
    refine⟨_,rfl,dp,_,0,_,rfl,rfl,ay.of hdp2,cm,rfl,_,rfl,?_⟩
    refine bo (show decide (V.str "tell" = V.str "copy")=false by decide +kernel) ?_
    refine⟨_,rfl,dp,_,0,_,rfl,rfl,ay.of hdp2,cm,rfl,_,rfl,?_⟩
    refine bo (show decide (V.str "tell" = V.str "read")=false by decide +kernel) ?_
    refine⟨_,rfl,dp,_,0,_,rfl,rfl,ay.of hdp2,cm,rfl,_,rfl,?_⟩
    refine bo (show decide (V.str "tell" = V.str "add")=false by decide +kernel) ?_
    refine⟨_,rfl,_,rfl,dp,_,1,_,rfl,rfl,ay.of hdp2,cZ,_,rfl,dc,_,m+i,x,_,nu (bB T (ds.take i)) (.tell x),rfl,lt2.same (ah.refl H2),(by omega),sv,fun d' H' lt' s'=>?_⟩
    refine⟨_,_,_,_,d',rfl,?_,(s1.trans s2).trans ((ah.refl H2).trans s')⟩
    rw [tkb]
    exact lt'
  ·rintro σ H1 ⟨u0,u1,u2,u3,dc,rfl,lt1,s1⟩
   have hwl:ws.length=ds.length:=by rw [r.len,List.length_map]
   rw [hwl,List.take_length] at lt1
   exact⟨_,rfl,q dc H1 lt1 s1⟩
theorem sU {f:Addr} {fd:FuncData} (F:bZ K "_law_leads" "_law_leads" fC f fd) (Z:Bl mg) (O_law_part:Own P w K mg base "_law_part" 1 ["stretch", "word", "number", "side"] pH) (O_law_with:Own P w K mg base "_law_with" 1 ["facts", "name", "stretch"] mC):bG P w K mg base bT 3 f fd ["facts", "end"] nF:=by
  refine F.ok (k:=2) hR (fun vs H Q E h=>?_) (fun cdv A outer s H vs Q E hr h=>?_)
  · obtain⟨d,ea,T,e,m,rfl,_⟩:=h
    rfl
  · obtain⟨d,ea,T,e,m,rfl,lt,hm,le,he,q⟩:=h
    refine⟨_,(ai (bu (aH cg (aK bc (pv 1) ao (fun _ _=>rfl)) bH (aQ _))
      (ar (aF (bS af)))
      aM)
      (ai (bu (aH cg (aK bc (pv 1) ao (fun _ _=>rfl)) bH (aQ _))
      (ar (aF (bS (aa (aU (aa cJ (aa (aK bc (pv 1) ao (fun _ _=>rfl)) (aa (pv 0) af)))) af))))
      aM)
      (ai (aG (i:=2) hR.nd rfl (Or.inl rfl) (bS af))
      (ai (cO PassesOwn.never rfl (fq (bS (aa iT (aa iT af)))) (aC (i:=3) hR.nd rfl (Or.inl rfl))
      (ai (eC (aG (i:=4) hR.nd rfl (Or.inl rfl) (aB O_law_part (hr.mono (by decide)) rfl (aa (fK (dh hr) (pv 0) (aK bc (pv 1) ao (fun _ _=>rfl)) (aU (aa cJ (aa cJ af))) ⟨rfl,rfl,rfl,rfl⟩) (aa (aK bc (pv 1) ao (fun _ _=>rfl)) (aa (aK bc (pv 1) ao (fun _ _=>rfl)) (aa (pv 3) af)))))))
      (ar (bu (dP (fo (pv 4)))
      (ar (cX (eM PySem.F.plainAttrs_list PySem.F.slot_list_append PySem.F.type_list_append cY (pv 2) (aa (aU (aa (pv 3) (aa (aK bc (pv 1) (bw fI ao (bx iA rfl Z.int kX (aa (pv 3) af))) (fun _ _=>rfl)) (aa (aB O_law_with (hr.mono (by decide)) rfl (aa (pv 0) (aa (aK bc (pv 1) ao (fun _ _=>rfl)) (aa (pv 4) af)))) af)))) af))))
      aM))))
      (ar (aF (pv 2))))))),?_⟩
    refine⟨_,rfl,ea,_,0,_,rfl,rfl,ay.of he,(by cases e <;> exact cm:e7 (d7 e) 0=some (V.str (wE e))),rfl,_,rfl,?_⟩
    cases e with
    | stop =>
      refine cf (show decide (V.str "stop" = V.str "stop")=true by decide +kernel) ?_
      exact⟨(by show 0<=sizeLine;decide),fun l hl=>q l [] _ ae .nil (ah.new hl)⟩
    | go p =>
      refine bo (show decide (V.str "go" = V.str "stop")=false by decide +kernel) ?_
      refine⟨_,rfl,ea,_,0,_,rfl,rfl,ay.of he,cm,rfl,_,rfl,?_⟩
      refine cf (show decide (V.str "go" = V.str "go")=true by decide +kernel) ?_
      refine⟨_,rfl,ea,_,1,_,rfl,rfl,ay.of he,cZ,_,rfl,rC,fun t nt=>⟨rB,fun l hl=>?_⟩⟩
      have q1:=ah.new (o:=.tup [.bf,.int (p:Nat),.ref d]) nt
      have q2:=ah.new (o:=.lst [V.ref t]) hl
      exact q l _ _ ae (.cons ⟨t,.bf,d,rfl,q2 _ _ ae,((lt.same q1).same q2).up (Nat.le_succ _)⟩ .nil) (q1.trans q2)
    | cC b x n p r =>
      refine bo (show decide (V.str (wT b)=V.str "stop")=false by cases b <;> decide +kernel) ?_
      refine⟨_,rfl,ea,_,0,_,rfl,rfl,ay.of he,cm,rfl,_,rfl,?_⟩
      refine bo (show decide (V.str (wT b)=V.str "go")=false by cases b <;> decide +kernel) ?_
      refine⟨(by show 0<=sizeLine;decide),fun fl hfl=>?_⟩
      have s1:=ah.new (o:=.lst []) hfl
      have hfl1:(upd H fl (.lst [])) fl=some (.lst []):=ae
      generalize (upd H fl (.lst []))=H1 at s1 hfl1
      refine⟨ln2,fun sl hsl=>⟨sl,rfl,⟨_,aI.of ae⟩,?_⟩⟩
      have s2:=ah.new (o:=.lst [.bl true,.bl false]) hsl
      have hsl2:(upd H1 sl (.lst [.bl true,.bl false])) sl=some (.lst [.bl true,.bl false]):=ae
      have nsl:sl ≠ fl:=(aw hfl1 hsl).symm
      have hfl2:=s2 _ _ hfl1
      generalize (upd H1 sl (.lst [.bl true,.bl false]))=H2 at s2 hsl2 hfl2
      refine hZ (K:=K) (a:=sl) (xs:=[.bl true,.bl false]) (fun i σ H'=>∃ (u1 u2:Option V) (vs:List V),σ = [some (.ref d),some (.ref ea),some (.ref fl),u1,u2]/\H' fl=some (.lst vs)/\H' sl=some (.lst [.bl true,.bl false])/\iG (m+1) H' vs ((((aP (.cC b x n p r)).zip (gY T (.cC b x n p r))).take i).filterMap fun p=>p.2.map fun U=>(p.1,U))/\vs.length<=i/\ah H H') ?_ ?_ ?_ ?_
      · exact⟨_,_,[],rfl,hfl2,hsl2,.nil,Nat.le_refl _,s1.trans s2⟩
      · rintro i σ H3 hi ⟨u1,u2,vs,rfl,h1,h2,tv,hvl,s3⟩
        exact aI.of h2
      · rintro i y σ H3 hi ⟨u1,u2,vs,rfl,h1,h2,tv,hvl,s3⟩
        obtain⟨side,rfl,hwy,hby,hi2⟩:∃ side:Bool,y=.bl side/\(aP (.cC b x n p r))[i]? = some (if side=true then p else r)/\(gY T (.cC b x n p r))[i]? = some ((fm T b x n side).map (cA T x))/\i < 2:=by
          match i,hi with
          | 0,hi=>cases hi;exact⟨true,rfl,rfl,rfl,by omega⟩
          | 1,hi=>cases hi;exact⟨false,rfl,rfl,rfl,by omega⟩
          | i+2,hi=>simp at hi
        have hnext:=qo (T:=T) (e:=.cC b x n p r) hwy hby
        have he3:=s3 _ _ he
        have lt3:=lt.same s3
        obtain⟨kvs,ks,hd3,tb3,cl3,hl3⟩:=id lt3
        refine cu ?_
        refine⟨fun σ' H'=>∃ v:V,σ' = [some (.ref d),some (.ref ea),some (.ref fl),some (.bl side),some v]/\RV H' v (fm T b x n side)/\ah H3 H',?_,?_⟩
        · refine⟨_,rfl,d,rfl,.inl ⟨kvs,.inl hd3⟩,_,rfl,ea,_,1,_,rfl,rfl,ay.of he3,cZ,ln2,fun t nt=>?_⟩
          have s4:=ah.new (o:=.tup [.bf,.bf]) nt
          obtain⟨v,ev,sv⟩:=LT.get (tb3.aJ fun p xs e=>ah.new (o:=.tup [.bf,.bf]) nt _ _ e) cl3 ae x
          obtain⟨sq,rfl,hsq⟩:=id sv
          refine⟨_,_,dU.k (k:=Sum.inr x) (s4 _ _ hd3),ev,?_⟩
          refine⟨_,rfl,ea,_,0,_,rfl,rfl,ay.of (s4 _ _ he3),cm,_,rfl,ea,_,2,_,rfl,rfl,ay.of (s4 _ _ he3),at2,_,rfl,sq,b,n,side,_,_,rfl,hsq,le x,fun v H5 r5 s5=>?_⟩
          exact⟨v,rfl,r5,s4.trans s5⟩
        rintro σ' H4 ⟨v,rfl,rv,s4⟩
        have h14:=s4 _ _ h1
        have h24:=s4 _ _ h2
        have tv4:=tv.same s4
        refine⟨_,rfl,_,rfl,?_⟩
        cases hp:fm T b x n side with
        | none =>
          rw [hp] at rv hnext
          cases (show v=V.bf from rv)
          refine bI ?_
          refine⟨_,_,vs,rfl,h14,h24,?_,Nat.le_succ_of_le hvl,s3.trans s4⟩
          rw [hnext]
          simpa using tv4
        | some sx =>
          rw [hp] at rv hnext
          have shv:SH H4 v sx:=by
            obtain⟨a1,b1⟩:=sx
            obtain⟨yp,e,h⟩:=rv
            exact⟨yp,e,h⟩
          obtain⟨yp,rfl,hyp⟩:=id shv
          refine bJ ?_
          have he4:=s4 _ _ he3
          have hat:e7 (d7 (.cC b x n p r)) (4 - (if side=true then 1 else 0))=some (V.int ((if side=true then p else r:Nat):Nat)):=by
            cases side
            · exact bL (j:=4) rfl
            · exact bL (j:=3) rfl
          refine⟨_,rfl,.inl ⟨rfl,_,aI.of h14⟩,_,rfl,_,rfl,_,rfl,.inr ⟨_,rfl,_,_,rfl,rfl,ea,_,_,_,rfl,rfl,ay.of he4,hat,?_⟩⟩
          refine⟨_,rfl,_,rfl,ea,_,1,_,rfl,rfl,ay.of he4,cZ,_,rfl,d,T,m,x,.ref yp,sx,rfl,lt3.same s4,(by omega),shv,fun d' H5 lt5 s5=>⟨rC,fun t nt=>?_⟩⟩
          have s6:=ah.new (o:=.tup [.bl side,.int ((if side=true then p else r:Nat):Nat),.ref d']) nt
          have h16:=s6 _ _ (s5 _ _ h14)
          refine⟨fl,vs,_,rfl,rfl,h16,bh (by omega),?_⟩
          refine⟨_,_,vs ++ [.ref t],rfl,ae,by rw [au nsl];exact s6 _ _ (s5 _ _ h24),?_,(by rw [List.length_append];show _+1<=_;omega),((s3.trans s4).trans (s5.trans s6)).put hfl⟩
          rw [hnext]
          refine dE (((tv4.same s5).same s6).put h16) (.cons ⟨t,.bl side,d',rfl,?_,(lt5.same s6).put h16⟩ .nil)
          have ht:(upd H5 t (.tup [.bl side,.int ((if side=true then p else r:Nat):Nat),.ref d'])) t=some (.tup [.bl side,.int ((if side=true then p else r:Nat):Nat),.ref d']):=ae
          rw [au (bg ht h16 (by intro z;cases z))]
          exact ht
      · rintro σ H3 ⟨u1,u2,vs,rfl,h1,h2,tv,hvl,s3⟩
        exact⟨_,rfl,q fl vs H3 h1 tv s3⟩
theorem tP {f:Addr} {fd:FuncData} (F:bZ K "_law_told" "_law_told" gd f fd) (Z:Bl mg)  : bG P w K mg base bT 1 f fd ["facts"] pB:=by
 refine F.ok (k:=0) tE (fun vs H Q E h=>?_) (fun cdv A outer s H vs Q E hr h=>?_)
 ·obtain⟨d,T,rfl,_⟩:=h
  rfl
 ·obtain⟨d,T,rfl,lt,q⟩:=h
  refine⟨_,(ar (aF (bx bC rfl Z.tuple bV (aa (eE ["name"] ["facts"] [0] rfl (fq (bD (jl rfl) rfl Z.sorted fb (aa (pv 0) af))) rfl (by decide +kernel) (by decide +kernel) (by decide +kernel) ⟨⟨rfl,.inl rfl,rfl⟩,True.intro⟩ (fun _ _ _ _=>(aC (i:=0) (show ((["name"]:List Str)++(["facts"]:List Str)).Nodup by decide +kernel) rfl (Or.inl rfl) (hf:=Or.inr rfl))) (fun _ _ _ _=>eR) (fun _ _ _ _=>(aU (aa (pv 0) (aa (mn (dh hr) (pv 1) (pv 0) (fun _ _=>rfl)) af))))) af)))),?_⟩
  obtain⟨kvs,ks,hd,tb,cl,hl⟩:=lt
  refine⟨_,rfl,d,kvs,ks,rfl,hd,tb.keys,(by omega),fun l ss hp hs hn=>?_⟩
  have srt:jn ss:=⟨lG hs,hp.nodup_iff.mpr tb.nd⟩
  have hl1:(upd H l (.lst (ss.map V.str))) l=some (.lst (ss.map V.str)):=ae
  have s1:ah H (upd H l (.lst (ss.map V.str))):=ah.new hn
  have hssl:ss.length < 64:=by rw [hp.length_eq];omega
  generalize (upd H l (.lst (ss.map V.str)))=H1 at hl1 s1
  refine⟨l,rfl,⟨_,aI.of hl1⟩,fun acc na=>?_⟩
  refine mi (K:=K) (a:=l) (xs:=ss.map V.str) (fun i ys τ H'=>∃ c:Option V,τ = [c,some (.ref d)]/\aZ H' ys ((ss.take i).map (dF T))/\H' acc=some (.lst ys)/\ah H1 H') ?_ ?_ ?_ ?_
  ·exact⟨none,rfl,.nil,ae,ah.new na⟩
  ·rintro i ys τ H2 hi ⟨c,rfl,r,ha,s2⟩
   refine⟨aI.of (s2 _ _ hl1),ha,?_⟩
   have h1:=r.len
   rw [List.length_map,List.length_take] at h1
   exact bh (by omega)
  ·rintro i x ys τ H2 hi ⟨c,rfl,r,ha,s2⟩
   obtain⟨y,hy,rfl⟩:∃ y,ss[i]? = some y/\x=V.str y:=by
    rw [List.getElem?_map] at hi
    cases e:ss[i]? with
    | none=>rw [e] at hi;cases hi
    | some k=>rw [e] at hi;exact⟨k,rfl,(Option.some.inj hi).symm⟩
   have hym:y ∈ ks:=hp.mem_iff.mp (List.mem_of_getElem? hy)
   have tk:ss.take (i+1)=ss.take i ++ [y]:=by rw [List.take_add_one,hy];rfl
   obtain⟨v,ev,sv⟩:∃ v,bO kvs (Sum.inr y)=some v/\SH H v (T y):=by
    rcases tb.val y with ⟨_,_,c⟩ | ⟨v,a,b,_⟩
    ·exact absurd hym c
    ·rcases b with b | ⟨_,b⟩
     ·exact⟨v,a,b⟩
     ·exact absurd b (cl y hym)
   have hd2:H2 d=some (.dK kvs):=s2 _ _ (s1 _ _ hd)
   have dg:dU H2 d (.str y) (some v):=by
    have:=dU.k (k:=Sum.inr y) hd2
    rw [ev] at this
    exact this
   refine cu ?_
   refine jj ?_
   refine bJ ?_
   refine⟨_,rfl,_,rfl,_,rfl,d,v,rfl,dg,ln2,fun t nt=>?_⟩
   have s3:=ah.new (o:=.tup [.str y,v]) nt
   have ht:(upd H2 t (.tup [.str y,v])) t=some (.tup [.str y,v]):=ae
   generalize (upd H2 t (.tup [.str y,v]))=H3 at s3 ht
   have sh:SH H3 v (T y):=sv.aJ fun p xs e=>s3 _ _ (s2 _ _ (s1 _ _ e))
   have ha3:=s3 _ _ ha
   refine⟨ha3,_,rfl,?_,ae,(s2.trans s3).put na⟩
   rw [tk,List.map_append]
   refine aZ.app ((r.same s3 (iu T _)).put ha3 (iu T _)) ?_
   refine aV.aJ (H:=H3) (fun p zs e=>by rw [au (bg e ha3 (by intro z;cases z))];exact e) (.tup ht (.cons (.str y) (.cons sh.rd .nil))) ?_
   have:=iu T [y]
   simpa [bR] using this
  ·rintro ys τ H2 ⟨c,rfl,r,ha,s2⟩
   rw [List.length_map,List.take_length] at r
   refine⟨acc,ys,rfl,.inl ⟨aI.of ha,fun t nt=>?_⟩⟩
   refine q _ _ ⟨t,ys,ss,rfl,ae,srt,fun x=>?_,r.same (ah.new nt) (iu T _)⟩ ((s1.trans s2).trans (ah.new nt))
   rw [hp.mem_iff]
   constructor
   ·exact cl x
   ·intro h
    rcases tb.val x with ⟨_,a,_⟩ | ⟨_,_,_,a⟩
    ·exact absurd a h
    ·exact a
theorem tQ {f:Addr} {fd:FuncData} (F:bZ K "_law_ways" "_law_ways" gf f fd) (Z:Bl mg)  : bG P w K mg base bT 1 f fd ["end"] kn:=by
 refine F.ok (k:=0) tF (fun vs H Q E h=>?_) (fun cdv A outer s H vs Q E hr h=>?_)
 ·obtain⟨ea,e,rfl,_⟩:=h
  rfl
 ·obtain⟨ea,e,rfl,he,q⟩:=h
  refine⟨_,(ai (bu (aH cg (bD bE rfl Z.len cG (aa (pv 0) af)) ao (aQ _))
   (ar (aF (bS (aa (aK bc (pv 0) ao (fun _ _=>rfl)) (aa (aK bc (pv 0) ao (fun _ _=>rfl)) af)))))
   aM)
   (ar (aF (bx kW rfl Z.list ub (aa (jZ mr (pv 0) (mh ao) mf) af))))),?_⟩
  refine⟨_,rfl,ea,_,rfl,.inr (ay.of he),rfl,_,rfl,?_⟩
  cases e with
  | stop =>
   refine bo (show decide (V.int ((1:Nat):Int)=V.int 5)=false by decide +kernel) ?_
   refine⟨_,rfl,_,rfl,ea,_,rfl,ay.of he,fun hw=>absurd hw.1 (by decide),fun _ p hp=>⟨p,_,rfl,.inr (ay.of ae),fun l nl=>q l _ ((ah.new hp).free nl) ae ((ah.new hp).trans (ah.new nl))⟩⟩
  | go p1 =>
   refine bo (show decide (V.int ((2:Nat):Int)=V.int 5)=false by decide +kernel) ?_
   refine⟨_,rfl,_,rfl,ea,_,rfl,ay.of he,fun hw=>absurd hw.1 (by show ¬ HT.bQ 2 0 (some 1)=0;decide),fun _ p hp=>⟨p,_,rfl,.inr (ay.of ae),fun l nl=>q l _ ((ah.new hp).free nl) ae ((ah.new hp).trans (ah.new nl))⟩⟩
  | cC b x n p1 p2 =>
   refine cf (show decide (V.int ((5:Nat):Int)=V.int 5)=true by decide +kernel) ?_
   refine⟨_,rfl,ea,_,3,_,rfl,rfl,ay.of he,bL (j:=3) rfl,_,rfl,ea,_,4,_,rfl,rfl,ay.of he,bL (j:=4) rfl,ln2,fun l nl=>q l _ nl ae (ah.new nl)⟩
theorem pQ {f:Addr} {fd:FuncData} (F:bZ K "_law_reached" "_law_reached" er f fd) (Z:Bl mg) (O_law_ways:Own P w K mg base "_law_ways" 1 ["end"] kn):bG P w K mg base bT 3 f fd ["plan"] km:=by
  refine F.ok (k:=2) eZ (fun vs H Q E h=>?_) (fun cdv A outer s H vs Q E hr h=>?_)
  · obtain⟨plv,ps,rfl,_⟩:=h
    rfl
  · obtain⟨plv,ps,rfl,hp,hin,hn0,hn,q⟩:=h
    refine⟨_,(ai (aG (i:=1) eZ.nd rfl (Or.inl rfl) (bS (aa ao af)))
      (ai (aG (i:=2) eZ.nd rfl (Or.inl rfl) ao)
      (ai (jY PassesOwn.never (aH gN (pv 2) (bD bE rfl Z.len cG (aa (pv 1) af)) (aQ _))
      (ai (cO PassesOwn.never rfl (fq (aB O_law_ways (hr.mono (by decide)) rfl (aa (aK bc (aK bc (pv 0) (aK bN (pv 1) (pv 2) (fun _ _=>rfl)) (fun _ _=>rfl)) ao (fun _ _=>rfl)) af))) (aC (i:=3) eZ.nd rfl (Or.inl rfl))
      (ar (bu (aH kU (pv 3) (pv 1) (by with_unfolding_all rfl))
      (ar (cX (eM PySem.F.plainAttrs_list PySem.F.slot_list_append PySem.F.type_list_append cY (pv 1) (aa (pv 3) af))))
      aM)))
      (ar (aG (i:=2) eZ.nd rfl (Or.inl rfl) (bw cK (pv 2) ao)))))
      (ar (aF (bD (qC) rfl Z.sorted fb (aa (pv 1) af))))))),?_⟩
    obtain⟨pp,vs,rfl,e1,r1⟩:=aV.bX hp
    have hvl:=r1.len
    rw [List.length_map] at hvl
    refine⟨rB,fun fl nfl=>?_⟩
    have s1:=ah.new (o:=.lst [.int 0]) nfl
    have hf1:(upd H fl (.lst [.int 0])) fl=some (.lst (vN [0])):=ae
    generalize (upd H fl (.lst [.int 0]))=H1 at s1 hf1
    refine⟨fun m σ H'=>∃ (ks:List Nat) (at_:Nat) (u:Option V),σ = [some (.ref pp),some (.ref fl),some (.int (at_:Nat)),u]/\H' fl=some (.lst (vN ks))/\ks.Nodup/\(∀ k ∈ ks,k < ps.length)/\(∀ k ∈ ks,iO ps k)/\0 ∈ ks/\at_<=ks.length/\(∀ k ∈ ks.take at_,∀ ds e,ps[k]? = some (ds,e)->∀ j ∈ aP e,j ∈ ks)/\m=ps.length - at_/\ah H H',⟨_,[0],0,_,rfl,hf1,by simp,(fun k hk=>by rw [List.mem_singleton.mp hk];exact hn0),(fun k hk=>by rw [List.mem_singleton.mp hk];exact .zero),by simp,Nat.zero_le _,(fun k hk=>by simp at hk),rfl,s1⟩,?_⟩
    rintro m σ H2 ⟨ks,at_,u,rfl,hf2,nd,lt,sJ,h0,hak,hcl,hm,s2⟩
    have hkn:=dG nd lt
    have hvl2:(vN ks).length=ks.length:=List.length_map ..
    refine⟨_,rfl,_,rfl,fl,_,rfl,.inl (aI.of hf2),_,_,rfl,rfl,_,rfl,?_⟩
    refine cM (fun hc=>?_) (fun hc=>?_)
    · have hlt:at_ < ks.length:=by have:=of_decide_eq_true hc;omega
      have hki:ks[at_]? = some ks[at_]:=by simp [hlt]
      generalize ks[at_] = kk at hki
      have hkm:=List.mem_of_getElem? hki
      have hkb:=lt kk hkm
      have hps:ps[kk]? = some ps[kk]:=by simp [hkb]
      generalize ps[kk] = pce at hps
      obtain⟨ds,e⟩:=pce
      obtain⟨p',xs',pc,da,ea,wsv,ep,e1',el',hx',e2,e3,r3,e4⟩:=ff hp hps
      cases ep
      rw [e1] at e1'
      cases e1'
      refine⟨_,fun σ' H' h=>⟨ps.length - (at_+1),by omega,h⟩,?_⟩
      refine⟨_,rfl,_,rfl,_,rfl,fl,_,_,_,rfl,rfl,aI.of hf2,bL (by rw [List.getElem?_map,hki];rfl),pp,_,_,_,rfl,rfl,ay.of (s2 _ _ e1),bL hx',pc,_,1,_,rfl,rfl,ay.of (s2 _ _ e2),cZ,ea,e,rfl,s2 _ _ e4,fun wl H5 nwl hwl s5=>?_⟩
      have nfw:fl ≠ wl:=aw hf2 nwl
      have hf5:=s5 _ _ hf2
      refine⟨wl,rfl,⟨_,aI.of hwl⟩,hZ (K:=K) (a:=wl) (xs:=vN (aP e)) (fun i σ H'=>∃ (ks':List Nat) (more:List Nat) (u:Option V),σ = [some (.ref pp),some (.ref fl),some (.int (at_:Nat)),u]/\H' fl=some (.lst (vN ks'))/\ks' = ks++more/\ks'.Nodup/\(∀ k ∈ ks',k < ps.length)/\(∀ k ∈ ks',iO ps k)/\(∀ k ∈ (aP e).take i,k ∈ ks')/\(∀ c o,H5 c=some o->c ≠ fl->H' c=some o)) ?_ ?_ ?_ ?_⟩
      · exact⟨ks,[],_,rfl,hf5,by rw [List.append_nil],nd,lt,sJ,(fun k hk=>by simp at hk),fun c o h _=>h⟩
      · rintro i σ H6 hi ⟨ks',more,u,rfl,g1,g2,g3,g4,g5,g6,g7⟩
        exact aI.of (g7 _ _ hwl nfw.symm)
      · rintro i y σ H6 hi ⟨ks',more,u,rfl,g1,rfl,g3,g4,g5,g6,g7⟩
        obtain⟨k0,hk0,rfl⟩:∃ k,(aP e)[i]? = some k/\y=V.int (k:Nat):=by
          rw [List.getElem?_map] at hi
          cases z:(aP e)[i]? with
          | none=>rw [z] at hi;cases hi
          | some k=>rw [z] at hi;exact⟨k,rfl,(Option.some.inj hi).symm⟩
        have hk0m:=List.mem_of_getElem? hk0
        have hk0b:=mD hin hps k0 hk0m
        have htk:(aP e).take (i+1)=(aP e).take i ++ [k0]:=by rw [List.take_add_one,hk0];rfl
        refine cu ?_
        refine⟨_,rfl,_,rfl,fl,_,rfl,.inl (aI.of g1),rfl,mB _,_,rfl,?_⟩
        rw [show (if true=true then !kA (.int (k0:Nat)) (vN (ks++more)) else kA (.int (k0:Nat)) (vN (ks++more))) = !decide (k0 ∈ ks++more) from congrArg (!·) (jU k0 _)]
        by_cases hm0:k0 ∈ ks++more
        · refine bo (by rw [decide_eq_true hm0];rfl) ?_
          refine⟨_,more,_,rfl,g1,rfl,g3,g4,g5,fun k hk=>?_,g7⟩
          rw [htk] at hk
          rcases List.mem_append.mp hk with hk | hk
          · exact g6 k hk
          · rw [List.mem_singleton.mp hk];exact hm0
        · refine cf (by rw [decide_eq_false hm0];rfl) ?_
          have hfew:=dG g3 g4
          refine⟨_,rfl,.inl ⟨rfl,_,aI.of g1⟩,_,rfl,fl,_,_,rfl,rfl,g1,bh (by rw [List.length_map];omega),?_⟩
          refine⟨ks++(more ++ [k0]),more ++ [k0],_,rfl,?_,rfl,?_,fun k hk=>?_,fun k hk=>?_,fun k hk=>?_,fun c o h c1=>by rw [au c1];exact g7 c o h c1⟩
          · rw [ae]
            show _=some (HO.lst ((ks++(more ++ [k0])).map _))
            rw [<-List.append_assoc,List.map_append]
            rfl
          · rw [<-List.append_assoc,List.nodup_append]
            refine⟨g3,by simp,fun x hx y hy z=>?_⟩
            rw [List.mem_singleton.mp hy] at z
            exact hm0 (z ▸ hx)
          · rw [<-List.append_assoc] at hk
            rcases List.mem_append.mp hk with hk | hk
            · exact g4 k hk
            · rw [List.mem_singleton.mp hk];exact hk0b
          · rw [<-List.append_assoc] at hk
            rcases List.mem_append.mp hk with hk | hk
            · exact g5 k hk
            · rw [List.mem_singleton.mp hk];exact .step (sJ kk hkm) hps hk0m
          · rw [htk] at hk
            rw [<-List.append_assoc]
            rcases List.mem_append.mp hk with hk | hk
            · exact List.mem_append_left _ (g6 k hk)
            · exact List.mem_append_right _ hk
      · rintro σ H6 ⟨ks',more,u,rfl,g1,rfl,g3,g4,g5,g6,g7⟩
        rw [show (vN (aP e)).length=(aP e).length from List.length_map ..,List.take_length] at g6
        refine⟨_,rfl,_,_,rfl,rfl,?_⟩
        refine⟨ks++more,at_+1,_,rfl,g1,g3,g4,g5,List.mem_append_left _ h0,(by rw [List.length_append];omega),fun k hk ds' e' he' j hj=>?_,rfl,fun c o h=>g7 c o (s5 _ _ (s2 c o h)) (aw h nfl)⟩
        rw [List.take_append_of_le_length (by omega),List.take_add_one,hki] at hk
        rcases List.mem_append.mp hk with hk | hk
        · exact List.mem_append_left _ (hcl k hk ds' e' he' j hj)
        · have hk:k=kk:=List.mem_singleton.mp hk
          subst hk
          rw [hps] at he'
          cases he'
          exact g6 j hj
    · have hge:ks.length<=at_:=by
        by_cases z:at_ < ks.length
        · exact absurd (decide_eq_true (by omega)) hc
        · omega
      have all:∀ k,k ∈ ks ↔ iO ps k:=fun k=>by
        refine⟨sJ k,fun r=>?_⟩
        induction r with
        | zero=>exact h0
        | step r hp' hk ih=>exact hcl _ (by rw [List.take_of_length_le hge];exact ih) _ _ hp' _ hk
      refine⟨_,rfl,fl,ks.map (fun k:Nat=>(k:Int)),rfl,(by rw [<-lM];exact aI.of hf2),(by rw [List.length_map];omega),fun l ns' hperm _ nl=>?_⟩
      obtain⟨ms,rfl,hms⟩:=g9 hperm
      rw [<-lM]
      exact q l ms _ ae (fun k=>(hms.mem_iff).trans (all k)) (fun k hk=>lt k (hms.mem_iff.mp hk)) (by rw [hms.length_eq];omega) (s2.trans (ah.new nl))
theorem sV {f:Addr} {fd:FuncData} (F:bZ K "_law_heads" "_law_heads" fD f fd) (Z:Bl mg) (O_law_reached:Own P w K mg base "_law_reached" 3 ["plan"] km) (O_law_ways:Own P w K mg base "_law_ways" 1 ["end"] kn):bG P w K mg base bT 4 f fd ["plan"] nH:=by
  refine F.ok (k:=3) hU (fun vs H Q E h=>?_) (fun cdv A outer s H vs Q E hr h=>?_)
  · obtain⟨plv,ps,rfl,_⟩:=h
    rfl
  · obtain⟨plv,ps,rfl,hp,hin,hn0,hn,q⟩:=h
    refine⟨_,(ai (aG (i:=1) hU.nd rfl (Or.inl rfl) ie)
      (ai (cO PassesOwn.never rfl (fq (aB O_law_reached (hr.mono (by decide)) rfl (aa (pv 0) af))) (aC (i:=2) hU.nd rfl (Or.inl rfl))
      (ar (cO PassesOwn.never rfl (fq (aB O_law_ways (hr.mono (by decide)) rfl (aa (aK bc (aK bc (pv 0) (pv 2) (fun _ _=>rfl)) ao (fun _ _=>rfl)) af))) (aC (i:=3) hU.nd rfl (Or.inl rfl))
      (ar (bu (aH qN (pv 3) (pv 2) (aQ _))
      (ar (fw (dh hr) (pv 1) (pv 3) iT rfl))
      aM)))))
      (ar (aF (bD (qD rfl) rfl Z.sorted fb (aa (pv 1) af)))))),?_⟩
    obtain⟨pp,vs,rfl,e1,r1⟩:=aV.bX hp
    have hvl:=r1.len
    rw [List.length_map] at hvl
    refine fun fd nfd=>?_
    have s1:=ah.new (o:=.dK []) nfd
    have hf1:(upd H fd (.dK [])) fd=some (.dK []):=ae
    generalize (upd H fd (.dK []))=H1 at s1 hf1
    refine⟨_,rfl,_,ps,rfl,hp.same s1 (bP ps),hin,hn0,hn,fun t ks H2 ht hks hlt hkl s2=>?_⟩
    have hf2:=s2 _ _ hf1
    have s12:=s1.trans s2
    have ntf:t ≠ fd:=bg ht hf2 (by intro z;cases z)
    refine⟨t,rfl,⟨_,aI.of ht⟩,hZ (K:=K) (a:=t) (xs:=vN ks) (fun i σ H'=>∃ (hs:List Nat) (kvs:List (Key × V)) (u1 u2:Option V),σ = [some (.ref pp),some (.ref fd),u1,u2]/\H' fd=some (.dK kvs)/\kvs.map (·.1)=kI hs/\hs.Nodup/\(∀ k ∈ hs,k < ps.length)/\(∀ k,k ∈ hs ↔ ∃ j ∈ ks.take i,∃ ds e,ps[j]? = some (ds,e)/\k ∈ aP e/\k<=j)/\(∀ c o,H2 c=some o->c ≠ fd->H' c=some o)) ?_ ?_ ?_ ?_⟩
    · exact⟨[],[],_,_,rfl,hf2,rfl,List.nodup_nil,(fun _ h=>nomatch h),fun k=>⟨fun h=>(nomatch h),fun ⟨j,hj,_⟩=>(by simp at hj)⟩,fun c o h _=>h⟩
    · rintro i σ H3 hi ⟨hs,kvs,u1,u2,rfl,h1,hk1,h2,h3,h4,h5⟩
      exact aI.of (h5 _ _ ht ntf)
    · rintro i y σ H3 hi ⟨hs,kvs,u1,u2,rfl,h1,hk1,h2,h3,h4,h5⟩
      obtain⟨at_,hat,rfl⟩:∃ k,ks[i]? = some k/\y=V.int (k:Nat):=by
        rw [List.getElem?_map] at hi
        cases z:ks[i]? with
        | none=>rw [z] at hi;cases hi
        | some k=>rw [z] at hi;exact⟨k,rfl,(Option.some.inj hi).symm⟩
      have hatl:=hlt at_ (List.mem_of_getElem? hat)
      have hps:ps[at_]? = some ps[at_]:=by simp [hatl]
      generalize ps[at_] = pce at hps
      obtain⟨ds,e⟩:=pce
      obtain⟨p',xs',pc,da,ea,wsv,ep,e1',el',hx',e2,e3,r3,e4⟩:=ff hp hps
      cases ep
      rw [e1] at e1'
      cases e1'
      have k3:∀ p zs,H p=some (.tup zs)->H3 p=some (.tup zs):=fun p zs h=>h5 _ _ (s12 _ _ h) (bg (s12 _ _ h) hf2 (by intro z;cases z))
      refine cu ?_
      refine⟨_,rfl,_,rfl,pp,_,_,_,rfl,rfl,ay.of (k3 _ _ e1),bL hx',pc,_,1,_,rfl,rfl,ay.of (k3 _ _ e2),cZ,ea,e,rfl,k3 _ _ e4,fun wt H5 nwt hwt s5=>?_⟩
      have nwf:wt ≠ fd:=bg hwt (s5 _ _ h1) (by intro z;cases z)
      refine⟨wt,rfl,⟨_,aI.of hwt⟩,hZ (K:=K) (a:=wt) (xs:=vN (aP e)) (fun j σ H'=>∃ (hs':List Nat) (kvs:List (Key × V)) (u2:Option V),σ = [some (.ref pp),some (.ref fd),some (.int (at_:Nat)),u2]/\H' fd=some (.dK kvs)/\kvs.map (·.1)=kI hs'/\hs'.Nodup/\(∀ k ∈ hs',k < ps.length)/\(∀ k,k ∈ hs' ↔ k ∈ hs\/(k ∈ (aP e).take j/\k<=at_))/\(∀ c o,H5 c=some o->c ≠ fd->H' c=some o)) ?_ ?_ ?_ ?_⟩
      · exact⟨hs,kvs,_,rfl,s5 _ _ h1,hk1,h2,h3,fun k=>⟨.inl,fun h=>h.elim id fun ⟨z,_⟩=>(by simp at z)⟩,fun c o h _=>h⟩
      · rintro j σ H6 hj ⟨hs',kvs',u2,rfl,g1,gk,g2,g3,g4,g5⟩
        exact aI.of (g5 _ _ hwt nwf)
      · rintro j y σ H6 hj ⟨hs',kvs',u2,rfl,g1,gk,g2,g3,g4,g5⟩
        obtain⟨k0,hk0,rfl⟩:∃ k,(aP e)[j]? = some k/\y=V.int (k:Nat):=by
          rw [List.getElem?_map] at hj
          cases z:(aP e)[j]? with
          | none=>rw [z] at hj;cases hj
          | some k=>rw [z] at hj;exact⟨k,rfl,(Option.some.inj hj).symm⟩
        have hk0m:=List.mem_of_getElem? hk0
        have hk0b:=mD hin hps k0 hk0m
        have htk:(aP e).take (j+1)=(aP e).take j ++ [k0]:=by rw [List.take_add_one,hk0];rfl
        have hkl':kvs'.length=hs'.length:=by have:=congrArg List.length gk;simpa using this
        refine cu ?_
        refine⟨_,rfl,_,rfl,_,_,rfl,rfl,_,rfl,?_⟩
        refine cM (fun hc=>?_) (fun hc=>?_)
        · have hle:k0<=at_:=by have:=of_decide_eq_true hc;omega
          have hfew:=dG g2 g3
          refine⟨_,rfl,_,rfl,fd,_,rfl,gR.k (k:=Sum.inl (k0:Int)) g1 (bh (by omega)),?_⟩
          refine⟨LS.putIn hs' k0,_,_,rfl,ae,?_,sj g2,fun k hk=>?_,fun k=>?_,fun c o h c1=>by rw [au c1];exact g5 c o h c1⟩
          · rw [<-sI]
            unfold LS.putIn
            rcases lh (kvs:=kvs') (k:=(Sum.inl (k0:Int):Key)) (v:=.bl true) with ⟨e1,hm⟩ | ⟨e1,hn'⟩
            · rw [gk] at hm
              rw [if_pos hm,e1,gk]
            · rw [gk] at hn'
              rw [if_neg hn',e1,gk]
          · rcases LS.eD.mp hk with hk | hk
            · exact g3 k hk
            · rw [hk];exact hk0b
          · rw [LS.eD,g4,htk]
            constructor
            · rintro ((h | ⟨h,h'⟩) | rfl)
              · exact .inl h
              · exact .inr ⟨List.mem_append_left _ h,h'⟩
              · exact .inr ⟨List.mem_append_right _ (List.mem_singleton.mpr rfl),hle⟩
            · rintro (h | ⟨h,h'⟩)
              · exact .inl (.inl h)
              · rcases List.mem_append.mp h with h | h
                · exact .inl (.inr ⟨h,h'⟩)
                · exact .inr (List.mem_singleton.mp h)
        · have hle:¬ k0<=at_:=fun z=>hc (decide_eq_true (by omega))
          refine⟨hs',kvs',_,rfl,g1,gk,g2,g3,fun k=>?_,g5⟩
          rw [g4,htk]
          constructor
          · rintro (h | ⟨h,h'⟩)
            · exact .inl h
            · exact .inr ⟨List.mem_append_left _ h,h'⟩
          · rintro (h | ⟨h,h'⟩)
            · exact .inl h
            · rcases List.mem_append.mp h with h | h
              · exact .inr ⟨h,h'⟩
              · rw [List.mem_singleton.mp h] at h';exact absurd h' hle
      · rintro σ H6 ⟨hs',kvs',u2,rfl,g1,gk,g2,g3,g4,g5⟩
        rw [show (vN (aP e)).length=(aP e).length from List.length_map ..,List.take_length] at g4
        refine⟨hs',kvs',_,_,rfl,g1,gk,g2,g3,fun k=>?_,fun c o h c1=>g5 c o (s5 _ _ (h5 c o h c1)) c1⟩
        rw [g4,h4,List.take_add_one,hat]
        constructor
        · rintro (⟨j,hj,r⟩ | ⟨h,h'⟩)
          · exact⟨j,List.mem_append_left _ hj,r⟩
          · exact⟨at_,List.mem_append_right _ (List.mem_singleton.mpr rfl),ds,e,hps,h,h'⟩
        · rintro⟨j,hj,ds',e',hp',h,h'⟩
          rcases List.mem_append.mp hj with hj | hj
          · exact .inl ⟨j,hj,ds',e',hp',h,h'⟩
          · have hj:j=at_:=List.mem_singleton.mp hj
            subst hj
            rw [hps] at hp'
            cases hp'
            exact .inr ⟨h,h'⟩
    · rintro σ H3 ⟨hs,kvs,u1,u2,rfl,h1,hk1,h2,h3,h4,h5⟩
      rw [show (vN ks).length=ks.length from List.length_map ..,List.take_length] at h4
      have hfew:=dG h2 h3
      refine⟨_,rfl,fd,kvs,hs.map (fun k:Nat=>(k:Int)),rfl,h1,(by rw [hk1,pI]),(by rw [List.length_map];omega),fun l ss hperm nl=>?_⟩
      obtain⟨ms,rfl,hms⟩:=g9 hperm
      rw [<-lM]
      have s3:ah H H3:=fun c o h=>h5 c o (s12 c o h) (aw h nfd)
      refine q l ms _ ae (fun k=>(hms.mem_iff).trans ((h4 k).trans ?_)) (by rw [hms.length_eq];omega) (s3.trans (ah.new nl))
      constructor
      · rintro⟨j,hj,ds,e,r1,r2,r3⟩
        exact⟨j,ds,e,(hks j).mp hj,r1,r2,r3⟩
      · rintro⟨j,ds,e,hj,r1,r2,r3⟩
        exact⟨j,(hks j).mpr hj,ds,e,r1,r2,r3⟩
theorem oQ {f:Addr} {fd:FuncData} (F:bZ K "_law_table_of" "_law_table_of" dN f fd) (Z:Bl mg)  : bG P w K mg base bT 1 f fd ["facts"] lX:=by
 refine F.ok (k:=0) fF (fun vs H Q E h=>?_) (fun cdv A outer s H vs Q E hr h=>?_)
 ·obtain⟨fv,T,m,rfl,_⟩:=h
  rfl
 ·obtain⟨fv,T,m,rfl,hf,cD,hm,q⟩:=h
  refine⟨_,(ai (aG (i:=1) fF.nd rfl (Or.inl rfl) ie)
   (ai (cO PassesOwn.never rfl (eu (pv 0)) (cT rfl (aY (aC (i:=2) fF.nd rfl (Or.inl rfl)) (aY (aC (i:=3) fF.nd rfl (Or.inl rfl)) cE)))
   (ar (fw (dh hr) (pv 1) (pv 2) (pv 3) rfl)))
   (ar (aF (pv 1))))),?_⟩
  obtain⟨p,xs,ss,rfl,hp,srt,hss,r⟩:=hf
  have hl:=r.len
  rw [List.length_map] at hl
  have hsl:ss.length<=m:=cD ss (fun x hx=>(hss x).mp hx) srt.nd
  refine fun d nd=>?_
  have s0:=ah.new (o:=.dK []) nd
  refine⟨_,rfl,p,rfl,⟨_,ay.of (s0 _ _ hp)⟩,ft (K:=K) (a:=p) (xs:=xs) (fun i σ H'=>∃ (kvs:List (Key × V)) (ks:List Str) (u1 u2:Option V),σ = [some (.ref p),some (.ref d),u1,u2]/\H' d=some (.dK kvs)/\Tb 0 H' kvs ks (ko T (ss.take i))/\(∀ x,x ∈ ks ↔ x ∈ ss.take i)/\ks.length<=i/\ah H H') ?_ ?_ ?_ ?_⟩
  ·refine⟨[],[],_,_,rfl,ae,⟨rfl,List.nodup_nil,fun x=>.inl ⟨rfl,?_,by simp⟩⟩,fun x=>by simp,Nat.le_refl _,s0⟩
   unfold ko
   rw [if_neg (by simp)]
  ·rintro i σ H1 hi ⟨kvs,ks,u1,u2,rfl,h1,h2,h3,h4,s1⟩
   exact ay.of (s1 _ _ hp)
  ·rintro i y σ H1 hi ⟨kvs,ks,u1,u2,rfl,h1,h2,h3,h4,s1⟩
   have hil:i < ss.length:=by have:=(List.getElem?_eq_some_iff.mp hi).1;omega
   have hsi:ss[i]? = some ss[i]:=by simp [hil]
   generalize ss[i] = x at hsi
   obtain⟨v,hv,rv⟩:=r.get (i:=i) (d:=dF T x) (by rw [List.getElem?_map,hsi];rfl)
   rw [hi] at hv
   cases hv
   obtain⟨qa,qvs,rfl,hqa,rq⟩:=aV.bX rv
   obtain⟨y1,t1,rfl,q1,rq⟩:=rq.cons_inv
   obtain⟨y2,t2,rfl,q2,rq⟩:=rq.cons_inv
   have z:=rq.nil_inv
   subst z
   have ey1:=q1.str_inv
   subst ey1
   refine⟨qa,_,rfl,ay.of (s1 _ _ hqa),rfl,_,_,rfl,_,_,rfl,rfl,?_⟩
   have kl:kvs.length=ks.length:=by have:=congrArg List.length h2.keys;simpa using this
   obtain⟨sp,rfl,hsp⟩:=yz q2
   refine⟨_,rfl,_,rfl,_,rfl,d,_,rfl,gR.k (k:=Sum.inr x) h1 (bh (by omega)),?_⟩
   obtain⟨ks2,tb2,kl2,km2⟩:=h2.put x (v:=.ref sp) (s:=T x) (.inl ⟨sp,rfl,s1 _ _ hsp⟩)
   rw [sM] at tb2
   have htk:ss.take (i+1)=ss.take i ++ [x]:=by rw [List.take_add_one,hsi];rfl
   refine⟨_,ks2,_,_,rfl,ae,?_,fun y=>?_,by omega,s1.put nd⟩
   ·rw [htk]
    exact tb2.aJ fun p zs e=>by rw [au (bg e h1 (by intro z;cases z))];exact e
   ·rw [km2,h3,htk,List.mem_append,List.mem_singleton]
  ·rintro σ H1 ⟨kvs,ks,u1,u2,rfl,h1,h2,h3,h4,s1⟩
   rw [hl,List.take_length] at h2 h3
   rw [sN hss] at h2
   exact⟨_,rfl,q d H1 ⟨kvs,ks,h1,h2,fun x hx=>(hss x).mp ((h3 x).mp hx),by omega⟩ s1⟩
theorem sW {f:Addr} {fd:FuncData} (F:bZ K "_law_piece" "_law_piece" fE f fd) (Z:Bl mg)  : bG P w K mg base bT 1 f fd ["piece", "numbers"] nI:=by
 refine F.ok (k:=0) ju (fun vs H Q E h=>?_) (fun cdv A outer s H vs Q E hr h=>?_)
 ·obtain⟨pc,da,ea,nl,ws,ds,e,ns,rfl,_⟩:=h
  rfl
 ·obtain⟨pc,da,ea,nl,ws,ds,e,ns,rfl,hpc,hda,rds,hea,hnl,hns,q⟩:=h
  refine⟨_,(ai (dA (pv 0) (cT rfl (aY (aC (i:=2) ju.nd rfl (Or.inl rfl)) (aY (aC (i:=3) ju.nd rfl (Or.inl rfl)) cE))))
   (ai (bu (aH (rE hr.units) (pv 1) (bS af) (aQ _))
   (ar (aF (aU (aa (pv 2) (aa (aU (aa bH af)) af)))))
   aM)
   (ai (bu (aH cg (bD bE rfl Z.len cG (aa (pv 1) af)) ao (aQ _))
   (ar (aF (aU (aa (pv 2) (aa (aU (aa bH (aa (aK bN (pv 1) ao (fun _ _=>rfl)) af))) af)))))
   aM)
   (ar (aF (aU (aa (pv 2) (aa (bw ug (jZ mr (pv 3) mf (mh ao)) (aU (aa (aK bN (pv 1) ao (fun _ _=>rfl)) (aa (aK bN (pv 1) ao (fun _ _=>rfl)) af)))) af)))))))),?_⟩
  refine⟨_,rfl,pc,_,rfl,ay.of hpc,rfl,_,_,rfl,_,_,rfl,rfl,?_⟩
  have mkp:∀ (H3:Hp) (t tt:Addr) (e':L2.End),ah H H3->H3 t=some (.tup (d7 e'))->e' = iP e ns->H3 tt=none->Q (.ref tt) (upd H3 tt (.tup [.ref da,.ref t])):=fun H3 t tt e' s3 ht ee nt=>by
   subst ee
   have q4:=ah.new (o:=.tup [.ref da,.ref t]) nt
   exact q (.ref tt) _ (.tup ae (.cons (.tup (q4 _ _ (s3 _ _ hda)) (rds.same (s3.trans q4) (bK ds))) (.cons (wQ (q4 _ _ ht)) .nil))) (s3.trans q4)
  refine⟨_,rfl,(by show 0<=sizeLine;decide),fun l0 n0=>?_⟩
  have s0:=ah.new (o:=.lst []) n0
  have h0:(upd H l0 (.lst [])) l0=some (.lst []):=ae
  generalize (upd H l0 (.lst []))=H1 at s0 h0
  have hnl1:=s0 _ _ hnl
  have lay:(PyData.list (ns.map sm)).canLay0=true:=by
   have:∀ l:List Nat,(PyData.list (l.map sm)).canLay0=true:=by
    intro l
    induction l with
    | nil=>rfl
    | cons a l ih=>show (true && (PyData.list (l.map sm)).canLay0)=true;rw [ih];rfl
   exact this ns
  refine⟨.list (ns.map sm),.list [],.lst hnl1 (so ns),.lst h0 .nil,lay,rfl,(by have:(PyData.list []).depth<=1:=Nat.le_refl 1;omega),_,rfl,?_⟩
  match ns,hns,hnl1,mkp with
  | [],hns,hnl1,mkp =>
   refine cf rfl ?_
   refine⟨_,rfl,rB,fun t nt=>⟨ln2,fun tt ntt=>mkp _ t tt .stop (s0.trans (ah.new nt)) ae ?_ ntt⟩⟩
   cases e with
   | stop=>rfl
   | go p=>exact absurd (hns.resolve_left (by decide)) (by show ¬ 0=1;decide)
   | cC b x n p r=>exact absurd (hns.resolve_left (by decide)) (by show ¬ 0=2;decide)
  | [a],hns,hnl1,mkp =>
   refine bo rfl ?_
   refine⟨_,rfl,nl,_,rfl,.inl (aI.of hnl1),rfl,_,rfl,cf (decide_eq_true rfl) ?_⟩
   exact⟨_,rfl,_,rfl,nl,_,0,_,rfl,rfl,aI.of hnl1,cm,ln2,fun t nt=>⟨ln2,fun tt ntt=>mkp _ t tt (.go a) (s0.trans (ah.new nt)) ae rfl ntt⟩⟩
  | [a,c],hns,hnl1,mkp =>
   refine bo rfl ?_
   refine⟨_,rfl,nl,_,rfl,.inl (aI.of hnl1),rfl,_,rfl,bo (show decide (V.int ((2:Nat):Int)=V.int 1)=false by decide +kernel) ?_⟩
   have hns:=hns.resolve_left (by show ¬ 2=1;decide)
   cases e with
   | stop=>exact absurd hns (by show ¬ 2=0;decide)
   | go p=>exact absurd hns (by show ¬ 2=1;decide)
   | cC b x n p r =>
    refine⟨_,rfl,_,rfl,_,rfl,vi (e:=.cC b x n p r) (s0 _ _ hea) fun t H2 ht s2=>?_⟩
    have hnl2:=s2 _ _ hnl1
    refine⟨_,rfl,nl,_,0,_,rfl,rfl,aI.of hnl2,cm,_,rfl,nl,_,1,_,rfl,rfl,aI.of hnl2,cZ,ln2,fun t2 nt2=>?_⟩
    have q2:=ah.new (o:=.tup [.int (a:Nat),.int (c:Nat)]) nt2
    refine⟨t,t2,_,_,rfl,rfl,q2 _ _ ht,ae,(by show 5<=sizeLine;decide),fun t3 H3 ht3 s3=>⟨ln2,fun tt ntt=>mkp H3 t3 tt (.cC b x n a c) (((s0.trans s2).trans q2).trans s3) ht3 rfl ntt⟩⟩
  | _ :: _ :: _ :: _,hns,hnl1,mkp =>
   exfalso
   have h3:(aP e).length<=2:=by cases e <;> (show _<=2) <;> simp [aP]
   simp only [List.length_cons] at hns
   omega
theorem qJ {f:Addr} {fd:FuncData} (F:bZ K "_law_copies" "_law_copies" e6 f fd) (Z:Bl mg) (O_law_heads:Own P w K mg base "_law_heads" 4 ["plan"] nH) (O_law_all_names:Own P w K mg base "_law_all_names" 1 ["plan"] sC) (O_law_told:Own P w K mg base "_law_told" 1 ["facts"] pB) (O_law_piece:Own P w K mg base "_law_piece" 1 ["piece", "numbers"] nI) (O_law_table_of:Own P w K mg base "_law_table_of" 1 ["facts"] lX) (O_law_behind:Own P w K mg base "_law_behind" 2 ["facts", "deeds"] sr) (O_law_leads:Own P w K mg base "_law_leads" 3 ["facts", "end"] nF):bG P w K mg base bT 6 f fd ["plan", "most"] lY:=by
  refine F.ok (k:=5) bF (fun vs H Q E h=>?_) (fun cdv A outer s H vs Q E hr h=>?_)
  · obtain⟨plv,ps,xs,most,rfl,_⟩:=h
    rfl
  · obtain⟨plv,ps,xs,most,rfl,hp,pok,nok,hx10,hn0,hn,hm1,hm3,q⟩:=h
    refine⟨_,(ai (aG (i:=2) bF.nd rfl (Or.inl rfl) (aB O_law_heads (hr.mono (by decide)) rfl (aa (pv 0) af)))
      (ai (aG (i:=3) bF.nd rfl (Or.inl rfl) (bS af))
      (ai (aG (i:=4) bF.nd rfl (Or.inl rfl) (bS af))
      (ai (aG (i:=5) bF.nd rfl (Or.inl rfl) ie)
      (ai (cO PassesOwn.never rfl (fq (aB O_law_all_names (hr.mono (by decide)) rfl (aa (pv 0) af))) (aC (i:=6) bF.nd rfl (Or.inl rfl))
      (ar (fw (dh hr) (pv 5) (pv 6) (aU (aa ao (aa ao af))) rfl)))
      (ai (aG (i:=7) bF.nd rfl (Or.inl rfl) (bS (aa (aU (aa ao (aa (pv 5) af))) af)))
      (ai (aG (i:=8) bF.nd rfl (Or.inl rfl) (bS af))
      (ai (aG (i:=9) bF.nd rfl (Or.inl rfl) (Bu An ao))
      (ai (jY PassesOwn.never (aH gN (pv 9) (bD bE rfl Z.len cG (aa (pv 3) af)) (aQ _))
      (ai (aG (i:=8) bF.nd rfl (Or.inl rfl) (bS af))
      (ai (cO PassesOwn.never rfl (fq (pv 7)) (cT rfl (aY (aC (i:=10) bF.nd rfl (Or.inl rfl)) (aY (aC (i:=11) bF.nd rfl (Or.inl rfl)) cE)))
      (ai (eC (aG (i:=12) bF.nd rfl (Or.inl rfl) (aU (aa (pv 10) (aa (aB O_law_told (hr.mono (by decide)) rfl (aa (aK bN (bS (aa (pv 11) (aa ie af))) (bx iA rfl Z.int kX (aa (gx kT (pv 10) (pv 2) (by with_unfolding_all rfl)) af)) (fun _ _=>rfl)) af)) af)))))
      (ai (eC (bu (PW.pt (iw (aH (oE (lP hr)) (pv 12) (pv 3) (by with_unfolding_all rfl)) (hX (aH uD (bD bE rfl Z.len cG (aa (pv 3) af)) (pv 1) (aQ _)))))
      (ar (aG (i:=12) bF.nd rfl (Or.inl rfl) (aU (aa (pv 10) (aa (aU af) af)))))
      aM))
      (ai (eC (bu (aH (oE (lP hr)) (pv 12) (pv 3) (by with_unfolding_all rfl))
      (ar (cX (eM PySem.F.plainAttrs_list PySem.F.slot_list_append PySem.F.type_list_append cY (pv 3) (aa (pv 12) af))))
      aM))
      (ar (cX (eM PySem.F.plainAttrs_list PySem.F.slot_list_append PySem.F.type_list_append cY (pv 8) (aa (eM PySem.F.plainAttrs_list PySem.F.slot_list_index PySem.F.type_list_index (w6 (lP hr)) (pv 3) (aa (pv 12) af)) af))))))))
      (ai (eC (bu (aH uD (pv 9) ao (aQ _))
      (ar (cX (eM PySem.F.plainAttrs_list PySem.F.slot_list_append PySem.F.type_list_append cY (pv 4) (aa (aB O_law_piece (hr.mono (by decide)) rfl (aa (aK bc (pv 0) (aK bc (aK bN (pv 3) (pv 9) (fun _ _=>rfl)) ao (fun _ _=>rfl)) (fun _ _=>rfl)) (aa (pv 8) af))) af))))
      aM))
      (ai (aG (i:=9) bF.nd rfl (Or.inl rfl) (bw cK (pv 9) ao))
      (ar (bu (aH gN (pv 9) (bD bE rfl Z.len cG (aa (pv 3) af)) (aQ _))
      (ai (dA (aK bc (pv 0) (aK bc (aK bN (pv 3) (pv 9) (fun _ _=>rfl)) ao (fun _ _=>rfl)) (fun _ _=>rfl)) (cT rfl (aY (aC (i:=13) bF.nd rfl (Or.inl rfl)) (aY (aC (i:=14) bF.nd rfl (Or.inl rfl)) cE))))
      (ai (aG (i:=11) bF.nd rfl (Or.inl rfl) (aB O_law_behind (hr.mono (by decide)) rfl (aa (aB O_law_table_of (hr.mono (by decide)) rfl (aa (aK bc (aK bN (pv 3) (pv 9) (fun _ _=>rfl)) ao (fun _ _=>rfl)) af)) (aa (pv 13) af))))
      (ar (j0 (i:=7) ["side", "piece", "more"] [] [] rfl bF.nd rfl rfl rfl (fq (aB O_law_leads (hr.mono (by decide)) rfl (aa (pv 11) (aa (pv 14) af)))) rfl (by decide +kernel) (by decide +kernel) (by decide +kernel) True.intro (fun _ _ _ _=>(oZ (K:=K) (n:=3) rfl (cT (n:=3) rfl (aY (aC (i:=0) (show ((["side", "piece", "more"]:List Str)++([]:List Str)).Nodup by decide +kernel) rfl (Or.inl rfl) (hf:=Or.inr rfl)) (aY (aC (i:=1) (show ((["side", "piece", "more"]:List Str)++([]:List Str)).Nodup by decide +kernel) rfl (Or.inl rfl) (hf:=Or.inr rfl)) (aY (aC (i:=2) (show ((["side", "piece", "more"]:List Str)++([]:List Str)).Nodup by decide +kernel) rfl (Or.inl rfl) (hf:=Or.inr rfl)) cE)))))) (fun _ _ _ _=>eR) (fun _ _ _ _=>(aU (aa (pv 1) (aa (pv 2) af))))))))
      aM)))))))
      (ar (aF (aU (aa (bx bC rfl Z.tuple bV (aa (pv 4) af)) (aa (bx bC rfl Z.tuple bV (aa (pv 3) af)) af)))))))))))))),?_⟩
    obtain⟨pp,vs,rfl,e1,r1⟩:=aV.bX hp
    have hvl:=r1.len
    rw [List.length_map] at hvl
    have hin:=pok.wb
    refine⟨_,rfl,_,ps,rfl,hp,hin,hn0,hn,fun tp hs H1 htp hhs hsl s1=>?_⟩
    refine⟨(by show 0<=sizeLine;decide),fun fl nfl=>?_⟩
    have s2:=ah.new (o:=.lst []) nfl
    have hf2:(upd H1 fl (.lst [])) fl=some (.lst []):=ae
    generalize (upd H1 fl (.lst []))=H2 at s2 hf2
    refine⟨(by show 0<=sizeLine;decide),fun pz npz=>?_⟩
    have s3:=ah.new (o:=.lst []) npz
    have hz3:(upd H2 pz (.lst [])) pz=some (.lst []):=ae
    have hf3:=s3 _ _ hf2
    generalize (upd H2 pz (.lst []))=H3 at s3 hz3 hf3
    refine fun bd nbd=>?_
    have s4:=ah.new (o:=.dK []) nbd
    have hb4:(upd H3 bd (.dK [])) bd=some (.dK []):=ae
    generalize (upd H3 bd (.dK []))=H4 at s4 hb4
    have s14:=((s1.trans s2).trans s3).trans s4
    refine⟨_,rfl,_,ps,xs,6,rfl,hp.same s14 (bP ps),pok,(by omega),fun nl ss H5 hnl hperm hsort hss s5=>?_⟩
    have hm:∀ x,x ∈ ss ↔ x ∈ ba ps:=fun x=>hperm.mem_iff.trans LS.jx
    have hsT:∀ x,x ∈ ss ↔ startT ps x ≠ cy:=fun x=>by
      rw [hm]
      unfold L2.startT
      by_cases h:x ∈ ba ps
      · rw [if_pos h];exact⟨fun _ z=>(by cases z),fun _=>h⟩
      · rw [if_neg h];exact⟨fun z=>absurd z h,fun z=>absurd rfl z⟩
    have hss10:ss.length<=10:=by
      have h1:=hperm.length_eq
      have h2:=nq pok
      omega
    have hb5:=s5 _ _ hb4
    have nlb:nl ≠ bd:=bg hnl hb5 (by intro z;cases z)
    refine⟨nl,rfl,⟨_,aI.of hnl⟩,hZ (K:=K) (a:=nl) (xs:=ss.map V.str) (fun i σ H'=>∃ (kvs:List (Key × V)) (ks:List Str) (u:Option V),σ = [some (.ref pp),some (.int (most:Nat)),some (.ref tp),some (.ref fl),some (.ref pz),some (.ref bd),u,none,none,none,none,none,none,none,none]/\H' bd=some (.dK kvs)/\Tb 0 H' kvs ks (ko (startT ps) (ss.take i))/\(∀ x,x ∈ ks ↔ x ∈ ss.take i)/\ks.length<=i/\(∀ c o,H5 c=some o->c ≠ bd->H' c=some o)) ?_ ?_ ?_ ?_⟩
    · refine⟨[],[],_,rfl,hb5,⟨rfl,List.nodup_nil,fun x=>.inl ⟨rfl,?_,by simp⟩⟩,fun x=>by simp,Nat.le_refl _,fun c o h _=>h⟩
      unfold ko
      rw [if_neg (by simp)]
    · rintro i σ H6 hi ⟨kvs,ks,u,rfl,h1,h2,h3,h4,h5⟩
      exact aI.of (h5 _ _ hnl nlb)
    · rintro i y σ H6 hi ⟨kvs,ks,u,rfl,h1,h2,h3,h4,h5⟩
      obtain⟨x,hsi,rfl⟩:∃ x,ss[i]? = some x/\y=V.str x:=by
        rw [List.getElem?_map] at hi
        cases e:ss[i]? with
        | none=>rw [e] at hi;cases hi
        | some k=>rw [e] at hi;exact⟨k,rfl,(Option.some.inj hi).symm⟩
      have hil:i < ss.length:=(List.getElem?_eq_some_iff.mp hsi).1
      have kl:kvs.length=ks.length:=by have:=congrArg List.length h2.keys;simpa using this
      refine cu ?_
      refine⟨ln2,fun t nt=>?_⟩
      have q7:=ah.new (o:=.tup [.int 0,.int 0]) nt
      have ht7:(upd H6 t (.tup [.int 0,.int 0])) t=some (.tup [.int 0,.int 0]):=ae
      have h17:=q7 _ _ h1
      have tb7:=h2.aJ (H':=upd H6 t (.tup [.int 0,.int 0])) fun p zs e=>q7 _ _ e
      generalize (upd H6 t (.tup [.int 0,.int 0]))=H7 at q7 ht7 h17 tb7
      refine⟨_,rfl,_,rfl,bd,_,rfl,gR.k (k:=Sum.inr x) h17 (bh (by omega)),?_⟩
      have hxa:startT ps x=(some 0,some 0):=by unfold L2.startT;rw [if_pos ((hm x).mp (List.mem_of_getElem? hsi))]
      obtain⟨ks2,tb2,kl2,km2⟩:=tb7.put x (v:=.ref t) (s:=startT ps x) (.inl ⟨t,rfl,by rw [hxa];exact ht7⟩)
      rw [sM] at tb2
      have htk:ss.take (i+1)=ss.take i ++ [x]:=by rw [List.take_add_one,hsi];rfl
      refine⟨_,ks2,_,rfl,ae,?_,fun y=>?_,by omega,fun c o h c1=>by rw [au c1];exact q7 _ _ (h5 c o h c1)⟩
      · rw [htk]
        exact tb2.aJ fun p zs e=>by rw [au (bg e h17 (by intro z;cases z))];exact e
      · rw [km2,h3,htk,List.mem_append,List.mem_singleton]
    rintro σ H6 ⟨kvs,ks,u,rfl,h1,h2,h3,h4,h5⟩
    rw [show (ss.map V.str).length=ss.length from List.length_map ..,List.take_length] at h2 h3
    rw [show (ss.map V.str).length=ss.length from List.length_map ..] at h4
    rw [sN hsT] at h2
    have lt6:LT H6 bd (startT ps) 10:=⟨kvs,ks,h1,h2,fun x hx=>(hsT x).mp ((h3 x).mp hx),by omega⟩
    refine⟨_,rfl,ln2,fun wt nwt=>⟨rB,fun wl nwl=>?_⟩⟩
    have q7:=ah.new (o:=.tup [.int 0,.ref bd]) nwt
    have q8:=ah.new (o:=.lst [.ref wt]) nwl
    have hw8:(upd (upd H6 wt (.tup [.int 0,.ref bd])) wl (.lst [.ref wt])) wl=some (.lst [.ref wt]):=ae
    have ht8:=q8 _ _ (ae:(upd H6 wt (.tup [.int 0,.ref bd])) wt=some (.tup [.int 0,.ref bd]))
    have lt8:=(lt6.same q7).same q8
    have s68:=q7.trans q8
    generalize (upd (upd H6 wt (.tup [.int 0,.ref bd])) wl (.lst [.ref wt]))=H8 at q8 hw8 ht8 lt8 s68
    refine⟨(by show 0<=sizeLine;decide),fun nb0 nnb0=>?_⟩
    have q9:=ah.new (o:=.lst []) nnb0
    have s13:=(s1.trans s2).trans s3
    have nbdH:H bd=none:=s13.free nbd
    have nflH:H fl=none:=s1.free nfl
    have npzH:H pz=none:=(s1.trans s2).free npz
    have k36:∀ c o,H3 c=some o->H6 c=some o:=fun c o e=>h5 c o (s5 _ _ (s4 _ _ e)) (aw e nbd)
    have s6:ah H H6:=fun c o e=>k36 c o (s13 c o e)
    have hf6:=k36 _ _ hf3
    have hz6:=k36 _ _ hz3
    have htp6:=k36 _ _ (s3 _ _ (s2 _ _ htp))
    have nfp:fl ≠ pz:=aw hf2 npz
    have ntf:tp ≠ fl:=aw htp nfl
    have ntz:tp ≠ pz:=aw (s2 _ _ htp) npz
    have nwf:wl ≠ fl:=(aw (q7 _ _ hf6) nwl).symm
    have nwz:wl ≠ pz:=(aw (q7 _ _ hz6) nwl).symm
    have s69:=s68.trans q9
    have hw9:=q9 _ _ hw8
    have ht9:=q9 _ _ ht8
    have lt9:=lt8.same q9
    generalize (upd H8 nb0 (.lst []))=H9 at q9 s69 hw9 ht9 lt9
    have sok:=ki pok
    have c0ok:(gi ps).1 < ps.length/\cB xs (gi ps).2:=by
      unfold gi
      split
      · exact⟨hn0,cB.zero⟩
      · exact⟨hn0,sok⟩
    refine⟨_,rfl,?_⟩
    refine⟨fun fu σ H'=>∃ (fvs:List V) (fds:List PyData) (cs ls:List Cp) (zs:List V) (outs:List Piece) (wl:Addr) (wvs:List V) (at_:Int) (u0 u1 u2 u3 u4 u5 u6:Option V),σ = [some (.ref pp),some (.int (most:Nat)),some (.ref tp),some (.ref fl),some (.ref pz),some (.ref bd),u0,some (.ref wl),u1,some (.int at_),u2,u3,u4,u5,u6]/\H' tp=some (.lst (vN hs))/\H' fl=some (.lst fvs)/\aZ H' fvs fds/\Paired (fun d c=>CD c d) fds cs/\gg ps.length most cs/\(∀ c ∈ cs,c.1 < ps.length/\cB xs c.2)/\H' pz=some (.lst zs)/\aZ H' zs (outs.map cb)/\H' wl=some (.lst wvs)/\qr 17 H' wvs ls/\(∀ c ∈ ls,c.1 < ps.length/\cB xs c.2)/\ls.length<=2/\wl ≠ fl/\wl ≠ pz/\ah H H'/\yA ps most fu at_ cs outs ls,⟨_,[],[],[],[(0,startT ps)],[],[],wl,_,_,_,_,_,_,_,_,_,rfl,s69 _ _ htp6,s69 _ _ hf6,.nil,.nil,⟨List.nodup_nil,Nat.zero_le _⟩,(fun c hc=>nomatch hc),s69 _ _ hz6,.nil,hw9,.cons ⟨wt,bd,rfl,ht9,lt9.mono (by decide)⟩ .nil,(fun c hc=>by rw [List.mem_singleton.mp hc];exact⟨hn0,sok⟩),(by show 1<=2;decide),nwf,nwz,s6.trans s69,.inl ⟨rfl,rfl,rfl,rfl,rfl⟩⟩,?_⟩
    clear lt6 lt8 lt9 ht8 ht9 hw8 hw9 q7 q8 q9 s68 s69 htp6 hf6 hz6 nwf nwz h1 h2 h3 h4 nwt nwl nnb0 hsort hss
    rintro fu σ H4 ⟨fvs,fds,cs,ls,zs,outs,wl,wvs,at_,u0,u1,u2,u3,u4,u5,u6,rfl,htp4,hf4,rf4,cc4,lZ,hcs,hz4,rz4,hw4,wv4,lok,hl2,nwf,nwz,s4',way⟩
    have hfl4:fvs.length=cs.length:=by have:=rf4.len;rw [this];exact Paired.length cc4
    have hzl:zs.length=outs.length:=by have:=rz4.len;rw [List.length_map] at this;exact this
    have hwl4:wvs.length=ls.length:=Paired.length wv4
    have hcn:=lZ.len fun c hc=>(hcs c hc).1
    refine⟨_,rfl,_,rfl,fl,_,rfl,.inl (aI.of hf4),_,_,rfl,rfl,_,rfl,?_⟩
    refine cM (fun hc=>?_) (fun hc=>?_)
    · have hlt:at_ < fvs.length:=by have:=of_decide_eq_true hc;omega
      have hfu:0 < fu:=way.pos (by omega) hcn
      refine⟨_,fun σ' H' h=>⟨fu - 1,by omega,h⟩,?_⟩
      refine⟨(by show 0<=sizeLine;decide),fun nb nnb=>?_⟩
      have q5:=ah.new (o:=.lst []) nnb
      have hnb:(upd H4 nb (.lst [])) nb=some (.lst []):=ae
      have nbf:nb ≠ fl:=(aw hf4 nnb).symm
      have nbz:nb ≠ pz:=(aw hz4 nnb).symm
      have nbw:nb ≠ wl:=(aw hw4 nnb).symm
      have nbt:nb ≠ tp:=(aw htp4 nnb).symm
      have nbH:H nb=none:=s4'.free nnb
      have htp5:=q5 _ _ htp4
      have hf5:=q5 _ _ hf4
      have rf5:=rf4.same q5 (fR cc4)
      have hz5:=q5 _ _ hz4
      have rz5:=rz4.same q5 (aW outs)
      have hw5:=q5 _ _ hw4
      have wv5:=wv4.mv (fun c o e=>q5 _ _ e) (fun c o e=>q5 _ _ e)
      have s5':=s4'.trans q5
      generalize (upd H4 nb (.lst []))=H5' at q5 hnb htp5 hf5 rf5 hz5 rz5 hw5 wv5 s5'
      refine⟨_,rfl,wl,rfl,⟨_,aI.of hw5⟩,hZ (K:=K) (a:=wl) (xs:=wvs) (fun i σ H'=>∃ (fvs':List V) (fds':List PyData) (u2 u3 u4:Option V),σ = [some (.ref pp),some (.int (most:Nat)),some (.ref tp),some (.ref fl),some (.ref pz),some (.ref bd),u0,some (.ref wl),some (.ref nb),some (.int at_),u2,u3,u4,u5,u6]/\H' fl=some (.lst fvs')/\aZ H' fvs' fds'/\Paired (fun d c=>CD c d) fds' (aT (aX ps) most cs (ls.take i)).1/\H' nb=some (.lst (vN (aT (aX ps) most cs (ls.take i)).2))/\(∀ c o,H5' c=some o->c ≠ fl->c ≠ nb->H' c=some o)) ?_ ?_ ?_ ?_⟩
      · exact⟨fvs,fds,_,_,_,rfl,hf5,rf5,cc4,hnb,fun c o e _ _=>e⟩
      · rintro i σ H6' hi ⟨fvs',fds',v2,v3,v4,rfl,g1,g2,g3,g4,g5⟩
        exact aI.of (g5 _ _ hw5 nwf nbw.symm)
      · rintro i y σ H6' hi ⟨fvs',fds',v2,v3,v4,rfl,g1,g2,g3,g4,g5⟩
        obtain⟨pr,hpr,qa,d,rfl,hq,ltd⟩:=fO wv5 hi
        obtain⟨k,U⟩:=pr
        obtain⟨hkl,hUok⟩:=lok _ (List.mem_of_getElem? hpr)
        obtain⟨cok7,hcs7,hln7,_⟩:=fP (tops:=aX ps) (ls:=ls.take i) (ns:=[]) lZ hcs fun c hc=>lok c (List.mem_of_mem_take hc)
        have hcn7:=gg.len cok7 fun c hc=>(hcs7 c hc).1
        have hnx:aT (aX ps) most cs (ls.take (i+1))=(LS.putIn (aT (aX ps) most cs (ls.take i)).1 (bp (aX ps) most (aT (aX ps) most cs (ls.take i)).1 (k,U)),(aT (aX ps) most cs (ls.take i)).2 ++ [(LS.putIn (aT (aX ps) most cs (ls.take i)).1 (bp (aX ps) most (aT (aX ps) most cs (ls.take i)).1 (k,U))).idxOf (bp (aX ps) most (aT (aX ps) most cs (ls.take i)).1 (k,U))]):=mW (aX ps) most (cs:=cs) hpr
        have hil:i < ls.length:=(List.getElem?_eq_some_iff.mp hpr).1
        have hln7':(aT (aX ps) most cs (ls.take i)).2.length<=2:=by
          unfold aT
          rw [hln7,List.length_take]
          show 0+_<=_
          omega
        change gg ps.length most (aT (aX ps) most cs (ls.take i)).1 at cok7
        change ∀ c ∈ (aT (aX ps) most cs (ls.take i)).1,_ at hcs7
        change (aT (aX ps) most cs (ls.take i)).1.length<=_ at hcn7
        rw [hnx]
        clear hnx hln7
        generalize (aT (aX ps) most cs (ls.take i)).1=cs' at g3 hcs7 cok7 hcn7
        generalize (aT (aX ps) most cs (ls.take i)).2=ns at g4 hln7'
        have kt6:∀ p zs,H5' p=some (.tup zs)->H6' p=some (.tup zs):=fun p zs e=>g5 _ _ e (bg e hf5 (by intro z;cases z)) (bg e hnb (by intro z;cases z))
        have hq6:=kt6 _ _ hq
        have htp6:=g5 _ _ htp5 ntf nbt.symm
        have lt6:LT H6' d U 17:=by
          refine ltd.aJ (fun o e=>?_) kt6
          obtain⟨kvs0,ks0,hd0,_⟩:=id ltd
          exact g5 _ _ e (bg hd0 hf5 (by intro z;cases z)) (bg hd0 hnb (by intro z;cases z))
        have hky:=mE g3 fun c hc=>(hcs7 c hc).2.lay nok
        have hcl7:fvs'.length=cs'.length:=by have:=g2.len;rw [this];exact Paired.length g3
        refine⟨qa,_,rfl,ay.of hq6,rfl,_,_,rfl,_,_,rfl,rfl,?_⟩
        refine⟨fun σ' H'=>∃ (v:V) (dd:PyData),σ' = [some (.ref pp),some (.int (most:Nat)),some (.ref tp),some (.ref fl),some (.ref pz),some (.ref bd),u0,some (.ref wl),some (.ref nb),some (.int at_),some (.int (k:Nat)),some (.ref d),some v,u5,u6]/\aV H' v dd/\CD (jt hs k U) dd/\ah H6' H',?_,?_⟩
        · refine⟨_,rfl,_,rfl,fun e ne=>⟨ln2,fun l nl=>⟨_,rfl,_,rfl,tp,_,rfl,.inl (aI.of ((ah.new nl) _ _ ((ah.new ne) _ _ htp6))),rfl,mB _,.inr ⟨_,rfl,?_⟩⟩⟩⟩
          have q1:=ah.new (o:=.dK []) ne
          have q2:=ah.new (o:=.lst [.ref d,.ref e]) nl
          have he2:=q2 _ _ (ae:(upd H6' e (.dK [])) e=some (.dK []))
          rw [show (if false=true then !kA (.int (k:Nat)) (vN hs) else kA (.int (k:Nat)) (vN hs))=decide (k ∈ hs) from jU k hs]
          have fin:∀ (v:V) (H':Hp) (T:Str->Sx),FV H' v T->ah H6' H'->∀ t,H' t=none->jt hs k U=(k,T)->∃ (v_1:V) (dd:PyData),[some (V.ref pp),some (.int (most:Nat)),some (.ref tp),some (.ref fl),some (.ref pz),some (.ref bd),u0,some (.ref wl),some (.ref nb),some (.int at_),some (.int (k:Nat)),some (.ref d),some (V.ref t),u5,u6] = [some (V.ref pp),some (.int (most:Nat)),some (.ref tp),some (.ref fl),some (.ref pz),some (.ref bd),u0,some (.ref wl),some (.ref nb),some (.int at_),some (.int (k:Nat)),some (.ref d),some v_1,u5,u6]/\aV (upd H' t (.tup [.int (k:Nat),v])) v_1 dd/\CD (jt hs k U) dd/\ah H6' (upd H' t (.tup [.int (k:Nat),v])):=fun v H' T fv s t nt el=>by
            obtain⟨fd,hfd,rd⟩:=fv.fd
            have q3:=ah.new (o:=.tup [.int (k:Nat),v]) nt
            refine⟨_,.tuple [.int (k:Nat),fd],rfl,.tup ae (.cons (.int _) (.cons (rd.same q3 hfd.hV) .nil)),?_,s.trans q3⟩
            rw [el]
            exact⟨fd,hfd,rfl⟩
          by_cases hk:k ∈ hs
          · rw [if_pos (decide_eq_true hk)]
            refine⟨l,_,1,_,rfl,rfl,aI.of ae,cZ,e,T0,rfl,⟨[],[],he2,⟨rfl,List.nodup_nil,fun x=>.inl ⟨rfl,rfl,by simp⟩⟩,(fun x hx=>nomatch hx),Nat.zero_le _⟩,fun v H' fv s=>⟨ln2,fun t nt=>fin v H' T0 fv ((q1.trans q2).trans s) t nt (by unfold jt;rw [if_pos hk])⟩⟩
          · rw [if_neg (fun z=>hk (of_decide_eq_true z))]
            refine⟨l,_,0,_,rfl,rfl,aI.of ae,cm,d,U,rfl,((lt6.same q1).same q2).mono (by decide),fun v H' fv s=>⟨ln2,fun t nt=>fin v H' U fv ((q1.trans q2).trans s) t nt (by unfold jt;rw [if_neg hk])⟩⟩
        rintro σ' H7 ⟨v,dd,rfl,rv,cdv,s7⟩
        have hf7:=s7 _ _ g1
        have rf7:=g2.same s7 (fR g3)
        have hok1:cB xs (jt hs k U).2:=by
          unfold jt
          split
          · exact cB.zero
          · exact hUok
        have hin7:=(cdv.mem g3).1
        have hcF:=xb (most:=most) (cs:=cs') (U:=U) (k:=k) hhs
        refine⟨fun σ' H'=>∃ (v:V) (dd:PyData),σ' = [some (.ref pp),some (.int (most:Nat)),some (.ref tp),some (.ref fl),some (.ref pz),some (.ref bd),u0,some (.ref wl),some (.ref nb),some (.int at_),some (.int (k:Nat)),some (.ref d),some v,u5,u6]/\aV H' v dd/\CD (bp (aX ps) most cs' (k,U)) dd/\ah H6' H',?_,?_⟩
        · refine⟨_,rfl,_,rfl,fl,fvs',fds',dd,rfl,aI.of hf7,rf7,hky,rv,cdv.key (hok1.lay nok),_,rfl,?_⟩
          by_cases hm:jt hs k U ∈ cs'
          · refine bo (show (if true=true then !decide (dd ∈ fds') else decide (dd ∈ fds'))=false by rw [if_pos rfl,decide_eq_true (hin7.mpr hm)];rfl) (bI ?_)
            exact⟨v,dd,rfl,rv,by rw [hcF,if_pos (.inl hm)];exact cdv,s7⟩
          · refine cf (show (if true=true then !decide (dd ∈ fds') else decide (dd ∈ fds'))=true by rw [if_pos rfl,decide_eq_false (fun z=>hm (hin7.mp z))];rfl) ?_
            refine⟨_,rfl,fl,_,rfl,.inl (aI.of hf7),_,rfl,_,_,rfl,rfl,_,rfl,?_⟩
            refine cM (fun hc=>?_) (fun hc=>?_)
            · have hge:¬ cs'.length < most:=by have:=of_decide_eq_true hc;omega
              refine⟨_,rfl,(by show 0<=sizeLine;decide),fun t1 n1=>⟨ln2,fun t2 n2=>?_⟩⟩
              have q2:=ah.new (o:=.tup [.int (k:Nat),.ref t1]) n2
              exact⟨_,.tuple [.int (k:Nat),.tuple []],rfl,.tup ae (.cons (.int _) (.cons (.tup (q2 _ _ ae) .nil) .nil)),by rw [hcF,if_neg (fun z=>z.elim hm hge)];exact⟨_,FD.zero,rfl⟩,(s7.trans (ah.new n1)).trans q2⟩
            · have hlt':cs'.length < most:=Nat.lt_of_not_le fun z=>hc (decide_eq_true (by omega))
              exact⟨v,dd,rfl,rv,by rw [hcF,if_pos (.inr hlt')];exact cdv,s7⟩
        clear rv cdv s7 hf7 rf7 hok1 hin7 v dd H7
        rintro σ' H7 ⟨v,dd,rfl,rv,cdv,s7⟩
        have hf7:=s7 _ _ g1
        have hnb7:=s7 _ _ g4
        have rf7:=g2.same s7 (fR g3)
        have hok1:cB xs (bp (aX ps) most cs' (k,U)).2:=by
          unfold bp
          split
          · exact cB.zero
          · split
            · exact hUok
            · exact cB.zero
        generalize bp (aX ps) most cs' (k,U)=cn at cdv hok1
        have hin7:=(cdv.mem g3).1
        have kyd:=cdv.key (hok1.lay nok)
        refine⟨fun σ' H'=>∃ (fvs2:List V) (fds2:List PyData),σ' = [some (.ref pp),some (.int (most:Nat)),some (.ref tp),some (.ref fl),some (.ref pz),some (.ref bd),u0,some (.ref wl),some (.ref nb),some (.int at_),some (.int (k:Nat)),some (.ref d),some v,u5,u6]/\H' fl=some (.lst fvs2)/\aZ H' fvs2 fds2/\Paired (fun d c=>CD c d) fds2 (LS.putIn cs' cn)/\aV H' v dd/\(∀ c o,H7 c=some o->c ≠ fl->H' c=some o),?_,?_⟩
        · refine⟨_,rfl,_,rfl,fl,fvs',fds',dd,rfl,aI.of hf7,rf7,hky,rv,kyd,_,rfl,?_⟩
          by_cases hm:cn ∈ cs'
          · refine bo (show (if true=true then !decide (dd ∈ fds') else decide (dd ∈ fds'))=false by rw [if_pos rfl,decide_eq_true (hin7.mpr hm)];rfl) ?_
            exact⟨fvs',fds',rfl,hf7,rf7,by unfold LS.putIn;rw [if_pos hm];exact g3,rv,fun c o e _=>e⟩
          · refine cf (show (if true=true then !decide (dd ∈ fds') else decide (dd ∈ fds'))=true by rw [if_pos rfl,decide_eq_false (fun z=>hm (hin7.mp z))];rfl) ?_
            refine⟨_,rfl,.inl ⟨rfl,_,aI.of hf7⟩,_,rfl,fl,_,_,rfl,rfl,hf7,bh (by omega),?_⟩
            have kt:∀ p zs,H7 p=some (.tup zs)->(upd H7 fl (.lst (fvs' ++ [v]))) p=some (.tup zs):=fun p zs e=>by rw [au (bg e hf7 (by intro z;cases z))];exact e
            exact⟨_,fds' ++ [dd],rfl,ae,aZ.app (rf7.aJ kt (fR g3)) (rv.aJ kt cdv.hV),by unfold LS.putIn;rw [if_neg hm];exact dE g3 (.cons cdv .nil),rv.aJ kt cdv.hV,fun c o e c1=>by rw [au c1];exact e⟩
        rintro σ' H8 ⟨fvs2,fds2,rfl,hf8,rf8,cc8,rv8,k8⟩
        have hnb8:=k8 _ _ hnb7 nbf
        have hky8:∀ e ∈ fds2,d9 e:=mE cc8 fun c hc=>by
          rcases LS.eD.mp hc with z | z
          · exact (hcs7 c z).2.lay nok
          · rw [z];exact hok1.lay nok
        obtain⟨hin8,hix8⟩:=cdv.mem cc8
        refine⟨_,rfl,.inl ⟨rfl,_,aI.of hnb8⟩,_,rfl,.inl ⟨rfl,_,aI.of hf8⟩,_,rfl,fl,fvs2,fds2,v,dd,rfl,rfl,hf8,rf8,hky8,rv8,kyd,hin8.mpr (LS.eD.mpr (.inr rfl)),nb,_,_,rfl,rfl,hnb8,bh (by rw [List.length_map];omega),?_⟩
        have kt9:∀ p zs o,H8 p=some (.tup zs)->(upd H8 nb o) p=some (.tup zs):=fun p zs o e=>by rw [au (bg e hnb8 (by intro z;cases z))];exact e
        refine⟨fvs2,fds2,_,_,_,rfl,by rw [au nbf.symm];exact hf8,rf8.aJ (fun p zs e=>kt9 p zs _ e) (fR cc8),cc8,?_,fun c o e c1 c2=>by rw [au c2];exact k8 c o (s7 c o (g5 c o e c1 c2)) c1⟩
        rw [ae,hix8]
        show _=some (HO.lst ((ns ++ [_]).map _))
        rw [List.map_append]
        rfl
      rintro σ H7 ⟨fvs',fds',v2,v3,v4,rfl,g1,g2,g3,g4,g5⟩
      rw [hwl4,List.take_length] at g3 g4
      obtain⟨cok7,hcs7,hln7,more,emore⟩:=fP (tops:=aX ps) (ls:=ls) (ns:=[]) lZ hcs lok
      have hcn7:=gg.len cok7 fun c hc=>(hcs7 c hc).1
      have hln7':(aT (aX ps) most cs ls).2.length=ls.length:=by unfold aT;rw [hln7];show 0+_=_;omega
      change gg ps.length most (aT (aX ps) most cs ls).1 at cok7
      change ∀ c ∈ (aT (aX ps) most cs ls).1,_ at hcs7
      change (aT (aX ps) most cs ls).1.length<=_ at hcn7
      change (aT (aX ps) most cs ls).1=_ at emore
      have hcl7:fvs'.length=(aT (aX ps) most cs ls).1.length:=by have:=g2.len;rw [this];exact Paired.length g3
      have k57:∀ p zs,H5' p=some (.tup zs)->H7 p=some (.tup zs):=fun p zs e=>g5 _ _ e (bg e hf5 (by intro z;cases z)) (bg e hnb (by intro z;cases z))
      have s7:ah H H7:=fun c o e=>g5 c o (s5' c o e) (aw e nflH) (aw e nbH)
      have hz7:=g5 _ _ hz5 nfp.symm nbz.symm
      have rz7:=rz5.aJ k57 (aW outs)
      have htp7:=g5 _ _ htp5 ntf nbt.symm
      refine⟨fun σ' H'=>∃ (zs':List V) (outs':List Piece),σ' = [some (.ref pp),some (.int (most:Nat)),some (.ref tp),some (.ref fl),some (.ref pz),some (.ref bd),u0,some (.ref wl),some (.ref nb),some (.int at_),v2,v3,v4,u5,u6]/\H' pz=some (.lst zs')/\aZ H' zs' (outs'.map cb)/\(at_+1=outs'.length/\fk (aX ps) most ps (fu - 1) (aT (aX ps) most cs ls).1 outs' = cF ps most/\fu - 1+outs'.length=most+ps.length/\outs'.length<=(aT (aX ps) most cs ls).1.length)/\(∀ c o,H7 c=some o->c ≠ pz->H' c=some o),?_,?_⟩
      · refine⟨_,rfl,_,_,rfl,rfl,_,rfl,?_⟩
        rcases way with ⟨w1,w2,w3,w4,w5⟩ | ⟨w1,w2,w3,w4,w5⟩
        · refine bo (decide_eq_false (by omega)) ?_
          subst w2 w3 w4
          have ef:=xa (ps:=ps) hm1
          rw [ef]
          exact⟨zs,[],rfl,hz7,rz7,⟨by rw [w1];rfl,by rw [w5];rfl,by rw [w5];rfl,Nat.zero_le _⟩,fun c o e _=>e⟩
        · refine cf (decide_eq_true (by omega)) ?_
          have hol:outs.length < cs.length:=by omega
          have hci:cs[outs.length]? = some cs[outs.length]:=by simp [hol]
          generalize cs[outs.length] = c at hci
          obtain⟨pce,hps,els⟩:=w5 c hci
          have hci7:(aT (aX ps) most cs ls).1[outs.length]? = some c:=by rw [emore,List.getElem?_append_left hol];exact hci
          obtain⟨fu,rfl⟩:∃ f',fu=f' + 1:=⟨fu - 1,by omega⟩
          rw [kj hci hps,<-els] at w2
          obtain⟨ds,e⟩:=pce
          obtain⟨p',xs',pc,da,ea,ws,ep,e1',el',hx',e2,e3,r3,e4⟩:=ff hp hps
          cases ep
          rw [e1] at e1'
          cases e1'
          obtain⟨fa,y,hfa,hfa2,_⟩:=sP g2 g3 hci7
          obtain⟨hll,_⟩:=jr (e:=e) ((hcs c (List.mem_of_getElem? hci)).2.pL (pok.gQ _ (List.mem_of_getElem? hps)).2)
          rw [<-els] at hll
          subst w1
          refine⟨_,rfl,.inl ⟨rfl,_,aI.of hz7⟩,_,rfl,_,rfl,_,rfl,fl,_,_,_,rfl,rfl,aI.of g1,bL hfa,fa,_,0,_,rfl,rfl,ay.of hfa2,cm,pp,_,_,_,rfl,rfl,ay.of (s7 _ _ e1),bL hx',_,rfl,pc,da,ea,nb,ws,ds,e,_,rfl,s7 _ _ e2,s7 _ _ e3,r3.same s7 (bK ds),s7 _ _ e4,g4,(by rw [hln7'];exact hll),fun pv H8 rpv s8=>?_⟩
          have hz8:=s8 _ _ hz7
          refine⟨pz,_,_,rfl,rfl,hz8,bh (by omega),?_⟩
          have kt:∀ p xs,H8 p=some (.tup xs)->(upd H8 pz (.lst (zs ++ [pv]))) p=some (.tup xs):=fun p xs h=>by rw [au (bg h hz8 (by intro z;cases z))];exact h
          refine⟨_,outs ++ [(ds,iP e (aT (aX ps) most cs ls).2)],rfl,ae,?_,⟨by rw [List.length_append];rfl,w2,by rw [List.length_append];show fu+(_+1)=_;omega,by rw [emore,List.length_append,List.length_append];show _+1<=_;omega⟩,fun c o e c1=>by rw [au c1];exact s8 _ _ e⟩
          rw [List.map_append]
          exact aZ.app (rz7.aJ (fun p xs h=>kt _ _ (s8 _ _ h)) (aW outs)) (rpv.aJ kt (fJ _))
      rintro σ' H8 ⟨zs',outs',rfl,hz8,rz8,⟨w1,w2,w3,w4⟩,k8⟩
      have k78:∀ p zs,H7 p=some (.tup zs)->H8 p=some (.tup zs):=fun p zs e=>k8 _ _ e (bg e hz7 (by intro z;cases z))
      have hf8:=k8 _ _ g1 nfp
      have rf8:=g2.aJ k78 (fR g3)
      have htp8:=k8 _ _ htp7 ntz
      have hw8:=k8 _ _ (g5 _ _ hw5 nwf nbw.symm) nwz
      have s8:ah H H8:=fun c o e=>k8 c o (s7 c o e) (aw e npzH)
      have wv8:qr 17 H8 wvs ls:=wv5.mv (fun c o e=>k8 _ _ (g5 _ _ e (bg e hf5 (by intro z;cases z)) (bg e hnb (by intro z;cases z))) (bg e hz5 (by intro z;cases z))) (fun c o e=>k78 _ _ (k57 _ _ e))
      refine⟨_,rfl,_,_,rfl,rfl,?_⟩
      refine⟨_,rfl,_,rfl,fl,_,rfl,.inl (aI.of hf8),_,_,rfl,rfl,_,rfl,?_⟩
      generalize (aT (aX ps) most cs ls).1=cs' at *
      refine cM (fun hc=>?_) (fun hc=>?_)
      · have hol:outs'.length < cs'.length:=by have:=of_decide_eq_true hc;omega
        have hci:cs'[outs'.length]? = some cs'[outs'.length]:=by simp [hol]
        generalize cs'[outs'.length] = c at hci
        obtain⟨hcl,hct⟩:=hcs7 c (List.mem_of_getElem? hci)
        have hps:ps[c.1]? = some ps[c.1]:=by simp [hcl]
        generalize ps[c.1] = pce at hps
        obtain⟨ds,e⟩:=pce
        obtain⟨p',xs',pc,da,ea,ws,ep,e1',el',hx',e2,e3,r3,e4⟩:=ff hp hps
        cases ep
        rw [e1] at e1'
        cases e1'
        have dok:=pok.gQ _ (List.mem_of_getElem? hps)
        have eok:=pok.ends _ (List.mem_of_getElem? hps)
        obtain⟨fa,y,hfa,hfa2,hfv⟩:=sP rf8 g3 hci
        have dok1:ds.length<=6:=dok.1
        have bok:cB xs (bB c.2 ds):=hct.pL dok.2
        refine⟨_,rfl,_,rfl,_,rfl,fl,_,_,_,rfl,rfl,aI.of hf8,(w1 ▸ bL hfa:e7 fvs' (at_+1)=_),fa,_,0,_,rfl,rfl,ay.of hfa2,cm,pp,_,_,_,rfl,rfl,ay.of (s8 _ _ e1),bL hx',pc,_,rfl,ay.of (s8 _ _ e2),rfl,_,_,rfl,_,_,rfl,rfl,?_⟩
        refine⟨_,rfl,_,rfl,fl,_,_,_,rfl,rfl,aI.of hf8,(w1 ▸ bL hfa:e7 fvs' (at_+1)=_),fa,_,1,_,rfl,rfl,ay.of hfa2,cZ,y,c.2,10,rfl,hfv,(fun ss hs nd=>Nat.le_trans (hct.cD ss hs nd) hx10),(by decide),fun d1 H9 lt9 s9=>⟨_,rfl,d1,da,c.2,10,ws,ds,rfl,lt9,s9 _ _ (s8 _ _ e3),r3.same (s8.trans s9) (bK ds),(by omega),fun d2 H10 lt10 s10=>?_⟩⟩
        refine⟨_,rfl,_,rfl,d2,ea,bB c.2 ds,e,16,rfl,lt10.mono (by omega),(by decide),bok.le,s10 _ _ (s9 _ _ (s8 _ _ e4)),fun ll vs H11 hll tv s11=>?_⟩
        have s811:=(s9.trans s10).trans s11
        refine⟨ll,rfl,⟨_,aI.of hll⟩,fun acc na=>?_⟩
        have qa:=ah.new (o:=.lst []) na
        have nal:ll ≠ acc:=aw hll na
        refine mi (K:=K) (a:=ll) (xs:=vs) (fun i ys τ H'=>∃ t0 t1 t2:Option V,τ = [t0,t1,t2]/\H' acc=some (.lst ys)/\ys.length=i/\qr 17 H' ys ((cH (bB c.2 ds) e).take i)/\(∀ c o,H11 c=some o->H' c=some o)) ?_ ?_ ?_ ?_
        · exact⟨_,_,_,rfl,ae,rfl,.nil,fun c o h=>qa c o h⟩
        · rintro i ys τ H12 hi ⟨t0,t1,t2,rfl,h1,h2,h3,h4⟩
          have hvl:=iG.len tv
          have hl2':(cH (bB c.2 ds) e).length<=2:=(jr (e:=e) bok).2
          exact⟨aI.of (h4 _ _ hll),h1,bh (by omega)⟩
        · rintro i y ys τ H12 hi ⟨t0,t1,t2,rfl,h1,h2,h3,h4⟩
          obtain⟨pr,hpr,qq,sv,dq,rfl,hqq,ltq⟩:=iG.at tv hi
          refine⟨qq,_,rfl,ay.of (h4 _ _ hqq),rfl,_,_,rfl,_,_,rfl,_,_,rfl,rfl,?_⟩
          refine jj ?_
          refine bJ ?_
          refine⟨_,rfl,_,rfl,ln2,fun t nt=>⟨(ah.new nt) _ _ h1,?_⟩⟩
          have qt:=ah.new (o:=.tup [.int (pr.1:Nat),.ref dq]) nt
          have h1t:=qt _ _ h1
          refine⟨_,_,_,rfl,ae,by rw [List.length_append,h2];rfl,?_,fun c o h=>?_⟩
          · rw [List.take_add_one,hpr]
            refine dE ?_ (.cons ?_ .nil)
            · exact qr.mv h3 (fun c o h=>by rw [au (bg (qt _ _ h) h1t (by intro z;cases z))];exact qt _ _ h) (fun c o h=>by rw [au (bg (qt _ _ h) h1t (by intro z;cases z))];exact qt _ _ h)
            · refine⟨t,dq,rfl,by rw [au (bg (show upd H12 t (.tup [.int (pr.1:Nat),.ref dq]) t=_ from ae) h1t (by intro z;cases z))];exact ae,?_⟩
              refine (((ltq.aJ (H':=H12) (fun o h=>h4 _ _ h) (fun p zs h=>h4 _ _ h)).same qt).put h1t)
          · rw [au (aw h na)]
            exact qt _ _ (h4 c o h)
        rintro ys τ H12 ⟨t0,t1,t2,rfl,h1,h2,h3,h4⟩
        have hvl:=iG.len tv
        rw [hvl,List.take_length] at h3
        have s12:ah H8 H12:=fun c o h=>h4 c o (s811 c o h)
        refine⟨fvs',fds',cs',cH (bB c.2 ds) e,zs',outs',acc,ys,_,_,_,_,_,_,_,_,rfl,s12 _ _ htp8,s12 _ _ hf8,rf8.same s12 (fR g3),g3,cok7,hcs7,s12 _ _ hz8,rz8.same s12 (aW outs'),h1,h3,pM bok eok,(jr (e:=e) bok).2,(aw (s811 _ _ hf8) na).symm,(aw (s811 _ _ hz8) na).symm,s8.trans s12,.inr ⟨w1,w2,w3,w4,fun c' hc'=>⟨(ds,e),?_⟩⟩⟩
        rw [hci] at hc'
        cases hc'
        exact⟨hps,rfl⟩
      · have hol:¬ outs'.length < cs'.length:=fun z=>hc (decide_eq_true (by omega))
        refine⟨fvs',fds',cs',ls,zs',outs',wl,wvs,_,_,_,_,_,_,_,_,rfl,htp8,hf8,rf8,g3,cok7,hcs7,hz8,rz8,hw8,wv8,lok,hl2,nwf,nwz,s8,.inr ⟨w1,w2,w3,w4,fun c' hc'=>?_⟩⟩
        rw [List.getElem?_eq_none (by omega)] at hc'
        cases hc'
    · rcases way with ⟨w1,w2,w3,w4,w5⟩ | ⟨w1,w2,w3,w4,w5⟩
      · exact absurd (decide_eq_true (by omega)) hc
      · have hol:¬ outs.length < cs.length:=fun z=>hc (decide_eq_true (by omega))
        rw [lV (List.getElem?_eq_none (by omega))] at w2
        rw [<-w2] at q
        refine⟨_,rfl,pz,_,rfl,.inl ⟨aI.of hz4,fun t1 n1=>?_⟩⟩
        have q1:=ah.new (o:=.tup zs) n1
        refine⟨_,rfl,fl,_,rfl,.inl ⟨aI.of (q1 _ _ hf4),fun t2 n2=>⟨ln2,fun t3 n3=>?_⟩⟩⟩
        have q2:=ah.new (o:=.tup fvs) n2
        have q3:=ah.new (o:=.tup [.ref t1,.ref t2]) n3
        have q13:=(q1.trans q2).trans q3
        exact q (.ref t3) fds _ cc4 (.tup ae (.cons (.tup (q3 _ _ (q2 _ _ ae)) (rz4.same q13 (aW outs))) (.cons (.tup (q3 _ _ ae) (rf4.same q13 (fR cc4))) .nil))) (s4'.trans q13)
theorem Bj {f:Addr} {fd:FuncData} (F:bZ K "law" "law" iZ f fd) (Z:Bl mg) {C:Addr} (T:si K C) (O_law_bag:Own P w K mg base "_law_bag" 1 ["script", "k"] (uR K)) (O_law_take:Own P w K mg base "_law_take" 1 ["bag", "many"] iD) (O_law_plan:Own P w K mg base "_law_plan" 4 ["bag", "count", "most"] rG) (O_law_deed:Own P w K mg base "_law_deed" 3 ["bag", "names"] nY) (O_law_end:Own P w K mg base "_law_end" 3 ["bag", "names", "count"] nZ) (O_led_past:Own P w K mg base "led_past" 7 ["plan", "most"] (lW P w C)) (O_law_copies:Own P w K mg base "_law_copies" 6 ["plan", "most"] lY):bG P w K mg base bT 8 f fd ["script"] (qP K):=by
  refine F.ok (k:=7) gn (fun vs H Q E h=>?_) (fun cdv A outer s H vs Q E hr h=>?_)
  · obtain⟨a,ns,rfl,_⟩:=h
    rfl
  · obtain⟨a,ns,rfl,hS,hlen,q⟩:=h
    refine⟨_,(ai (aG (i:=1) gn.nd rfl (Or.inr rfl) (aB O_law_bag (hr.mono (by decide)) rfl (aa (pv 0) (aa ao af))))
      (ai (aG (i:=2) gn.nd rfl (Or.inl rfl) (aK bN (bS (aa (bw cK ao (aB O_law_take (hr.mono (by decide)) rfl (aa (pv 1) (aa ao af)))) (aa ao (aa (bw cK ao (aB O_law_take (hr.mono (by decide)) rfl (aa (pv 1) (aa ao af)))) af)))) (aB O_law_take (hr.mono (by decide)) rfl (aa (pv 1) (aa ao af))) (fun _ _=>rfl)))
      (ai (aG (i:=3) gn.nd rfl (Or.inl rfl) (aK bN (bS (aa (bw cK ao (aB O_law_take (hr.mono (by decide)) rfl (aa (pv 1) (aa ao af)))) (aa (bw cK ao (aB O_law_take (hr.mono (by decide)) rfl (aa (pv 1) (aa ao af)))) af))) (bx iA rfl Z.int kX (aa (gx cg (aB O_law_take (hr.mono (by decide)) rfl (aa (pv 1) (aa ao af))) ao (aQ _)) af)) (fun _ _=>rfl)))
      (ai (aG (i:=4) gn.nd rfl (Or.inl rfl) (aB O_law_plan (hr.mono (by decide)) rfl (aa (aB O_law_bag (hr.mono (by decide)) rfl (aa (pv 0) (aa ao af))) (aa (pv 3) (aa ao af)))))
      (ai (aG (i:=5) gn.nd rfl (Or.inr rfl) (eE ["k"] [] [] rfl (fH rfl Z.range (aa (bw cK ao (aB O_law_take (hr.mono (by decide)) rfl (aa (pv 1) (aa ao af)))) af)) rfl (by decide +kernel) (by decide +kernel) (by decide +kernel) True.intro (fun _ _ _ _=>(aC (i:=0) (show ((["k"]:List Str)++([]:List Str)).Nodup by decide +kernel) rfl (Or.inl rfl) (hf:=Or.inr rfl))) (fun _ _ _ _=>eR) (fun _ _ _ _=>(bw z8 (aK rp bH (pv 0) (fun _ _=>rfl)) (bw cK ao (bw iy (pv 0) ao))))))
      (ai (aG (i:=6) gn.nd rfl (Or.inl rfl) (bS af))
      (ai (cO PassesOwn.never rfl (fH rfl Z.range (aa ao af)) (aC (i:=7) gn.nd rfl (Or.inl rfl))
      (ai (aG (i:=8) gn.nd rfl (Or.inl rfl) (bx bC rfl Z.tuple bV (aa (eE ["j"] ["bag", "names"] [1,5] rfl (fH rfl Z.range (aa (aB O_law_take (hr.mono (by decide)) rfl (aa (pv 1) (aa ao af))) af)) rfl (by decide +kernel) (by decide +kernel) (by decide +kernel) ⟨⟨rfl,.inl rfl,rfl⟩,⟨⟨rfl,.inl rfl,rfl⟩,True.intro⟩⟩ (fun _ _ _ _=>(aC (i:=0) (show ((["j"]:List Str)++(["bag", "names"]:List Str)).Nodup by decide +kernel) rfl (Or.inl rfl) (hf:=Or.inr rfl))) (fun _ _ _ _=>eR) (fun _ _ _ _=>(aB O_law_deed (hr.mono (by decide)) rfl (aa (pv 1) (aa (pv 2) af))))) af)))
      (ar (cX (eM PySem.F.plainAttrs_list PySem.F.slot_list_append PySem.F.type_list_append cY (pv 6) (aa (aU (aa (pv 8) (aa (aB O_law_end (hr.mono (by decide)) rfl (aa (pv 1) (aa (pv 5) (aa ao af)))) af))) af))))))
      (ai (bu (aH (vY hr.units) (aB O_led_past (hr.mono (by decide)) rfl (aa (bx bC rfl Z.tuple bV (aa (pv 6) af)) (aa (pv 2) af))) (aB O_law_copies (hr.mono (by decide)) rfl (aa (bx bC rfl Z.tuple bV (aa (pv 6) af)) (aa (pv 2) af))) (aQ _))
      (ar (aF iT))
      aM)
      (ai (aG (i:=9) gn.nd rfl (Or.inl rfl) (aB O_law_copies (hr.mono (by decide)) rfl (aa (pv 4) (aa (pv 2) af))))
      (ar (aF (vG (gx (rE hr.units) (aB O_led_past (hr.mono (by decide)) rfl (aa (pv 4) (aa (pv 2) af))) (pv 9) (aQ _)) (jK (gx (rE hr.units) (aB O_led_past (hr.mono (by decide)) rfl (aa (pv 4) (aa ao af))) (aB O_law_copies (hr.mono (by decide)) rfl (aa (pv 4) (aa ao af))) (aQ _))))))))))))))),?_⟩
    refine⟨_,rfl,a,ns,0,rfl,hS,(by decide),fun b H1 nb B1 s1=>?_⟩
    refine⟨_,rfl,b,12,rfl,B1,⟨by decide,by decide +kernel⟩,fun z1 H2 z10 z11 B2 X2=>⟨_,_,rfl,rfl,?_⟩⟩
    refine⟨_,rfl,b,60,rfl,B2,⟨by decide,by decide +kernel⟩,fun z2 H3 z20 z21 B3 X3=>⟨_,_,rfl,rfl,rC,fun l0 n0=>?_⟩⟩
    refine⟨_,rfl,b,3,rfl,B3.new n0,⟨by decide,by decide +kernel⟩,fun z3 H4 z30 z31 B4 X4=>?_⟩
    have h0:H4 l0=some (.lst [.int (1+z1),.int 60,.int (1+z2)]):=X4 l0 _ ae (B3.eB n0)
    have F4:Fix b H1 H4:=((X2.trans X3).trans (Fix.new n0)).trans X4
    have pk:∃ m:Nat,e7 [V.int (1+z1),V.int 60,V.int (1+z2)] z3=some (V.int m)/\1<=m/\m<=60:=by
      obtain⟨k1,rfl⟩:∃ k:Nat,z1=k:=⟨z1.toNat,by omega⟩
      obtain⟨k2,rfl⟩:∃ k:Nat,z2=k:=⟨z2.toNat,by omega⟩
      obtain rfl | rfl | rfl:z3=0\/z3=1\/z3=2:=by omega
      · exact⟨1+k1,cm,by omega,by omega⟩
      · exact⟨60,cZ,by decide,by decide⟩
      · exact⟨1+k2,at2,by omega,by omega⟩
    obtain⟨most,hat,hm1,hm6⟩:=pk
    refine⟨l0,_,_,_,rfl,rfl,aI.of h0,hat,?_⟩
    clear hat h0 X4 X3 X2 B3 B2 n0
    refine⟨_,rfl,b,9,rfl,B4,⟨by decide,by decide +kernel⟩,fun y1 H5 y10 y11 B5 X5=>⟨_,_,rfl,rfl,?_⟩⟩
    refine⟨_,rfl,b,49,rfl,B5,⟨by decide,by decide +kernel⟩,fun y2 H6 y20 y21 B6 X6=>⟨_,_,rfl,rfl,ln2,fun l0 n0=>?_⟩⟩
    refine⟨_,rfl,b,4,rfl,B6.new n0,⟨by decide,by decide +kernel⟩,fun y3 H7 y30 y31 B7 X7=>⟨rfl,.inr ⟨_,rfl,?_⟩⟩⟩
    have h0:H7 l0=some (.lst [.int (1+y1),.int (12+y2)]):=X7 l0 _ ae (B6.eB n0)
    have F7:Fix b H1 H7:=F4.trans (((X5.trans X6).trans (Fix.new n0)).trans X7)
    have pk:∃ g:Nat,e7 [V.int (1+y1),V.int (12+y2)] (if decide (V.int y3=V.int 0)=true then 1 else 0)=some (V.int g)/\0 < g/\g<=60:=by
      obtain⟨k1,rfl⟩:∃ k:Nat,y1=k:=⟨y1.toNat,by omega⟩
      obtain⟨k2,rfl⟩:∃ k:Nat,y2=k:=⟨y2.toNat,by omega⟩
      cases decide (V.int y3=V.int 0)
      · exact⟨1+k1,cm,by omega,by omega⟩
      · exact⟨12+k2,cZ,by omega,by omega⟩
    obtain⟨g,hg,g0,g6⟩:=pk
    refine⟨l0,_,_,_,rfl,rfl,aI.of h0,hg,?_⟩
    clear hg h0 X7 X6 X5 B6 B5 n0 F4 B4
    have s7:ah H H7:=ah.AK s1 nb F7
    refine⟨_,rfl,a,ns,1,rfl,s7.seq hS,(by decide),fun b2 H8 nb2 B8 s8=>?_⟩
    refine⟨_,rfl,b2,g,3,rfl,B8,g0,(by omega),(by omega),fun plv xs ps H9 r9 hc9 pok xok B9 X9=>?_⟩
    have nbb:b ≠ b2:=B7.eB nb2 |>.symm
    have Bb9:dB H9 b:=by
      obtain⟨x,y,e,zz⟩:=B7
      exact⟨x,y,X9 _ _ (s8 _ _ e) nbb,zz⟩
    clear B9 X9 B8 s8 nb2 B7 F7 s7
    refine⟨_,rfl,b,6,rfl,Bb9,⟨by decide,by decide +kernel⟩,fun y4 H10 y40 y41 B10 X10=>⟨_,_,rfl,rfl,_,rfl,(by omega),(by omega),fun acc na=>?_⟩⟩
    have hpl10:aV H10 plv (eN ps):=r9.fix Bb9 X10 (bP ps)
    have hab:acc ≠ b:=B10.eB na
    refine j1 (lo:=0) (fun i ys τ H'=>∃ (v:Option V) (xs:List Str),τ = [v]/\ys=xs.map V.str/\xs.length=i/\(∀ x ∈ xs,dC x)/\H' acc=some (.lst ys)/\ah H10 H') ?_ ?_ ?_ ?_
    · exact⟨none,[],rfl,rfl,rfl,(fun _ h=>nomatch h),ae,ah.new na⟩
    · rintro i ys τ H' hi ⟨v,xs,rfl,rfl,hl,hx,ha,sa⟩
      exact⟨ha,bh (by rw [List.length_map];omega)⟩
    · rintro i ys τ H' hi ⟨v,xs,rfl,rfl,hl,hx,ha,sa⟩
      obtain⟨c,hat,hc⟩:=z9 (r:=0+(i:Int)) (by omega) (by omega)
      refine cu ?_
      refine jj ?_
      refine bJ ?_
      obtain⟨mk,nk⟩:=yD (c:=c) (n:=1+(0+(i:Int)) % 3) hc (by omega) (by omega)
      refine⟨_,rfl,pO,_,c,rfl,rfl,yC,hat,_,rfl,_,_,rfl,rfl,(by show (0:Int) < 3;decide),_,_,rfl,rfl,_,_,rfl,rfl,mk,ha,_,xs ++ [Txt.mul ⟨#[c]⟩ (1+(0+(i:Int)) % 3)],rfl,?_,(by rw [List.length_append,hl];rfl),fun x hx'=>?_,ae,sa.put na⟩
      · rw [List.map_append];rfl
      · rcases List.mem_append.mp hx' with hx' | hx'
        · exact hx x hx'
        · rw [List.mem_singleton.mp hx'];exact nk
    rintro ys τ H11 ⟨v,xw,rfl,rfl,hl,hx,ha,sa⟩
    have N11:eT H11 b acc xw:=⟨ha,hab,(by intro z;rw [z] at hl;simp at hl;omega),(by omega),hx⟩
    have B11:=B10.same sa
    have hpl11:=hpl10.same sa (bP ps)
    have hxw:xw.length<=10:=by omega
    clear hpl10 ha sa na B10 X10 r9 Bb9
    refine⟨(by show 0<=sizeLine;decide),fun wd nwd=>?_⟩
    have hwb:wd ≠ b:=B11.eB nwd
    have q12:=ah.new (o:=.lst []) nwd
    have hw12:(upd H11 wd (.lst [])) wd=some (.lst []):=ae
    have N12:=N11.fix (Fix.of_same q12)
    have B12:=B11.same q12
    have hpl12:=hpl11.same q12 (bP ps)
    generalize (upd H11 wd (.lst []))=H12 at q12 hw12 N12 B12 hpl12
    clear q12 N11 B11 hpl11 nwd
    refine⟨_,rfl,(by decide),(by decide),kQ (lo:=0) (fun i σ H'=>∃ (u1 u2 u3:Option V) (pw:List Piece) (vs:List V),σ = [some (.ref a),some (.ref b),some (.int (most:Nat)),some (.int (g:Nat)),some plv,some (.ref acc),some (.ref wd),u1,u2,u3] /\
      H' wd=some (.lst vs)/\aZ H' vs (pw.map cb)/\pw.length=i/\(∀ p ∈ pw,(p.1.length<=6/\∀ d ∈ p.1,eS xw d)/\iV xw 9 p.2)/\eT H' b acc xw/\dB H' b/\aV H' plv (eN ps)) ?_ ?_ ?_⟩
    · exact⟨_,_,_,[],[],rfl,hw12,.nil,rfl,(fun _ h=>nomatch h),N12,B12,hpl12⟩
    · rintro i σ H' hi ⟨u1,u2,u3,pw,vs,rfl,hw,hr,hl',aN,N',B',hpl⟩
      refine⟨_,rfl,b,7,rfl,B',⟨by decide,by decide +kernel⟩,fun k H2 k0 k1 B2 X2=>⟨_,rfl,(by omega),(by omega),fun ac2 na2=>?_⟩⟩
      have hab2:ac2 ≠ b:=B2.eB na2
      have N2:=N'.fix X2
      have hw2:H2 wd=some (.lst vs):=X2 wd _ hw hwb
      have hr2:aZ H2 vs (pw.map cb):=hr.fix B' X2 (aW pw)
      have hpl2:=hpl.fix B' X2 (bP ps)
      refine j1 (lo:=0) (fun i ys τ H'=>∃ (v:Option V) (ds:List cL),τ = [v,some (.ref b),some (.ref acc)]/\aZ H' ys (ds.map cQ)/\ds.length=i/\(∀ d ∈ ds,eS xw d)/\H' ac2=some (.lst ys)/\dB H' b/\Fix b H2 H') ?_ ?_ ?_ ?_
      · exact⟨none,[],rfl,.nil,rfl,(fun _ h=>nomatch h),ae,B2.new na2,Fix.new na2⟩
      · rintro i' ys τ H4 hi' ⟨v,ds,rfl,rds,hl2,_,ha,_⟩
        refine⟨ha,?_⟩
        rw [rds.len,List.length_map]
        exact bh (by omega)
      · rintro i' ys τ H4 hi' ⟨v,ds,rfl,rds,hl2,hdk,ha,B4,X4⟩
        refine cu ?_
        refine jj ?_
        refine bJ ?_
        refine⟨_,rfl,_,rfl,b,acc,xw,rfl,B4,N2.fix X4,fun dv d H5 rd dk B5 X5=>?_⟩
        have ha5:=X5 ac2 _ ha hab2
        refine⟨ha5,_,ds ++ [d],rfl,?_,(by rw [List.length_append,hl2];rfl),?_,ae,?_,?_⟩
        · rw [List.map_append]
          refine aZ.app ((rds.fix B4 X5 (bK ds)).put ha5 (bK ds)) ?_
          exact rd.aJ (fun p zs e=>by rw [au (bg e ha5 (by intro z;cases z))];exact e) (jC d)
        · intro d' hd
          rcases List.mem_append.mp hd with hd | hd
          · exact hdk d' hd
          · rw [List.mem_singleton.mp hd];exact dk
        · obtain⟨x,y,e,z⟩:=B5
          exact⟨x,y,by rw [au hab2.symm];exact e,z⟩
        · intro d' o hd nd
          rw [au (aw hd na2)]
          exact (X4.trans X5) d' o hd nd
      · rintro ys τ H4 ⟨v,ds,rfl,rds,hl2,hdk,ha,B4,X4⟩
        refine⟨ac2,ys,rfl,.inl ⟨aI.of ha,fun tp tn=>?_⟩⟩
        have q5:=ah.new (o:=.tup ys) tn
        have ht5:(upd H4 tp (.tup ys)) tp=some (.tup ys):=ae
        have rds5:=rds.same q5 (bK ds)
        have B5:=B4.same q5
        have X5:=X4.trans (Fix.of_same q5)
        generalize (upd H4 tp (.tup ys))=H5 at q5 ht5 rds5 B5 X5
        have N5:=N2.fix X5
        have hw5:=X5 wd _ hw2 hwb
        refine⟨_,rfl,.inl ⟨rfl,_,aI.of hw5⟩,_,rfl,_,rfl,_,rfl,b,acc,xw,9,rfl,B5,N5,(by decide),(by decide),fun ev e H6 re ek B6 X6=>⟨ln2,fun pc pcn=>?_⟩⟩
        have X26:=X5.trans X6
        have hw6:=X26 wd _ hw2 hwb
        have q7:=ah.new (o:=.tup [.ref tp,ev]) pcn
        have hpc:(upd H6 pc (.tup [.ref tp,ev])) pc=some (.tup [.ref tp,ev]):=ae
        have htb:tp ≠ b:=B5.rD ht5
        have ht7:=q7 _ _ (X6 tp _ ht5 htb)
        have rds7:=(rds5.fix B5 X6 (bK ds)).same q7 (bK ds)
        have re7:=re.same q7 (iW e)
        have hw7:=q7 _ _ hw6
        have hr7:=(hr2.fix B2 X26 (aW pw)).same q7 (aW pw)
        have hpl7:=(hpl2.fix B2 X26 (bP ps)).same q7 (bP ps)
        have N7:=(N2.fix X26).fix (Fix.of_same q7)
        have B7:=B6.same q7
        generalize (upd H6 pc (.tup [.ref tp,ev]))=H7 at q7 hpc ht7 rds7 re7 hw7 hr7 hpl7 N7 B7
        refine⟨wd,_,_,rfl,rfl,hw7,bh (by rw [hr.len,List.length_map,hl'];omega),?_⟩
        have kt:∀ p zs,H7 p=some (.tup zs)->(upd H7 wd (.lst (vs ++ [.ref pc]))) p=some (.tup zs):=fun p zs h=>by rw [au (bg h hw7 (by intro z;cases z))];exact h
        have hac:acc ≠ wd:=fun z=>by
          have h1:=N7.at_
          rw [z,hw7] at h1
          have h2:vs=xw.map V.str:=by injection (Option.some.inj h1)
          have h3:=hr.len
          have h4:xw.length=5+y4:=by omega
          cases pw with
          | nil =>
            rw [h2,List.length_map] at h3
            have h5:xw.length=0:=h3
            omega
          | cons p0 pw0 =>
            obtain⟨x0,r0,e0,rx0,_⟩:=aZ.cons_inv (show aZ H' vs (cb p0 :: pw0.map cb) from hr)
            obtain⟨pa,xs0,e1,_,_⟩:=aV.bX rx0
            rw [e0,e1] at h2
            cases xw with
            | nil=>simp at h2
            | cons x1 xw1=>cases h2
        refine⟨_,_,_,pw ++ [(ds,e)],_,rfl,ae,?_,(by rw [List.length_append,hl'];rfl),fun p hp=>?_,⟨by rw [au hac];exact N7.at_,N7.ne,N7.qQ,N7.cD,N7.ok⟩,?_,hpl7.aJ kt (bP ps)⟩
        · rw [List.map_append]
          exact aZ.app (hr7.aJ kt (aW pw)) ((show aV H7 (.ref pc) (cb (ds,e)) from .tup hpc (.cons (.tup ht7 rds7) (.cons re7 .nil))).aJ kt (fJ (ds,e)))
        · rcases List.mem_append.mp hp with hp | hp
          · exact aN p hp
          · rw [List.mem_singleton.mp hp];exact⟨⟨by show ds.length<=6;omega,hdk⟩,ek⟩
        · obtain⟨x,y,e,z⟩:=B7
          exact⟨x,y,by rw [au hwb.symm];exact e,z⟩
    rintro σ H13 ⟨u1,u2,u3,pw,vs,rfl,hw,hr,hl',aN,N',B',hpl⟩
    clear N' B' N12 B12 hpl12 hw12
    have pokw:cq xw 6 pw:=⟨fun p hp=>(aN p hp).1,fun p hp=>by rw [hl'];exact (aN p hp).2⟩
    have n9:pw.length=9:=by omega
    have cmp:∀ {H1 H2:Hp} {v1 v2:V} {d1 d2:List PyData} {xs:List Str} {ps:List Piece} {most m:Nat},cq xs m ps->(∀ x ∈ xs,dC x)->0 < ps.length->1<=most->Paired (fun d c=>CD c d) d1 (cF ps most).1->Paired (fun d c=>CD c d) d2 (cF ps most).1->aV H1 v1 (ij (cF ps most).2 d1)->aV H2 v2 (ij (cF ps most).2 d2)->d1=d2/\(ij (cF ps most).2 d1).canLay0=true/\(ij (cF ps most).2 d1).depth<=60/\bW (ij (cF ps most).2 d1)=true:=fun pok nok h0 h1 c1 c2 r1 r2=>by
      obtain⟨l1,l2⟩:=z7 pok nok h0 h1 c1
      refine⟨z5 c1 c2,l1,l2,?_⟩
      show (bR _ && (bR _ && true))=true
      rw [aW,fR c1]
      rfl
    refine⟨_,rfl,wd,_,rfl,.inl ⟨aI.of hw,fun t1 n1=>?_⟩⟩
    have q1:=ah.new (o:=.tup vs) n1
    have rw1:aV (upd H13 t1 (.tup vs)) (.ref t1) (eN pw):=.tup ae (hr.same q1 (aW pw))
    have hw1:=q1 _ _ hw
    have hr1:=hr.same q1 (aW pw)
    have hpl1:=hpl.same q1 (bP ps)
    generalize (upd H13 t1 (.tup vs))=H14 at q1 rw1 hw1 hr1 hpl1
    refine⟨_,rfl,.ref t1,pw,xw,most,rfl,rw1,pokw,hx,hxw,(by omega),(by omega),hm1,(by omega),fun v1 d1 H15 p1 r1 s15=>?_⟩
    have hw2:=s15 _ _ hw1
    refine⟨_,rfl,wd,_,rfl,.inl ⟨aI.of hw2,fun t2 n2=>?_⟩⟩
    have q2:=ah.new (o:=.tup vs) n2
    have rw2:aV (upd H15 t2 (.tup vs)) (.ref t2) (eN pw):=.tup ae ((hr1.same s15 (aW pw)).same q2 (aW pw))
    have s16:=s15.trans q2
    generalize (upd H15 t2 (.tup vs))=H16 at q2 rw2 s16
    refine⟨_,rfl,.ref t2,pw,xw,most,rfl,rw2,pokw,hx,hxw,(by omega),(by omega),hm1,(by omega),fun v2 d2 H17 p2 r2 s17=>?_⟩
    obtain⟨rfl,lay,dep,nol⟩:=cmp pokw hx (by omega) hm1 p1 p2 r1 r2
    refine⟨ij (cF pw most).2 d1,ij (cF pw most).2 d1,r1.same (q2.trans s17) nol,r2,lay,lay,(by omega),_,rfl,?_⟩
    refine bo (by rw [PySem.SeqAt.eqv_refl _ lay];rfl) ?_
    have hpl17:=hpl1.same (s16.trans s17) (bP ps)
    have pok6:=pok.up (k:=6) (by decide)
    have hx4:xs.length<=10:=by have:=xok.2;omega
    clear lay dep nol r1 r2 p1 p2
    refine⟨_,rfl,_,rfl,plv,ps,xs,most,rfl,hpl17,pok6,xok.1,hx4,(by omega),(by omega),hm1,(by omega),fun v3 d3 H18 p3 r3 s18=>?_⟩
    refine⟨_,rfl,_,rfl,plv,ps,xs,most,rfl,hpl17.same s18 (bP ps),pok6,xok.1,hx4,(by omega),(by omega),hm1,(by omega),fun v4 d4 H19 p4 r4 s19=>?_⟩
    obtain⟨rfl,lay,dep,nol⟩:=cmp pok6 xok.1 (by omega) hm1 p3 p4 r3 r4
    refine⟨_,rfl,ij (cF ps most).2 d3,ij (cF ps most).2 d3,r4,r3.same s19 nol,lay,lay,(by omega),?_⟩
    rw [PySem.SeqAt.eqv_refl _ lay]
    refine⟨_,rfl,?_⟩
    refine bJ ?_
    have hpl19:=hpl17.same (s18.trans s19) (bP ps)
    refine⟨_,rfl,plv,ps,xs,300,rfl,hpl19,pok6,xok.1,hx4,(by omega),(by omega),(by decide),(by decide),fun v5 d5 H20 p5 r5 s20=>?_⟩
    refine⟨_,rfl,plv,ps,xs,300,rfl,hpl19.same s20 (bP ps),pok6,xok.1,hx4,(by omega),(by omega),(by decide),(by decide),fun v6 d6 H21 p6 r6 s21=>?_⟩
    obtain⟨rfl,lay,dep,nol⟩:=cmp pok6 xok.1 (by omega) (by decide) p5 p6 r5 r6
    refine⟨ij (cF ps 300).2 d5,ij (cF ps 300).2 d5,r5.same s21 nol,r6,lay,lay,(by omega),?_⟩
    rw [PySem.SeqAt.eqv_refl _ lay]
    exact q _
end
theorem all_mk {l:PySem.W.OpenLaw} {w:World} {K:PySem.W.Frag} {h:Heap} {mg:Str->Option Value} {fa:Addr} (X:K.In h) (G:h.Ns mainGlobals mg) (hfa:mg "law" = some (.ref fa))
  {f0:Addr} {od0 an0:Option Addr} {sl0:Array (Option Value)} {oc0 kV0 dc0 pm0 cd0 ct0:Value}
  {f1:Addr} {od1 an1:Option Addr} {sl1:Array (Option Value)} {oc1 kV1 dc1 pm1 cd1 ct1:Value}
  {f2:Addr} {od2 an2:Option Addr} {sl2:Array (Option Value)} {oc2 kV2 dc2 pm2 cd2 ct2:Value}
  {f3:Addr} {od3 an3:Option Addr} {sl3:Array (Option Value)} {oc3 kV3 dc3 pm3 cd3 ct3:Value}
  {f4:Addr} {od4 an4:Option Addr} {sl4:Array (Option Value)} {oc4 kV4 dc4 pm4 cd4 ct4:Value}
  {f5:Addr} {od5 an5:Option Addr} {sl5:Array (Option Value)} {oc5 kV5 dc5 pm5 cd5 ct5:Value}
  {f6:Addr} {od6 an6:Option Addr} {sl6:Array (Option Value)} {oc6 kV6 dc6 pm6 cd6 ct6:Value}
  {f7:Addr} {od7 an7:Option Addr} {sl7:Array (Option Value)} {oc7 kV7 dc7 pm7 cd7 ct7:Value}
  {f8:Addr} {od8 an8:Option Addr} {sl8:Array (Option Value)} {oc8 kV8 dc8 pm8 cd8 ct8:Value}
  {f9:Addr} {od9 an9:Option Addr} {sl9:Array (Option Value)} {oc9 kV9 dc9 pm9 cd9 ct9:Value}
  {f10:Addr} {od10 an10:Option Addr} {sl10:Array (Option Value)} {oc10 kV10 dc10 pm10 cd10 ct10:Value}
  {f11:Addr} {od11 an11:Option Addr} {sl11:Array (Option Value)} {oc11 kV11 dc11 pm11 cd11 ct11:Value}
  {f12:Addr} {od12 an12:Option Addr} {sl12:Array (Option Value)} {oc12 kV12 dc12 pm12 cd12 ct12:Value}
  {f13:Addr} {od13 an13:Option Addr} {sl13:Array (Option Value)} {oc13 kV13 dc13 pm13 cd13 ct13:Value}
  {f14:Addr} {od14 an14:Option Addr} {sl14:Array (Option Value)} {oc14 kV14 dc14 pm14 cd14 ct14:Value}
  {f15:Addr} {od15 an15:Option Addr} {sl15:Array (Option Value)} {oc15 kV15 dc15 pm15 cd15 ct15:Value}
  {f16:Addr} {od16 an16:Option Addr} {sl16:Array (Option Value)} {oc16 kV16 dc16 pm16 cd16 ct16:Value}
  {f17:Addr} {od17 an17:Option Addr} {sl17:Array (Option Value)} {oc17 kV17 dc17 pm17 cd17 ct17:Value}
  {f18:Addr} {od18 an18:Option Addr} {sl18:Array (Option Value)} {oc18 kV18 dc18 pm18 cd18 ct18:Value}
  {f19:Addr} {od19 an19:Option Addr} {sl19:Array (Option Value)} {oc19 kV19 dc19 pm19 cd19 ct19:Value}
  {f20:Addr} {od20 an20:Option Addr} {sl20:Array (Option Value)} {oc20 kV20 dc20 pm20 cd20 ct20:Value}
  {f21:Addr} {od21 an21:Option Addr} {sl21:Array (Option Value)} {oc21 kV21 dc21 pm21 cd21 ct21:Value}
  {f22:Addr} {od22 an22:Option Addr} {sl22:Array (Option Value)} {oc22 kV22 dc22 pm22 cd22 ct22:Value}
  {f23:Addr} {od23 an23:Option Addr} {sl23:Array (Option Value)} {oc23 kV23 dc23 pm23 cd23 ct23:Value}
  {f24:Addr} {od24 an24:Option Addr} {sl24:Array (Option Value)} {oc24 kV24 dc24 pm24 cd24 ct24:Value}
  {f25:Addr} {od25 an25:Option Addr} {sl25:Array (Option Value)} {oc25 kV25 dc25 pm25 cd25 ct25:Value}
  {f26:Addr} {od26 an26:Option Addr} {sl26:Array (Option Value)} {oc26 kV26 dc26 pm26 cd26 ct26:Value}
  {f27:Addr} {od27 an27:Option Addr} {sl27:Array (Option Value)} {oc27 kV27 dc27 pm27 cd27 ct27:Value}
  {f28:Addr} {od28 an28:Option Addr} {sl28:Array (Option Value)} {oc28 kV28 dc28 pm28 cd28 ct28:Value}
  {f29:Addr} {od29 an29:Option Addr} {sl29:Array (Option Value)} {oc29 kV29 dc29 pm29 cd29 ct29:Value}
  {f30:Addr} {od30 an30:Option Addr} {sl30:Array (Option Value)} {oc30 kV30 dc30 pm30 cd30 ct30:Value}
  {f31:Addr} {od31 an31:Option Addr} {sl31:Array (Option Value)} {oc31 kV31 dc31 pm31 cd31 ct31:Value}
  {f32:Addr} {od32 an32:Option Addr} {sl32:Array (Option Value)} {oc32 kV32 dc32 pm32 cd32 ct32:Value}
  {f33:Addr} {od33 an33:Option Addr} {sl33:Array (Option Value)} {oc33 kV33 dc33 pm33 cd33 ct33:Value}
  {f34:Addr} {od34 an34:Option Addr} {sl34:Array (Option Value)} {oc34 kV34 dc34 pm34 cd34 ct34:Value}
  {f35:Addr} {od35 an35:Option Addr} {sl35:Array (Option Value)} {oc35 kV35 dc35 pm35 cd35 ct35:Value}
  {f36:Addr} {od36 an36:Option Addr} {sl36:Array (Option Value)} {oc36 kV36 dc36 pm36 cd36 ct36:Value}
  {f37:Addr} {od37 an37:Option Addr} {sl37:Array (Option Value)} {oc37 kV37 dc37 pm37 cd37 ct37:Value}
  {f38:Addr} {od38 an38:Option Addr} {sl38:Array (Option Value)} {oc38 kV38 dc38 pm38 cd38 ct38:Value}
  {f39:Addr} {od39 an39:Option Addr} {sl39:Array (Option Value)} {oc39 kV39 dc39 pm39 cd39 ct39:Value}
  {f40:Addr} {od40 an40:Option Addr} {sl40:Array (Option Value)} {oc40 kV40 dc40 pm40 cd40 ct40:Value}
  {f41:Addr} {od41 an41:Option Addr} {sl41:Array (Option Value)} {oc41 kV41 dc41 pm41 cd41 ct41:Value}
  {f42:Addr} {od42 an42:Option Addr} {sl42:Array (Option Value)} {oc42 kV42 dc42 pm42 cd42 ct42:Value}
  {f43:Addr} {od43 an43:Option Addr} {sl43:Array (Option Value)} {oc43 kV43 dc43 pm43 cd43 ct43:Value}
  {f44:Addr} {od44 an44:Option Addr} {sl44:Array (Option Value)} {oc44 kV44 dc44 pm44 cd44 ct44:Value}
  {f45:Addr} {od45 an45:Option Addr} {sl45:Array (Option Value)} {oc45 kV45 dc45 pm45 cd45 ct45:Value}
  {aA:Addr} {dcA:Option Addr} {nA:Nat} {slA:Array (Option Value)}
  {tk_MOST_TO_LEAD:Tok}
  {aE:Addr} {epE:Nat} {s0:Addr} {hsE0:Int} {tkE0:Tok} {dcE0:Option Addr} {nnE0:Nat} {slE0:Array (Option Value)}  {s1:Addr} {hsE1:Int} {tkE1:Tok} {dcE1:Option Addr} {nnE1:Nat} {slE1:Array (Option Value)} {ttE1_0:Tok} {s2:Addr} {hsE2:Int} {tkE2:Tok} {dcE2:Option Addr} {nnE2:Nat} {slE2:Array (Option Value)} {ttE2_0:Tok} {ttE2_1:Tok} {ttE2_2:Tok} {ttE2_3:Tok} {s3:Addr} {hsE3:Int} {tkE3:Tok} {dcE3:Option Addr} {nnE3:Nat} {slE3:Array (Option Value)} {ttE3_0:Tok} {ttE3_1:Tok} {ttE3_2:Tok} {ttE3_3:Tok}
  {aD:Addr} {epD:Nat} {d0:Addr} {hsD0:Int} {tkD0:Tok} {dcD0:Option Addr} {nnD0:Nat} {slD0:Array (Option Value)} {ttD0_0:Tok} {ttD0_1:Tok} {d1:Addr} {hsD1:Int} {tkD1:Tok} {dcD1:Option Addr} {nnD1:Nat} {slD1:Array (Option Value)} {ttD1_0:Tok} {ttD1_1:Tok} {d2:Addr} {hsD2:Int} {tkD2:Tok} {dcD2:Option Addr} {nnD2:Nat} {slD2:Array (Option Value)} {ttD2_0:Tok} {ttD2_1:Tok} {d3:Addr} {hsD3:Int} {tkD3:Tok} {dcD3:Option Addr} {nnD3:Nat} {slD3:Array (Option Value)} {ttD3_0:Tok} {d4:Addr} {hsD4:Int} {tkD4:Tok} {dcD4:Option Addr} {nnD4:Nat} {slD4:Array (Option Value)} {ttD4_0:Tok}
  {C:Addr}
  (a0:PySem.W.nsIn K mainGlobals "parts_of_kind" = some (some (.ref f0))) (l0:K.lookup f0=some ⟨oc0,od0,.func (PySem.W.fnOf "parts_of_kind" "parts_of_kind" (aR dt) (aO dt) (av dt) .none kV0 dc0 pm0 an0 cd0 ct0),sl0⟩) (c0:PySem.W.codeIn K cd0 "parts_of_kind" = true) (k0:PySem.W.keepIn K (.ref f0)=true)
  (a1:PySem.W.nsIn K mainGlobals "ways_on" = some (some (.ref f1))) (l1:K.lookup f1=some ⟨oc1,od1,.func (PySem.W.fnOf "ways_on" "ways_on" (aR gC) (aO gC) (av gC) .none kV1 dc1 pm1 an1 cd1 ct1),sl1⟩) (c1:PySem.W.codeIn K cd1 "ways_on" = true) (k1:PySem.W.keepIn K (.ref f1)=true)
  (a2:PySem.W.nsIn K mainGlobals "without_ways" = some (some (.ref f2))) (l2:K.lookup f2=some ⟨oc2,od2,.func (PySem.W.fnOf "without_ways" "without_ways" (aR dH) (aO dH) (av dH) .none kV2 dc2 pm2 an2 cd2 ct2),sl2⟩) (c2:PySem.W.codeIn K cd2 "without_ways" = true) (k2:PySem.W.keepIn K (.ref f2)=true)
  (a3:PySem.W.nsIn K mainGlobals "names_of" = some (some (.ref f3))) (l3:K.lookup f3=some ⟨oc3,od3,.func (PySem.W.fnOf "names_of" "names_of" (aR fS) (aO fS) (av fS) .none kV3 dc3 pm3 an3 cd3 ct3),sl3⟩) (c3:PySem.W.codeIn K cd3 "names_of" = true) (k3:PySem.W.keepIn K (.ref f3)=true)
  (a4:PySem.W.nsIn K mainGlobals "lies_in" = some (some (.ref f4))) (l4:K.lookup f4=some ⟨oc4,od4,.func (PySem.W.fnOf "lies_in" "lies_in" (aR gF) (aO gF) (av gF) .none kV4 dc4 pm4 an4 cd4 ct4),sl4⟩) (c4:PySem.W.codeIn K cd4 "lies_in" = true) (k4:PySem.W.keepIn K (.ref f4)=true)
  (a5:PySem.W.nsIn K mainGlobals "part_below" = some (some (.ref f5))) (l5:K.lookup f5=some ⟨oc5,od5,.func (PySem.W.fnOf "part_below" "part_below" (aR eV) (aO eV) (av eV) .none kV5 dc5 pm5 an5 cd5 ct5),sl5⟩) (c5:PySem.W.codeIn K cd5 "part_below" = true) (k5:PySem.W.keepIn K (.ref f5)=true)
  (a6:PySem.W.nsIn K mainGlobals "part_from" = some (some (.ref f6))) (l6:K.lookup f6=some ⟨oc6,od6,.func (PySem.W.fnOf "part_from" "part_from" (aR fz) (aO fz) (av fz) .none kV6 dc6 pm6 an6 cd6 ct6),sl6⟩) (c6:PySem.W.codeIn K cd6 "part_from" = true) (k6:PySem.W.keepIn K (.ref f6)=true)
  (a7:PySem.W.nsIn K mainGlobals "part_at" = some (some (.ref f7))) (l7:K.lookup f7=some ⟨oc7,od7,.func (PySem.W.fnOf "part_at" "part_at" (aR gG) (aO gG) (av gG) .none kV7 dc7 pm7 an7 cd7 ct7),sl7⟩) (c7:PySem.W.codeIn K cd7 "part_at" = true) (k7:PySem.W.keepIn K (.ref f7)=true)
  (a8:PySem.W.nsIn K mainGlobals "part_beside" = some (some (.ref f8))) (l8:K.lookup f8=some ⟨oc8,od8,.func (PySem.W.fnOf "part_beside" "part_beside" (aR en) (aO en) (av en) .none kV8 dc8 pm8 an8 cd8 ct8),sl8⟩) (c8:PySem.W.codeIn K cd8 "part_beside" = true) (k8:PySem.W.keepIn K (.ref f8)=true)
  (a9:PySem.W.nsIn K mainGlobals "part_of" = some (some (.ref f9))) (l9:K.lookup f9=some ⟨oc9,od9,.func (PySem.W.fnOf "part_of" "part_of" (aR gH) (aO gH) (av gH) .none kV9 dc9 pm9 an9 cd9 ct9),sl9⟩) (c9:PySem.W.codeIn K cd9 "part_of" = true) (k9:PySem.W.keepIn K (.ref f9)=true)
  (a10:PySem.W.nsIn K mainGlobals "facts_of" = some (some (.ref f10))) (l10:K.lookup f10=some ⟨oc10,od10,.func (PySem.W.fnOf "facts_of" "facts_of" (aR fT) (aO fT) (av fT) .none kV10 dc10 pm10 an10 cd10 ct10),sl10⟩) (c10:PySem.W.codeIn K cd10 "facts_of" = true) (k10:PySem.W.keepIn K (.ref f10)=true)
  (a11:PySem.W.nsIn K mainGlobals "known" = some (some (.ref f11))) (l11:K.lookup f11=some ⟨oc11,od11,.func (PySem.W.fnOf "known" "known" (aR i5) (aO i5) (av i5) .none kV11 dc11 pm11 an11 cd11 ct11),sl11⟩) (c11:PySem.W.codeIn K cd11 "known" = true) (k11:PySem.W.keepIn K (.ref f11)=true)
  (a12:PySem.W.nsIn K mainGlobals "with_known" = some (some (.ref f12))) (l12:K.lookup f12=some ⟨oc12,od12,.func (PySem.W.fnOf "with_known" "with_known" (aR eW) (aO eW) (av eW) .none kV12 dc12 pm12 an12 cd12 ct12),sl12⟩) (c12:PySem.W.codeIn K cd12 "with_known" = true) (k12:PySem.W.keepIn K (.ref f12)=true)
  (a13:PySem.W.nsIn K mainGlobals "moved" = some (some (.ref f13))) (l13:K.lookup f13=some ⟨oc13,od13,.func (PySem.W.fnOf "moved" "moved" (aR i6) (aO i6) (av i6) .none kV13 dc13 pm13 an13 cd13 ct13),sl13⟩) (c13:PySem.W.codeIn K cd13 "moved" = true) (k13:PySem.W.keepIn K (.ref f13)=true)
  (a14:PySem.W.nsIn K mainGlobals "stretch_behind" = some (some (.ref f14))) (l14:K.lookup f14=some ⟨oc14,od14,.func (PySem.W.fnOf "stretch_behind" "stretch_behind" (aR df) (aO df) (av df) .none kV14 dc14 pm14 an14 cd14 ct14),sl14⟩) (c14:PySem.W.codeIn K cd14 "stretch_behind" = true) (k14:PySem.W.keepIn K (.ref f14)=true)
  (a15:PySem.W.nsIn K mainGlobals "behind" = some (some (.ref f15))) (l15:K.lookup f15=some ⟨oc15,od15,.func (PySem.W.fnOf "behind" "behind" (aR il) (aO il) (av il) .none kV15 dc15 pm15 an15 cd15 ct15),sl15⟩) (c15:PySem.W.codeIn K cd15 "behind" = true) (k15:PySem.W.keepIn K (.ref f15)=true)
  (a16:PySem.W.nsIn K mainGlobals "known_beyond" = some (some (.ref f16))) (l16:K.lookup f16=some ⟨oc16,od16,.func (PySem.W.fnOf "known_beyond" "known_beyond" (aR dI) (aO dI) (av dI) .none kV16 dc16 pm16 an16 cd16 ct16),sl16⟩) (c16:PySem.W.codeIn K cd16 "known_beyond" = true) (k16:PySem.W.keepIn K (.ref f16)=true)
  (a17:PySem.W.nsIn K mainGlobals "leads" = some (some (.ref f17))) (l17:K.lookup f17=some ⟨oc17,od17,.func (PySem.W.fnOf "leads" "leads" (aR i7) (aO i7) (av i7) .none kV17 dc17 pm17 an17 cd17 ct17),sl17⟩) (c17:PySem.W.codeIn K cd17 "leads" = true) (k17:PySem.W.keepIn K (.ref f17)=true)
  (a18:PySem.W.nsIn K mainGlobals "start" = some (some (.ref f18))) (l18:K.lookup f18=some ⟨oc18,od18,.func (PySem.W.fnOf "start" "start" (aR i8) (aO i8) (av i8) .none kV18 dc18 pm18 an18 cd18 ct18),sl18⟩) (c18:PySem.W.codeIn K cd18 "start" = true) (k18:PySem.W.keepIn K (.ref f18)=true)
  (a19:PySem.W.findIn K (.ref C) "__init__" = some (some (.ref f19))) (i19:PySem.W.isFn K (.ref f19)=true) (l19:K.lookup f19=some ⟨oc19,od19,.func (PySem.W.fnOf "__init__" "Row.__init__" (aR dJ) (aO dJ) (av dJ) .none kV19 dc19 pm19 an19 cd19 ct19),sl19⟩) (c19:PySem.W.codeIn K cd19 "Row.__init__" = true) (k19:PySem.W.keepIn K (.ref f19)=true)
  (a20:PySem.W.findIn K (.ref C) "place_of" = some (some (.ref f20))) (i20:PySem.W.isFn K (.ref f20)=true) (l20:K.lookup f20=some ⟨oc20,od20,.func (PySem.W.fnOf "place_of" "Row.place_of" (aR dM) (aO dM) (av dM) .none kV20 dc20 pm20 an20 cd20 ct20),sl20⟩) (c20:PySem.W.codeIn K cd20 "Row.place_of" = true) (k20:PySem.W.keepIn K (.ref f20)=true)
  (a21:PySem.W.nsIn K mainGlobals "reached" = some (some (.ref f21))) (l21:K.lookup f21=some ⟨oc21,od21,.func (PySem.W.fnOf "reached" "reached" (aR gI) (aO gI) (av gI) .none kV21 dc21 pm21 an21 cd21 ct21),sl21⟩) (c21:PySem.W.codeIn K cd21 "reached" = true) (k21:PySem.W.keepIn K (.ref f21)=true)
  (a22:PySem.W.nsIn K mainGlobals "heads" = some (some (.ref f22))) (l22:K.lookup f22=some ⟨oc22,od22,.func (PySem.W.fnOf "heads" "heads" (aR i9) (aO i9) (av i9) .none kV22 dc22 pm22 an22 cd22 ct22),sl22⟩) (c22:PySem.W.codeIn K cd22 "heads" = true) (k22:PySem.W.keepIn K (.ref f22)=true)
  (a23:PySem.W.nsIn K mainGlobals "copy_for" = some (some (.ref f23))) (l23:K.lookup f23=some ⟨oc23,od23,.func (PySem.W.fnOf "copy_for" "copy_for" (aR fU) (aO fU) (av fU) .none kV23 dc23 pm23 an23 cd23 ct23),sl23⟩) (c23:PySem.W.codeIn K cd23 "copy_for" = true) (k23:PySem.W.keepIn K (.ref f23)=true)
  (a24:PySem.W.nsIn K mainGlobals "end_to" = some (some (.ref f24))) (l24:K.lookup f24=some ⟨oc24,od24,.func (PySem.W.fnOf "end_to" "end_to" (aR ip) (aO ip) (av ip) .none kV24 dc24 pm24 an24 cd24 ct24),sl24⟩) (c24:PySem.W.codeIn K cd24 "end_to" = true) (k24:PySem.W.keepIn K (.ref f24)=true)
  (a25:PySem.W.nsIn K mainGlobals "led_past" = some (some (.ref f25))) (l25:K.lookup f25=some ⟨oc25,od25,.func (PySem.W.fnOf "led_past" "led_past" (aR fV) (aO fV) (av fV) .none kV25 dc25 pm25 an25 cd25 ct25),sl25⟩) (c25:PySem.W.codeIn K cd25 "led_past" = true) (k25:PySem.W.keepIn K (.ref f25)=true)
  (a26:PySem.W.nsIn K mainGlobals "_law_bag" = some (some (.ref f26))) (l26:K.lookup f26=some ⟨oc26,od26,.func (PySem.W.fnOf "_law_bag" "_law_bag" (aR gJ) (aO gJ) (av gJ) .none kV26 dc26 pm26 an26 cd26 ct26),sl26⟩) (c26:PySem.W.codeIn K cd26 "_law_bag" = true) (k26:PySem.W.keepIn K (.ref f26)=true)
  (a27:PySem.W.nsIn K mainGlobals "_law_take" = some (some (.ref f27))) (l27:K.lookup f27=some ⟨oc27,od27,.func (PySem.W.fnOf "_law_take" "_law_take" (aR fW) (aO fW) (av fW) .none kV27 dc27 pm27 an27 cd27 ct27),sl27⟩) (c27:PySem.W.codeIn K cd27 "_law_take" = true) (k27:PySem.W.keepIn K (.ref f27)=true)
  (a28:PySem.W.nsIn K mainGlobals "_law_names" = some (some (.ref f28))) (l28:K.lookup f28=some ⟨oc28,od28,.func (PySem.W.fnOf "_law_names" "_law_names" (aR fA) (aO fA) (av fA) .none kV28 dc28 pm28 an28 cd28 ct28),sl28⟩) (c28:PySem.W.codeIn K cd28 "_law_names" = true) (k28:PySem.W.keepIn K (.ref f28)=true)
  (a29:PySem.W.nsIn K mainGlobals "_law_number" = some (some (.ref f29))) (l29:K.lookup f29=some ⟨oc29,od29,.func (PySem.W.fnOf "_law_number" "_law_number" (aR eX) (aO eX) (av eX) .none kV29 dc29 pm29 an29 cd29 ct29),sl29⟩) (c29:PySem.W.codeIn K cd29 "_law_number" = true) (k29:PySem.W.keepIn K (.ref f29)=true)
  (a30:PySem.W.nsIn K mainGlobals "_law_deed" = some (some (.ref f30))) (l30:K.lookup f30=some ⟨oc30,od30,.func (PySem.W.fnOf "_law_deed" "_law_deed" (aR fX) (aO fX) (av fX) .none kV30 dc30 pm30 an30 cd30 ct30),sl30⟩) (c30:PySem.W.codeIn K cd30 "_law_deed" = true) (k30:PySem.W.keepIn K (.ref f30)=true)
  (a31:PySem.W.nsIn K mainGlobals "_law_end" = some (some (.ref f31))) (l31:K.lookup f31=some ⟨oc31,od31,.func (PySem.W.fnOf "_law_end" "_law_end" (aR gK) (aO gK) (av gK) .none kV31 dc31 pm31 an31 cd31 ct31),sl31⟩) (c31:PySem.W.codeIn K cd31 "_law_end" = true) (k31:PySem.W.keepIn K (.ref f31)=true)
  (a32:PySem.W.nsIn K mainGlobals "_law_plan" = some (some (.ref f32))) (l32:K.lookup f32=some ⟨oc32,od32,.func (PySem.W.fnOf "_law_plan" "_law_plan" (aR fY) (aO fY) (av fY) .none kV32 dc32 pm32 an32 cd32 ct32),sl32⟩) (c32:PySem.W.codeIn K cd32 "_law_plan" = true) (k32:PySem.W.keepIn K (.ref f32)=true)
  (a33:PySem.W.nsIn K mainGlobals "_law_all_names" = some (some (.ref f33))) (l33:K.lookup f33=some ⟨oc33,od33,.func (PySem.W.fnOf "_law_all_names" "_law_all_names" (aR du) (aO du) (av du) .none kV33 dc33 pm33 an33 cd33 ct33),sl33⟩) (c33:PySem.W.codeIn K cd33 "_law_all_names" = true) (k33:PySem.W.keepIn K (.ref f33)=true)
  (a34:PySem.W.nsIn K mainGlobals "_law_part" = some (some (.ref f34))) (l34:K.lookup f34=some ⟨oc34,od34,.func (PySem.W.fnOf "_law_part" "_law_part" (aR fZ) (aO fZ) (av fZ) .none kV34 dc34 pm34 an34 cd34 ct34),sl34⟩) (c34:PySem.W.codeIn K cd34 "_law_part" = true) (k34:PySem.W.keepIn K (.ref f34)=true)
  (a35:PySem.W.nsIn K mainGlobals "_law_with" = some (some (.ref f35))) (l35:K.lookup f35=some ⟨oc35,od35,.func (PySem.W.fnOf "_law_with" "_law_with" (aR gc) (aO gc) (av gc) .none kV35 dc35 pm35 an35 cd35 ct35),sl35⟩) (c35:PySem.W.codeIn K cd35 "_law_with" = true) (k35:PySem.W.keepIn K (.ref f35)=true)
  (a36:PySem.W.nsIn K mainGlobals "_law_behind" = some (some (.ref f36))) (l36:K.lookup f36=some ⟨oc36,od36,.func (PySem.W.fnOf "_law_behind" "_law_behind" (aR eY) (aO eY) (av eY) .none kV36 dc36 pm36 an36 cd36 ct36),sl36⟩) (c36:PySem.W.codeIn K cd36 "_law_behind" = true) (k36:PySem.W.keepIn K (.ref f36)=true)
  (a37:PySem.W.nsIn K mainGlobals "_law_leads" = some (some (.ref f37))) (l37:K.lookup f37=some ⟨oc37,od37,.func (PySem.W.fnOf "_law_leads" "_law_leads" (aR fC) (aO fC) (av fC) .none kV37 dc37 pm37 an37 cd37 ct37),sl37⟩) (c37:PySem.W.codeIn K cd37 "_law_leads" = true) (k37:PySem.W.keepIn K (.ref f37)=true)
  (a38:PySem.W.nsIn K mainGlobals "_law_told" = some (some (.ref f38))) (l38:K.lookup f38=some ⟨oc38,od38,.func (PySem.W.fnOf "_law_told" "_law_told" (aR gd) (aO gd) (av gd) .none kV38 dc38 pm38 an38 cd38 ct38),sl38⟩) (c38:PySem.W.codeIn K cd38 "_law_told" = true) (k38:PySem.W.keepIn K (.ref f38)=true)
  (a39:PySem.W.nsIn K mainGlobals "_law_ways" = some (some (.ref f39))) (l39:K.lookup f39=some ⟨oc39,od39,.func (PySem.W.fnOf "_law_ways" "_law_ways" (aR gf) (aO gf) (av gf) .none kV39 dc39 pm39 an39 cd39 ct39),sl39⟩) (c39:PySem.W.codeIn K cd39 "_law_ways" = true) (k39:PySem.W.keepIn K (.ref f39)=true)
  (a40:PySem.W.nsIn K mainGlobals "_law_reached" = some (some (.ref f40))) (l40:K.lookup f40=some ⟨oc40,od40,.func (PySem.W.fnOf "_law_reached" "_law_reached" (aR er) (aO er) (av er) .none kV40 dc40 pm40 an40 cd40 ct40),sl40⟩) (c40:PySem.W.codeIn K cd40 "_law_reached" = true) (k40:PySem.W.keepIn K (.ref f40)=true)
  (a41:PySem.W.nsIn K mainGlobals "_law_heads" = some (some (.ref f41))) (l41:K.lookup f41=some ⟨oc41,od41,.func (PySem.W.fnOf "_law_heads" "_law_heads" (aR fD) (aO fD) (av fD) .none kV41 dc41 pm41 an41 cd41 ct41),sl41⟩) (c41:PySem.W.codeIn K cd41 "_law_heads" = true) (k41:PySem.W.keepIn K (.ref f41)=true)
  (a42:PySem.W.nsIn K mainGlobals "_law_table_of" = some (some (.ref f42))) (l42:K.lookup f42=some ⟨oc42,od42,.func (PySem.W.fnOf "_law_table_of" "_law_table_of" (aR dN) (aO dN) (av dN) .none kV42 dc42 pm42 an42 cd42 ct42),sl42⟩) (c42:PySem.W.codeIn K cd42 "_law_table_of" = true) (k42:PySem.W.keepIn K (.ref f42)=true)
  (a43:PySem.W.nsIn K mainGlobals "_law_piece" = some (some (.ref f43))) (l43:K.lookup f43=some ⟨oc43,od43,.func (PySem.W.fnOf "_law_piece" "_law_piece" (aR fE) (aO fE) (av fE) .none kV43 dc43 pm43 an43 cd43 ct43),sl43⟩) (c43:PySem.W.codeIn K cd43 "_law_piece" = true) (k43:PySem.W.keepIn K (.ref f43)=true)
  (a44:PySem.W.nsIn K mainGlobals "_law_copies" = some (some (.ref f44))) (l44:K.lookup f44=some ⟨oc44,od44,.func (PySem.W.fnOf "_law_copies" "_law_copies" (aR e6) (aO e6) (av e6) .none kV44 dc44 pm44 an44 cd44 ct44),sl44⟩) (c44:PySem.W.codeIn K cd44 "_law_copies" = true) (k44:PySem.W.keepIn K (.ref f44)=true)
  (a45:PySem.W.nsIn K mainGlobals "law" = some (some (.ref f45))) (l45:K.lookup f45=some ⟨oc45,od45,.func (PySem.W.fnOf "law" "law" (aR iZ) (aO iZ) (av iZ) .none kV45 dc45 pm45 an45 cd45 ct45),sl45⟩) (c45:PySem.W.codeIn K cd45 "law" = true) (k45:PySem.W.keepIn K (.ref f45)=true)
  (z_len:PySem.W.nsIn K mainGlobals "len" = some none)
  (z_zip:PySem.W.nsIn K mainGlobals "zip" = some none)
  (z_tuple:PySem.W.nsIn K mainGlobals "tuple" = some none)
  (z_sorted:PySem.W.nsIn K mainGlobals "sorted" = some none)
  (z_set:PySem.W.nsIn K mainGlobals "set" = some none)
  (z_dict:PySem.W.nsIn K mainGlobals "dict" = some none)
  (z_min:PySem.W.nsIn K mainGlobals "min" = some none)
  (z_max:PySem.W.nsIn K mainGlobals "max" = some none)
  (z_range:PySem.W.nsIn K mainGlobals "range" = some none)
  (z_list:PySem.W.nsIn K mainGlobals "list" = some none)
  (z_int:PySem.W.nsIn K mainGlobals "int" = some none)
  (gA:PySem.W.nsIn K mainGlobals "ALL" = some (some (.ref aA))) (lA:K.lookup aA=some ⟨.type "tuple",dcA,.seq #[.none,.none] nA,slA⟩)
  (g_MOST_TO_LEAD:PySem.W.nsIn K mainGlobals "MOST_TO_LEAD" = some (some (.int 60 tk_MOST_TO_LEAD)))
  (gE:PySem.W.nsIn K mainGlobals "END_PARTS" = some (some (.ref aE))) (lE:K.lookup aE=some ⟨.type "dict",none,.dict #[⟨hsE0,.str "stop" tkE0,.ref s0⟩,⟨hsE1,.str "go" tkE1,.ref s1⟩,⟨hsE2,.str "less" tkE2,.ref s2⟩,⟨hsE3,.str "is" tkE3,.ref s3⟩] epE,#[]⟩) (qE0:K.lookup s0=some ⟨.type "tuple",dcE0,.seq #[] nnE0,slE0⟩) (qE1:K.lookup s1=some ⟨.type "tuple",dcE1,.seq #[.str "piece" ttE1_0] nnE1,slE1⟩) (qE2:K.lookup s2=some ⟨.type "tuple",dcE2,.seq #[.str "name" ttE2_0,.str "number" ttE2_1,.str "piece" ttE2_2,.str "piece" ttE2_3] nnE2,slE2⟩) (qE3:K.lookup s3=some ⟨.type "tuple",dcE3,.seq #[.str "name" ttE3_0,.str "number" ttE3_1,.str "piece" ttE3_2,.str "piece" ttE3_3] nnE3,slE3⟩)
  (gD:PySem.W.nsIn K mainGlobals "DEED_PARTS" = some (some (.ref aD))) (lD:K.lookup aD=some ⟨.type "dict",none,.dict #[⟨hsD0,.str "put" tkD0,.ref d0⟩,⟨hsD1,.str "copy" tkD1,.ref d1⟩,⟨hsD2,.str "add" tkD2,.ref d2⟩,⟨hsD3,.str "read" tkD3,.ref d3⟩,⟨hsD4,.str "tell" tkD4,.ref d4⟩] epD,#[]⟩) (qD0:K.lookup d0=some ⟨.type "tuple",dcD0,.seq #[.str "name" ttD0_0,.str "number" ttD0_1] nnD0,slD0⟩) (qD1:K.lookup d1=some ⟨.type "tuple",dcD1,.seq #[.str "name" ttD1_0,.str "name" ttD1_1] nnD1,slD1⟩) (qD2:K.lookup d2=some ⟨.type "tuple",dcD2,.seq #[.str "name" ttD2_0,.str "number" ttD2_1] nnD2,slD2⟩) (qD3:K.lookup d3=some ⟨.type "tuple",dcD3,.seq #[.str "name" ttD3_0] nnD3,slD3⟩) (qD4:K.lookup d4=some ⟨.type "tuple",dcD4,.seq #[.str "name" ttD4_0] nnD4,slD4⟩)
  (aCC:PySem.W.nsIn K mainGlobals "Row" = some (some (.ref C))) (pgC:PySem.W.plainGet K C Str.empty=true) (hdC:PySem.W.hasDictIn K C=true) (poC:PySem.W.plainOver K C=true) (saC:PySem.W.findIn K (.ref C) "__setattr__" = some (some (.builtin "object.__setattr__"))) (mkC:PySem.W.makesIn K C=true) (kcC:PySem.W.keepIn K (.ref C)=true)
  (nC_members:PySem.W.findIn K (.ref C) "members" = some none)
  (nC_places:PySem.W.findIn K (.ref C) "places" = some none) :
  ∃ fd:FuncData,(∀ (s:Shared) (v:Value),BindsTo s fd ⟨[v],[]⟩ [("script",v)])/\∀ base:Heap,K.In base->base.Ns mainGlobals mg->bG l.prog w K mg base bT 8 fa fd ["script"] (qP K):=by
 have e:=hfa.symm.trans (PySem.W.mg_of X G a45)
 cases e
 have Z:Bl mg:=⟨PySem.W.mg_none_of X G z_len,PySem.W.mg_none_of X G z_zip,PySem.W.mg_none_of X G z_tuple,PySem.W.mg_none_of X G z_sorted,PySem.W.mg_none_of X G z_set,PySem.W.mg_none_of X G z_dict,PySem.W.mg_none_of X G z_min,PySem.W.mg_none_of X G z_max,PySem.W.mg_none_of X G z_range,PySem.W.mg_none_of X G z_list,PySem.W.mg_none_of X G z_int⟩
 have GA:iM K mg aA:=⟨PySem.W.mg_of X G gA,_,_,_,lA⟩
 have G_MOST_TO_LEAD:mg "MOST_TO_LEAD" = some (.int 60 tk_MOST_TO_LEAD):=PySem.W.mg_of X G g_MOST_TO_LEAD
 have GE:rQ K mg aE s0 s1 s2 s3:=⟨⟨PySem.W.mg_of X G gE,_,_,lE,(.cons rfl rfl (.cons rfl rfl (.cons rfl rfl (.cons rfl rfl .nil))))⟩,⟨_,_,_,qE0,rfl,rfl,(by show 0<=sizeLine;decide),.nil⟩,⟨_,_,_,qE1,rfl,rfl,(by show 1<=sizeLine;decide),(.cons ⟨_,rfl⟩ .nil)⟩,⟨_,_,_,qE2,rfl,rfl,(by show 4<=sizeLine;decide),(.cons ⟨_,rfl⟩ (.cons ⟨_,rfl⟩ (.cons ⟨_,rfl⟩ (.cons ⟨_,rfl⟩ .nil))))⟩,⟨_,_,_,qE3,rfl,rfl,(by show 4<=sizeLine;decide),(.cons ⟨_,rfl⟩ (.cons ⟨_,rfl⟩ (.cons ⟨_,rfl⟩ (.cons ⟨_,rfl⟩ .nil))))⟩⟩
 have GD:qR K mg aD d0 d1 d2 d3 d4:=⟨⟨PySem.W.mg_of X G gD,_,_,lD,(.cons rfl rfl (.cons rfl rfl (.cons rfl rfl (.cons rfl rfl (.cons rfl rfl .nil)))))⟩,⟨_,_,_,qD0,rfl,rfl,(by show 2<=sizeLine;decide),(.cons ⟨_,rfl⟩ (.cons ⟨_,rfl⟩ .nil))⟩,⟨_,_,_,qD1,rfl,rfl,(by show 2<=sizeLine;decide),(.cons ⟨_,rfl⟩ (.cons ⟨_,rfl⟩ .nil))⟩,⟨_,_,_,qD2,rfl,rfl,(by show 2<=sizeLine;decide),(.cons ⟨_,rfl⟩ (.cons ⟨_,rfl⟩ .nil))⟩,⟨_,_,_,qD3,rfl,rfl,(by show 1<=sizeLine;decide),(.cons ⟨_,rfl⟩ .nil)⟩,⟨_,_,_,qD4,rfl,rfl,(by show 1<=sizeLine;decide),(.cons ⟨_,rfl⟩ .nil)⟩⟩
 have T:si K C:=⟨⟨pgC,hdC,poC,saC⟩,nC_members,nC_places⟩
 have F0:=bA (st:=dt) l0 c0 k0
 have b0:=F0.binds (ps:=["thing", "kinds", "wanted"]) fun _ _ _ _ _ _ us hl=>match us,hl with | [_,_,_],_=>rfl
 have F1:=bA (st:=gC) l1 c1 k1
 have b1:=F1.binds (ps:=["end"]) fun _ _ _ _ _ _ us hl=>match us,hl with | [_],_=>rfl
 have F2:=bA (st:=dH) l2 c2 k2
 have b2:=F2.binds (ps:=["end"]) fun _ _ _ _ _ _ us hl=>match us,hl with | [_],_=>rfl
 have F3:=bA (st:=fS) l3 c3 k3
 have b3:=F3.binds (ps:=["plan"]) fun _ _ _ _ _ _ us hl=>match us,hl with | [_],_=>rfl
 have F4:=bA (st:=gF) l4 c4 k4
 have b4:=F4.binds (ps:=["number", "stretch"]) fun _ _ _ _ _ _ us hl=>match us,hl with | [_,_],_=>rfl
 have F5:=bA (st:=eV) l5 c5 k5
 have b5:=F5.binds (ps:=["stretch", "number"]) fun _ _ _ _ _ _ us hl=>match us,hl with | [_,_],_=>rfl
 have F6:=bA (st:=fz) l6 c6 k6
 have b6:=F6.binds (ps:=["stretch", "number"]) fun _ _ _ _ _ _ us hl=>match us,hl with | [_,_],_=>rfl
 have F7:=bA (st:=gG) l7 c7 k7
 have b7:=F7.binds (ps:=["stretch", "number"]) fun _ _ _ _ _ _ us hl=>match us,hl with | [_,_],_=>rfl
 have F8:=bA (st:=en) l8 c8 k8
 have b8:=F8.binds (ps:=["stretch", "number"]) fun _ _ _ _ _ _ us hl=>match us,hl with | [_,_],_=>rfl
 have F9:=bA (st:=gH) l9 c9 k9
 have b9:=F9.binds (ps:=["stretch", "word", "number", "side"]) fun _ _ _ _ _ _ us hl=>match us,hl with | [_,_,_,_],_=>rfl
 have F10:=bA (st:=fT) l10 c10 k10
 have b10:=F10.binds (ps:=["stretches"]) fun _ _ _ _ _ _ us hl=>match us,hl with | [_],_=>rfl
 have F11:=bA (st:=i5) l11 c11 k11
 have b11:=F11.binds (ps:=["facts", "name"]) fun _ _ _ _ _ _ us hl=>match us,hl with | [_,_],_=>rfl
 have F12:=bA (st:=eW) l12 c12 k12
 have b12:=F12.binds (ps:=["facts", "name", "stretch"]) fun _ _ _ _ _ _ us hl=>match us,hl with | [_,_,_],_=>rfl
 have F13:=bA (st:=i6) l13 c13 k13
 have b13:=F13.binds (ps:=["stretch", "number"]) fun _ _ _ _ _ _ us hl=>match us,hl with | [_,_],_=>rfl
 have F14:=bA (st:=df) l14 c14 k14
 have b14:=F14.binds (ps:=["stretches", "deed"]) fun _ _ _ _ _ _ us hl=>match us,hl with | [_,_],_=>rfl
 have F15:=bA (st:=il) l15 c15 k15
 have b15:=F15.binds (ps:=["facts", "deeds"]) fun _ _ _ _ _ _ us hl=>match us,hl with | [_,_],_=>rfl
 have F16:=bA (st:=dI) l16 c16 k16
 have b16:=F16.binds (ps:=["facts", "end"]) fun _ _ _ _ _ _ us hl=>match us,hl with | [_,_],_=>rfl
 have F17:=bA (st:=i7) l17 c17 k17
 have b17:=F17.binds (ps:=["facts", "end"]) fun _ _ _ _ _ _ us hl=>match us,hl with | [_,_],_=>rfl
 have F18:=bA (st:=i8) l18 c18 k18
 have b18:=F18.binds (ps:=["plan"]) fun _ _ _ _ _ _ us hl=>match us,hl with | [_],_=>rfl
 have F19:=bA (st:=dJ) l19 c19 k19
 have b19:=F19.binds (ps:=["self", "first"]) fun _ _ _ _ _ _ us hl=>match us,hl with | [_,_],_=>rfl
 have F20:=bA (st:=dM) l20 c20 k20
 have b20:=F20.binds (ps:=["self", "thing"]) fun _ _ _ _ _ _ us hl=>match us,hl with | [_,_],_=>rfl
 have F21:=bA (st:=gI) l21 c21 k21
 have b21:=F21.binds (ps:=["plan"]) fun _ _ _ _ _ _ us hl=>match us,hl with | [_],_=>rfl
 have F22:=bA (st:=i9) l22 c22 k22
 have b22:=F22.binds (ps:=["plan"]) fun _ _ _ _ _ _ us hl=>match us,hl with | [_],_=>rfl
 have F23:=bA (st:=fU) l23 c23 k23
 have b23:=F23.binds (ps:=["lead", "tops", "places", "most"]) fun _ _ _ _ _ _ us hl=>match us,hl with | [_,_,_,_],_=>rfl
 have F24:=bA (st:=ip) l24 c24 k24
 have b24:=F24.binds (ps:=["end", "ways"]) fun _ _ _ _ _ _ us hl=>match us,hl with | [_,_],_=>rfl
 have F25:=bA (st:=fV) l25 c25 k25
 have b25:=F25.binds (ps:=["plan", "most"]) fun _ _ _ _ _ _ us hl=>match us,hl with | [_,_],_=>rfl
 have F26:=bA (st:=gJ) l26 c26 k26
 have b26:=F26.binds (ps:=["script", "k"]) fun _ _ _ _ _ _ us hl=>match us,hl with | [_,_],_=>rfl
 have F27:=bA (st:=fW) l27 c27 k27
 have b27:=F27.binds (ps:=["bag", "many"]) fun _ _ _ _ _ _ us hl=>match us,hl with | [_,_],_=>rfl
 have F28:=bA (st:=fA) l28 c28 k28
 have b28:=F28.binds (ps:=["bag"]) fun _ _ _ _ _ _ us hl=>match us,hl with | [_],_=>rfl
 have F29:=bA (st:=eX) l29 c29 k29
 have b29:=F29.binds (ps:=["bag"]) fun _ _ _ _ _ _ us hl=>match us,hl with | [_],_=>rfl
 have F30:=bA (st:=fX) l30 c30 k30
 have b30:=F30.binds (ps:=["bag", "names"]) fun _ _ _ _ _ _ us hl=>match us,hl with | [_,_],_=>rfl
 have F31:=bA (st:=gK) l31 c31 k31
 have b31:=F31.binds (ps:=["bag", "names", "count"]) fun _ _ _ _ _ _ us hl=>match us,hl with | [_,_,_],_=>rfl
 have F32:=bA (st:=fY) l32 c32 k32
 have b32:=F32.binds (ps:=["bag", "count", "most"]) fun _ _ _ _ _ _ us hl=>match us,hl with | [_,_,_],_=>rfl
 have F33:=bA (st:=du) l33 c33 k33
 have b33:=F33.binds (ps:=["plan"]) fun _ _ _ _ _ _ us hl=>match us,hl with | [_],_=>rfl
 have F34:=bA (st:=fZ) l34 c34 k34
 have b34:=F34.binds (ps:=["stretch", "word", "number", "side"]) fun _ _ _ _ _ _ us hl=>match us,hl with | [_,_,_,_],_=>rfl
 have F35:=bA (st:=gc) l35 c35 k35
 have b35:=F35.binds (ps:=["facts", "name", "stretch"]) fun _ _ _ _ _ _ us hl=>match us,hl with | [_,_,_],_=>rfl
 have F36:=bA (st:=eY) l36 c36 k36
 have b36:=F36.binds (ps:=["facts", "deeds"]) fun _ _ _ _ _ _ us hl=>match us,hl with | [_,_],_=>rfl
 have F37:=bA (st:=fC) l37 c37 k37
 have b37:=F37.binds (ps:=["facts", "end"]) fun _ _ _ _ _ _ us hl=>match us,hl with | [_,_],_=>rfl
 have F38:=bA (st:=gd) l38 c38 k38
 have b38:=F38.binds (ps:=["facts"]) fun _ _ _ _ _ _ us hl=>match us,hl with | [_],_=>rfl
 have F39:=bA (st:=gf) l39 c39 k39
 have b39:=F39.binds (ps:=["end"]) fun _ _ _ _ _ _ us hl=>match us,hl with | [_],_=>rfl
 have F40:=bA (st:=er) l40 c40 k40
 have b40:=F40.binds (ps:=["plan"]) fun _ _ _ _ _ _ us hl=>match us,hl with | [_],_=>rfl
 have F41:=bA (st:=fD) l41 c41 k41
 have b41:=F41.binds (ps:=["plan"]) fun _ _ _ _ _ _ us hl=>match us,hl with | [_],_=>rfl
 have F42:=bA (st:=dN) l42 c42 k42
 have b42:=F42.binds (ps:=["facts"]) fun _ _ _ _ _ _ us hl=>match us,hl with | [_],_=>rfl
 have F43:=bA (st:=fE) l43 c43 k43
 have b43:=F43.binds (ps:=["piece", "numbers"]) fun _ _ _ _ _ _ us hl=>match us,hl with | [_,_],_=>rfl
 have F44:=bA (st:=e6) l44 c44 k44
 have b44:=F44.binds (ps:=["plan", "most"]) fun _ _ _ _ _ _ us hl=>match us,hl with | [_,_],_=>rfl
 have F45:=bA (st:=iZ) l45 c45 k45
 refine⟨PySem.W.fnOf "law" "law" (aR iZ) (aO iZ) (av iZ) .none kV45 dc45 pm45 an45 cd45 ct45,fun s v=>.of_eq rfl,fun base _ _=>?_⟩
 have O_parts_of_kind:Own l.prog w K mg base "parts_of_kind" 1 ["thing", "kinds", "wanted"] (mw K):=⟨⟨_,_,nL F0 Z ,PySem.W.mg_of X G a0,k0,b0⟩⟩
 have O_ways_on:Own l.prog w K mg base "ways_on" 3 ["end"] jm:=⟨⟨_,_,vq F1 Z GE O_parts_of_kind,PySem.W.mg_of X G a1,k1,b1⟩⟩
 have O_without_ways:Own l.prog w K mg base "without_ways" 4 ["end"] lL:=⟨⟨_,_,oM F2 Z O_ways_on,PySem.W.mg_of X G a2,k2,b2⟩⟩
 have O_names_of:Own l.prog w K mg base "names_of" 3 ["plan"] lF:=⟨⟨_,_,tG F3 Z GD GE O_parts_of_kind,PySem.W.mg_of X G a3,k3,b3⟩⟩
 have O_lies_in:Own l.prog w K mg base "lies_in" 1 ["number", "stretch"] (pD K):=⟨⟨_,_,vt F4 Z ,PySem.W.mg_of X G a4,k4,b4⟩⟩
 have O_part_below:Own l.prog w K mg base "part_below" 1 ["stretch", "number"] (iN K fL):=⟨⟨_,_,qF F5 Z ,PySem.W.mg_of X G a5,k5,b5⟩⟩
 have O_part_from:Own l.prog w K mg base "part_from" 1 ["stretch", "number"] (iN K gS):=⟨⟨_,_,sS F6 Z ,PySem.W.mg_of X G a6,k6,b6⟩⟩
 have O_part_at:Own l.prog w K mg base "part_at" 2 ["stretch", "number"] (iN K jQ):=⟨⟨_,_,vv F7 Z O_lies_in,PySem.W.mg_of X G a7,k7,b7⟩⟩
 have O_part_beside:Own l.prog w K mg base "part_beside" 1 ["stretch", "number"] (iN K iL):=⟨⟨_,_,pP F8 Z ,PySem.W.mg_of X G a8,k8,b8⟩⟩
 have O_part_of:Own l.prog w K mg base "part_of" 3 ["stretch", "word", "number", "side"] (pE K):=⟨⟨_,_,vw F9 Z O_part_below O_part_from O_part_at O_part_beside,PySem.W.mg_of X G a9,k9,b9⟩⟩
 have O_facts_of:Own l.prog w K mg base "facts_of" 1 ["stretches"] (jA aA):=⟨⟨_,_,tH F10 Z GA ,PySem.W.mg_of X G a10,k10,b10⟩⟩
 have O_known:Own l.prog w K mg base "known" 1 ["facts", "name"] (pC aA):=⟨⟨_,_,yG F11 Z GA ,PySem.W.mg_of X G a11,k11,b11⟩⟩
 have O_with_known:Own l.prog w K mg base "with_known" 2 ["facts", "name", "stretch"] (jF aA):=⟨⟨_,_,qG F12 Z GA O_facts_of,PySem.W.mg_of X G a12,k12,b12⟩⟩
 have O_moved:Own l.prog w K mg base "moved" 1 ["stretch", "number"] (pd K):=⟨⟨_,_,yH F13 Z ,PySem.W.mg_of X G a13,k13,b13⟩⟩
 have O_stretch_behind:Own l.prog w K mg base "stretch_behind" 2 ["stretches", "deed"] (j8 aA):=⟨⟨_,_,mH F14 Z GA O_moved,PySem.W.mg_of X G a14,k14,b14⟩⟩
 have O_behind:Own l.prog w K mg base "behind" 3 ["facts", "deeds"] nv:=⟨⟨_,_,xg F15 Z GA O_stretch_behind O_facts_of,PySem.W.mg_of X G a15,k15,b15⟩⟩
 have O_known_beyond:Own l.prog w K mg base "known_beyond" 4 ["facts", "end"] (nz aA):=⟨⟨_,_,oN F16 Z GA O_ways_on O_known O_part_of O_with_known,PySem.W.mg_of X G a16,k16,b16⟩⟩
 have O_leads:Own l.prog w K mg base "leads" 5 ["facts", "end"] (pF aA):=⟨⟨_,_,yI F17 Z O_known_beyond O_ways_on,PySem.W.mg_of X G a17,k17,b17⟩⟩
 have O_start:Own l.prog w K mg base "start" 4 ["plan"] pG:=⟨⟨_,_,yJ F18 Z O_names_of,PySem.W.mg_of X G a18,k18,b18⟩⟩
 have O_Row___init__:xT l.prog w K mg base C "Row" 1 ["self", "first"] (kf l.prog w C):=⟨⟨_,_,oO F19 Z T ,⟨mkC,a19,i19,kcC⟩,PySem.W.mg_of X G aCC,b19⟩⟩
 have O_Row_place_of:xS l.prog w K mg base C "place_of" 1 ["self", "thing"] (kh l.prog w C):=⟨T.cl,⟨_,_,oP F20 Z T ,⟨a20,i20,k20⟩,b20⟩⟩
 have O_reached:Own l.prog w K mg base "reached" 4 ["plan"] lR:=⟨⟨_,_,vx F21 Z O_ways_on,PySem.W.mg_of X G a21,k21,b21⟩⟩
 have O_heads:Own l.prog w K mg base "heads" 5 ["plan"] pJ:=⟨⟨_,_,yK F22 Z O_reached O_ways_on,PySem.W.mg_of X G a22,k22,b22⟩⟩
 have O_copy_for:Own l.prog w K mg base "copy_for" 1 ["lead", "tops", "places", "most"] (lT l.prog w):=⟨⟨_,_,tI F23 Z ,PySem.W.mg_of X G a23,k23,b23⟩⟩
 have O_end_to:Own l.prog w K mg base "end_to" 5 ["end", "ways"] pK:=⟨⟨_,_,xh F24 Z O_without_ways,PySem.W.mg_of X G a24,k24,b24⟩⟩
 have O_led_past:Own l.prog w K mg base "led_past" 7 ["plan", "most"] (lW l.prog w C):=⟨⟨_,_,tJ F25 Z G_MOST_TO_LEAD T O_heads O_start O_Row___init__ O_Row_place_of O_behind O_leads O_copy_for O_end_to,PySem.W.mg_of X G a25,k25,b25⟩⟩
 have O_law_bag:Own l.prog w K mg base "_law_bag" 1 ["script", "k"] (uR K):=⟨⟨_,_,vy F26 Z ,PySem.W.mg_of X G a26,k26,b26⟩⟩
 have O_law_take:Own l.prog w K mg base "_law_take" 1 ["bag", "many"] iD:=⟨⟨_,_,tK F27 Z ,PySem.W.mg_of X G a27,k27,b27⟩⟩
 have O_law_names:Own l.prog w K mg base "_law_names" 2 ["bag"] o1:=⟨⟨_,_,sT F28 Z O_law_take,PySem.W.mg_of X G a28,k28,b28⟩⟩
 have O_law_number:Own l.prog w K mg base "_law_number" 2 ["bag"] j3:=⟨⟨_,_,qH F29 Z O_law_take,PySem.W.mg_of X G a29,k29,b29⟩⟩
 have O_law_deed:Own l.prog w K mg base "_law_deed" 3 ["bag", "names"] nY:=⟨⟨_,_,tL F30 Z O_law_take O_law_number,PySem.W.mg_of X G a30,k30,b30⟩⟩
 have O_law_end:Own l.prog w K mg base "_law_end" 3 ["bag", "names", "count"] nZ:=⟨⟨_,_,vz F31 Z O_law_take O_law_number,PySem.W.mg_of X G a31,k31,b31⟩⟩
 have O_law_plan:Own l.prog w K mg base "_law_plan" 4 ["bag", "count", "most"] rG:=⟨⟨_,_,tM F32 Z O_law_take O_law_names O_law_deed O_law_end,PySem.W.mg_of X G a32,k32,b32⟩⟩
 have O_law_all_names:Own l.prog w K mg base "_law_all_names" 1 ["plan"] sC:=⟨⟨_,_,nM F33 Z ,PySem.W.mg_of X G a33,k33,b33⟩⟩
 have O_law_part:Own l.prog w K mg base "_law_part" 1 ["stretch", "word", "number", "side"] pH:=⟨⟨_,_,tN F34 Z ,PySem.W.mg_of X G a34,k34,b34⟩⟩
 have O_law_with:Own l.prog w K mg base "_law_with" 1 ["facts", "name", "stretch"] mC:=⟨⟨_,_,tO F35 Z ,PySem.W.mg_of X G a35,k35,b35⟩⟩
 have O_law_behind:Own l.prog w K mg base "_law_behind" 2 ["facts", "deeds"] sr:=⟨⟨_,_,qI F36 Z O_law_with,PySem.W.mg_of X G a36,k36,b36⟩⟩
 have O_law_leads:Own l.prog w K mg base "_law_leads" 3 ["facts", "end"] nF:=⟨⟨_,_,sU F37 Z O_law_part O_law_with,PySem.W.mg_of X G a37,k37,b37⟩⟩
 have O_law_told:Own l.prog w K mg base "_law_told" 1 ["facts"] pB:=⟨⟨_,_,tP F38 Z ,PySem.W.mg_of X G a38,k38,b38⟩⟩
 have O_law_ways:Own l.prog w K mg base "_law_ways" 1 ["end"] kn:=⟨⟨_,_,tQ F39 Z ,PySem.W.mg_of X G a39,k39,b39⟩⟩
 have O_law_reached:Own l.prog w K mg base "_law_reached" 3 ["plan"] km:=⟨⟨_,_,pQ F40 Z O_law_ways,PySem.W.mg_of X G a40,k40,b40⟩⟩
 have O_law_heads:Own l.prog w K mg base "_law_heads" 4 ["plan"] nH:=⟨⟨_,_,sV F41 Z O_law_reached O_law_ways,PySem.W.mg_of X G a41,k41,b41⟩⟩
 have O_law_table_of:Own l.prog w K mg base "_law_table_of" 1 ["facts"] lX:=⟨⟨_,_,oQ F42 Z ,PySem.W.mg_of X G a42,k42,b42⟩⟩
 have O_law_piece:Own l.prog w K mg base "_law_piece" 1 ["piece", "numbers"] nI:=⟨⟨_,_,sW F43 Z ,PySem.W.mg_of X G a43,k43,b43⟩⟩
 have O_law_copies:Own l.prog w K mg base "_law_copies" 6 ["plan", "most"] lY:=⟨⟨_,_,qJ F44 Z O_law_heads O_law_all_names O_law_told O_law_piece O_law_table_of O_law_behind O_law_leads,PySem.W.mg_of X G a44,k44,b44⟩⟩
 exact Bj F45 Z T O_law_bag O_law_take O_law_plan O_law_deed O_law_end O_led_past O_law_copies
theorem walk {l:PySem.W.OpenLaw} {q:Program} {loose:List Str} {XP:(Str->Option Value)->Heap->Prop} {YP:World->Heap->Prop} {d:DefRec} {K:Params->PySem.W.Frag} (hn:l.most=some 63) (hdf:d.params.defaults = [])
  (hY:∀ (w:World) (h:Heap),YP w h->(K w.params).In h)
  (F:∀ (w:World) (mg:Str->Option Value) (fa:Addr) (h:Heap),(K w.params).In h->h.Ns mainGlobals mg->mg d.name=some (.ref fa) ->
   ∃ fd:FuncData,(∀ (s:Shared) (u:Value),BindsTo s fd ⟨[u],[]⟩ [("script",u)])/\∀ base:Heap,(K w.params).In base->base.Ns mainGlobals mg->bG l.prog w (K w.params) mg base bT 8 fa fd ["script"] (qP (K w.params))) :
  PySem.W.WalkO q loose XP YP l.row.toRowW d [] (fun f vs=>PySem.call f vs) :=
 L2.zt (n:=63) (k:=8) (x := "script") (CX:=fun _=>bT) (sp:=fun w=>qP (K w.params)) hn (by decide) hdf ⟨rfl,by decide,by decide⟩ hY F (fun _ _ a ns hl _ hS=>⟨a,ns,rfl,hS,hl,fun _=>rfl⟩) fun _ _ _ _ _ z=>z
end My
theorem PySem.W.Fast.tw7096001798919504875:True:=trivial
theorem PySem.W.Fast.tw16736493605373924293:True:=trivial
theorem PySem.W.Fast.tw15590913682291690272:True:=trivial
theorem PySem.W.Fast.tw9696582551907106624:True:=trivial
theorem PySem.W.Fast.tw13455350022528688539:True:=trivial
theorem PySem.W.Fast.tw5576771334857769932:True:=trivial
theorem PySem.W.Fast.tw15391635250887085382:True:=trivial
theorem PySem.W.Fast.tw14134418495413800006:True:=trivial
theorem PySem.W.Fast.tw1116718133071239075:True:=trivial
theorem PySem.W.Fast.tw14309087429770360628:True:=trivial
theorem PySem.W.Fast.tw6124758612292508728:True:=trivial
theorem PySem.W.Fast.tw3189383821572901445:True:=trivial
theorem PySem.W.Fast.tw4386572308782867817:True:=trivial
theorem PySem.W.Fast.tw5996717961511676254:True:=trivial
theorem PySem.W.Fast.tw3378515269421584:True:=trivial
theorem PySem.W.Fast.tw8224654902551812847:True:=trivial
theorem PySem.W.Fast.tw3365532677766125826:True:=trivial
theorem PySem.W.Fast.tw14729839206142454409:True:=trivial
theorem PySem.W.Fast.tw206360186591011813:True:=trivial
theorem PySem.W.Fast.tw5539759985273334384:True:=trivial
theorem PySem.W.Fast.tw5401897295237008426:True:=trivial
theorem PySem.W.Fast.tw13387017999182277667:True:=trivial
theorem PySem.W.Fast.tw14440807820624853735:True:=trivial
theorem PySem.W.Fast.tw5623416679755317648:True:=trivial
theorem PySem.W.Fast.tw16164434278880504883:True:=trivial
theorem PySem.W.Fast.tw12962464219380390019:True:=trivial
theorem PySem.W.Fast.tw15176232061951122500:True:=trivial
theorem PySem.W.Fast.tw7618742015711693636:True:=trivial
theorem PySem.W.Fast.tw5755240803507797531:True:=trivial
theorem PySem.W.Fast.tw9958046552334097862:True:=trivial
theorem PySem.W.Fast.tw3658338072316655299:True:=trivial
theorem PySem.W.Fast.tw4280500177787761379:True:=trivial
theorem PySem.W.Fast.tw9321463829994775017:True:=trivial
theorem PySem.W.Fast.tw11351666333729982140:True:=trivial
theorem PySem.W.Fast.tw9534681650115652049:True:=trivial
theorem PySem.W.Fast.tw15356921505460543272:True:=trivial
theorem PySem.W.Fast.tw14622776584856879292:True:=trivial
theorem PySem.W.Fast.tw8275202958865186734:True:=trivial
theorem PySem.W.Fast.tw4829403192709455582:True:=trivial
theorem PySem.W.Fast.tw13792898185287036382:True:=trivial
theorem PySem.W.Fast.tw54610933842753797:True:=trivial
theorem PySem.W.Fast.tw849591390602715010:True:=trivial
theorem PySem.W.Fast.tw15822324637082398982:True:=trivial
theorem PySem.W.Fast.tw7519348762336595281:True:=trivial
theorem PySem.W.Fast.tw3514934083450655603:True:=trivial
theorem PySem.W.Fast.tw13152398923787002371:True:=trivial
theorem PySem.W.Fast.tw9280647301382307783:True:=trivial
theorem PySem.W.Fast.tw3892763216235975272:True:=trivial
theorem PySem.W.Fast.tw15289201549036876520:True:=trivial
theorem PySem.W.Fast.tw14171438765437123632:True:=trivial
theorem PySem.W.Fast.tw15848181341495707903:True:=trivial
theorem PySem.W.Fast.tw15021411375337842946:True:=trivial
theorem PySem.W.Fast.tw11451570997985012613:True:=trivial
theorem PySem.W.Fast.tw11835330195815892297:True:=trivial
theorem PySem.W.Fast.tw2911270709326168503:True:=trivial
theorem PySem.W.Fast.tw7445013661670889011:True:=trivial
theorem PySem.W.Fast.tw918090810995380259:True:=trivial
theorem PySem.W.Fast.tw16047499573702746571:True:=trivial
theorem PySem.W.Fast.tw4957002216874958498:True:=trivial
theorem PySem.W.Fast.tw12110949306474800564:True:=trivial
theorem PySem.W.Fast.tw17420473913222533945:True:=trivial
theorem PySem.W.Fast.tw4277032835308030915:True:=trivial
theorem PySem.W.Fast.tw9370952321634821313:True:=trivial
theorem PySem.W.Fast.tw287109263979400946:True:=trivial
theorem PySem.W.Fast.tw11216692108621491428:True:=trivial
theorem PySem.W.Fast.tw6917731234627686815:True:=trivial
theorem PySem.W.Fast.tw12211044734136709665:True:=trivial
theorem PySem.W.Fast.tw1445702531993099180:True:=trivial
theorem PySem.W.Fast.tw5676356845119218119:True:=trivial
theorem PySem.W.Fast.tw15797774913915054372:True:=trivial
theorem PySem.W.Fast.tw8017696339690085074:True:=trivial
theorem PySem.W.Fast.tw5834941946495971998:True:=trivial
theorem PySem.W.Fast.tw8478887209105203291:True:=trivial
theorem PySem.W.Fast.tw6961067908572020987:True:=trivial
theorem PySem.W.Fast.tw17667706256107270242:True:=trivial
theorem PySem.W.Fast.tw2902505742406460501:True:=trivial
theorem PySem.W.Fast.tw16935213595849827503:True:=trivial
theorem PySem.W.Fast.tw5710058541555975452:True:=trivial
theorem PySem.W.Fast.tw16450334277821159231:True:=trivial
theorem PySem.W.Fast.tw1622872558101392569:True:=trivial
theorem PySem.W.Fast.tw5530337453420189487:True:=trivial
theorem PySem.W.Fast.tw8456434006933229813:True:=trivial
theorem PySem.W.Fast.tw11885603366143773717:True:=trivial
theorem PySem.W.Fast.tw576092766722962797:True:=trivial
theorem PySem.W.Fast.tw13187032024727379448:True:=trivial
theorem PySem.W.Fast.tw13471983117385398576:True:=trivial
theorem PySem.W.Fast.tw9637318036061139765:True:=trivial
theorem PySem.W.Fast.tw18302835453242489042:True:=trivial
theorem PySem.W.Fast.tw16734104195012375113:True:=trivial
theorem PySem.W.Fast.tw2048832979369338404:True:=trivial
theorem PySem.W.Fast.tw619386903786404075:True:=trivial
theorem PySem.W.Fast.tw298223507890011971:True:=trivial
theorem PySem.W.Fast.tw8173861299579653062:True:=trivial
theorem PySem.W.Fast.tw15861345711674366846:True:=trivial
theorem PySem.W.Fast.tw8170723209399964428:True:=trivial
theorem PySem.W.Fast.tw15532690778509898390:True:=trivial
theorem PySem.W.Fast.tw4006914713223286703:True:=trivial
theorem PySem.W.Fast.tw1498674589297011888:True:=trivial
theorem PySem.W.Fast.tw4571176356304049738:True:=trivial
theorem PySem.W.Fast.tw13537460529771672740:True:=trivial
theorem PySem.W.Fast.tw7682872553163095672:True:=trivial
theorem PySem.W.Fast.tw8281894864856488644:True:=trivial
theorem PySem.W.Fast.tw6788177182109027331:True:=trivial
theorem PySem.W.Fast.tw2860159512401844529:True:=trivial
theorem PySem.W.Fast.tw13138154540084086183:True:=trivial
theorem PySem.W.Fast.tw15292780374302253835:True:=trivial
theorem PySem.W.Fast.tw1067871820933489101:True:=trivial
theorem PySem.W.Fast.tw5561770027026703160:True:=trivial
theorem PySem.W.Fast.tw7372495326392403690:True:=trivial
theorem PySem.W.Fast.tw6672667423302486064:True:=trivial
theorem PySem.W.Fast.tw1433806541563609813:True:=trivial
theorem PySem.W.Fast.tw11828466120064672370:True:=trivial
theorem PySem.W.Fast.tw2494808973873297416:True:=trivial
theorem PySem.W.Fast.tw8821459579651056282:True:=trivial
theorem PySem.W.Fast.tw16104450166713821470:True:=trivial
theorem PySem.W.Fast.tw18028436763510946753:True:=trivial
open PySem PySem.W PyProof.Rows
set_option maxRecDepth 100000 in
set_option maxHeartbeats 0 in
theorem PySem.Challenge.cw_ledpast_k10_copies_by_hand_holds : PySem.Challenge.rw_ledpast_k10_copies_by_hand.Holds := by
 w_on; o_law; k_head; (case hw => w_witness2)
 k_fill
 refine My.walk (l := PySem.Challenge.rw_ledpast_k10_copies_by_hand) rfl rfl (fun w h Y => PySem.W.kIn_of Y) ?F
 case F =>
  intro w mg fa h KX G hmg
  refine' My.all_mk KX G hmg ?a0 ?l0 ?c0 ?k0 ?a1 ?l1 ?c1 ?k1 ?a2 ?l2 ?c2 ?k2 ?a3 ?l3 ?c3 ?k3 ?a4 ?l4 ?c4 ?k4 ?a5 ?l5 ?c5 ?k5 ?a6 ?l6 ?c6 ?k6 ?a7 ?l7 ?c7 ?k7 ?a8 ?l8 ?c8 ?k8 ?a9 ?l9 ?c9 ?k9 ?a10 ?l10 ?c10 ?k10 ?a11 ?l11 ?c11 ?k11 ?a12 ?l12 ?c12 ?k12 ?a13 ?l13 ?c13 ?k13 ?a14 ?l14 ?c14 ?k14 ?a15 ?l15 ?c15 ?k15 ?a16 ?l16 ?c16 ?k16 ?a17 ?l17 ?c17 ?k17 ?a18 ?l18 ?c18 ?k18 ?a19 ?i19 ?l19 ?c19 ?k19 ?a20 ?i20 ?l20 ?c20 ?k20 ?a21 ?l21 ?c21 ?k21 ?a22 ?l22 ?c22 ?k22 ?a23 ?l23 ?c23 ?k23 ?a24 ?l24 ?c24 ?k24 ?a25 ?l25 ?c25 ?k25 ?a26 ?l26 ?c26 ?k26 ?a27 ?l27 ?c27 ?k27 ?a28 ?l28 ?c28 ?k28 ?a29 ?l29 ?c29 ?k29 ?a30 ?l30 ?c30 ?k30 ?a31 ?l31 ?c31 ?k31 ?a32 ?l32 ?c32 ?k32 ?a33 ?l33 ?c33 ?k33 ?a34 ?l34 ?c34 ?k34 ?a35 ?l35 ?c35 ?k35 ?a36 ?l36 ?c36 ?k36 ?a37 ?l37 ?c37 ?k37 ?a38 ?l38 ?c38 ?k38 ?a39 ?l39 ?c39 ?k39 ?a40 ?l40 ?c40 ?k40 ?a41 ?l41 ?c41 ?k41 ?a42 ?l42 ?c42 ?k42 ?a43 ?l43 ?c43 ?k43 ?a44 ?l44 ?c44 ?k44 ?a45 ?l45 ?c45 ?k45 ?z_len ?z_zip ?z_tuple ?z_sorted ?z_set ?z_dict ?z_min ?z_max ?z_range ?z_list ?z_int ?gA ?lA ?g_MOST_TO_LEAD ?gE ?lE ?qE0 ?qE1 ?qE2 ?qE3 ?gD ?lD ?qD0 ?qD1 ?qD2 ?qD3 ?qD4 ?aCC ?pgC ?hdC ?poC ?saC ?mkC ?kcC ?nC_members ?nC_places
  (case gA => k_is)
  (case lA => k_is)
  (case g_MOST_TO_LEAD => k_is)
  (case gE => k_is)
  (case lE => k_is)
  (case qE0 => k_is)
  (case qE1 => k_is)
  (case qE2 => k_is)
  (case qE3 => k_is)
  (case gD => k_is)
  (case lD => k_is)
  (case qD0 => k_is)
  (case qD1 => k_is)
  (case qD2 => k_is)
  (case qD3 => k_is)
  (case qD4 => k_is)
  (case aCC => k_is)
  (case pgC => k_is)
  (case hdC => k_is)
  (case poC => k_is)
  (case saC => k_is)
  (case mkC => k_is)
  (case kcC => k_is)
  (case nC_members => k_is)
  (case nC_places => k_is)
  (case a0 => k_is)
  (case l0 => k_is)
  (case c0 => k_is)
  (case k0 => k_is)
  (case a1 => k_is)
  (case l1 => k_is)
  (case c1 => k_is)
  (case k1 => k_is)
  (case a2 => k_is)
  (case l2 => k_is)
  (case c2 => k_is)
  (case k2 => k_is)
  (case a3 => k_is)
  (case l3 => k_is)
  (case c3 => k_is)
  (case k3 => k_is)
  (case a4 => k_is)
  (case l4 => k_is)
  (case c4 => k_is)
  (case k4 => k_is)
  (case a5 => k_is)
  (case l5 => k_is)
  (case c5 => k_is)
  (case k5 => k_is)
  (case a6 => k_is)
  (case l6 => k_is)
  (case c6 => k_is)
  (case k6 => k_is)
  (case a7 => k_is)
  (case l7 => k_is)
  (case c7 => k_is)
  (case k7 => k_is)
  (case a8 => k_is)
  (case l8 => k_is)
  (case c8 => k_is)
  (case k8 => k_is)
  (case a9 => k_is)
  (case l9 => k_is)
  (case c9 => k_is)
  (case k9 => k_is)
  (case a10 => k_is)
  (case l10 => k_is)
  (case c10 => k_is)
  (case k10 => k_is)
  (case a11 => k_is)
  (case l11 => k_is)
  (case c11 => k_is)
  (case k11 => k_is)
  (case a12 => k_is)
  (case l12 => k_is)
  (case c12 => k_is)
  (case k12 => k_is)
  (case a13 => k_is)
  (case l13 => k_is)
  (case c13 => k_is)
  (case k13 => k_is)
  (case a14 => k_is)
  (case l14 => k_is)
  (case c14 => k_is)
  (case k14 => k_is)
  (case a15 => k_is)
  (case l15 => k_is)
  (case c15 => k_is)
  (case k15 => k_is)
  (case a16 => k_is)
  (case l16 => k_is)
  (case c16 => k_is)
  (case k16 => k_is)
  (case a17 => k_is)
  (case l17 => k_is)
  (case c17 => k_is)
  (case k17 => k_is)
  (case a18 => k_is)
  (case l18 => k_is)
  (case c18 => k_is)
  (case k18 => k_is)
  (case a19 => k_is)
  (case i19 => k_is)
  (case l19 => k_is)
  (case c19 => k_is)
  (case k19 => k_is)
  (case a20 => k_is)
  (case i20 => k_is)
  (case l20 => k_is)
  (case c20 => k_is)
  (case k20 => k_is)
  (case a21 => k_is)
  (case l21 => k_is)
  (case c21 => k_is)
  (case k21 => k_is)
  (case a22 => k_is)
  (case l22 => k_is)
  (case c22 => k_is)
  (case k22 => k_is)
  (case a23 => k_is)
  (case l23 => k_is)
  (case c23 => k_is)
  (case k23 => k_is)
  (case a24 => k_is)
  (case l24 => k_is)
  (case c24 => k_is)
  (case k24 => k_is)
  (case a25 => k_is)
  (case l25 => k_is)
  (case c25 => k_is)
  (case k25 => k_is)
  (case a26 => k_is)
  (case l26 => k_is)
  (case c26 => k_is)
  (case k26 => k_is)
  (case a27 => k_is)
  (case l27 => k_is)
  (case c27 => k_is)
  (case k27 => k_is)
  (case a28 => k_is)
  (case l28 => k_is)
  (case c28 => k_is)
  (case k28 => k_is)
  (case a29 => k_is)
  (case l29 => k_is)
  (case c29 => k_is)
  (case k29 => k_is)
  (case a30 => k_is)
  (case l30 => k_is)
  (case c30 => k_is)
  (case k30 => k_is)
  (case a31 => k_is)
  (case l31 => k_is)
  (case c31 => k_is)
  (case k31 => k_is)
  (case a32 => k_is)
  (case l32 => k_is)
  (case c32 => k_is)
  (case k32 => k_is)
  (case a33 => k_is)
  (case l33 => k_is)
  (case c33 => k_is)
  (case k33 => k_is)
  (case a34 => k_is)
  (case l34 => k_is)
  (case c34 => k_is)
  (case k34 => k_is)
  (case a35 => k_is)
  (case l35 => k_is)
  (case c35 => k_is)
  (case k35 => k_is)
  (case a36 => k_is)
  (case l36 => k_is)
  (case c36 => k_is)
  (case k36 => k_is)
  (case a37 => k_is)
  (case l37 => k_is)
  (case c37 => k_is)
  (case k37 => k_is)
  (case a38 => k_is)
  (case l38 => k_is)
  (case c38 => k_is)
  (case k38 => k_is)
  (case a39 => k_is)
  (case l39 => k_is)
  (case c39 => k_is)
  (case k39 => k_is)
  (case a40 => k_is)
  (case l40 => k_is)
  (case c40 => k_is)
  (case k40 => k_is)
  (case a41 => k_is)
  (case l41 => k_is)
  (case c41 => k_is)
  (case k41 => k_is)
  (case a42 => k_is)
  (case l42 => k_is)
  (case c42 => k_is)
  (case k42 => k_is)
  (case a43 => k_is)
  (case l43 => k_is)
  (case c43 => k_is)
  (case k43 => k_is)
  (case a44 => k_is)
  (case l44 => k_is)
  (case c44 => k_is)
  (case k44 => k_is)
  (case a45 => k_is)
  (case l45 => k_is)
  (case c45 => k_is)
  (case k45 => k_is)
  (case z_len => k_is)
  (case z_zip => k_is)
  (case z_tuple => k_is)
  (case z_sorted => k_is)
  (case z_set => k_is)
  (case z_dict => k_is)
  (case z_min => k_is)
  (case z_max => k_is)
  (case z_range => k_is)
  (case z_list => k_is)
  (case z_int => k_is)
