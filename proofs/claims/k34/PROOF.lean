import PyProof.Rows.All
import Wide.All
import OpenK.AllK
import Wide.FinOn
import Lean
import PyProof.EqAt
import PyProof.EqKinds
import PyProof.TupleCall
import PyProof.NeData
import Wide.Seal
import Wide.OfPy
import KE.KSetDisp
import PyProof.DictCompW
import PySem.Challenge.RW_ledpast_k34_whole_tables_hold
set_option maxHeartbeats 8000000
set_option Elab.async false
set_option linter.all false
set_option maxRecDepth 100000
namespace L2
open PySem PySem.Spec PyProof.Rows
abbrev Key:=Sum Int Str
def iA:Key->Value->Bool
 | .inl k,v=>Value.isInt k v
 | .inr x,v=>Value.isStrOf x v
def zM (w:World):Key->Int
 | .inl k=>hashInt k
 | .inr x=>hashStr w x
theorem cG:∀ {k:Key} {v:Value},iA k v=true->(∃ i t,k=Sum.inl i/\v=Value.int i t)\/(∃ x t,k=Sum.inr x/\v=Value.str x t)
 | .inl i,v,h=>by
  obtain⟨t,e⟩:=Value.isInt_shape (k:=i) (v:=v) h
  exact .inl ⟨i,t,rfl,e⟩
 | .inr x,v,h=>by
  obtain⟨t,e⟩:=Value.isStrOf_shape (x:=x) (v:=v) h
  exact .inr ⟨x,t,rfl,e⟩
theorem tL (i:Int) (t:Tok):iA (.inl i) (.int i t)=true:=by simp [iA,Value.isInt]
theorem tM (x:Str) (t:Tok):iA (.inr x) (.str x t)=true:=by simp [iA,Value.isStrOf]
theorem xU (a b:Int):decide ((Sum.inl a:Key)=Sum.inl b)=(a == b):=by
 by_cases e:a=b
 ·subst e;simp
 ·have h:¬ (Sum.inl a:Key)=Sum.inl b:=fun q=>e (Sum.inl.inj q)
  rw [decide_eq_false h]
  exact (beq_eq_false_iff_ne.mpr e).symm
theorem xV (a b:Str):decide ((Sum.inr a:Key)=Sum.inr b)=decide (a=b):=by
 by_cases e:a=b
 ·subst e;simp
 ·have h:¬ (Sum.inr a:Key)=Sum.inr b:=fun q=>e (Sum.inr.inj q)
  rw [decide_eq_false h,decide_eq_false e]
theorem xW (a:Int) (b:Str):decide ((Sum.inl a:Key)=Sum.inr b)=false:=decide_eq_false (fun q=>nomatch q)
theorem xX (a:Str) (b:Int):decide ((Sum.inr a:Key)=Sum.inl b)=false:=decide_eq_false (fun q=>nomatch q)
def aQ (prog:Program) (w:World):PySem.KeyKind prog w Key where
 is:=iA
 hash:=zM w
 inj:=fun v a b ha hb=>by
  rcases cG ha with ⟨i,t,rfl,rfl⟩ | ⟨x,t,rfl,rfl⟩
  ·rcases cG hb with ⟨j,u,rfl,e⟩ | ⟨y,u,rfl,e⟩
   ·injection e with e1 _;rw [e1]
   ·exact nomatch e
  ·rcases cG hb with ⟨j,u,rfl,e⟩ | ⟨y,u,rfl,e⟩
   ·exact nomatch e
   ·injection e with e1 _;rw [e1]
 byValue:=fun k v h=>by
  rcases cG h with ⟨i,t,rfl,rfl⟩ | ⟨x,t,rfl,rfl⟩ <;> rfl
 pyHash:=fun hv h=>by
  rcases cG hv with ⟨i,t,rfl,rfl⟩ | ⟨x,t,rfl,rfl⟩
  ·exact wpAny_pyHash_int h
  ·exact wpAny_pyHash_str h
 eqBool:=fun hu hv h=>by
  rcases cG hu with ⟨i,t,rfl,rfl⟩ | ⟨x,t,rfl,rfl⟩
  ·rcases cG hv with ⟨j,u,rfl,rfl⟩ | ⟨y,u,rfl,rfl⟩
   ·rw [xU] at h;exact wpAny_eqBool_int h
   ·rw [xW] at h;exact SeqAt.EqAt.int_str i t y u _ _ _ _ h
  ·rcases cG hv with ⟨j,u,rfl,rfl⟩ | ⟨y,u,rfl,rfl⟩
   ·rw [xX] at h;exact SeqAt.EqAt.str_int x t j u _ _ _ _ h
   ·rw [xV] at h;exact wpAny_eqBool_str h
 «strs»:=fun k x t v h=>by
  rcases cG h with ⟨i,u,rfl,e⟩ | ⟨y,u,rfl,e⟩
  ·exact nomatch e
  ·injection e with e1 _
   subst e1
   cases v <;> rfl
theorem ll (prog:Program) (w:World) (i:Int) (t:Tok):(aQ prog w).is (.inl i) (.int i t)=true:=tL i t
theorem lp (prog:Program) (w:World) (x:Str) (t:Tok):(aQ prog w).is (.inr x) (.str x t)=true:=tM x t
inductive V where
 | aS | bl (b:Bool) | int (i:Int) | str (x:Str) | jU (b:Array UInt8) | wN (b:UInt64) | ref (a:Addr) | ty (n:String)
 deriving DecidableEq
def RelV:V->Value->Prop
 | .aS,u=>u=Value.none
 | .bl b,u=>u=Value.bool b
 | .int i,u=>∃ t,u=Value.int i t
 | .str x,u=>∃ t,u=Value.str x t
 | .jU b,u=>∃ t,u=Value.bytes b t
 | .wN b,u=>∃ t,u=Value.float b t
 | .ref a,u=>u=Value.ref a
 | .ty n,u=>u=Value.type n
abbrev Vals:List V->List Value->Prop:=Paired RelV
theorem Vals.length {xs:List V} {us:List Value} (r:Vals xs us):xs.length=us.length:=Paired.length r
theorem Vals.get:∀ {xs:List V} {us:List Value} {i:Nat} {x:V},Vals xs us->xs[i]? = some x->∃ u,us[i]? = some u/\RelV x u
 | _,_,_,_,.nil,e=>by simp at e
 | _,_,0,_,.cons r _,e=>by simp at e;subst e;exact⟨_,rfl,r⟩
 | _,_,i+1,x,.cons _ t,e=>by
  obtain⟨u,h1,h2⟩:=Vals.get (i:=i) (x:=x) t (by simpa using e)
  exact⟨u,by simpa using h1,h2⟩
theorem Vals.set {x:V} {u:Value} (r:RelV x u):∀ {xs:List V} {us:List Value} (i:Nat),Vals xs us->Vals (xs.set i x) (us.set i u)
 | _,_,_,.nil=>.nil
 | _,_,0,.cons _ t=>.cons r t
 | _,_,i+1,.cons q t=>.cons q (Vals.set r i t)
theorem Vals.append:∀ {xs ys:List V} {us ws:List Value},Vals xs us->Vals ys ws->Vals (xs++ys) (us++ws)
 | _,_,_,_,.nil,s=>s
 | _,_,_,_,.cons r t,s=>.cons r (Vals.append t s)
theorem Vals.take:∀ {xs:List V} {us:List Value} (n:Nat),Vals xs us->Vals (xs.take n) (us.take n)
 | _,_,0,_=>.nil
 | _,_,_+1,.nil=>.nil
 | _,_,n+1,.cons r t=>.cons r (Vals.take n t)
theorem Vals.drop:∀ {xs:List V} {us:List Value} (n:Nat),Vals xs us->Vals (xs.drop n) (us.drop n)
 | _,_,0,r=>r
 | _,_,_+1,.nil=>.nil
 | _,_,n+1,.cons _ t=>Vals.drop n t
def fU:Option V->Option Value->Prop
 | some v,some u=>RelV v u
 | none,none=>True
 | _,_=>False
def KV {κ : Type}:List (κ × V)->List (κ × Value)->Prop:=Paired fun (p:κ × V) (q:κ × Value)=>p.1=q.1/\RelV p.2 q.2
def kV:Key->V
 | .inl i=>.int i
 | .inr x=>.str x
inductive HO where
 | lst (xs:List V)
 | tup (xs:List V)
 | dK (kvs:List (Key × V)) | dT (kvs:List (List Key × V))
 | set (S:Int->Bool) (n:Nat)
 | ins (C dx:Addr) (fs:List (Str × V))
 | own (x:Addr)
 | xd (fs:List (Str × V))
 | met (f x:Addr)
 | xY (lo hi:Int)
 | d6 (o:Obj) (u:HO)
 | j3 (ps:Array Value)
 | ext (φ : Heap->Prop)
abbrev Hp:=Addr->Option HO
def upd (H:Hp) (a:Addr) (o:HO):Hp:=fun b=>if b=a then some o else H b
theorem ae {H:Hp} {a:Addr} {o:HO}:upd H a o a=some o:=by unfold upd;rw [if_pos rfl]
theorem av {H:Hp} {a b:Addr} {o:HO} (h:b ≠ a):upd H a o b=H b:=by unfold upd;rw [if_neg h]
theorem bQ {H:Hp} {a b:Addr} {o u:HO} (h:H a=some o) (h':H b=some u) (d:o ≠ u):a ≠ b:=by
 intro e;subst e;rw [h] at h';exact d (Option.some.inj h')
theorem aT {H:Hp} {a b:Addr} {o:HO} (h:H a=some o) (h':H b=none):a ≠ b:=by
 intro e;subst e;rw [h] at h';cases h'
section
variable (P:Program) (w:World)
def bV (H:Hp) (h:Heap) (a:Addr):HO->Prop
 | .lst xs=>xs.length<=sizeLine/\∃ (its:List Value) (n:Nat),Vals xs its/\h.get? a=some { cls:=.type "list",data:=.seq its.toArray n }
 | .tup xs=>xs.length<=sizeLine/\∃ its:List Value,Vals xs its/\∃ o,h.get? a=some o/\o.cls=.type "tuple" /\ ∃ n,o.data=.seq its.toArray n/\o.dict=none
 | .dK kvs=>kvs.length<=sizeLine/\(a == sysModules)=false/\∃ vs,KV kvs vs/\h.DictOf (aQ P w) a vs
 | .dT kvs=>kvs.length<=sizeLine/\(a == sysModules)=false/\∃ xs:List (List Key × Addr × Value),
   Paired (fun (p:List Key × V) (q:List Key × Addr × Value)=>p.1=q.1/\H q.2.1=some (.tup (p.1.map kV))/\RelV p.2 q.2.2) kvs xs /\
   ∃ o es ep,h.get? a=some o/\o.ExactDict/\o.data=.dict es ep/\es.toList=xs.map (entryOfKey (tupleKind (aQ P w)))/\(xs.map (·.1)).Nodup
 | .set S n=>h.SetOf (intKind P w) a S n
 | .ins C dx fs=>H dx=some (.own a)/\fs.length<=1000/\dx ≠ a/\h.get? a=some (PySem.W.instObj C dx) /\
   ∃ mA,h.Ns1 dx mA/\(∀ f,fU (fs.lookup f) (mA f))/\PySem.Within mA (fs.map (·.1))
 | .own _=>∃ o,h.get? a=some o
 | .xd fs=>∃ mA,h.Ns1 a mA/\∀ f,fU (fs.lookup f) (mA f)
 | .xY lo hi=>∃ t u v,h.get? a=some { cls:=.type "range",data:=.fields #[.int lo t,.int hi u,.int 1 v] }
 | .d6 o u=>h.get? a=some o/\bV H h a u
 | .j3 ps=>h.get? a=some { cls:=.none,data:=.fields ps }
 | .met f x=>h.get? a=some (PySem.W.methodObj (.ref f) (.ref x))
 | .ext φ=>φ h/\(∃ o,h.get? a=some o)/\∀ h1 h2:Heap,φ h1->(∀ o,h1.get? a=some o->h2.get? a=some o)->φ h2
def dC (H:Hp) (h:Heap):Prop:=∀ a o,H a=some o->bV P w H h a o
end
section
variable {P:Program} {w:World} {H H':Hp} {h h':Heap} {a:Addr} {o:HO}
theorem bV.lt (x:bV P w H h a o):a < h.objs.size:=by
 cases o with
 | lst xs=>obtain⟨_,_,_,_,e⟩:=x;exact Heap.lt_size e
 | tup xs=>obtain⟨_,_,_,p⟩:=x;exact (let ⟨o,e,_⟩:=p;Heap.lt_size e)
 | dK kvs=>obtain⟨_,_,_,_,o,_,_,e,_⟩:=x;exact Heap.lt_size e
 | dT kvs=>obtain⟨_,_,_,_,o,_,_,e,_⟩:=x;exact Heap.lt_size e
 | set S n=>obtain⟨o,_,_,_,e,_⟩:=x;exact Heap.lt_size e
 | ins C dx fs=>obtain⟨_,_,_,e,_⟩:=x;exact Heap.lt_size e
 | own y=>obtain⟨_,e⟩:=x;exact Heap.lt_size e
 | xd fs=>obtain⟨_,⟨_,_,_,e,_⟩,_⟩:=x;exact Heap.lt_size e
 | xY lo hi=>obtain⟨_,_,_,e⟩:=x;exact Heap.lt_size e
 | d6 ob u=>obtain⟨e,_⟩:=x;exact Heap.lt_size e
 | j3 ps=>exact Heap.lt_size (show h.get? a=some _ from x)
 | met f y=>exact Heap.lt_size (show h.get? a=some _ from x)
 | ext φ=>obtain⟨_,⟨_,e⟩,_⟩:=x;exact Heap.lt_size e
theorem Paired.vc {α β : Type} {F G:α->β->Prop}:∀ {l₁ : List α} {l₂ : List β},Paired F l₁ l₂->(∀ a b,F a b->G a b)->Paired G l₁ l₂
 | _,_,.nil,_=>.nil
 | _,_,.cons r t,f=>.cons (f _ _ r) (Paired.vc t f)
theorem bV.lL (x:bV P w H h a o) (k:∀ b u,(b=a\/H b=some (.own a))->h.get? b=some u->h'.get? b=some u)
  (ho:∀ b,H b=some (.own a)->H' b=some (.own a)) (ht:∀ b xs,H b=some (.tup xs)->H' b=some (.tup xs)):bV P w H' h' a o:=by
 induction o with
 | lst xs=>obtain⟨z,its,n,r,e⟩:=x;exact⟨z,its,n,r,k _ _ (.inl rfl) e⟩
 | tup xs=>obtain⟨z,its,r,ob,e,c⟩:=x;exact⟨z,its,r,ob,k _ _ (.inl rfl) e,c⟩
 | dK kvs=>obtain⟨z,y,vs,r,ob,es,ep,e,c⟩:=x;exact⟨z,y,vs,r,ob,es,ep,k _ _ (.inl rfl) e,c⟩
 | dT kvs =>
  obtain⟨z,y,xs,r,ob,es,ep,e,c⟩:=x
  exact⟨z,y,xs,Paired.vc r fun p q z=>⟨z.1,ht _ _ z.2.1,z.2.2⟩,ob,es,ep,k _ _ (.inl rfl) e,c⟩
 | set S n=>obtain⟨ob,es,ep,t,e,c⟩:=x;exact⟨ob,es,ep,t,k _ _ (.inl rfl) e,c⟩
 | ins C dx fs =>
  obtain⟨d,z,ne,e,mA,⟨od,es,ep,e2,c⟩,r⟩:=x
  exact⟨ho _ d,z,ne,k _ _ (.inl rfl) e,mA,⟨od,es,ep,k _ _ (.inr d) e2,c⟩,r⟩
 | own y=>obtain⟨ob,e⟩:=x;exact⟨ob,k _ _ (.inl rfl) e⟩
 | xd fs=>obtain⟨mA,⟨od,es,ep,e,c⟩,r⟩:=x;exact⟨mA,⟨od,es,ep,k _ _ (.inl rfl) e,c⟩,r⟩
 | xY lo hi=>obtain⟨t,u,v,e⟩:=x;exact⟨t,u,v,k _ _ (.inl rfl) e⟩
 | d6 ob u ih=>obtain⟨e,q⟩:=x;exact⟨k _ _ (.inl rfl) e,ih q⟩
 | j3 ps =>
  have e:h.get? a=some { cls:=.none,data:=.fields ps }:=x
  show h'.get? a=some { cls:=.none,data:=.fields ps }
  exact k a _ (.inl rfl) e
 | met f y =>
  have e:h.get? a=some (PySem.W.methodObj (.ref f) (.ref y)):=x
  show h'.get? a=some (PySem.W.methodObj (.ref f) (.ref y))
  exact k a _ (.inl rfl) e
 | ext φ=>obtain⟨p,⟨o,e⟩,st⟩:=x;exact⟨st _ _ p fun o q=>k _ _ (.inl rfl) q,⟨o,k _ _ (.inl rfl) e⟩,st⟩
theorem dC.lt (x:dC P w H h) (e:H a=some o):a < h.objs.size:=(x a o e).lt
theorem dC.fresh (x:dC P w H h) (e:h.objs.size<=a):H a=none:=by
 cases q:H a with
 | none=>rfl
 | some u=>exact absurd (Nat.lt_of_lt_of_le (x.lt q) e) (Nat.lt_irrefl _)
theorem dC.kept (x:dC P w H h) (k:∀ b u,h.get? b=some u->h'.get? b=some u):dC P w H h':=fun a o e =>
 (x a o e).lL (fun b u _ q=>k b u q) (fun _ q=>q) fun _ _ q=>q
theorem dC.laid (x:dC P w H h) (k:∀ b u,h.get? b=some u->h'.get? b=some u) (hp:h.objs.size<=a) (new:bV P w (upd H a o) h' a o):dC P w (upd H a o) h':=fun b u e=>by
 have hn:=x.fresh hp
 by_cases hb:b=a
 ·subst hb;rw [ae] at e;cases e;exact new
 ·rw [av hb] at e
  exact (x b u e).lL (fun c v _ q=>k c v q) (fun c q=>by rw [av (aT q hn)];exact q) fun c xs q=>by rw [av (aT q hn)];exact q
end
def Rd (H:Hp) (a:Addr) (u:HO):Prop:=H a=some u\/∃ o,H a=some (.d6 o u)
theorem Rd.ok {P:Program} {w:World} {H:Hp} {h:Heap} {a:Addr} {u:HO} (r:Rd H a u) (x:dC P w H h):bV P w H h a u:=by
 rcases r with r | ⟨o,r⟩
 ·exact x a u r
 ·obtain⟨_,q⟩:=x a _ r
  exact q
def tN:Option HO->Prop
 | some (.lst _)=>True
 | some (.dK _)=>True
 | some (.dT _)=>True
 | some (.set _ _)=>True
 | some (.ins _ _ _)=>True
 | some (.ext _)=>True
 | _=>False
section
variable {P:Program} {w:World} {H:Hp} {h h':Heap} {x e:Addr} {o':HO}
theorem dC.write (ok:dC P w H h) (mu:tN (H x)) (he:e=x\/H e=some (.own x)) (k:∀ b u,b ≠ e->h.get? b=some u->h'.get? b=some u) (heo:∃ u,h'.get? e=some u)
  (new:bV P w (upd H x o') h' x o'):dC P w (upd H x o') h':=fun b u q=>by
 have nown:∀ c y,H c=some (.own y)->c ≠ x:=fun c y r z=>by subst z;rw [r] at mu;exact mu
 have ntup:∀ c xs,H c=some (.tup xs)->c ≠ x:=fun c xs r z=>by subst z;rw [r] at mu;exact mu
 by_cases hb:b=x
 ·subst hb;rw [ae] at q;cases q;exact new
 ·rw [av hb] at q
  by_cases hbe:b=e
  ·have q':H b=some (.own x):=by
    rcases he with z | z
    ·exact absurd (hbe.trans z) hb
    ·rw [hbe];exact z
   rw [q] at q';cases q'
   obtain⟨v,hv⟩:=heo
   exact⟨v,by rw [hbe];exact hv⟩
  ·refine (ok b u q).lL (fun c v hc r=>k c v ?_ r) (fun c r=>by rw [av (nown c b r)];exact r) fun c xs r=>by rw [av (ntup c xs r)];exact r
   rcases hc with rfl | hc
   ·exact hbe
   ·rintro rfl
    rcases he with z | z
    ·exact nown c b hc z
    ·rw [hc] at z;cases z;exact hb rfl
end
structure Un (fs ex:List Addr) (H H':Hp) (h h':Heap):Prop where
 keep:∀ b o,h.get? b=some o->H b=none->b ∉ fs->b ∉ ex->h'.get? b=some o
 slot:∀ b o,h.get? b=some o->H b=none->b ∈ fs->b ∉ ex->∃ sl,h'.get? b=some { o with slots:=sl }
 free:∀ b o,h.get? b=some o->H b=none->b ∉ ex->H' b=none
 there:∀ b o,h.get? b=some o->b ∉ ex->∃ o',h'.get? b=some o'
 aI:∀ b xs,H b=some (.tup xs)->H' b=some (.tup xs)
 iq:∀ b o u,H b=some (.d6 o u)->H' b=some (.d6 o u)
 iN:∀ b ps,H b=some (.j3 ps)->∃ more,H' b=some (.j3 (ps++more))
section
variable {fs fs' ex ex':List Addr} {H H1 H2:Hp} {h h1 h2 h':Heap} {a x e:Addr} {o:HO}
theorem Un.any (u:Un fs ex H H1 h h1) {b:Addr} {ob:Obj} (q:h.get? b=some ob) (n:H b=none) (hx:b ∉ ex):∃ sl,h1.get? b=some { ob with slots:=sl }:=by
 by_cases hb:b ∈ fs
 ·exact u.slot b ob q n hb hx
 ·exact⟨ob.slots,u.keep b ob q n hb hx⟩
theorem Un.kept (k:∀ b u,h.get? b=some u->h'.get? b=some u):Un fs ex H H h h' :=
 ⟨fun b ob q _ _ _=>k b ob q,fun b ob q _ _ _=>⟨ob.slots,k b ob q⟩,fun _ _ _ n _=>n,fun b ob q _=>⟨ob,k b ob q⟩,fun _ _ q=>q,fun _ _ _ q=>q,fun _ ps q=>⟨#[],by rw [q];simp⟩⟩
theorem Un.refl:Un fs ex H H h h:=Un.kept fun _ _ q=>q
theorem Un.laid (k:∀ b u,h.get? b=some u->h'.get? b=some u) (hp:h.objs.size<=a) (hn:H a=none):Un fs ex H (upd H a o) h h' where
 keep:=fun b u q _ _ _=>k b u q
 slot:=fun b u q _ _ _=>⟨u.slots,k b u q⟩
 free:=fun b u q n _=>by rw [av (Nat.ne_of_lt (Nat.lt_of_lt_of_le (Heap.lt_size q) hp))];exact n
 there:=fun b u q _=>⟨u,k b u q⟩
 aI:=fun b xs q=>by rw [av (aT q hn)];exact q
 iq:=fun b u xs q=>by rw [av (aT q hn)];exact q
 iN:=fun b ps q=>⟨#[],by rw [av (aT q hn),q];simp⟩
theorem Un.write (mu:tN (H x)) (he:e=x\/H e=some (.own x)) (k:∀ b u,b ≠ e->h.get? b=some u->h'.get? b=some u) (heo:∃ u,h'.get? e=some u):Un fs ex H (upd H x o) h h':=by
  have hx:∀ b,H b=none->b ≠ x:=fun b n z=>by subst z;rw [n] at mu;exact mu
  have hb:∀ b,H b=none->b ≠ e:=fun b n z=>by
    subst z
    rcases he with r | r
    · exact hx b n r
    · rw [n] at r;cases r
  have hm:∀ b u,H b=some u->¬ tN (some u)->b ≠ x:=fun b u q nm z=>by subst z;rw [q] at mu;exact nm mu
  refine⟨fun b u q n _ _=>k b u (hb b n) q,fun b u q n _ _=>⟨u.slots,k b u (hb b n) q⟩,fun b u q n _=>by rw [av (hx b n)];exact n,fun b u q _=>?_,
    fun b xs q=>by rw [av (hm b _ q fun z=>z)];exact q,fun b u xs q=>by rw [av (hm b _ q fun z=>z)];exact q,fun b ps q=>⟨#[],by rw [av (hm b _ q fun z=>z),q];simp⟩⟩
  by_cases hbe:b=e
  · subst hbe;exact heo
  · exact⟨u,k b u hbe q⟩
end
def wO (h:Heap) (H:Hp):List Addr:=(List.range h.objs.size).filter fun a=>(H a).isSome
def jB (h:Heap) (H:Hp):Heap:=PySem.W.hideAll h (wO h H)
theorem tO (h:Heap) (H:Hp):(jB h H).objs.size=h.objs.size:=PySem.W.hideAll_size _ _
theorem vd {h:Heap} {H:Hp} {b:Addr} {o:Obj} (e:h.get? b=some o) (n:H b=none):(jB h H).get? b=some o :=
 PySem.W.hideAll_get _ e fun hm=>by
  have q:(H b).isSome=true:=(List.mem_filter.mp hm).2
  rw [n] at q;simp at q
theorem xg {h:Heap} {H:Hp} {b:Addr} {o:Obj} (e:(jB h H).get? b=some o):h.get? b=some o/\H b=none:=by
 have e':h.get? b=some o:=PySem.W.of_hideAll (wO h H) e
 refine⟨e',?_⟩
 cases q:H b with
 | none=>rfl
 | some x =>
  have hm:b ∈ wO h H:=List.mem_filter.mpr ⟨List.mem_range.mpr (Heap.lt_size e'),by simp [q]⟩
  have z:(jB h H).get? b=none:=PySem.W.hideAll_none (wO h H) hm
  rw [z] at e;cases e
def xh (g h:Heap) (L:Addr):List (Addr × Obj):=(List.range h.objs.size).filterMap fun a=>if a=L\/(g.get? a).isSome=true then none else (h.get? a).map fun o=>(a,o)
def rest (g h:Heap) (L d:Addr):List (Addr × Obj):=(xh g h L).filter fun p=>decide (p.1 ≠ d)
structure Mod (K:PySem.W.Frag) (mg:Str->Option Value) (base:Heap):Prop where
 xZ:K.In base
 glob:base.Ns mainGlobals mg
 blt:∃ mb,base.Ns builtinsNs mb/\∀ x:Str,x ≠ "__name__" -> mb x=bootBuiltins x
 nolimit:base.NoLimit
structure Cx where
 prog:Program
 w:World
 K:PySem.W.Frag
 mg:Str->Option Value
 base:Heap
 A:Around
 N:List Str
 dq:Shared
 jC:Hp
 env:Env
 outer:List Env
 stack:List Env
 ex:List Addr
 fn:Str->Bool
 calm:Bool
 pn:List (Addr × Obj)
 xe:Value->Shared->Prop
def j4 (l:List Env):List Addr:=l.filterMap (·.frame)
abbrev Cx.fs (X:Cx):List Addr:=j4 X.outer
def x9 (sc:Scope) (x:Str):Prop:=sc.names.lookup x=some .local\/sc.names.lookup x=some .cell\/sc.names.lookup x=some .free
def Loc (sc:Scope) (x:Str):Prop:=sc.names.lookup x=some .local\/sc.names.lookup x=some .cell
def Look (env:Env) (h:Heap) (m:Str->Option Value) (x:Str) (u:Value):Prop :=
 (env.kindOf x=some .local/\m x=some u)\/((env.kindOf x=some .cell\/env.kindOf x=some .free)/\∃ c,env.cells.lookup x=some c/\h.IsCell c (some u))
structure Cx.Ok (X:Cx):Prop where
 mod:Mod X.K X.mg X.base
 kind:X.env.scope.kind=.function
 glob:X.env.globals=mainGlobals
 blt:X.env.builtins=builtinsNs
 above:X.dq.heap.objs.size<=X.env.locals
 inj:∀ x y c,X.env.cells.lookup x=some c->X.env.cells.lookup y=some c->x=y
 has:∀ x,(X.env.kindOf x=some .cell\/X.env.kindOf x=some .free)->∃ c,X.env.cells.lookup x=some c
 tP:∀ x c,X.fn x=true->X.env.cells.lookup x=some c->X.dq.heap.objs.size<=c
 hd:X.calm=true->X.A.handled=none
 frames:X.A.frames=some X.stack
 wQ:X.stack=X.outer\/(X.stack=X.env :: X.outer/\X.env.frame=some X.env.locals)
 zD:∀ b ∈ X.ex,b ≠ X.env.locals/\∀ x c,X.env.cells.lookup x=some c->c ≠ b
 bs:∀ b o,X.base.get? b=some o->X.dq.heap.get? b=some o/\X.jC b=none
 nK:X.base.objs.size<=X.dq.heap.objs.size
 oW:∀ b o,X.base.get? b=some o->b ∉ X.ex
 sj:∀ b ∈ X.ex,b ∉ X.fs
 iO:X.dq.heap.FunFrames X.base X.outer
 rn:∀ b ∈ X.fs,X.jC b=none
structure Inv (X:Cx) (pins:List (Addr × Obj)) (σ : List (Option V)) (H:Hp) (s:Shared):Prop where
 ok:X.Ok
 os:s.os=X.dq.os
 bare:AllBare s.gens
 base:Un X.fs X.ex X.jC H X.dq.heap s.heap
 loc:∃ m,s.heap.Ns X.env.locals m/\∀ (i:Nat) (x:Str) (v:V),X.N[i]? = some x->σ[i]? = some (some v)->x9 X.env.scope x->∃ u,RelV v u/\Look X.env s.heap m x u
 cell:∀ x c,X.env.cells.lookup x=some c->∃ v,s.heap.IsCell c v
 free:H X.env.locals=none
 d7:∀ x c,X.env.cells.lookup x=some c->H c=none
 pin:∀ p ∈ X.pn++pins,s.heap.get? p.1=some p.2/\H p.1=none/\p.1 ≠ X.env.locals/\p.1 ∉ X.fs/\∀ v,p.2.data ≠ .cell v
 aN:dC X.prog X.w H s.heap
 len:σ.length=X.N.length
section
variable {X:Cx} {pins:List (Addr × Obj)} {σ : List (Option V)} {H H':Hp} {s:Shared} {h':Heap}
theorem Cx.Ok.zN (ok:X.Ok) {b:Addr} {o:Obj} (e:X.base.get? b=some o):b ∉ X.fs:=fun hb=>by
 have:=(ok.iO.mem hb).1
 rw [e] at this;cases this
theorem Inv.bs (I:Inv X pins σ H s):∀ b o,X.base.get? b=some o->s.heap.get? b=some o/\H b=none:=fun b o e =>
 ⟨I.base.keep b o (I.ok.bs b o e).1 (I.ok.bs b o e).2 (I.ok.zN e) (I.ok.oW b o e),I.base.free b o (I.ok.bs b o e).1 (I.ok.bs b o e).2 (I.ok.oW b o e)⟩
theorem Inv.bk (I:Inv X pins σ H s):∀ b o,X.base.get? b=some o->s.heap.get? b=some o:=fun b o e=>(I.bs b o e).1
theorem Inv.mod (I:Inv X pins σ H s):Mod X.K X.mg X.base:=I.ok.mod
theorem Inv.nL (I:Inv X pins σ H s):X.K.In s.heap:=I.ok.mod.xZ.keeps I.bk
theorem Inv.lt (I:Inv X pins σ H s):X.env.locals < s.heap.objs.size:=let ⟨_,hn,_⟩:=I.loc;hn.lt
theorem Inv.sz (I:Inv X pins σ H s):X.dq.heap.objs.size<=s.heap.objs.size:=Nat.le_trans I.ok.above (Nat.le_of_lt I.lt)
theorem Inv.zO (I:Inv X pins σ H s) {a:Addr} (h:s.heap.objs.size<=a):a ∉ X.fs:=fun hb=>by
 obtain⟨_,o,ho,_⟩:=I.ok.iO.mem hb
 exact absurd (Nat.lt_of_lt_of_le (Heap.lt_size ho) (Nat.le_trans I.sz h)) (Nat.lt_irrefl _)
theorem Inv.oX (I:Inv X pins σ H s):∀ x c,X.env.cells.lookup x=some c->c ≠ X.env.locals:=fun x c e z=>by
 obtain⟨v,o,ho,hd⟩:=I.cell x c e
 obtain⟨m,⟨o',es,ep,ho',hd',_⟩,_⟩:=I.loc
 rw [z,ho'] at ho;cases ho;rw [hd'] at hd;cases hd
theorem Inv.iO (I:Inv X pins σ H s):s.heap.FunFrames X.base X.outer:=by
 have all:∀ (l:List Env),(∀ b ∈ j4 l,b ∈ X.fs)->X.dq.heap.FunFrames X.base l->s.heap.FunFrames X.base l:=by
  intro l
  induction l with
  | nil=>intro _ _;trivial
  | cons env r ih =>
   intro hs hl
   obtain⟨hk,⟨L,o,hf,hn,ho,hd⟩,hr⟩:=hl
   have hL:L ∈ X.fs:=hs L (by unfold j4;rw [List.filterMap_cons,hf];exact List.mem_cons_self)
   obtain⟨sl,e⟩:=I.base.slot L o ho (I.ok.rn L hL) hL fun z=>I.ok.sj L z hL
   exact⟨hk,⟨L,_,hf,hn,e,hd⟩,ih (fun b hb=>hs b (by unfold j4;rw [List.filterMap_cons,hf];exact List.mem_cons_of_mem _ hb)) hr⟩
 exact all X.outer (fun _ hb=>hb) I.ok.iO
theorem Inv.stack (I:Inv X pins σ H s):s.heap.FunFrames X.base X.stack:=by
 rcases I.ok.wQ with e | ⟨e,hf⟩
 ·rw [e];exact I.iO
 ·rw [e]
  obtain⟨m,hn,_⟩:=I.loc
  refine .cons (by rw [I.ok.kind];decide) hf hn ?_ I.iO
  exact Heap.get?_none_of_le (Nat.le_trans I.ok.nK I.ok.above)
theorem Inv.j5 (I:Inv X pins σ H s):∀ b ∈ j4 X.stack,b ∈ X.env.locals :: X.fs:=fun b hb=>by
 rcases I.ok.wQ with e | ⟨e,hf⟩
 ·rw [e] at hb;exact List.mem_cons_of_mem _ hb
 ·rw [e] at hb
  unfold j4 at hb
  rw [List.filterMap_cons,hf] at hb
  exact hb
theorem Inv.rA (I:Inv X pins σ H s):∀ b ∈ j4 X.stack,H b=none:=fun b hb=>by
 rcases List.mem_cons.mp (I.j5 b hb) with e | hb
 ·rw [e];exact I.free
 ·obtain⟨_,o,ho,_⟩:=I.ok.iO.mem hb
  exact I.base.free b o ho (I.ok.rn b hb) fun z=>I.ok.sj b z hb
theorem Inv.step {g':Array GenState} {t':Nat} {d':Drawn} {ch:List Addr} (I:Inv X pins σ H s)
  (hch:∀ b ∈ ch,(b ∈ X.ex\/X.dq.heap.objs.size<=b)/\b ≠ X.env.locals/\(∀ x c,X.env.cells.lookup x=some c->c ≠ b)/\∀ p ∈ X.pn++pins,p.1 ≠ b)
  (keep:∀ b o,b ≠ X.env.locals->b ∉ X.fs->b ∉ ch->s.heap.get? b=some o->H b=none->h'.get? b=some o)
  (slot:∀ b o,b ≠ X.env.locals->b ∈ X.fs->b ∉ ch->s.heap.get? b=some o->H b=none->∃ sl,h'.get? b=some { o with slots:=sl }) (free:∀ b o,b ∉ ch->s.heap.get? b=some o->H b=none->H' b=none)
  (there:∀ b o,b ∉ ch->s.heap.get? b=some o->∃ o',h'.get? b=some o')
  (aI:∀ b xs,H b=some (.tup xs)->H' b=some (.tup xs)) (iq:∀ b o u,H b=some (.d6 o u)->H' b=some (.d6 o u)) (iN:∀ b ps,H b=some (.j3 ps)->∃ more,H' b=some (.j3 (ps++more)))
  (ns:∀ m,s.heap.Ns X.env.locals m->h'.Ns X.env.locals m) (aN:dC X.prog X.w H' h') (hg:AllBare g') :
  Inv X pins σ H' { s with heap:=h',gens:=g',drawn:=d',toks:=t' }:=by
 have neL:∀ b o,X.dq.heap.get? b=some o->b ≠ X.env.locals:=fun b o e=>Nat.ne_of_lt (Nat.lt_of_lt_of_le (Heap.lt_size e) I.ok.above)
 have neC:∀ b o,X.dq.heap.get? b=some o->b ∉ X.ex->b ∉ ch:=fun b o e hx hb=>by
  rcases (hch b hb).1 with z | z
  ·exact hx z
  ·exact absurd (Nat.lt_of_lt_of_le (Heap.lt_size e) z) (Nat.lt_irrefl _)
 have cellK:∀ x c,X.env.cells.lookup x=some c->∀ v,s.heap.IsCell c v->h'.IsCell c v:=fun x c e v ⟨o,ho,hd⟩=>by
  have nch:c ∉ ch:=fun z=>(hch c z).2.2.1 x c e rfl
  by_cases hc:c ∈ X.fs
  ·obtain⟨sl,q⟩:=slot c o (I.oX x c e) hc nch ho (I.d7 x c e)
   exact⟨_,q,hd⟩
  ·exact⟨o,keep c o (I.oX x c e) hc nch ho (I.d7 x c e),hd⟩
 refine⟨I.ok,I.os,hg,⟨fun b o e n hb hx=>?_,fun b o e n hb hx=>?_,fun b o e n hx=>?_,fun b o e hx=>?_,fun b xs e=>aI b xs (I.base.aI b xs e),fun b o xs e=>iq b o xs (I.base.iq b o xs e),fun b ps e=>?_⟩,?_,fun x c e=>?_,?_,fun x c e=>?_,fun p hp=>?_,aN,I.len⟩
 ·exact keep b o (neL b o e) hb (neC b o e hx) (I.base.keep b o e n hb hx) (I.base.free b o e n hx)
 ·obtain⟨sl,e1⟩:=I.base.slot b o e n hb hx
  obtain⟨sl',e2⟩:=slot b _ (neL b o e) hb (neC b o e hx) e1 (I.base.free b o e n hx)
  exact⟨sl',e2⟩
 ·obtain⟨o',e1⟩:=I.base.there b o e hx
  exact free b o' (neC b o e hx) e1 (I.base.free b o e n hx)
 ·obtain⟨o',e1⟩:=I.base.there b o e hx
  exact there b o' (neC b o e hx) e1
 ·obtain⟨m1,e1⟩:=I.base.iN b ps e
  obtain⟨m2,e2⟩:=iN b _ e1
  exact⟨m1++m2,by rw [e2,Array.append_assoc]⟩
 ·obtain⟨m,hn,hl⟩:=I.loc
  refine⟨m,ns m hn,fun i x v e1 e2 e3=>?_⟩
  obtain⟨u,r,l⟩:=hl i x v e1 e2 e3
  refine⟨u,r,?_⟩
  rcases l with l | ⟨k,c,e,z⟩
  ·exact .inl l
  ·exact .inr ⟨k,c,e,cellK x c e _ z⟩
 ·obtain⟨v,z⟩:=I.cell x c e
  exact⟨v,cellK x c e v z⟩
 ·obtain⟨m,⟨o,_,_,ho,_⟩,_⟩:=I.loc
  exact free _ o (fun z=>(hch _ z).2.1 rfl) ho I.free
 ·obtain⟨v,o,ho,hd⟩:=I.cell x c e
  exact free c o (fun z=>(hch c z).2.2.1 x c e rfl) ho (I.d7 x c e)
 ·obtain⟨e,n,ne,nf,d⟩:=I.pin p hp
  have nch:p.1 ∉ ch:=fun z=>(hch p.1 z).2.2.2 p hp rfl
  exact⟨keep p.1 p.2 ne nf nch e n,free p.1 p.2 nch e n,ne,nf,d⟩
theorem Inv.un {t':Nat} (I:Inv X pins σ H s) (u:Un X.fs [] H H' s.heap h') (aN:dC X.prog X.w H' h'):Inv X pins σ H' { s with heap:=h',toks:=t' }:=by
  obtain⟨m,⟨o,es,ep,ho,r⟩,_⟩:=id I.loc
  obtain⟨sl,hL⟩:=u.any ho I.free (by simp)
  exact I.step (g':=s.gens) (d':=s.drawn) (ch:=[]) (fun _ z=>nomatch z) (fun b o _ hb _ e n=>u.keep b o e n hb (by simp)) (fun b o _ hb _ e n=>u.slot b o e n hb (by simp)) (fun b o _ e n=>u.free b o e n (by simp)) (fun b o _ e=>u.there b o e (by simp)) u.aI u.iq u.iN (fun m' hm=>by
    obtain⟨o',es',ep',ho',r'⟩:=hm
    rw [ho] at ho';cases ho'
    exact⟨_,es',ep',hL,r'⟩) aN I.bare
theorem Inv.call {g':Array GenState} {t':Nat} {d':Drawn} {ch:List Addr} (I:Inv X pins σ H s) (u:Un (j4 X.stack) ch H H' s.heap h') (aN:dC X.prog X.w H' h') (hg:AllBare g')
  (hch:∀ b ∈ ch,(b ∈ X.ex\/X.dq.heap.objs.size<=b)/\b ≠ X.env.locals/\(∀ x c,X.env.cells.lookup x=some c->c ≠ b)/\∀ p ∈ X.pn++pins,p.1 ≠ b) :
  Inv X pins σ H' { s with heap:=h',gens:=g',drawn:=d',toks:=t' }:=by
 obtain⟨m,⟨o,es,ep,ho,r⟩,_⟩:=id I.loc
 obtain⟨sl,hL⟩:=u.any ho I.free fun z=>(hch _ z).2.1 rfl
 exact I.step (ch:=ch) hch (fun b o hL hb hc e n=>u.keep b o e n (fun z=>(List.mem_cons.mp (I.j5 b z)).elim hL hb) hc) (fun b o _ _ hc e n=>u.any e n hc) (fun b o hc e n=>u.free b o e n hc) (fun b o hc e=>u.there b o e hc) u.aI u.iq u.iN (fun m' hm=>by
  obtain⟨o',es',ep',ho',r'⟩:=hm
  rw [ho] at ho';cases ho'
  exact⟨_,es',ep',hL,r'⟩) aN hg
theorem Inv.turned {t':Nat} {it:Addr} (I:Inv X pins σ H s) (k:∀ b o,b ≠ it->s.heap.get? b=some o->h'.get? b=some o) (hn:H it=none) (hL:it ≠ X.env.locals)
  (h1:it ∈ X.ex\/X.dq.heap.objs.size<=it) (h2:∀ x c,X.env.cells.lookup x=some c->c ≠ it) (h3:∀ p ∈ X.pn++pins,p.1 ≠ it):Inv X pins σ H { s with heap:=h',toks:=t' }:=by
 have nit:∀ b u,H b=some u->b ≠ it:=fun b u e z=>by rw [z,hn] at e;cases e
 refine I.step (g':=s.gens) (d':=s.drawn) (ch:=[it]) (fun b hb=>?_) (fun b o _ _ hc e _=>k b o (fun z=>hc (by simp [z])) e) (fun b o _ _ hc e _=>⟨o.slots,k b o (fun z=>hc (by simp [z])) e⟩) (fun _ _ _ _ n=>n)
  (fun b o hc e=>⟨o,k b o (fun z=>hc (by simp [z])) e⟩) (fun _ _ e=>e) (fun _ _ _ e=>e) (fun b ps e=>⟨#[],by rw [e];simp⟩) (fun m hm=>?_) (fun b u e=>?_) I.bare
 ·have e:b=it:=by simpa using hb
  subst e
  exact⟨h1,hL,h2,h3⟩
 ·obtain⟨o,es,ep,ho,r⟩:=hm
  exact⟨o,es,ep,k _ o (Ne.symm hL) ho,r⟩
 ·refine (I.aN b u e).lL (fun c v hc q=>k c v ?_ q) (fun _ q=>q) fun _ _ q=>q
  rcases hc with z | z
  ·rw [z];exact nit b u e
  ·exact nit c _ z
theorem Inv.tok (I:Inv X pins σ H s) (t:Nat):Inv X pins σ H { s with toks:=t }:=I.un (h':=s.heap) (t':=t) Un.refl I.aN
theorem Inv.kept {t':Nat} (I:Inv X pins σ H s) (k:∀ b u,s.heap.get? b=some u->h'.get? b=some u):Inv X pins σ H { s with heap:=h',toks:=t' }:=I.un (Un.kept k) (I.aN.kept k)
theorem Inv.laid {a:Addr} {o:HO} {t':Nat} (I:Inv X pins σ H s) (k:∀ b u,s.heap.get? b=some u->h'.get? b=some u) (hp:s.heap.objs.size<=a) (new:bV X.prog X.w (upd H a o) h' a o) :
  Inv X pins σ (upd H a o) { s with heap:=h',toks:=t' }:=I.un (Un.laid k hp (I.aN.fresh hp)) (I.aN.laid k hp new)
theorem Inv.write {x e:Addr} {o:HO} {t':Nat} (I:Inv X pins σ H s) (mu:tN (H x)) (he:e=x\/H e=some (.own x)) (k:∀ b u,b ≠ e->s.heap.get? b=some u->h'.get? b=some u) (heo:∃ u,h'.get? e=some u)
  (new:bV X.prog X.w (upd H x o) h' x o):Inv X pins σ (upd H x o) { s with heap:=h',toks:=t' }:=I.un (Un.write mu he k heo) (I.aN.write mu he k heo new)
theorem Inv.rB {pins':List (Addr × Obj)} (I:Inv X pins σ H s) (h:∀ p ∈ pins',s.heap.get? p.1=some p.2/\H p.1=none/\p.1 ≠ X.env.locals/\p.1 ∉ X.fs/\∀ v,p.2.data ≠ .cell v):Inv X pins' σ H s :=
 ⟨I.ok,I.os,I.bare,I.base,I.loc,I.cell,I.free,I.d7,fun p hp=>(List.mem_append.mp hp).elim (fun z=>I.pin p (List.mem_append_left _ z)) (h p),I.aN,I.len⟩
theorem oY {N:List Str} (hN:N.Nodup) {i j:Nat} {x:Str} (a:N[i]? = some x) (b:N[j]? = some x):i=j:=by
 obtain⟨h1,e1⟩:=List.getElem?_eq_some_iff.mp a
 obtain⟨h2,e2⟩:=List.getElem?_eq_some_iff.mp b
 exact (List.getElem_inj hN).mp (e1.trans e2.symm)
theorem nM {M:Model} {A:Around} {E:Value->Shared->Prop} {i:Nat} {x:Str} {v:V} {u:Value} {Q:Unit->Shared->Prop} (I:Inv X pins σ H s) (hN:X.N.Nodup) (hi:X.N[i]? = some x) (hx:Loc X.env.scope x) (r:RelV v u)
  (h:∀ s',Inv X pins (σ.set i (some v)) H s'->(∃ a,Heap.SameBut a s.heap s'.heap/\(a=X.env.locals\/X.env.cells.lookup x=some a))->Q () s') (hf:X.fn x=true\/X.env.scope.names.lookup x=some .local:=by first | exact .inl rfl | exact .inr rfl | assumption):wpAny M A (storeName X.env x u) Q E s:=by
 obtain⟨m,hn,hl⟩:=id I.loc
 have hcls:(X.env.scope.kind == .class || (X.env.scope.kind == .module && X.env.locals != X.env.globals))=false:=by rw [I.ok.kind];rfl
 have hiσ : i < σ.length:=by rw [I.len];exact (List.getElem?_eq_some_iff.mp hi).1
 have oX:=I.oX
 have tracked:∀ {a:Addr} {h':Heap},(∃ o,s.heap.get? a=some o/\H a=none)->Heap.SameBut a s.heap h'->dC X.prog X.w H h':=fun {a h'} ha hs b ob e=>by
  obtain⟨_,_,hfree⟩:=ha
  refine (I.aN b ob e).lL (fun c w' hc q=>(hs.2 c ?_).trans q) (fun _ q=>q) fun _ _ q=>q
  rintro rfl
  rcases hc with rfl | hc
  ·rw [hfree] at e;cases e
  ·rw [hfree] at hc;cases hc
 rcases hx with hk | hk
 ·refine wpAny_storeName_local hk hn (fun h' hn' hs=>?_) hcls
  obtain⟨oL,_,_,hoL,_⟩:=id hn
  refine h _ ⟨I.ok,I.os,I.bare,⟨fun b o e n hb hx=>?_,fun b o e n hb hx=>?_,I.base.free,fun b o e hx=>?_,I.base.aI,I.base.iq,I.base.iN⟩,⟨_,hn',fun j y v' e1 e2 e3=>?_⟩,fun y c e=>?_,I.free,I.d7,fun p hp=>?_,tracked ⟨oL,hoL,I.free⟩ hs,by simpa using I.len⟩ ⟨_,hs,.inl rfl⟩
  ·exact (hs.2 b (Nat.ne_of_lt (Nat.lt_of_lt_of_le (Heap.lt_size e) I.ok.above))).trans (I.base.keep b o e n hb hx)
  ·obtain⟨sl,e1⟩:=I.base.slot b o e n hb hx
   exact⟨sl,(hs.2 b (Nat.ne_of_lt (Nat.lt_of_lt_of_le (Heap.lt_size e) I.ok.above))).trans e1⟩
  ·obtain⟨o',e1⟩:=I.base.there b o e hx
   exact⟨o',(hs.2 b (Nat.ne_of_lt (Nat.lt_of_lt_of_le (Heap.lt_size e) I.ok.above))).trans e1⟩
  ·by_cases hj:j=i
   ·subst hj
    rw [hi] at e1;cases e1
    rw [List.getElem?_set_self hiσ] at e2
    cases e2
    exact⟨u,r,.inl ⟨hk,by simp⟩⟩
   ·rw [List.getElem?_set_ne (Ne.symm hj)] at e2
    obtain⟨u',r',q⟩:=hl j y v' e1 e2 e3
    refine⟨u',r',?_⟩
    rcases q with ⟨k,e⟩ | ⟨k,c,e,z⟩
    ·refine .inl ⟨k,?_⟩
     have:y ≠ x:=fun e=>hj (oY hN e1 (e ▸ hi))
     simp [this,e]
    ·exact .inr ⟨k,c,e,z.sameBut hs (oX y c e)⟩
  ·obtain⟨w',z⟩:=I.cell y c e
   exact⟨w',z.sameBut hs (oX y c e)⟩
  ·obtain⟨e,n,ne,nf,d⟩:=I.pin p hp
   exact⟨(hs.2 p.1 ne).trans e,n,ne,nf,d⟩
 ·have hfn:X.fn x=true:=by
   rcases hf with z | z
   ·exact z
   ·rw [z] at hk;cases hk
  obtain⟨c,hc⟩:=I.ok.has x (.inl hk)
  obtain⟨w',z⟩:=I.cell x c hc
  refine wpAny_storeName_cell I.ok.kind hk hc z (fun h' hc' hs=>?_)
  obtain⟨oc,hoc,hocd⟩:=id z
  refine h { s with heap:=h' } ⟨I.ok,I.os,I.bare,⟨fun b o e n hb hx=>?_,fun b o e n hb hx=>?_,I.base.free,fun b o e hx=>?_,I.base.aI,I.base.iq,I.base.iN⟩,⟨m,hn.sameBut hs (Ne.symm (oX x c hc)),fun j y v' e1 e2 e3=>?_⟩,fun y c' e=>?_,I.free,I.d7,fun p hp=>?_,tracked ⟨oc,hoc,I.d7 x c hc⟩ hs,by simpa using I.len⟩ ⟨c,hs,.inr hc⟩
  ·exact (hs.2 b (Nat.ne_of_lt (Nat.lt_of_lt_of_le (Heap.lt_size e) (I.ok.tP x c hfn hc)))).trans (I.base.keep b o e n hb hx)
  ·obtain⟨sl,e1⟩:=I.base.slot b o e n hb hx
   exact⟨sl,(hs.2 b (Nat.ne_of_lt (Nat.lt_of_lt_of_le (Heap.lt_size e) (I.ok.tP x c hfn hc)))).trans e1⟩
  ·obtain⟨o',e1⟩:=I.base.there b o e hx
   exact⟨o',(hs.2 b (Nat.ne_of_lt (Nat.lt_of_lt_of_le (Heap.lt_size e) (I.ok.tP x c hfn hc)))).trans e1⟩
  ·by_cases hj:j=i
   ·subst hj
    rw [hi] at e1;cases e1
    rw [List.getElem?_set_self hiσ] at e2
    cases e2
    exact⟨u,r,.inr ⟨.inl hk,c,hc,hc'⟩⟩
   ·rw [List.getElem?_set_ne (Ne.symm hj)] at e2
    obtain⟨u',r',q⟩:=hl j y v' e1 e2 e3
    refine⟨u',r',?_⟩
    rcases q with q | ⟨k,c',e,z'⟩
    ·exact .inl q
    ·refine .inr ⟨k,c',e,z'.sameBut hs ?_⟩
     rintro rfl
     exact hj (oY hN e1 (I.ok.inj _ _ _ e hc ▸ hi))
  ·by_cases hcc:c' = c
   ·subst hcc;exact⟨_,hc'⟩
   ·obtain⟨w2,z2⟩:=I.cell y c' e
    exact⟨w2,z2.sameBut hs hcc⟩
  ·obtain⟨e,n,ne,nf,d⟩:=I.pin p hp
   refine⟨(hs.2 p.1 ?_).trans e,n,ne,nf,d⟩
   intro q
   rw [q,hoc] at e
   have q':oc=p.2:=Option.some.inj e
   exact d w' (by rw [<-q'];exact hocd)
theorem jD {M:Model} {A:Around} {E:Value->Shared->Prop} {i:Nat} {x:Str} {v:V} {u:Value} {Q:Unit->Shared->Prop} (I:Inv X pins σ H s) (hN:X.N.Nodup) (hi:X.N[i]? = some x) (hx:Loc X.env.scope x) (r:RelV v u)
  (h:∀ s',Inv X pins (σ.set i (some v)) H s'->Q () s') (hf:X.fn x=true\/X.env.scope.names.lookup x=some .local:=by first | exact .inl rfl | exact .inr rfl | assumption):wpAny M A (storeName X.env x u) Q E s :=
 nM I hN hi hx r (fun s' I' _=>h s' I') hf
theorem Inv.wR {s':Shared} {ch:List Addr} (I:Inv X pins σ H s) (ho:s'.os=s.os) (u:Un (j4 X.stack) ch H H' s.heap s'.heap) (aN:dC X.prog X.w H' s'.heap) (hg:AllBare s'.gens)
  (hch:∀ b ∈ ch,(b ∈ X.ex\/X.dq.heap.objs.size<=b)/\b ≠ X.env.locals/\(∀ x c,X.env.cells.lookup x=some c->c ≠ b)/\∀ p ∈ X.pn++pins,p.1 ≠ b):Inv X pins σ H' s':=by
 obtain⟨h',g',d',t',o'⟩:=s'
 have e:o' = s.os:=ho
 subst e
 exact I.call (g':=g') (t':=t') (d':=d') u aN hg hch
end
abbrev XK:=Value->Option Addr->Hp->Prop
abbrev St:=List (Option V)
abbrev VK:=V->Hp->Prop
abbrev TE:=St->Hp->VK->Prop
abbrev TT:=St->Hp->(Bool->Hp->Prop)->Prop
abbrev TA:=St->Hp->(List V->Hp->Prop)->Prop
structure Ends where
 nx:St->Hp->Prop
 rt:VK
 bk:St->Hp->Prop:=fun _ _=>False
 ct:St->Hp->Prop:=fun _ _=>False
abbrev TS:=Ends->St->Hp->Prop
def EP (X:Cx) (pins:List (Addr × Obj)) (σ : St) (Q:VK) (u:Value) (s':Shared):Prop:=∃ v H',Inv X pins σ H' s'/\RelV v u/\Q v H'
def TP (X:Cx) (pins:List (Addr × Obj)) (σ : St) (Q:Bool->Hp->Prop) (b:Bool) (s':Shared):Prop:=∃ H',Inv X pins σ H' s'/\Q b H'
def AP (X:Cx) (pins:List (Addr × Obj)) (σ : St) (Q:List V->Hp->Prop) (us:List Value) (s':Shared):Prop:=∃ vs H',Inv X pins σ H' s'/\Vals vs us/\Q vs H'
def SP (X:Cx) (pins:List (Addr × Obj)) (D:Ends) (f:Flow) (s':Shared):Prop :=
 match f with
 | .next=>∃ σ' H',Inv X pins σ' H' s'/\D.nx σ' H'
 | .brk=>∃ σ' H',Inv X pins σ' H' s'/\D.bk σ' H'
 | .cont=>∃ σ' H',Inv X pins σ' H' s'/\D.ct σ' H'
 | .ret u=>∃ v σ' H',Inv X pins σ' H' s'/\RelV v u/\D.rt v H'
def PE (X:Cx) (e:Expr) (t:TE):Prop :=
 ∀ (pins:List (Addr × Obj)) (s:Shared) (σ : St) (H:Hp) (Q:VK),Inv X pins σ H s->t σ H Q->wpAny (model X.prog X.w) X.A (eval e X.env) (EP X pins σ Q) X.xe s
def PT (X:Cx) (e:Expr) (t:TT):Prop :=
 ∀ (pins:List (Addr × Obj)) (s:Shared) (σ : St) (H:Hp) (Q:Bool->Hp->Prop),Inv X pins σ H s->t σ H Q->wpAny (model X.prog X.w) X.A (isTrue e X.env (eval e X.env)) (TP X pins σ Q) X.xe s
def PW (X:Cx) (e:Expr) (t:TT):Prop :=
 ∀ (whole:Sem Value) (pins:List (Addr × Obj)) (s:Shared) (σ : St) (H:Hp) (Q:Bool->Hp->Prop),Inv X pins σ H s->t σ H Q->wpAny (model X.prog X.w) X.A (isTrue e X.env whole) (TP X pins σ Q) X.xe s
theorem PW.pt {X:Cx} {e:Expr} {t:TT} (h:PW X e t):PT X e t:=h _
def PA (X:Cx) (es:List Expr) (t:TA):Prop :=
 ∀ (pos:Pos) (pins:List (Addr × Obj)) (s:Shared) (σ : St) (H:Hp) (Q:List V->Hp->Prop),Inv X pins σ H s->t σ H Q->wpAny (model X.prog X.w) X.A (spliced (backTo pos (starEach es X.env))) (AP X pins σ Q) X.xe s
def PS (X:Cx) (st:Stmt) (t:TS):Prop :=
 ∀ (pins:List (Addr × Obj)) (s:Shared) (σ : St) (H:Hp) (D:Ends),Inv X pins σ H s->t D σ H->wpAny (model X.prog X.w) X.A (exec st X.env) (SP X pins D) X.xe s
def iP (X:Cx) (st:List Stmt) (t:TS):Prop :=
 ∀ (pins:List (Addr × Obj)) (s:Shared) (σ : St) (H:Hp) (D:Ends),Inv X pins σ H s->t D σ H->wpAny (model X.prog X.w) X.A (execs st X.env) (SP X pins D) X.xe s
theorem bf {α : Type} {t:Sem α} {Q Q':α->Shared->Prop} {M:Model} {A:Around} {E:Value->Shared->Prop} {s:Shared} (h:wpAny M A t Q E s) (hQ:∀ a s,Q a s->Q' a s):wpAny M A t Q' E s:=wpAny_mono h hQ fun _ _ x=>x
section
variable {X:Cx}
def oZ (i:Nat):TE:=fun σ H Q=>∃ v,σ[i]? = some (some v)/\Q v H
def tC (v:V):TE:=fun _ H Q=>Q v H
theorem ya {i:Nat} {x:Str} {pos:Pos} (hN:X.N[i]? = some x) (hv:x9 X.env.scope x) (hd:(x == ("__debug__" : Str))=false:=by decide) (hcd:(x == ("__classdict__" : Str))=false:=by decide):PE X (.Name x pos) (oZ i):=by
 intro pins s σ H Q I h
 obtain⟨v,e,h⟩:=h
 obtain⟨m,hn,hl⟩:=I.loc
 obtain⟨u,r,l⟩:=hl i x v hN e hv
 have fin:EP X pins σ Q u s:=⟨v,H,I,r,h⟩
 rcases l with ⟨hk,hm⟩ | ⟨hk,c,hc,hcell⟩
 ·exact wpAny_Name (wpAny_loadName_local I.ok.kind hk hn hm fin) hd
 ·rcases hk with hk | hk
  ·exact wpAny_Name (wpAny_loadName_cell I.ok.kind hk hc hcell fin) hd
  ·exact wpAny_Name (wpAny_loadName_free I.ok.kind hk hc hcell fin hcd) hd
theorem ai {i j pos}:PE X (.Constant (.int i) j pos) (tC (.int i)):=fun _ _ _ H _ I h=>wpAny_Constant_int ⟨.int i,H,I.tok _,⟨_,rfl⟩,h⟩
theorem dE {b j pos}:PE X (.Constant (.bool b) j pos) (tC (.bl b)):=fun _ _ _ H _ I h=>Constant_bool ⟨.bl b,H,I,rfl,h⟩
theorem cq {j pos}:PE X (.Constant .none j pos) (tC .aS):=fun _ _ _ H _ I h=>Constant_none ⟨.aS,H,I,rfl,h⟩
theorem bp {x j pos}:PE X (.Constant (.str x) j pos) (tC (.str x)):=fun _ _ _ H _ I h=>Calls.Constant_str ⟨.str x,H,I.tok _,⟨_,rfl⟩,h⟩
def Gl (X:Cx) (x:Str):Prop:=X.env.kindOf x=some .globalImplicit
theorem rC {E:Value->Shared->Prop} {pins:List (Addr × Obj)} {s:Shared} {σ : St} {H:Hp} {x:Str} {u:Value} {pos:Pos} {Q:Value->Shared->Prop} (I:Inv X pins σ H s) (hg:Gl X x) (hm:X.mg x=some u) (h:Q u s)
  (hd:(x == ("__debug__" : Str))=false:=by decide):wpAny (model X.prog X.w) X.A (eval (.Name x pos) X.env) Q E s :=
 Calls.Name_function_global I.ok.kind hg (Calls.loadGlobal_global (by rw [I.ok.glob];exact I.mod.glob.keeps I.bk) hm h) hd
theorem mn {E:Value->Shared->Prop} {pins:List (Addr × Obj)} {s:Shared} {σ : St} {H:Hp} {x:Str} {u:Value} {pos:Pos} {Q:Value->Shared->Prop} (I:Inv X pins σ H s) (hg:Gl X x) (hm:X.mg x=none) (hv:bootBuiltins x=some u) (h:Q u s)
  (hn:x ≠ "__name__" := by decide) (hd:(x == ("__debug__" : Str))=false:=by decide):wpAny (model X.prog X.w) X.A (eval (.Name x pos) X.env) Q E s:=by
 obtain⟨mb,h1,h2⟩:=I.mod.blt
 exact Calls.Name_function_global I.ok.kind hg (Calls.loadGlobal_builtin (by rw [I.ok.glob];exact I.mod.glob.keeps I.bk) hm (by rw [I.ok.blt];exact h1.keeps I.bk) ((h2 x hn).trans hv) h) hd
theorem fC {x:Str} {v:V} {u:Value} {pos:Pos} (hg:Gl X x) (hm:X.mg x=some u) (r:RelV v u) (hd:(x == ("__debug__" : Str))=false:=by decide):PE X (.Name x pos) (tC v) :=
 fun _ _ _ H _ I h=>rC I hg hm ⟨v,H,I,r,h⟩ hd
variable {a b:Expr} {ta tb:TE} {pos:Pos}
def PC (X:Cx) (op:CmpOp) (a b:Expr) (t:TE):Prop :=
 ∀ (pins:List (Addr × Obj)) (s:Shared) (σ : St) (H:Hp) (Q:VK),Inv X pins σ H s->t σ H Q ->
  wpAny (model X.prog X.w) X.A (eval a X.env) (fun v s₁=>wpAny (model X.prog X.w) X.A (eval b X.env) (fun u s₂=>wpAny (model X.prog X.w) X.A (compareOp op v u) (EP X pins σ Q) X.xe s₂) X.xe s₁) X.xe s
theorem o1 (b:Expr) {op:CmpOp} (h:op ≠ .In) (h2:op ≠ .NotIn):behindInMarks op b=false:=by
 have e1:(op == CmpOp.In)=false:=by cases op <;> first | rfl | exact absurd rfl h
 have e2:(op == CmpOp.NotIn)=false:=by cases op <;> first | rfl | exact absurd rfl h2
 cases b <;> simp [behindInMarks,e1,e2]
def zP (ta:TE):TE:=fun σ H Q=>ta σ H fun x H1=>Q (.bl (decide (x=.aS))) H1
def y6 (ta:TE):TE:=fun σ H Q=>ta σ H fun x H1=>Q (.bl (!decide (x=.aS))) H1
theorem RelV.o2 {x:V} {v:Value} (r:RelV x v):(v == Value.none)=decide (x=.aS):=by
 cases x with
 | aS=>cases r;rfl
 | bl _=>cases r;rfl
 | int _=>obtain⟨t,rfl⟩:=r;rfl
 | str _=>obtain⟨t,rfl⟩:=r;rfl
 | jU _=>obtain⟨t,rfl⟩:=r;rfl
 | wN _=>obtain⟨t,rfl⟩:=r;rfl
 | ref _=>cases r;rfl
 | ty _=>cases r;rfl
theorem dQ {j pos'} (ha:PE X a ta):PC X .Is a (.Constant .none j pos') (zP ta):=by
 intro pins s σ H Q I h
 refine bf (ha pins s σ H _ I h) fun v s1 ⟨x,H1,I1,r1,q1⟩=>?_
 exact Constant_none (is_none_gen ⟨.bl _,H1,I1,by rw [r1.o2];rfl,q1⟩)
theorem eW {j pos'} (ha:PE X a ta):PC X .IsNot a (.Constant .none j pos') (y6 ta):=by
 intro pins s σ H Q I h
 refine bf (ha pins s σ H _ I h) fun v s1 ⟨x,H1,I1,r1,q1⟩=>?_
 exact Constant_none (isnot_none_gen ⟨.bl _,H1,I1,by rw [r1.o2];rfl,q1⟩)
def tB (t:TE):TT:=fun σ H Q=>t σ H fun x H1=>∃ c,x=.bl c/\Q c H1
theorem h9 {op:CmpOp} {t:TE} (h:PC X op a b t) (h1:behindInMarks op b=false:=by first | exact o1 _ (by decide) (by decide) | rfl):PE X (.Compare a [op] [b] pos) t:=fun pins s σ H Q I hw=>wpAny_Compare1 (h pins s σ H Q I hw) h1
theorem di {op:CmpOp} {t:TE} (h:PC X op a b t) (h1:behindInMarks op b=false:=by first | exact o1 _ (by decide) (by decide) | rfl):PT X (.Compare a [op] [b] pos) (tB t):=by
 intro pins s σ H Q I hw
 refine wpAny_isTrue_Compare1 (bf (h pins s σ H _ I hw) fun v s1 h1=>bf h1 fun u s2 h2=>bf h2 fun c s3 ⟨x,H1,I1,r1,q1⟩=>?_) h1
 obtain⟨d,rfl,q⟩:=q1
 cases r1
 exact wpAny_truthy_bool ⟨H1,I1,q⟩
theorem fm {e:Expr} {t:TE} (h:PE X e t) (he:∀ whole,isTrue e X.env whole=(do let v <-whole;standAt e.pos;holding [v] (truthy v)):=by intro _;rfl):PT X e (tB t):=by
 intro pins s σ H Q I hw
 refine isTrue_plain (bf (h pins s σ H _ I hw) fun v s1 ⟨x,H1,I1,r1,q1⟩=>?_) (he _)
 obtain⟨d,rfl,q⟩:=q1
 cases r1
 exact wpAny_truthy_bool ⟨H1,I1,q⟩
variable {tA tB':TT} {rest:List Expr}
def zQ (t u:TT):TT:=fun σ H Q=>t σ H fun c H1=>if c=true then u σ H1 Q else Q false H1
def Al (t u:TT):TT:=fun σ H Q=>t σ H fun c H1=>if c=true then Q true H1 else u σ H1 Q
def zR (t:TT):TT:=fun σ H Q=>t σ H fun c H1=>Q (!c) H1
theorem eX (ha:PT X a tA):PW X (.BoolOp .And [a] pos) tA:=by
 intro wh pins s σ H Q I h
 refine isTrue_and (bf (ha pins s σ H Q I h) fun c s1 e=>?_)
 cases c with
 | true=>exact isTrue_and_nil e
 | false=>exact e
theorem mq (ha:PT X a tA):PW X (.BoolOp .Or [a] pos) tA:=by
 intro wh pins s σ H Q I h
 refine isTrue_or (bf (ha pins s σ H Q I h) fun c s1 e=>?_)
 cases c with
 | false=>exact isTrue_or_nil e
 | true=>exact e
theorem fX (ha:PT X a tA) (hb:PW X (.BoolOp .And (b :: rest) pos) tB'):PW X (.BoolOp .And (a :: b :: rest) pos) (zQ tA tB'):=by
 intro wh pins s σ H Q I h
 refine isTrue_and (bf (ha pins s σ H _ I h) fun c s1 ⟨H1,I1,q1⟩=>?_)
 cases c with
 | true=>exact hb wh pins s1 σ H1 Q I1 q1
 | false=>exact⟨H1,I1,q1⟩
theorem oN (ha:PT X a tA) (hb:PW X (.BoolOp .Or (b :: rest) pos) tB'):PW X (.BoolOp .Or (a :: b :: rest) pos) (Al tA tB'):=by
 intro wh pins s σ H Q I h
 refine isTrue_or (bf (ha pins s σ H _ I h) fun c s1 ⟨H1,I1,q1⟩=>?_)
 cases c with
 | true=>exact⟨H1,I1,q1⟩
 | false=>exact hb wh pins s1 σ H1 Q I1 q1
theorem j6 (ha:PT X a tA):PT X (.UnaryOp .Not a pos) (zR tA):=by
 intro pins s σ H Q I h
 exact isTrue_not (ha pins s σ H (fun c H1=>Q (!c) H1) I h)
def y7 (ta tb:TE):TE:=fun σ H Q=>ta σ H fun x H1=>∃ c,x=.bl c/\if c=true then tb σ H1 Q else Q (.bl false) H1
def zS (ta tb:TE):TE:=fun σ H Q=>ta σ H fun x H1=>∃ c,x=.bl c/\if c=true then Q (.bl true) H1 else tb σ H1 Q
theorem fY {op} {t:TE} (h:PE X a t):PE X (.BoolOp op [a] pos) t:=fun pins s σ H Q I hw=>BoolOp_one (h pins s σ H Q I hw)
theorem j7 (ha:PE X a ta) (hb:PE X (.BoolOp .And (b :: rest) pos) tb):PE X (.BoolOp .And (a :: b :: rest) pos) (y7 ta tb):=by
 intro pins s σ H Q I h
 refine BoolOp_and (bf (ha pins s σ H _ I h) fun v s1 ⟨x,H1,I1,r1,q1⟩=>?_)
 obtain⟨c,rfl,q1⟩:=q1
 cases r1
 refine wpAny_truthy_bool ?_
 cases c with
 | true=>exact hb pins s1 σ H1 Q I1 q1
 | false=>exact⟨.bl false,H1,I1,rfl,q1⟩
theorem mr (ha:PE X a ta) (hb:PE X (.BoolOp .Or (b :: rest) pos) tb):PE X (.BoolOp .Or (a :: b :: rest) pos) (zS ta tb):=by
 intro pins s σ H Q I h
 refine BoolOp_or (bf (ha pins s σ H _ I h) fun v s1 ⟨x,H1,I1,r1,q1⟩=>?_)
 obtain⟨c,rfl,q1⟩:=q1
 cases r1
 refine wpAny_truthy_bool ?_
 cases c with
 | false=>exact hb pins s1 σ H1 Q I1 q1
 | true=>exact⟨.bl true,H1,I1,rfl,q1⟩
def Am (t:TT) (ta tb:TE):TE:=fun σ H Q=>t σ H fun c H1=>if c=true then ta σ H1 Q else tb σ H1 Q
theorem eJ {c:Expr} (hc:PT X c tA) (ha:PE X a ta) (hb:PE X b tb):PE X (.IfExp c a b pos) (Am tA ta tb):=by
 intro pins s σ H Q I h
 refine wpAny_IfExp (bf (hc pins s σ H _ I h) fun d s1 ⟨H1,I1,q1⟩=>?_)
 cases d with
 | true=>exact ha pins s1 σ H1 Q I1 q1
 | false=>exact hb pins s1 σ H1 Q I1 q1
end
def aU (K:PySem.W.Frag) (H:Hp) (a:Addr) (xs:List V):Prop :=
 Rd H a (.lst xs) \/
  ∃ (o:Obj) (its:Array Value) (n:Nat),K.lookup a=some o/\o.cls=.type "list" /\ o.dict=none/\o.data=.seq its n/\its.size<=sizeLine/\Vals xs its.toList
def aw (K:PySem.W.Frag) (H:Hp) (a:Addr) (xs:List V):Prop :=
 Rd H a (.tup xs) \/
  ∃ (o:Obj) (its:Array Value) (n:Nat),K.lookup a=some o/\o.cls=.type "tuple" /\ o.data=.seq its n/\its.size<=sizeLine/\Vals xs its.toList
def zT:Value->Option V
 | .none=>some .aS
 | .bool b=>some (.bl b)
 | .int i _=>some (.int i)
 | .str x _=>some (.str x)
 | .bytes b _=>some (.jU b)
 | .float b _=>some (.wN b)
 | .ref a=>some (.ref a)
 | .type n=>some (.ty n)
 | _=>none
theorem RelV.abs {x:V} {u:Value} (r:RelV x u):zT u=some x:=by
 cases x with
 | aS=>cases r;rfl
 | bl _=>cases r;rfl
 | int _=>obtain⟨t,rfl⟩:=r;rfl
 | str _=>obtain⟨t,rfl⟩:=r;rfl
 | jU _=>obtain⟨t,rfl⟩:=r;rfl
 | wN _=>obtain⟨t,rfl⟩:=r;rfl
 | ref _=>cases r;rfl
 | ty _=>cases r;rfl
theorem RelV.inj {x y:V} {u:Value} (r:RelV x u) (q:RelV y u):x=y:=Option.some.inj (r.abs.symm.trans q.abs)
theorem Vals.inj:∀ {xs ys:List V} {us:List Value},Vals xs us->Vals ys us->xs=ys
 | _,_,_,.nil,.nil=>rfl
 | _,_,_,.cons r t,.cons r' t'=>by rw [r.inj r',Vals.inj t t']
section
variable {X:Cx} {pins:List (Addr × Obj)} {σ : St} {H:Hp} {s:Shared} {a:Addr} {xs ys:List V}
theorem aU.of {K:PySem.W.Frag} (h:H a=some (.lst xs)):aU K H a xs:=.inl (.inl h)
theorem aw.of {K:PySem.W.Frag} (h:H a=some (.tup xs)):aw K H a xs:=.inl (.inl h)
theorem Inv.list (I:Inv X pins σ H s) (h:aU X.K H a xs):∃ its:List Value,Vals xs its/\PlainL s.heap a its.toArray/\xs.length<=sizeLine:=by
 rcases h with h | ⟨o,its,n,hk,hc,hd,hs,hz,r⟩
 ·obtain⟨z,its,n,r,e⟩:=h.ok I.aN
  exact⟨its,r,⟨_,n,e,rfl,rfl,rfl⟩,z⟩
 ·refine⟨its.toList,r,⟨o,n,I.nL a o hk,hc,hd,by simpa using hs⟩,?_⟩
  have e:=r.length
  simp only [Array.length_toList] at e
  omega
theorem Inv.tuple (I:Inv X pins σ H s) (h:aw X.K H a xs):∃ its:List Value,Vals xs its/\IsTup s.heap a its.toArray/\xs.length<=sizeLine:=by
 rcases h with h | ⟨o,its,n,hk,hc,hs,hz,r⟩
 ·obtain⟨z,its,r,o,e,c,n,d,_⟩:=h.ok I.aN
  exact⟨its,r,⟨o,e,c,n,d⟩,z⟩
 ·refine⟨its.toList,r,⟨o,I.nL a o hk,hc,n,by simpa using hs⟩,?_⟩
  have e:=r.length
  simp only [Array.length_toList] at e
  omega
theorem Inv.ve (I:Inv X pins σ H s) (h:aU X.K H a xs) (h':aU X.K H a ys):xs=ys:=by
 obtain⟨its,r,⟨o,n,e,_,_,d⟩,_⟩:=I.list h
 obtain⟨its',r',⟨o',n',e',_,_,d'⟩,_⟩:=I.list h'
 rw [e] at e';cases e'
 rw [d] at d'
 injection d' with d1 _
 have:its=its':=by simpa using congrArg Array.toList d1
 subst this
 exact r.inj r'
theorem Inv.j8 (I:Inv X pins σ H s) (h:aw X.K H a xs) (h':aw X.K H a ys):xs=ys:=by
 obtain⟨its,r,⟨o,e,_,n,d⟩,_⟩:=I.tuple h
 obtain⟨its',r',⟨o',e',_,n',d'⟩,_⟩:=I.tuple h'
 rw [e] at e';cases e'
 rw [d] at d'
 injection d' with d1 _
 have:its=its':=by simpa using congrArg Array.toList d1
 subst this
 exact r.inj r'
end
abbrev Cx.jd (X:Cx) (E:Value->Shared->Prop):Cx:={ X with xe:=E }
abbrev Cx.wU (X:Cx):Cx:=X.jd fun _ _=>False
theorem Cx.Ok.jd {X:Cx} (ok:X.Ok) (E:Value->Shared->Prop):(X.jd E).Ok :=
 ⟨ok.mod,ok.kind,ok.glob,ok.blt,ok.above,ok.inj,ok.has,ok.tP,ok.hd,ok.frames,ok.wQ,ok.zD,ok.bs,ok.nK,ok.oW,ok.sj,ok.iO,ok.rn⟩
theorem Cx.Ok.ia {X:Cx} {E:Value->Shared->Prop} (ok:(X.jd E).Ok):X.Ok :=
 ⟨ok.mod,ok.kind,ok.glob,ok.blt,ok.above,ok.inj,ok.has,ok.tP,ok.hd,ok.frames,ok.wQ,ok.zD,ok.bs,ok.nK,ok.oW,ok.sj,ok.iO,ok.rn⟩
section
variable {X:Cx} {pins:List (Addr × Obj)} {σ : St} {H:Hp} {s:Shared} {E:Value->Shared->Prop}
theorem Inv.jd (I:Inv X pins σ H s) (E:Value->Shared->Prop):Inv (X.jd E) pins σ H s:=⟨I.ok.jd E,I.os,I.bare,I.base,I.loc,I.cell,I.free,I.d7,I.pin,I.aN,I.len⟩
theorem Inv.ia (I:Inv (X.jd E) pins σ H s):Inv X pins σ H s:=⟨I.ok.ia,I.os,I.bare,I.base,I.loc,I.cell,I.free,I.d7,I.pin,I.aN,I.len⟩
theorem SP.ia {D:Ends} {f:Flow} {s':Shared} (h:SP (X.jd E) pins D f s'):SP X pins D f s':=by
 cases f with
 | next=>obtain⟨σ',H',I,q⟩:=h;exact⟨σ',H',I.ia,q⟩
 | brk=>obtain⟨σ',H',I,q⟩:=h;exact⟨σ',H',I.ia,q⟩
 | cont=>obtain⟨σ',H',I,q⟩:=h;exact⟨σ',H',I.ia,q⟩
 | ret u=>obtain⟨v,σ',H',I,r,q⟩:=h;exact⟨v,σ',H',I.ia,r,q⟩
theorem iP.wU {st:List Stmt} {t:TS} (h:iP X.wU st t):iP X st t:=fun pins s σ H D I hw =>
 wpAny_mono (h pins s σ H D (I.jd _) hw) (fun _ _ q=>q.ia) fun _ _ z=>False.elim z
end
section
variable {X:Cx} {st:Stmt} {rest:List Stmt} {t u:TS} {e:Expr} {te:TE} {pos:Pos}
def y8:TS:=fun D σ H=>D.nx σ H
def zU (t u:TS):TS:=fun D σ H=>t { D with nx:=u D } σ H
theorem aR:iP X [] y8:=fun _ _ σ H _ I h=>wpAny_execs_nil ⟨σ,H,I,h⟩
theorem ah (h1:PS X st t) (h2:iP X rest u):iP X (st :: rest) (zU t u):=by
 intro pins s σ H D I h
 refine wpAny_execs_cons (bf (h1 pins s σ H { D with nx:=u D } I h) fun f s1 q=>?_)
 cases f with
 | next =>
  obtain⟨σ',H',I',q⟩:=q
  exact h2 pins s1 σ' H' D I' q
 | ret v=>exact q
 | brk=>exact q
 | cont=>exact q
theorem ar (h1:PS X st t):iP X [st] t:=by
 intro pins s σ H D I h
 refine wpAny_execs_cons (bf (h1 pins s σ H D I h) fun f s1 q=>?_)
 cases f with
 | next=>exact wpAny_execs_nil q
 | ret v=>exact q
 | brk=>exact q
 | cont=>exact q
theorem Inv.quiet {pins:List (Addr × Obj)} {σ : St} {H:Hp} {s:Shared} (I:Inv X pins σ H s):interactive X.env=false:=by simp [interactive,I.ok.kind]
def y9 (te:TE):TS:=fun D σ H=>te σ H fun _ H1=>D.nx σ H1
theorem eY (he:PE X e te) (hs:swapsWith e none pos.line X.env=pure false:=by rfl):PS X (.Expr e pos) (y9 te):=by
 intro pins s σ H D I h
 exact wpAny_Expr_any (bf (he pins s σ H _ I h) fun v s1 ⟨x,H1,I1,r1,q1⟩=>⟨σ,H1,I1,q1⟩) I.quiet hs
def yb (te:TE):TS:=fun D σ H=>te σ H D.rt
theorem aC (he:PE X e te):PS X (.Return (some e) pos) (yb te):=by
 intro pins s σ H D I h
 exact wpAny_Return_some (bf (he pins s σ H _ I h) fun v s1 ⟨x,H1,I1,r1,q1⟩=>⟨x,σ,H1,I1,r1,q1⟩)
def zV (c:TT) (t u:TS):TS:=fun D σ H=>c σ H fun b H1=>if b=true then t D σ H1 else u D σ H1
theorem aY {c:Expr} {a b:List Stmt} {tc:TT} (hc:PT X c tc) (ha:iP X a t) (hb:iP X b u):PS X (.If c a b pos) (zV tc t u):=by
 intro pins s σ H D I h
 refine wpAny_If (bf (hc pins s σ H _ I h) fun d s1 ⟨H1,I1,q1⟩=>?_)
 cases d with
 | true=>exact ha pins s1 σ H1 D I1 q1
 | false=>exact hb pins s1 σ H1 D I1 q1
end
abbrev TG:=V->St->Hp->(St->Hp->Prop)->Prop
abbrev nN:=List V->St->Hp->(St->Hp->Prop)->Prop
def PG (X:Cx) (target:Expr) (t:TG):Prop :=
 ∀ (pins:List (Addr × Obj)) (s:Shared) (σ : St) (H:Hp) (v:V) (u:Value) (Q:St->Hp->Prop),Inv X pins σ H s->RelV v u->t v σ H Q ->
  wpAny (model X.prog X.w) X.A (assign target X.env u) (fun _ s'=>∃ σ' H',Inv X pins σ' H' s'/\Q σ' H') X.xe s
def wV (X:Cx) (ts:List Expr) (t:nN):Prop :=
 ∀ (pins:List (Addr × Obj)) (s:Shared) (σ : St) (H:Hp) (vs:List V) (us:List Value) (Q:St->Hp->Prop),Inv X pins σ H s->Vals vs us->t vs σ H Q ->
  wpAny (model X.prog X.w) X.A (assignInOrder ((assignEach ts X.env).map (·.2)) us) (fun _ s'=>∃ σ' H',Inv X pins σ' H' s'/\Q σ' H') X.xe s
abbrev vf:=V->V->V->Hp->(Hp->Prop)->Prop
def yc (X:Cx) (t:vf):Prop :=
 ∀ (pins:List (Addr × Obj)) (s:Shared) (σ : St) (H:Hp) (o i v:V) (ov iv u:Value) (Q:Hp->Prop),Inv X pins σ H s->RelV o ov->RelV i iv->RelV v u->t o i v H Q ->
  wpAny (model X.prog X.w) X.A (setItem ov iv u) (fun _ s'=>∃ H',Inv X pins σ H' s'/\Q H') X.xe s
section
variable {X:Cx} {pos:Pos}
def oO (i:Nat):TG:=fun v σ H Q=>Q (σ.set i (some v)) H
theorem aB {i:Nat} {x:Str} (hN:X.N.Nodup) (hi:X.N[i]? = some x) (hx:Loc X.env.scope x) (hf:X.fn x=true\/X.env.scope.names.lookup x=some .local:=by first | exact .inl rfl | exact .inr rfl | assumption):PG X (.Name x pos) (oO i):=by
 intro pins s σ H v u Q I r h
 exact wpAny_assign_Name (jD I hN hi hx r (fun s' I'=>⟨_,H,I',h⟩) hf)
def zW:nN:=fun vs σ H Q=>vs = []/\Q σ H
def za (t:TG) (u:nN):nN:=fun vs σ H Q=>∃ v r,vs=v :: r/\t v σ H fun σ' H'=>u r σ' H' Q
theorem bU:wV X [] zW:=by
 intro pins s σ H vs us Q I r h
 obtain⟨e,h⟩:=h
 subst e
 cases r
 exact assignInOrder_nil ⟨σ,H,I,h⟩
theorem aG {e:Expr} {es:List Expr} {t:TG} {u:nN} (h1:PG X e t) (h2:wV X es u)
  (hs:(assignEach (e :: es) X.env).map (·.2)=assign e X.env :: (assignEach es X.env).map (·.2):=by rfl):wV X (e :: es) (za t u):=by
 intro pins s σ H vs us Q I r h
 obtain⟨v,vr,e1,h⟩:=h
 subst e1
 cases r with
 | cons r rr =>
  rw [hs]
  refine assignInOrder_cons (bf (h1 pins s σ H _ _ _ I r h) fun _ s1 ⟨σ1,H1,I1,q1⟩=>?_)
  exact h2 pins s1 σ1 H1 _ _ Q I1 rr q1
def vg (K:PySem.W.Frag) (n:Nat) (t:nN):TG:=fun v σ H Q=>∃ a xs,v=.ref a/\aw K H a xs/\xs.length=n/\t xs σ H Q
theorem cf {es:List Expr} {k:Nat} {t:nN} {n:Nat} (hc:X.calm=true) (h:wV X es t)
  (hn:(assignEach es X.env).length=n:=by rfl) (hst:(assignEach es X.env).findIdx? (·.1)=none:=by rfl):PG X (.Tuple es k pos) (vg X.K n t):=by
 intro pins s σ H v u Q I r hw
 obtain⟨a,xs,e1,hq,hl,hw⟩:=hw
 subst e1
 cases r
 obtain⟨its,rv,ht,hz⟩:=I.tuple hq
 refine assign_Tuple_tuple (I.ok.hd hc) ht (by simp [hn,<-hl,rv.length]) hst fun h' hx=>?_
 have I1:Inv X pins σ H { s with heap:=h' }:=I.kept (t':=s.toks) fun b o e=>hx b o (Nat.ne_of_lt (Heap.lt_size e)) e
 exact h pins _ σ H xs _ Q I1 (by simpa using rv) hw
def zX (to ti:TE) (t:vf):TG:=fun v σ H Q=>to σ H fun o H1=>ti σ H1 fun i H2=>t o i v H2 fun H3=>Q σ H3
theorem eQ {o i:Expr} {to ti:TE} {t:vf} (ho:PE X o to) (hi:PE X i ti) (hs:yc X t)
  (ha:∀ v,assign (.Subscript o i pos) X.env v=(do
   let ov <-holding [v] (eval o X.env)
   let iv <-holding [v,ov] (eval i X.env)
   standAt pos
   holding [v,ov,iv] (setItem ov iv v)
   release [v,ov,iv] []):=by intro _;rfl):PG X (.Subscript o i pos) (zX to ti t):=by
 intro pins s σ H v u Q I r h
 rw [ha]
 refine wpAny_bind (wpAny_holding (bf (ho pins s σ H _ I h) fun ov s1 ⟨x,H1,I1,r1,q1⟩=>?_))
 refine wpAny_bind (wpAny_holding (bf (hi pins s1 σ H1 _ I1 q1) fun iv s2 ⟨y,H2,I2,r2,q2⟩=>?_))
 refine wpAny_bind (wpAny_standAt (wpAny_bind (wpAny_holding (bf (hs pins s2 σ H2 x y v ov iv u _ I2 r1 r2 r q2) fun _ s3 ⟨H3,I3,q3⟩=>?_))))
 exact wpAny_release ⟨σ,H3,I3,q3⟩
def o4 (te:TE) (g:TG):TS:=fun D σ H=>te σ H fun x H1=>g x σ H1 D.nx
theorem cg {tg e:Expr} {te:TE} {g:TG} (he:PE X e te) (hg:PG X tg g) (hs:swapsWithSole [tg] e pos.line X.env=pure false:=by rfl) (hw:swappedStores [tg] e X.env=pure none:=by rfl)
  (h1:(assignEach [tg] X.env).map (·.2) = [assign tg X.env]:=by rfl):PS X (.Assign [tg] e pos) (o4 te g):=by
 intro pins s σ H D I h
 refine wpAny_Assign_stores (bf (he pins s σ H _ I h) fun v s1 ⟨x,H1,I1,r1,q1⟩=>?_) hs hw
 rw [h1]
 exact bf (hg pins s1 σ H1 x v _ I1 r1 q1) fun _ s2 q=>q
theorem aH {i:Nat} {x:Str} {e:Expr} {te:TE} {pos':Pos} (hN:X.N.Nodup) (hi:X.N[i]? = some x) (hx:Loc X.env.scope x) (he:PE X e te) (hs:swapsWith e (some (.Name x pos')) pos.line X.env=pure false:=by rfl) (hf:X.fn x=true\/X.env.scope.names.lookup x=some .local:=by first | exact .inl rfl | exact .inr rfl | assumption) :
  PS X (.Assign [.Name x pos'] e pos) (o4 te (oO i)):=by
 intro pins s σ H D I h
 refine wpAny_Assign_Name (bf (he pins s σ H _ I h) fun v s1 ⟨y,H1,I1,r1,q1⟩=>?_) hs
 exact jD I1 hN hi hx r1 (fun s2 I2=>⟨_,H1,I2,q1⟩) hf
def zY (i j:Nat) (ta:TA):TS:=fun D σ H=>ta σ H fun vs H1=>∃ v w,vs = [v,w]/\D.nx ((σ.set i (some v)).set j (some w)) H1
theorem tQ {i j:Nat} {x y:Str} {a b:Expr} {ta:TA} {px py pt:Pos} {kt k2 pt2} (hc:X.calm=true) (hN:X.N.Nodup) (hi:X.N[i]? = some x) (hj:X.N[j]? = some y) (hij:i ≠ j)
  (hx:X.env.scope.names.lookup x=some .local) (hy:X.env.scope.names.lookup y=some .local) (ha:PA X [a,b] ta)
  (hw:swappedStores [.Tuple [.Name x px,.Name y py] kt pt] (.Tuple [a,b] k2 pt2) X.env=pure (some [x,y]))
  (hs:swapsWithSole [.Tuple [.Name x px,.Name y py] kt pt] (.Tuple [a,b] k2 pt2) pos.line X.env=pure false:=by rfl) :
  PS X (.Assign [.Tuple [.Name x px,.Name y py] kt pt] (.Tuple [a,b] k2 pt2) pos) (zY i j ta):=by
 intro pins s σ H D I h
 rw [exec_Assign_arm]
 refine wpAny_bind (wpAny_standAt ?_)
 rw [hs]
 refine wpAny_bind (wpAny_pure ?_)
 rw [if_neg (by decide)]
 refine wpAny_bind (Tuple_ (bf (ha _ pins s σ H _ I h) fun us s1 ⟨vs,H1,I1,r1,q1⟩=>?_))
 obtain⟨v,w,e1,q1⟩:=q1
 subst e1
 obtain⟨u1,u2,rfl,rv,rw'⟩:∃ u1 u2,us = [u1,u2]/\RelV v u1/\RelV w u2:=by
  cases r1 with
  | cons p q =>
   cases q with
   | cons p' q' =>
    cases q'
    exact⟨_,_,rfl,p,p'⟩
 refine wpAny_newObj_type ?_ (by show 2<=sizeLine;decide)
 have I2:Inv X pins σ H1 { s1 with heap:=s1.heap.push { cls:=.type "tuple",data:=.seq [u1,u2].toArray } }:=I1.kept (t':=s1.toks) fun b o e=>Heap.get?_push_of_some _ e
 rw [hw]
 refine wpAny_bind (wpAny_pure ?_)
 show wpAny (model X.prog X.w) X.A (do rule "assign.swapped-stores";let items <-unpackItems (.ref s1.heap.objs.size) 2 none;assignInOrder [fun v=>bindName X.env y v,fun v=>bindName X.env x v] items.reverse;pure Flow.next) _ _ _
 refine wpAny_bind (wpAny_rule (wpAny_bind (unpackItems_tuple (items:=#[u1,u2]) (I.ok.hd hc) (IsTup.new s1.heap _) fun h' hx'=>?_)))
 have I3:=I2.kept (h':=h') (t':=s1.toks) fun b o e=>hx' b o (Nat.ne_of_lt (Heap.lt_size e)) e
 show wpAny _ _ (assignInOrder [fun v=>bindName X.env y v,fun v=>bindName X.env x v] [u2,u1] >>= fun _=>pure Flow.next) _ _ _
 refine wpAny_bind (assignInOrder_cons (wpAny_bindName (jD I3 hN hj (.inl hy) rw' (fun s2 I4=>?_) (.inr hy))))
 refine assignInOrder_cons (wpAny_bindName (jD I4 hN hi (.inl hx) rv (fun s3 I5=>assignInOrder_nil (wpAny_pure ?_)) (.inr hx)))
 rw [List.set_comm _ _ (Ne.symm hij)] at I5
 exact⟨_,H1,I5,q1⟩
end
section
variable {X:Cx} {pos:Pos}
def yd (c:TT) (tb:TS):TS:=fun D σ H=>∃ W:Nat->St->Hp->Prop,(∃ m,W m σ H)/\∀ m σ H,W m σ H ->
 c σ H fun b H1=>if b=true then ∃ N:St->Hp->Prop,(∀ σ' H',N σ' H'->∃ m',m' < m/\W m' σ' H')/\tb { D with nx:=N,ct:=N,bk:=D.nx } σ H1 else D.nx σ H1
theorem vh {c:Expr} {body:List Stmt} {tc:TT} {tb:TS} (hp:PassesOwn (model X.prog X.w) X.A X.env X.xe) (hc:PT X c tc) (hb:iP X body tb):PS X (.While c body [] pos) (yd tc tb):=by
 intro pins s σ H D I h
 obtain⟨W,⟨m0,w0⟩,turn⟩:=h
 refine wpAny_While (codeAny_whileLoop (fun n s'=>∃ σ' H',Inv X pins σ' H' s'/\W n σ' H') ?_ m0 ⟨σ,H,I,w0⟩)
 rintro n s1 ⟨σ1,H1,I1,w1⟩
 refine wpAny_passesOwn hp (bf (hc pins s1 σ1 H1 _ I1 (turn n σ1 H1 w1)) fun b s2 ⟨H2,I2,q2⟩=>?_)
 cases b with
 | true =>
  obtain⟨N,hN,q2⟩:=q2
  rw [if_pos rfl]
  refine wpAny_passesOwn hp (bf (hb pins s2 σ1 H2 _ I2 q2) fun f s3 q3=>?_)
  cases f with
  | next =>
   obtain⟨σ3,H3,I3,n3⟩:=q3
   obtain⟨m',hm,w3⟩:=hN σ3 H3 n3
   exact⟨m',hm,σ3,H3,I3,w3⟩
  | cont =>
   obtain⟨σ3,H3,I3,n3⟩:=q3
   obtain⟨m',hm,w3⟩:=hN σ3 H3 n3
   exact⟨m',hm,σ3,H3,I3,w3⟩
  | brk=>exact q3
  | ret v=>exact q3
 | false =>
  rw [if_neg Bool.false_ne_true]
  exact wpAny_execs_nil ⟨σ1,H2,I2,q2⟩
end
structure It where
 go:Nat->Hp->Prop
 rD:Nat->Hp->V->Hp->Prop
 stop:Nat->Hp->Prop
def gO (X:Cx) (pins:List (Addr × Obj)) (H:Hp) (b:Addr):Prop :=
 H b=none/\b ≠ X.env.locals/\b ∉ X.fs/\(b ∈ X.ex\/X.dq.heap.objs.size<=b)/\(∀ x c,X.env.cells.lookup x=some c->c ≠ b)/\∀ p ∈ X.pn++pins,p.1 ≠ b
theorem Inv.lM {X:Cx} {pins:List (Addr × Obj)} {σ : St} {H H':Hp} {s:Shared} {b:Addr} (I:Inv X pins σ H s) (hb:s.heap.objs.size<=b) (hn:H' b=none):gO X pins H' b:=by
 refine⟨hn,Nat.ne_of_gt (Nat.lt_of_lt_of_le I.lt hb),I.zO hb,.inr (Nat.le_trans I.sz hb),fun x c e z=>?_,fun p hp z=>?_⟩
 ·obtain⟨v,q⟩:=I.cell x c e
  exact absurd (Nat.lt_of_lt_of_le q.lt (by rw [z];exact hb)) (Nat.lt_irrefl _)
 ·exact absurd (Nat.lt_of_lt_of_le (Heap.lt_size (I.pin p hp).1) (by rw [z];exact hb)) (Nat.lt_irrefl _)
structure Turn (P:Program) (w:World) (K:PySem.W.Frag) (tg:Expr) (J:It) (fp:List Addr) (it:Addr) (tn:Nat->Heap->Prop):Prop where
 mem:it ∈ fp
 obj:∀ i h,tn i h->∀ b ∈ fp,∃ o,h.get? b=some o/\∀ v,o.data ≠ .cell v
 keep:∀ i h h',tn i h->(∀ b ∈ fp,∀ o,h.get? b=some o->h'.get? b=some o)->tn i h'
 item:∀ (X:Cx),X.prog=P->X.w=w->X.K=K->X.calm=true->∀ (i:Nat) (pins:List (Addr × Obj)) (s:Shared) (σ : St) (H:Hp) (E:Value->Shared->Prop),Inv X pins σ H s->(∀ b ∈ fp,gO X pins H b)->tn i s.heap->J.go i H ->
  wpAny (model P w) X.A (pyNext (.ref it)) (fun r s1=>∃ u,r=some u /\
   wpAny (model P w) X.A (letOwnedTupleGo tg (.ref it) u) (fun _ s2=>∃ x H',Inv X pins σ H' s2/\RelV x u/\J.rD i H x H'/\tn (i+1) s2.heap/\∀ b ∈ fp,H' b=none) E s1) E s
 done:∀ (X:Cx),X.prog=P->X.w=w->X.K=K->X.calm=true->∀ (i:Nat) (pins:List (Addr × Obj)) (s:Shared) (σ : St) (H:Hp) (E:Value->Shared->Prop),Inv X pins σ H s->(∀ b ∈ fp,gO X pins H b)->tn i s.heap->J.stop i H ->
  wpAny (model P w) X.A (pyNext (.ref it)) (fun r s1=>r=none/\Inv X pins σ H s1) E s
 self:∀ (A:Around) (i:Nat) (s:Shared) (Q:Value->Shared->Prop) (E:Value->Shared->Prop),tn i s.heap->Q (.ref it) s->wpAny (model P w) A (pyIter (.ref it)) Q E s
abbrev TI:=St->Hp->(It->Hp->Prop)->Prop
def zE (X:Cx) (pins:List (Addr × Obj)) (σ : St) (tg:Expr) (R:It->Hp->Prop) (itv:Value) (s2:Shared):Prop :=
 ∃ (it:Addr) (fp:List Addr) (tn:Nat->Heap->Prop) (J:It) (H':Hp),itv=.ref it/\Inv X pins σ H' s2/\Turn X.prog X.w X.K tg J fp it tn/\tn 0 s2.heap/\(∀ b ∈ fp,gO X pins H' b)/\R J H'
def PI (X:Cx) (tg iter:Expr) (wi:TI):Prop :=
 ∀ (pins:List (Addr × Obj)) (s:Shared) (σ : St) (H:Hp) (R:It->Hp->Prop),Inv X pins σ H s->wi σ H R ->
  wpAny (model X.prog X.w) X.A (eval iter X.env) (fun v s1=>wpAny (model X.prog X.w) X.A (pyIter v) (zE X pins σ tg R) X.xe s1) X.xe s
theorem oP {M:Model} {A:Around} {E:Value->Shared->Prop} {s:Shared} {tg:Expr} {it:Addr} {u:Value} {o:Obj} {n:String} {vs:Array Value} {Q:Unit->Shared->Prop} (ho:s.heap.get? it=some o) (hc:o.cls=.type n) (hd:o.data=.fields vs)
    (hn:["enumerate", "zip", "dict_itemiterator", "dict_reverseitemiterator", "odict_iterator", "itertools.zip_longest", "itertools.pairwise"].contains n=false) (hQ:Q () s):wpAny M A (letOwnedTupleGo tg (.ref it) u) Q E s:=by
  unfold letOwnedTupleGo
  cases tg <;> first
    | exact wpAny_pure hQ
    | (cases u <;> first
        | exact wpAny_pure hQ
        | (refine wpAny_bind (wpAny_load ho ?_)
           rw [hc,hd]
           show wpAny M A (if (["enumerate", "zip", "dict_itemiterator", "dict_reverseitemiterator", "odict_iterator", "itertools.zip_longest", "itertools.pairwise"].contains n && vs[0]? == some (rawInt _))=true then _ else _) Q E s
           rw [if_neg (by intro h;rw [hn,Bool.false_and] at h;cases h)]
           exact wpAny_pure hQ))
def ye (K:PySem.W.Frag) (a:Addr):It :=
 ⟨fun i H=>∃ xs x,aU K H a xs/\xs[i]? = some x,fun i H x H'=>H' = H/\∀ xs,aU K H a xs->xs[i]? = some x,fun i H=>∃ xs,aU K H a xs/\xs.length<=i⟩
def o5 (K:PySem.W.Frag) (a:Addr):It :=
 ⟨fun i H=>∃ xs x,aw K H a xs/\xs[i]? = some x,fun i H x H'=>H' = H/\∀ xs,aw K H a xs->xs[i]? = some x,fun i H=>∃ xs,aw K H a xs/\xs.length<=i⟩
def o6 (lo:Int) (n:Nat):It:=⟨fun i _=>i < n,fun i H x H'=>H' = H/\x=.int (lo+i),fun i _=>n<=i⟩
theorem tR {P:Program} {w:World} {K:PySem.W.Frag} {tg:Expr} (a it:Addr):Turn P w K tg (ye K a) [it] it (fun i h=>h.IsListIter it a i) where
 mem:=by simp
 obj:=fun i h st b hb=>by
  have e:b=it:=by simpa using hb
  subst e
  obtain⟨o,e,c,d⟩:=st
  exact⟨o,e,fun v z=>by rw [d] at z;cases z⟩
 keep:=fun i h h' st k=>st.at fun o e=>k it (by simp) o e
 item:=by
  intro X hP hw hK hc i pins s σ H E I hf st hg
  subst hP hw hK
  obtain⟨xs,x,hq,hx⟩:=hg
  obtain⟨its,rv,p,hz⟩:=I.list hq
  obtain⟨u,hu,ru⟩:=rv.get hx
  obtain⟨f0,f1,f2,f3,f4,f5⟩:=hf it (by simp)
  refine wpAny_pyNext_list_item st p.isList (x:=u) (by simpa using hu) fun h' st' sb=>?_
  have I1:Inv X pins σ H { s with heap:=h' }:=I.turned (t':=s.toks) (fun b o hb e=>(sb.2 b hb).trans e) f0 f1 f3 f4 f5
  obtain⟨o,e,c,d⟩:=id st'
  exact⟨u,rfl,oP (s:={ s with heap:=h' }) e c d (by decide) ⟨x,H,I1,ru,⟨rfl,fun ys hy=>by rw [I.ve hy hq];exact hx⟩,st',fun b hb=>(hf b hb).1⟩⟩
 done:=by
  intro X hP hw hK hc i pins s σ H E I hf st hg
  subst hP hw hK
  obtain⟨xs,hq,hx⟩:=hg
  obtain⟨its,rv,p,hz⟩:=I.list hq
  obtain⟨f0,f1,f2,f3,f4,f5⟩:=hf it (by simp)
  have hl:=rv.length
  exact wpAny_pyNext_list_end (I.ok.hd hc) st p.isList (by simp;omega) fun h' eb=>⟨rfl,I.turned (t':=s.toks) (fun b o hb e=>eb b o hb e) f0 f1 f3 f4 f5⟩
 self:=fun _ _ _ _ _ st h=>wpAny_pyIter_listiter st h
theorem sk {P:Program} {w:World} {K:PySem.W.Frag} {tg:Expr} (a it:Addr):Turn P w K tg (o5 K a) [it] it (fun i h=>h.IsTupleIter it a i) where
 mem:=by simp
 obj:=fun i h st b hb=>by
  have e:b=it:=by simpa using hb
  subst e
  obtain⟨o,e,c,d⟩:=st
  exact⟨o,e,fun v z=>by rw [d] at z;cases z⟩
 keep:=fun i h h' st k=>st.at fun o e=>k it (by simp) o e
 item:=by
  intro X hP hw hK hc i pins s σ H E I hf st hg
  subst hP hw hK
  obtain⟨xs,x,hq,hx⟩:=hg
  obtain⟨its,rv,p,hz⟩:=I.tuple hq
  obtain⟨u,hu,ru⟩:=rv.get hx
  obtain⟨f0,f1,f2,f3,f4,f5⟩:=hf it (by simp)
  refine wpAny_pyNext_tuple_item st (show s.heap.IsTuple a its.toArray from p) (x:=u) (by simpa using hu) fun h' st' sb=>?_
  have I1:Inv X pins σ H { s with heap:=h' }:=I.turned (t':=s.toks) (fun b o hb e=>(sb.2 b hb).trans e) f0 f1 f3 f4 f5
  obtain⟨o,e,c,d⟩:=id st'
  exact⟨u,rfl,oP (s:={ s with heap:=h' }) e c d (by decide) ⟨x,H,I1,ru,⟨rfl,fun ys hy=>by rw [I.j8 hy hq];exact hx⟩,st',fun b hb=>(hf b hb).1⟩⟩
 done:=by
  intro X hP hw hK hc i pins s σ H E I hf st hg
  subst hP hw hK
  obtain⟨xs,hq,hx⟩:=hg
  obtain⟨its,rv,p,hz⟩:=I.tuple hq
  obtain⟨f0,f1,f2,f3,f4,f5⟩:=hf it (by simp)
  have hl:=rv.length
  exact wpAny_pyNext_tuple_end (I.ok.hd hc) st (show s.heap.IsTuple a its.toArray from p) (by simp;omega) fun h' eb=>⟨rfl,I.turned (t':=s.toks) (fun b o hb e=>eb b o hb e) f0 f1 f3 f4 f5⟩
 self:=fun _ _ _ _ _ st h=>wpAny_pyIter_tupleiter st h
theorem sm {P:Program} {w:World} {K:PySem.W.Frag} {tg:Expr} (it:Addr) (lo:Int) (n:Nat):Turn P w K tg (o6 lo n) [it] it (fun i h=>IsRangeIter h it (lo+(i:Nat) * 1) ((n:Int) - (i:Nat)) 1) where
 mem:=by simp
 obj:=fun i h st b hb=>by
  have e:b=it:=by simpa using hb
  subst e
  exact⟨_,st,fun v z=>by
   have z':Data.fields _=Data.cell v:=z
   cases z'⟩
 keep:=fun i h h' st k=>k it (by simp) _ st
 item:=by
  intro X hP hw hK hc i pins s σ H E I hf st hg
  subst hP hw hK
  obtain⟨f0,f1,f2,f3,f4,f5⟩:=hf it (by simp)
  have W:=Walks.range (prog:=X.prog) (w:=X.w) (I.ok.hd hc) it lo 1 n
  refine W.item i s _ _ hg st fun v h' tk hv st' kk=>?_
  obtain⟨t,rfl⟩:=hv
  have I1:Inv X pins σ H { s with heap:=h',toks:=tk }:=I.turned (fun b o hb e=>kk b o (by simpa using hb) e) f0 f1 f3 f4 f5
  refine⟨_,rfl,oP (s:={ s with heap:=h',toks:=tk }) (n := "range_iterator") st' rfl rfl (by decide) ⟨.int (lo+i),H,I1,⟨t,?_⟩,⟨rfl,rfl⟩,st',fun b hb=>(hf b hb).1⟩⟩
  rw [Int.mul_one]
 done:=by
  intro X hP hw hK hc i pins s σ H E I hf st hg
  subst hP hw hK
  obtain⟨f0,f1,f2,f3,f4,f5⟩:=hf it (by simp)
  exact wpAny_pyNext_range_end (I.ok.hd hc) st (by have:n<=i:=hg;omega) fun h' eb=>⟨rfl,I.turned (t':=s.toks) (fun b o hb e=>eb b o hb e) f0 f1 f3 f4 f5⟩
 self:=fun _ _ _ _ _ st h=>wpAny_pyIter_rangeiter st h
section
variable {X:Cx} {tg:Expr}
def zb (K:PySem.W.Frag) (tl:TE):TI:=fun σ H R=>tl σ H fun x H1=>∃ a,x=.ref a/\(∃ xs,aU K H1 a xs)/\R (ye K a) H1
def zZ (K:PySem.W.Frag) (tl:TE):TI:=fun σ H R=>tl σ H fun x H1=>∃ a,x=.ref a/\(∃ xs,aw K H1 a xs)/\R (o5 K a) H1
theorem mZ {l:Expr} {tl:TE} (hl:PE X l tl):PI X tg l (zb X.K tl):=by
 intro pins s σ H R I h
 refine bf (hl pins s σ H _ I h) fun v s1 ⟨x,H1,I1,r1,q1⟩=>?_
 obtain⟨a,e,⟨xs,hq⟩,q⟩:=q1
 subst e
 cases r1
 obtain⟨its,rv,p,hz⟩:=I1.list hq
 refine wpAny_pyIter_list p.isList ?_
 refine⟨s1.heap.objs.size,[s1.heap.objs.size],_,_,H1,rfl,I1.kept (t':=s1.toks) fun b o e=>Heap.get?_push_of_some _ e,tR a _,⟨_,Heap.get?_push_size _ rfl,rfl,rfl⟩,fun b hb=>?_,q⟩
 have e:b=s1.heap.objs.size:=by simpa using hb
 subst e
 exact I1.lM (Nat.le_refl _) (I1.aN.fresh (Nat.le_refl _))
theorem eh {l:Expr} {tl:TE} (hl:PE X l tl):PI X tg l (zZ X.K tl):=by
 intro pins s σ H R I h
 refine bf (hl pins s σ H _ I h) fun v s1 ⟨x,H1,I1,r1,q1⟩=>?_
 obtain⟨a,e,⟨xs,hq⟩,q⟩:=q1
 subst e
 cases r1
 obtain⟨its,rv,p,hz⟩:=I1.tuple hq
 refine wpAny_pyIter_tuple (show s1.heap.IsTuple a its.toArray from p) ?_
 refine⟨s1.heap.objs.size,[s1.heap.objs.size],_,_,H1,rfl,I1.kept (t':=s1.toks) fun b o e=>Heap.get?_push_of_some _ e,sk a _,⟨_,Heap.get?_push_size _ rfl,rfl,rfl⟩,fun b hb=>?_,q⟩
 have e:b=s1.heap.objs.size:=by simpa using hb
 subst e
 exact I1.lM (Nat.le_refl _) (I1.aN.fresh (Nat.le_refl _))
theorem vi {pins:List (Addr × Obj)} {σ : St} {H:Hp} {s:Shared} {R:It->Hp->Prop} {E:Value->Shared->Prop} {lo hi:Int} {t u v:Tok} {tk:Nat} (I:Inv X pins σ H s) (h1:-(2 ^ 62)<=lo) (h2:lo < 2 ^ 62) (h3:-(2 ^ 62)<=hi) (h4:hi < 2 ^ 62)
  (q:R (o6 lo (hi - lo).toNat) H):wpAny (model X.prog X.w) X.A (pyIter (.ref s.heap.objs.size)) (zE X pins σ tg R) E { s with heap:=s.heap.push { cls:=.type "range",data:=.fields #[.int lo t,.int hi u,.int 1 v] },toks:=tk }:=by
 refine wpAny_pyIter_range (IsRange.new ..) (small_one h1 h2 h3 h4) ?_
 have I1:Inv X pins σ H { s with heap:=s.heap.push { cls:=.type "range",data:=.fields #[.int lo t,.int hi u,.int 1 v] },toks:=tk }:=I.kept fun b o e=>Heap.get?_push_of_some _ e
 refine⟨(s.heap.push { cls:=.type "range",data:=.fields #[.int lo t,.int hi u,.int 1 v] }).objs.size,[(s.heap.push { cls:=.type "range",data:=.fields #[.int lo t,.int hi u,.int 1 v] }).objs.size],_,_,H,rfl,
  I1.kept (t':=tk) fun b o e=>Heap.get?_push_of_some _ e,sm _ lo (hi - lo).toNat,?_,fun b hb=>?_,q⟩
 ·have e1:lo+((0:Nat):Int) * 1=lo:=by simp
  have e2:(((hi - lo).toNat:Nat):Int) - ((0:Nat):Int)=Builtin.Range.rangeSize lo hi 1:=by rw [rangeSize_one];split <;> omega
  show IsRangeIter _ _ (lo+((0:Nat):Int) * 1) ((((hi - lo).toNat:Nat):Int) - ((0:Nat):Int)) 1
  rw [e1,e2]
  exact Heap.get?_push_size _ rfl
 ·have e:b=(s.heap.push { cls:=.type "range",data:=.fields #[.int lo t,.int hi u,.int 1 v] }).objs.size:=by simpa using hb
  subst e
  exact I1.lM (Nat.le_refl _) (I1.aN.fresh (Nat.le_refl _))
def zc (ta:TA):TI:=fun σ H R=>ta σ H fun vs H1=>∃ j:Int,vs = [.int j]/\-(2 ^ 62)<=j/\j < 2 ^ 62/\R (o6 0 j.toNat) H1
theorem eG {a:Expr} {ta:TA} {p pos:Pos} (hg:Gl X "range") (hm:X.mg "range" = none) (ha:PA X [a] ta) (hs:starEach [a] X.env = [(false,eval a X.env)]:=by rfl):PI X tg (.Call (.Name "range" p) [a] [] pos) (zc ta):=by
 intro pins s σ H R I h
 refine Call_ (mn I hg hm boot_range (PyProof.Rows.callWith_type1 (bf (ha pos pins s σ H _ I h) fun us s1 ⟨vs,H1,I1,r1,q1⟩=>?_) hs rfl))
 obtain⟨j,e,q1,q2,q⟩:=q1
 subst e
 cases r1 with
 | cons r rr =>
  cases rr
  obtain⟨t,rfl⟩:=r
  exact call_range_1 (vi I1 (by omega) (by omega) q1 q2 (by simpa using q))
def z5 (wi:TI) (g:TG) (tb:TS):TS:=fun D σ H=>wi σ H fun J H1=>∃ W:Nat->Nat->St->Hp->Prop,(∃ m,W 0 m σ H1)/\∀ i m σ H,W i m σ H ->
 (J.stop i H/\D.nx σ H)\/(J.go i H/\∃ N:St->Hp->Prop,(∀ σ' H',N σ' H'->∃ m',m' < m/\W (i+1) m' σ' H')/\∀ x H',J.rD i H x H'->g x σ H' fun σ2 H2=>tb { D with nx:=N,ct:=N,bk:=D.nx } σ2 H2)
def jq (fp:List Addr) (h:Heap):List (Addr × Obj):=fp.filterMap fun b=>(h.get? b).map fun o=>(b,o)
theorem fD {fp:List Addr} {h:Heap} {b:Addr} {o:Obj} (hb:b ∈ fp) (e:h.get? b=some o):(b,o) ∈ jq fp h:=List.mem_filterMap.mpr ⟨b,hb,by rw [e];rfl⟩
theorem tS {fp:List Addr} {h:Heap} {p:Addr × Obj} (hp:p ∈ jq fp h):p.1 ∈ fp/\h.get? p.1=some p.2:=by
 obtain⟨b,hb,e⟩:=List.mem_filterMap.mp hp
 cases q:h.get? b with
 | none=>rw [q] at e;cases e
 | some o =>
  rw [q] at e
  have e':(b,o)=p:=Option.some.inj e
  subst e'
  exact⟨hb,q⟩
theorem Inv.pinned {pins:List (Addr × Obj)} {σ : St} {H:Hp} {s:Shared} {fp:List Addr} (I:Inv X pins σ H s) (hf:∀ b ∈ fp,gO X pins H b) (ho:∀ b ∈ fp,∃ o,s.heap.get? b=some o/\∀ v,o.data ≠ .cell v):Inv X (pins++jq fp s.heap) σ H s :=
 I.rB fun p hp=>(List.mem_append.mp hp).elim (fun z=>I.pin p (List.mem_append_right _ z)) fun z=>by
  obtain⟨hb,e⟩:=tS z
  obtain⟨f0,f1,f2,_⟩:=hf p.1 hb
  obtain⟨o,e',d⟩:=ho p.1 hb
  rw [e] at e';cases e'
  exact⟨e,f0,f1,f2,d⟩
theorem Inv.gg {pins pl:List (Addr × Obj)} {σ : St} {H:Hp} {s:Shared} (I:Inv X (pins++pl) σ H s):Inv X pins σ H s:=I.rB fun p hp=>I.pin p (List.mem_append_right _ (List.mem_append_left _ hp))
theorem eR {iter:Expr} {body:List Stmt} {wi:TI} {g:TG} {tb:TS} {pos:Pos} (hp:PassesOwn (model X.prog X.w) X.A X.env X.xe) (hc:X.calm=true) (hi:PI X tg iter wi) (hg:PG X tg g) (hb:iP X body tb)
  (hs:∀ x,foldedSetIterable iter X.env x=pure x:=by intro _;rfl):PS X (.For tg iter body [] pos) (z5 wi g tb):=by
 intro pins s σ H D I h
 refine wpAny_For (bf (hi pins s σ H _ I h) fun v s1 h1=>bf h1 fun itv s2 h2=>?_) hs
 obtain⟨it,fp,tn,J,H2,e,I2,T,st2,f2,W,⟨m0,w0⟩,turn⟩:=h2
 subst e
 have stat:∀ {H':Hp},(∀ b ∈ fp,H' b=none)->∀ b ∈ fp,gO X pins H' b:=fun hn b hb=>⟨hn b hb,(f2 b hb).2⟩
 refine codeAny_forLoop_any (fun n s'=>∃ i σ' H',Inv X pins σ' H' s'/\tn i s'.heap/\(∀ b ∈ fp,H' b=none)/\W i n σ' H') ?_ m0 ⟨0,σ,H2,I2,st2,fun b hb=>(f2 b hb).1,w0⟩
 rintro n s3 ⟨i,σ3,H3,I3,st3,fr3,w3⟩
 rcases turn i n σ3 H3 w3 with ⟨stop,qn⟩ | ⟨go,N,hN,step⟩
 ·refine wpAny_passesOwn hp (bf (T.done X rfl rfl rfl hc i pins s3 σ3 H3 X.xe I3 (stat fr3) st3 stop) fun r s4 ⟨hr,I4⟩=>?_)
  subst hr
  exact wpAny_execs_nil ⟨σ3,H3,I4,qn⟩
 ·refine wpAny_passesOwn hp (bf (T.item X rfl rfl rfl hc i pins s3 σ3 H3 X.xe I3 (stat fr3) st3 go) fun r s4 ⟨u,hr,h4⟩=>?_)
  subst hr
  refine wpAny_passesOwn hp (bf h4 fun _ s5 ⟨x,H5,I5,r5,y5,st5,fr5⟩=>?_)
  have I5':=I5.pinned (stat fr5) (T.obj _ _ st5)
  refine wpAny_passesOwn hp (bf (hg _ s5 σ3 H5 x u _ I5' r5 (step x H5 y5)) fun _ s6 ⟨σ6,H6,I6,q6⟩=>?_)
  refine wpAny_passesOwn hp (bf (hb _ s6 σ6 H6 _ I6 q6) fun f s7 q7=>?_)
  have again:∀ {σ7:St} {H7:Hp},Inv X (pins++jq fp s5.heap) σ7 H7 s7->N σ7 H7->∃ m,m < n/\∃ i σ' H',Inv X pins σ' H' s7/\tn i s7.heap/\(∀ b ∈ fp,H' b=none)/\W i m σ' H':=fun {σ7 H7} I7 n7=>by
   obtain⟨m',hm,w7⟩:=hN σ7 H7 n7
   refine⟨m',hm,i+1,σ7,H7,I7.gg,T.keep _ _ _ st5 fun b hb o e=>(I7.pin (b,o) (List.mem_append_right _ (List.mem_append_right _ (fD hb e)))).1,fun b hb=>?_,w7⟩
   obtain⟨o,e,d⟩:=T.obj _ _ st5 b hb
   exact (I7.pin (b,o) (List.mem_append_right _ (List.mem_append_right _ (fD hb e)))).2.1
  cases f with
  | next=>obtain⟨σ7,H7,I7,n7⟩:=q7;exact again I7 n7
  | cont=>obtain⟨σ7,H7,I7,n7⟩:=q7;exact again I7 n7
  | brk=>obtain⟨σ7,H7,I7,q7⟩:=q7;exact⟨σ7,H7,I7.gg,q7⟩
  | ret v=>obtain⟨x7,σ7,H7,I7,r7,q7⟩:=q7;exact⟨x7,σ7,H7,I7.gg,r7,q7⟩
end
theorem iF {K:PySem.W.Frag} {a:Addr} {xs:List V} {g:TG} {tb:TS} {D:Ends} {σ : St} {H:Hp} (Pv:Nat->St->Hp->Prop) (h0:Pv 0 σ H) (hl:∀ i σ H,i<=xs.length->Pv i σ H->aw K H a xs)
  (hs:∀ i x σ H,xs[i]? = some x->Pv i σ H->g x σ H fun σ2 H2=>tb { D with nx:=Pv (i+1),ct:=Pv (i+1),bk:=D.nx } σ2 H2) (hd:∀ σ H,Pv xs.length σ H->D.nx σ H) :
  ∃ W:Nat->Nat->St->Hp->Prop,(∃ m,W 0 m σ H)/\∀ i m σ H,W i m σ H ->
   ((o5 K a).stop i H/\D.nx σ H)\/((o5 K a).go i H/\∃ N:St->Hp->Prop,(∀ σ' H',N σ' H'->∃ m',m' < m/\W (i+1) m' σ' H')/\∀ x H',(o5 K a).rD i H x H'->g x σ H' fun σ2 H2=>tb { D with nx:=N,ct:=N,bk:=D.nx } σ2 H2):=by
 refine⟨fun i m σ H=>m=xs.length - i/\i<=xs.length/\Pv i σ H,⟨xs.length,by simp,Nat.zero_le _,h0⟩,?_⟩
 rintro i m σ H ⟨rfl,hi,p⟩
 have q:=hl i σ H hi p
 by_cases hlt:i < xs.length
 ·refine .inr ⟨⟨xs,xs[i],q,by simp [hlt]⟩,Pv (i+1),fun σ' H' p'=>⟨xs.length - (i+1),by omega,rfl,hlt,p'⟩,fun x H' y=>?_⟩
  obtain⟨e,y⟩:=y
  subst e
  exact hs i x σ _ (y xs q) p
 ·have e:i=xs.length:=by omega
  subst e
  exact .inl ⟨⟨xs,q,Nat.le_refl _⟩,hd σ H p⟩
theorem ib {lo:Int} {n:Nat} {g:TG} {tb:TS} {D:Ends} {σ : St} {H:Hp} (Pv:Nat->St->Hp->Prop) (h0:Pv 0 σ H)
  (hs:∀ i σ H,i < n->Pv i σ H->g (.int (lo+i)) σ H fun σ2 H2=>tb { D with nx:=Pv (i+1),ct:=Pv (i+1),bk:=D.nx } σ2 H2) (hd:∀ σ H,Pv n σ H->D.nx σ H) :
  ∃ W:Nat->Nat->St->Hp->Prop,(∃ m,W 0 m σ H)/\∀ i m σ H,W i m σ H ->
   ((o6 lo n).stop i H/\D.nx σ H)\/((o6 lo n).go i H/\∃ N:St->Hp->Prop,(∀ σ' H',N σ' H'->∃ m',m' < m/\W (i+1) m' σ' H')/\∀ x H',(o6 lo n).rD i H x H'->g x σ H' fun σ2 H2=>tb { D with nx:=N,ct:=N,bk:=D.nx } σ2 H2):=by
 refine⟨fun i m σ H=>m=n - i/\i<=n/\Pv i σ H,⟨n,by simp,Nat.zero_le _,h0⟩,?_⟩
 rintro i m σ H ⟨rfl,hi,p⟩
 by_cases hlt:i < n
 ·refine .inr ⟨hlt,Pv (i+1),fun σ' H' p'=>⟨n - (i+1),by omega,rfl,hlt,p'⟩,fun x H' y=>?_⟩
  obtain⟨e,y⟩:=y
  subst e y
  exact hs i σ _ hlt p
 ·have e:i=n:=by omega
  subst e
  exact .inl ⟨Nat.le_refl _,hd σ H p⟩
abbrev R2:=V->V->Hp->VK->Prop
def eS (X:Cx) (f:Value->Value->Sem Value) (r:R2):Prop :=
 ∀ (pins:List (Addr × Obj)) (s:Shared) (σ : St) (H:Hp) (x y:V) (v u:Value) (Q:VK),Inv X pins σ H s->RelV x v->RelV y u->r x y H Q ->
  wpAny (model X.prog X.w) X.A (f v u) (EP X pins σ Q) X.xe s
def yf (X:Cx) (f:Value->Sem Value) (r:V->Hp->VK->Prop):Prop :=
 ∀ (pins:List (Addr × Obj)) (s:Shared) (σ : St) (H:Hp) (x:V) (v:Value) (Q:VK),Inv X pins σ H s->RelV x v->r x H Q ->
  wpAny (model X.prog X.w) X.A (f v) (EP X pins σ Q) X.xe s
def fE (X:Cx) (f:Value) (r:List V->Hp->VK->Prop):Prop :=
 ∀ (pins:List (Addr × Obj)) (s:Shared) (σ : St) (H:Hp) (xs:List V) (us:List Value) (Q:VK),Inv X pins σ H s->Vals xs us->r xs H Q ->
  wpAny (model X.prog X.w) X.A (call f us) (EP X pins σ Q) X.xe s
def tT (r:R2) (ta tb:TE):TE:=fun σ H Q=>ta σ H fun x H1=>tb σ H1 fun y H2=>r x y H2 Q
def An (r:V->Hp->VK->Prop) (ta:TE):TE:=fun σ H Q=>ta σ H fun x H1=>r x H1 Q
def rI (C:Int->Int->Prop) (g:Int->Int->V):R2:=fun x y H Q=>∃ i j,x=.int i/\y=.int j/\C i j/\Q (g i j) H
def o7 (g:Int->Int->V):R2:=fun x y H Q=>∃ i j,x=.int i/\y=.int j/\Q (g i j) H
def rU (g:Int->V):V->Hp->VK->Prop:=fun x H Q=>∃ i,x=.int i/\Q (g i) H
section
variable {X:Cx} {a b c:Expr} {ta tb tc:TE} {pos:Pos}
theorem vj (ha:PE X a ta) (hb:PE X b tb) {pins:List (Addr × Obj)} {s:Shared} {σ : St} {H:Hp} {R:V->V->Hp->Prop} (I:Inv X pins σ H s)
  (h:ta σ H fun x H1=>tb σ H1 fun y H2=>R x y H2) {Q:Value->Shared->Prop} {f:Value->Value->Sem Value}
  (hf:∀ v u s2 x y H2,Inv X pins σ H2 s2->RelV x v->RelV y u->R x y H2->wpAny (model X.prog X.w) X.A (f v u) Q X.xe s2) :
  wpAny (model X.prog X.w) X.A (eval a X.env) (fun v s₁=>wpAny (model X.prog X.w) X.A (eval b X.env) (fun u s₂=>wpAny (model X.prog X.w) X.A (f v u) Q X.xe s₂) X.xe s₁) X.xe s:=by
 refine bf (ha pins s σ H _ I h) fun v s1 ⟨x,H1,I1,r1,q1⟩=>?_
 refine bf (hb pins s1 σ H1 _ I1 q1) fun u s2 ⟨y,H2,I2,r2,q2⟩=>?_
 exact hf v u s2 x y H2 I2 r1 r2 q2
theorem aZ {op:Operator} {r:R2} (ho:eS X (binaryOp op) r) (ha:PE X a ta) (hb:PE X b tb):PE X (.BinOp a op b pos) (tT r ta tb):=by
 intro pins s σ H Q I h
 exact wpAny_BinOp (vj ha hb I h fun v u s2 x y H2 I2 rx ry q=>ho pins s2 σ H2 x y v u Q I2 rx ry q)
theorem wW {op:UnaryOp} {r:V->Hp->VK->Prop} (ho:yf X (unaryOp op) r) (ha:PE X a ta):PE X (.UnaryOp op a pos) (An r ta):=by
 intro pins s σ H Q I h
 exact UnaryOp_ (bf (ha pins s σ H _ I h) fun v s1 ⟨x,H1,I1,r1,q1⟩=>ho pins s1 σ H1 x v Q I1 r1 q1)
theorem rE {f:Value->Value->Sem Value} {C:Int->Int->Prop} {g:Int->Int->Int}
  (rule:∀ (i j:Int) (t u:Tok) (s:Shared) (Q:Value->Shared->Prop) (E:Value->Shared->Prop),C i j->Q (.int (g i j) s.toks) { s with toks:=s.toks+1 }->wpAny (model X.prog X.w) X.A (f (.int i t) (.int j u)) Q E s) :
  eS X f (rI C fun i j=>.int (g i j)):=by
 intro pins s σ H x y v u Q I rx ry h
 obtain⟨i,j,rfl,rfl,hc,q⟩:=h
 obtain⟨t,rfl⟩:=rx
 obtain⟨t',rfl⟩:=ry
 exact rule i j t t' s _ _ hc ⟨.int (g i j),H,I.tok _,⟨_,rfl⟩,q⟩
theorem yg {f:Value->Value->Sem Value} {g:Int->Int->Int}
  (rule:∀ (i j:Int) (t u:Tok) (s:Shared) (Q:Value->Shared->Prop) (E:Value->Shared->Prop),Q (.int (g i j) s.toks) { s with toks:=s.toks+1 }->wpAny (model X.prog X.w) X.A (f (.int i t) (.int j u)) Q E s) :
  eS X f (o7 fun i j=>.int (g i j)):=by
 intro pins s σ H x y v u Q I rx ry h
 obtain⟨i,j,rfl,rfl,q⟩:=h
 obtain⟨t,rfl⟩:=rx
 obtain⟨t',rfl⟩:=ry
 exact rule i j t t' s _ _ ⟨.int (g i j),H,I.tok _,⟨_,rfl⟩,q⟩
theorem vk {f:Value->Value->Sem Value} {g:Int->Int->Bool}
  (rule:∀ (i j:Int) (t u:Tok) (s:Shared) (Q:Value->Shared->Prop) (E:Value->Shared->Prop),Q (.bool (g i j)) s->wpAny (model X.prog X.w) X.A (f (.int i t) (.int j u)) Q E s) :
  eS X f (o7 fun i j=>.bl (g i j)):=by
 intro pins s σ H x y v u Q I rx ry h
 obtain⟨i,j,rfl,rfl,q⟩:=h
 obtain⟨t,rfl⟩:=rx
 obtain⟨t',rfl⟩:=ry
 exact rule i j t t' s _ _ ⟨.bl (g i j),H,I,rfl,q⟩
def z6 (i j:Int):Prop:=0 < j/\j < 1073741824
def z7 (i j:Int):Prop:=0<=j/\j<=1000000/\i.natAbs < 2 ^ 64
def vm (i j:Int):Prop:=(-(2 ^ 64) < i/\i < 2 ^ 64)\/(-(2 ^ 64) < j/\j < 2 ^ 64)
theorem vm.ok {i j:Int} (h:vm i j):IntMulOk i j:=by
 rcases h with ⟨h1,h2⟩ | ⟨h1,h2⟩
 ·exact .of_left (intBits_le_64 h1 h2)
 ·exact .of_right (intBits_le_64 h1 h2)
theorem cH:eS X (binaryOp .Add) (o7 fun i j=>.int (i+j)):=yg fun _ _ _ _ _ _ _ q=>add_int q
theorem gC:eS X (binaryOp .Sub) (o7 fun i j=>.int (i - j)):=yg fun _ _ _ _ _ _ _ q=>sub_int q
theorem iQ:eS X (binaryOp .Mult) (rI vm fun i j=>.int (i * j)):=rE fun _ _ _ _ _ _ _ hc q=>mul_int q hc.ok
theorem rF:eS X (binaryOp .FloorDiv) (rI z6 fun i j=>.int (i / j)):=rE fun i j _ _ _ _ _ hc q=>by
 have h1:(0:Int) < j:=hc.1
 have h2:j < 1073741824:=hc.2
 exact floordiv_int (by omega) (by rw [Int.fdiv_eq_ediv_of_nonneg i (by omega)];exact q) (.inl (PyProof.noPylong_small (by omega)))
theorem iR:eS X (binaryOp .Mod) (rI (fun _ j=>0 < j) fun i j=>.int (i % j)):=rE fun i j _ _ _ _ _ hc q=>by
 have h1:(0:Int) < j:=hc
 exact mod_int' (by omega) (by rw [Int.fmod_eq_emod_of_nonneg i (by omega)];exact q)
theorem mw:eS X (binaryOp .Pow) (rI z7 fun i j=>.int (i ^ j.toNat)):=rE fun _ _ _ _ _ _ _ hc q=>pow_int_small hc.1 hc.2.1 hc.2.2 q
theorem Ao {f:Value->Sem Value} {g:Int->Int}
  (rule:∀ (i:Int) (t:Tok) (s:Shared) (Q:Value->Shared->Prop) (E:Value->Shared->Prop),Q (.int (g i) s.toks) { s with toks:=s.toks+1 }->wpAny (model X.prog X.w) X.A (f (.int i t)) Q E s) :
  yf X f (rU fun i=>.int (g i)):=by
 intro pins s σ H x v Q I rx h
 obtain⟨i,rfl,q⟩:=h
 obtain⟨t,rfl⟩:=rx
 exact rule i t s _ _ ⟨.int (g i),H,I.tok _,⟨_,rfl⟩,q⟩
theorem tU:yf X (unaryOp .USub) (rU fun i=>.int (-i)):=Ao fun _ _ _ _ _ q=>neg_int q
end
def vn:V->V->Bool
 | .aS,.aS=>true | .aS,.int _=>true | .int _,.aS=>true | .aS,.bl _=>true | .bl _,.aS=>true | .aS,.str _=>true | .str _,.aS=>true
 | .int _,.int _=>true | .bl _,.bl _=>true | .str _,.str _=>true | .jU _,.jU _=>true
 | .int _,.str _=>true | .str _,.int _=>true | .bl _,.str _=>true | .str _,.bl _=>true
 | _,_=>false
def Ap:R2:=fun x y H Q=>vn x y=true/\Q (.bl (decide (x=y))) H
def Aq:R2:=fun x y H Q=>vn x y=true/\Q (.bl (!decide (x=y))) H
theorem rG {i j:Int}:decide (V.int i=V.int j)=(i == j):=by
 rw [Bool.eq_iff_iff]
 simp
theorem tV {i j:Bool}:decide (V.bl i=V.bl j)=(i == j):=by
 rw [Bool.eq_iff_iff]
 simp
theorem rH {i j:Str}:decide (V.str i=V.str j)=(i == j):=by
 rw [Bool.eq_iff_iff]
 simp
theorem rJ {i j:Array UInt8}:decide (V.jU i=V.jU j)=(i.toList == j.toList):=by
 rw [Bool.eq_iff_iff]
 cases i
 cases j
 simp
section
variable {X:Cx} {a b c:Expr} {ta tb tc:TE} {pos:Pos}
theorem bO {pins:List (Addr × Obj)} {σ : St} {H:Hp} {s:Shared} {Q:VK} {k k':Bool} (I:Inv X pins σ H s) (q:Q (.bl k) H) (e:k=k'):EP X pins σ Q (.bool k') s:=by
 subst e
 exact⟨.bl k,H,I,rfl,q⟩
theorem bG:eS X (compareOp .Eq) Ap:=by
 intro pins s σ H x y v u Q I rx ry h
 obtain⟨hs,q⟩:=h
 cases x with
 | aS =>
  cases rx
  cases y with
  | aS=>cases ry;exact PySem.EqNone.eq_none_none (bO I q (by simp))
  | bl j=>cases ry;exact PySem.EqNone.eq_none_bool (bO I q (by simp))
  | int j=>obtain⟨t',rfl⟩:=ry;exact PySem.EqNone.eq_none_int (bO I q (by simp))
  | str j=>obtain⟨t',rfl⟩:=ry;exact PySem.EqNone.eq_none_str (bO I q (by simp))
  | _=>exact absurd (show false=true from hs) Bool.false_ne_true
 | bl i =>
  cases rx
  cases y with
  | aS=>cases ry;exact PySem.EqNone.eq_bool_none (bO I q (by simp))
  | bl j=>cases ry;exact eq_bool (bO I q tV)
  | str j=>obtain⟨t',rfl⟩:=ry;exact PySem.EqMixed.eq_bool_str (bO I q (by simp))
  | _=>exact absurd (show false=true from hs) Bool.false_ne_true
 | int i =>
  obtain⟨t,rfl⟩:=rx
  cases y with
  | aS=>cases ry;exact PySem.EqNone.eq_int_none (bO I q (by simp))
  | int j=>obtain⟨t',rfl⟩:=ry;exact eq_int (bO I q rG)
  | str j=>obtain⟨t',rfl⟩:=ry;exact PySem.EqMixed.eq_int_str (bO I q (by simp))
  | _=>exact absurd (show false=true from hs) Bool.false_ne_true
 | str i =>
  obtain⟨t,rfl⟩:=rx
  cases y with
  | aS=>cases ry;exact PySem.EqNone.eq_str_none (bO I q (by simp))
  | bl j=>cases ry;exact PySem.EqMixed.eq_str_bool (bO I q (by simp))
  | int j=>obtain⟨t',rfl⟩:=ry;exact PySem.EqMixed.eq_str_int (bO I q (by simp))
  | str j=>obtain⟨t',rfl⟩:=ry;exact eq_str (bO I q rH)
  | _=>exact absurd (show false=true from hs) Bool.false_ne_true
 | jU i =>
  obtain⟨t,rfl⟩:=rx
  cases y with
  | jU j=>obtain⟨t',rfl⟩:=ry;exact PySem.W.eq_bytes (bO I q rJ)
  | _=>exact absurd (show false=true from hs) Bool.false_ne_true
 | _=>cases y <;> exact absurd (show false=true from hs) Bool.false_ne_true
theorem zd:eS X (compareOp .NotEq) Aq:=by
 intro pins s σ H x y v u Q I rx ry h
 obtain⟨hs,q⟩:=h
 cases x with
 | aS =>
  cases rx
  cases y with
  | aS=>cases ry;exact PySem.EqNone.ne_none_none (bO I q (by simp))
  | bl j=>cases ry;exact PySem.EqNone.ne_none_bool (bO I q (by simp))
  | int j=>obtain⟨t',rfl⟩:=ry;exact PySem.EqNone.ne_none_int (bO I q (by simp))
  | str j=>obtain⟨t',rfl⟩:=ry;exact PySem.EqNone.ne_none_str (bO I q (by simp))
  | _=>exact absurd (show false=true from hs) Bool.false_ne_true
 | bl i =>
  cases rx
  cases y with
  | aS=>cases ry;exact PySem.EqNone.ne_bool_none (bO I q (by simp))
  | bl j=>cases ry;exact ne_bool (bO I q (congrArg not tV))
  | str j=>obtain⟨t',rfl⟩:=ry;exact PySem.EqMixed.ne_bool_str (bO I q (by simp))
  | _=>exact absurd (show false=true from hs) Bool.false_ne_true
 | int i =>
  obtain⟨t,rfl⟩:=rx
  cases y with
  | aS=>cases ry;exact PySem.EqNone.ne_int_none (bO I q (by simp))
  | int j=>obtain⟨t',rfl⟩:=ry;exact ne_int (bO I q (congrArg not rG))
  | str j=>obtain⟨t',rfl⟩:=ry;exact PySem.EqMixed.ne_int_str (bO I q (by simp))
  | _=>exact absurd (show false=true from hs) Bool.false_ne_true
 | str i =>
  obtain⟨t,rfl⟩:=rx
  cases y with
  | aS=>cases ry;exact PySem.EqNone.ne_str_none (bO I q (by simp))
  | bl j=>cases ry;exact PySem.EqMixed.ne_str_bool (bO I q (by simp))
  | int j=>obtain⟨t',rfl⟩:=ry;exact PySem.EqMixed.ne_str_int (bO I q (by simp))
  | str j=>obtain⟨t',rfl⟩:=ry;exact ne_str (bO I q (congrArg not rH))
  | _=>exact absurd (show false=true from hs) Bool.false_ne_true
 | jU i =>
  obtain⟨t,rfl⟩:=rx
  cases y with
  | jU j=>obtain⟨t',rfl⟩:=ry;exact PySem.W.ne_bytes (bO I q (congrArg not rJ))
  | _=>exact absurd (show false=true from hs) Bool.false_ne_true
 | _=>cases y <;> exact absurd (show false=true from hs) Bool.false_ne_true
theorem i4:eS X (compareOp .Lt) (o7 fun i j=>.bl (decide (i < j))):=vk fun _ _ _ _ _ _ _ q=>lt_int q
theorem oQ:eS X (compareOp .LtE) (o7 fun i j=>.bl (decide (i<=j))):=vk fun _ _ _ _ _ _ _ q=>le_int q
theorem kH:eS X (compareOp .Gt) (o7 fun i j=>.bl (decide (j < i))):=vk fun _ _ _ _ _ _ _ q=>gt_int q
theorem aK (b:Expr) {op:CmpOp} (h:op ≠ .In:=by decide) (h2:op ≠ .NotIn:=by decide):behindInMarks op b=false:=by
 have e1:(op == CmpOp.In)=false:=by cases op <;> first | rfl | exact absurd rfl h
 have e2:(op == CmpOp.NotIn)=false:=by cases op <;> first | rfl | exact absurd rfl h2
 cases b <;> simp [behindInMarks,e1,e2]
theorem fF {op:CmpOp} {r:R2} (ho:eS X (compareOp op) r) (ha:PE X a ta) (hb:PE X b tb) (hm:behindInMarks op b=false):PE X (.Compare a [op] [b] pos) (tT r ta tb):=by
 intro pins s σ H Q I h
 exact wpAny_Compare1 (vj ha hb I h fun v u s2 x y H2 I2 rx ry q=>ho pins s2 σ H2 x y v u Q I2 rx ry q) hm
def ze (t:TE):TT:=fun σ H Q=>t σ H fun x H'=>∃ k,x=.bl k/\Q k H'
theorem aJ {op:CmpOp} {r:R2} (ho:eS X (compareOp op) r) (ha:PE X a ta) (hb:PE X b tb) (hm:behindInMarks op b=false):PT X (.Compare a [op] [b] pos) (ze (tT r ta tb)):=by
 intro pins s σ H Q I h
 refine wpAny_isTrue_Compare1 (bf (ha pins s σ H _ I h) fun v s1 ⟨x,H1,I1,r1,q1⟩=>bf (hb pins s1 σ H1 _ I1 q1) fun u s2 ⟨y,H2,I2,r2,q2⟩ =>
  bf (ho pins s2 σ H2 x y v u _ I2 r1 r2 q2) fun c s3 ⟨z,H3,I3,r3,k,e,q3⟩=>?_) hm
 subst e
 cases r3
 exact wpAny_truthy_bool ⟨H3,I3,q3⟩
theorem jr:(sizeLine:Nat) < 2 ^ 63:=by rw [sizeLine_eq];decide
theorem vals1 {x:V} {us:List Value} (r:Vals [x] us):∃ u,us = [u]/\RelV x u:=by
 cases r with
 | cons r1 r2=>cases r2;exact⟨_,rfl,r1⟩
theorem vals2 {x y:V} {us:List Value} (r:Vals [x,y] us):∃ u w',us = [u,w']/\RelV x u/\RelV y w':=by
 cases r with
 | cons r1 r2 =>
  cases r2 with
  | cons r3 r4=>cases r4;exact⟨_,_,rfl,r1,r3⟩
theorem tW (hc:X.calm=true):fE X (.builtin "max") (fun xs H Q=>∃ i j,xs = [.int i,.int j]/\Q (.int (if j > i then j else i)) H):=by
 intro pins s σ H xs us Q I r h
 obtain⟨i,j,rfl,q⟩:=h
 obtain⟨u,w',rfl,⟨t,rfl⟩,⟨t',rfl⟩⟩:=vals2 r
 refine max_two_ints (I.ok.hd hc) fun h' tk k=>⟨_,H,I.kept k,?_,q⟩
 by_cases hj:j > i
 ·rw [if_pos hj,if_pos hj];exact⟨_,rfl⟩
 ·rw [if_neg hj,if_neg hj];exact⟨_,rfl⟩
theorem j9 (hc:X.calm=true):fE X (.builtin "min") (fun xs H Q=>∃ i j,xs = [.int i,.int j]/\Q (.int (if j < i then j else i)) H):=by
 intro pins s σ H xs us Q I r h
 obtain⟨i,j,rfl,q⟩:=h
 obtain⟨u,w',rfl,⟨t,rfl⟩,⟨t',rfl⟩⟩:=vals2 r
 refine min_two_ints (I.ok.hd hc) fun h' tk k=>⟨_,H,I.kept k,?_,q⟩
 by_cases hj:j < i
 ·rw [if_pos hj,if_pos hj];exact⟨_,rfl⟩
 ·rw [if_neg hj,if_neg hj];exact⟨_,rfl⟩
theorem i5:fE X (.type "int") (fun xs H Q=>(∃ i,xs = [.int i]/\Q (.int i) H)\/∃ k,xs = [.bl k]/\Q (.int (if k then 1 else 0)) H):=by
 intro pins s σ H xs us Q I r h
 rcases h with ⟨i,rfl,q⟩ | ⟨k,rfl,q⟩
 ·obtain⟨u,rfl,t,rfl⟩:=vals1 r
  exact call_int_int ⟨.int i,H,I,⟨_,rfl⟩,q⟩
 ·obtain⟨u,rfl,r1⟩:=vals1 r
  cases r1
  exact call_int_bool ⟨.int (if k then 1 else 0),H,I.tok _,⟨_,rfl⟩,q⟩
end
section
variable {prog:Program} {w:World} {A:Around} {E:Value->Shared->Prop} {s:Shared} {K:PySem.W.Frag} {x dx C f:Addr} {mA:Str->Option Value} {name:Str} {v:Value}
end
theorem fU.some_of {v:V} {o:Option Value} (r:fU (some v) o):∃ u,o=some u/\RelV v u:=by
 cases o with
 | none=>exact (show False from r).elim
 | some u=>exact⟨u,rfl,r⟩
theorem fU.none_of {o:Option Value} (r:fU none o):o=none:=by
 cases o with
 | none=>rfl
 | some u=>exact (show False from r).elim
section
variable {P:Program} {w:World} {H H':Hp} {h h':Heap} {a C dx:Addr} {fs fs':List (Str × V)}
end
section
variable {X:Cx} {pins:List (Addr × Obj)} {σ : St} {H:Hp} {s:Shared} {a C dx:Addr} {fs:List (Str × V)} {f:Str} {v:V} {A:Around} {E:Value->Shared->Prop}
end
section
variable {X:Cx} {o e value:Expr} {f:Str} {pos pos' tpos:Pos} {ta tv:TE}
end
section
variable {X:Cx} {pins:List (Addr × Obj)} {σ : St} {H:Hp} {s:Shared} {A:Around} {E:Value->Shared->Prop} {Q:Value->Shared->Prop} {c:Value} {b:Bool}
end
structure eM (k:Nat) (A:Around):Prop where
 hd:A.handled=none
 dp:A.depth+3 * k+5 < recursionLimit
 un:A.units+16 * k+200 < cLine
theorem eM.mono {j k:Nat} {A:Around} (r:eM k A) (h:j<=k):eM j A:=⟨r.hd,by have:=r.dp;omega,by have:=r.un;omega⟩
theorem eM.deeper {k:Nat} {A:Around} (r:eM (k+1) A) (env:Env):eM k (A.deeper env) :=
 ⟨r.hd,by have:=r.dp;show A.depth+1+3 * k+5 < _;omega,by have:=r.un;show A.units+3+16 * k+200 < _;omega⟩
theorem eM.depth {k:Nat} {A:Around} (r:eM k A):A.depth < recursionLimit:=by have:=r.dp;omega
theorem eM.units {k:Nat} {A:Around} (r:eM k A):A.units+64 < cLine:=by have:=r.un;omega
def gh:TA:=fun _ H Q=>Q [] H
def bZ (ta:TE) (tr:TA):TA:=fun σ H Q=>ta σ H fun x H1=>tr σ H1 fun xs H2=>Q (x :: xs) H2
section
variable {X:Cx} {e:Expr} {es:List Expr} {te:TE} {t:TA} {pos:Pos}
theorem af:PA X [] gh:=fun _ _ _ _ H Q I h=>Calls.spliced_nil ⟨[],H,I,.nil,h⟩
theorem aa (ha:PE X e te) (hr:PA X es t) (hs:starEach (e :: es) X.env=(false,eval e X.env) :: starEach es X.env:=by rfl):PA X (e :: es) (bZ te t):=by
 intro pos pins s σ H Q I h
 rw [hs]
 show wpAny _ _ (spliced ((false,eval e X.env) :: backTo pos (starEach es X.env))) _ _ s
 refine Calls.spliced_cons (bf (ha pins s σ H _ I h) fun u s1 ⟨x,H1,I1,r1,q1⟩=>?_)
 exact bf (hr pos pins s1 σ H1 _ I1 q1) fun us s2 ⟨xs,H2,I2,r2,q2⟩=>⟨x :: xs,H2,I2,.cons r1 r2,q2⟩
def iS (t:TA):TE:=fun σ H Q=>t σ H fun xs H1=>xs.length<=sizeLine/\∀ p,H1 p=none->Q (.ref p) (upd H1 p (.tup xs))
def vo (t:TA):TE:=fun σ H Q=>t σ H fun xs H1=>xs.length<=sizeLine/\∀ p,H1 p=none->Q (.ref p) (upd H1 p (.lst xs))
theorem bg {x1} (h:PA X es t):PE X (.Tuple es x1 pos) (iS t):=by
 intro pins s σ H Q I hq
 refine wpAny_Tuple_spliced (bf (h pos pins s σ H _ I hq) fun us s1 ⟨xs,H1,I1,r,z,q⟩=>⟨by rw [<-r.length];exact z,?_⟩)
 have hf:H1 s1.heap.objs.size=none:=I1.aN.fresh (Nat.le_refl _)
 refine⟨.ref s1.heap.objs.size,upd H1 s1.heap.objs.size (.tup xs),I1.laid (t':=s1.toks) (fun b u e=>Heap.get?_push_of_some _ e) (Nat.le_refl _) ?_,rfl,q _ hf⟩
 exact⟨z,us,r,⟨_,Heap.get?_push_size _ rfl,rfl,_,rfl,rfl⟩⟩
theorem cu (h:PA X es t):PE X (.List es pos) (vo t):=by
 intro pins s σ H Q I hq
 refine wpAny_List_spliced (bf (h pos pins s σ H _ I hq) fun us s1 ⟨xs,H1,I1,r,z,q⟩=>⟨by rw [<-r.length];exact z,?_⟩)
 have hf:H1 s1.heap.objs.size=none:=I1.aN.fresh (Nat.le_refl _)
 refine⟨.ref s1.heap.objs.size,upd H1 s1.heap.objs.size (.lst xs),I1.laid (t':=s1.toks) (fun b u e=>Heap.get?_push_of_some _ e) (Nat.le_refl _) ?_,rfl,q _ hf⟩
 exact⟨z,us,0,r,Heap.get?_push_size _ rfl⟩
end
abbrev Sp:=List V->Hp->VK->XK->Prop
abbrev ka:=List Env->Hp->Shared->XK->Value->Shared->Prop
structure sr (P:Program) (w:World) (K:PySem.W.Frag) (mg:Str->Option Value) (base:Heap) (A:Around) (outer:List Env) (s:Shared) (H:Hp):Prop where
 frames:A.frames=some outer
 mod:Mod K mg base
 bs:∀ b o,base.get? b=some o->s.heap.get? b=some o/\H b=none
 nK:base.objs.size<=s.heap.objs.size
 iO:s.heap.FunFrames base outer
 rn:∀ b ∈ j4 outer,H b=none
 aN:dC P w H s.heap
 bare:AllBare s.gens
def CE (outer:List Env) (P:Program) (w:World) (H:Hp) (s:Shared) (Q:VK) (u:Value) (s':Shared):Prop :=
 ∃ v H',s'.os=s.os/\AllBare s'.gens/\Un (j4 outer) [] H H' s.heap s'.heap/\dC P w H' s'.heap/\RelV v u/\Q v H'
def CR (CX:ka) (outer:List Env) (P:Program) (w:World) (H:Hp) (s:Shared) (Q:VK) (E:XK) (r:Result) (s':Shared):Prop :=
 match r with
 | .ok (.ret u)=>CE outer P w H s Q u s'
 | .ok _=>False
 | .error e=>CX outer H s E e s'
structure bB (P:Program) (w:World) (K:PySem.W.Frag) (mg:Str->Option Value) (base:Heap) (CX:ka) (k:Nat) (f:Addr) (fd:FuncData) (ps:List Str) (sp:Sp):Prop where
 len:∀ vs H Q E,sp vs H Q E->vs.length=ps.length
 run:∀ (A:Around) (outer:List Env) (s:Shared) (H:Hp) (args:Args) (us:List Value) (vs:List V) (Q:VK) (E:XK),eM k A->sr P w K mg base A outer s H->BindsTo s fd args (ps.zip us)->Vals vs us->sp vs H Q E ->
  codeAny (model P w) A (.call (.ref f) args) (CR CX outer P w H s Q E) s
section
variable {X:Cx} {pins:List (Addr × Obj)} {σ : St} {H:Hp} {s s':Shared}
theorem Inv.z8 (I:Inv X pins σ H s):sr X.prog X.w X.K X.mg X.base X.A X.stack s H :=
 ⟨I.ok.frames,I.ok.mod,I.bs,Nat.le_trans I.ok.nK I.sz,I.stack,I.rA,I.aN,I.bare⟩
theorem Inv.after {Q:VK} {u:Value} (I:Inv X pins σ H s) (h:CE X.stack X.prog X.w H s Q u s'):EP X pins σ Q u s':=by
 obtain⟨v,H',os,bare,un,aN,r,q⟩:=h
 obtain⟨hh,g,d,t,os'⟩:=s'
 obtain rfl:os' = s.os:=os
 exact⟨v,H',I.call (h':=hh) (g':=g) (d':=d) (t':=t) (ch:=[]) un aN bare (fun b z=>absurd z (by simp)),r,q⟩
end
def sx (sp:Sp) (dvs:List V) (E:XK) (t:TA):TE:=fun σ H Q=>t σ H fun vs H1=>sp (vs++dvs) H1 Q E
def Binds (K:PySem.W.Frag) (fd:FuncData) (ps:List Str) (ds:List Value):Prop :=
 ∀ (s:Shared) (us:List Value),K.In s.heap->(us++ds).length=ps.length->BindsTo s fd ⟨us,[]⟩ (ps.zip (us++ds))
theorem Binds.all {K:PySem.W.Frag} {fd:FuncData} {ps:List Str} (h:∀ us:List Value,us.length=ps.length->bindArgs fd ⟨us,[]⟩=pure (ps.zip us)):Binds K fd ps []:=fun s us _ hl=>by
 rw [List.append_nil] at hl ⊢
 exact .of_eq (h us hl)
def Passes (CX:ka) (X:Cx) (E:XK):Prop:=∀ (pins:List (Addr × Obj)) (σ : St) (H:Hp) (s:Shared) (e:Value) (s':Shared),Inv X pins σ H s->CX X.stack H s E e s'->X.xe e s'
section
variable {X:Cx} {CX:ka} {k:Nat} {f C:Addr} {fd:FuncData} {ps:List Str} {sp:Sp} {dvs:List V} {ds:List Value} {E:XK} {x m:Str} {p pos apos:Pos} {e o:Expr} {es:List Expr} {ta:TE} {t:TA}
theorem yh {pins:List (Addr × Obj)} {σ : St} {H:Hp} {s:Shared} {Q:VK} {us:List Value} {vs:List V} (F:bB X.prog X.w X.K X.mg X.base CX k f fd ps sp) (hr:eM k X.A) (hb:Binds X.K fd ps ds) (hd:Vals dvs ds) (hx:Passes CX X E)
  (I:Inv X pins σ H s) (r:Vals vs us) (h:sp (vs++dvs) H Q E):wpAny (model X.prog X.w) X.A (call (.ref f) us) (EP X pins σ Q) X.xe s:=by
 have r2:Vals (vs++dvs) (us++ds):=r.append hd
 have hl:(us++ds).length=ps.length:=by rw [<-r2.length];exact F.len _ _ _ _ h
 refine wpAny_call (codeAny_mono (F.run X.A X.stack s H ⟨us,[]⟩ (us++ds) (vs++dvs) Q E hr I.z8 (hb s us I.nL hl) r2 h) fun r s' hq=>?_)
 cases r with
 | error e=>exact hx pins σ H s e s' I hq
 | ok fl =>
  cases fl with
  | ret u=>exact I.after hq
  | next=>exact False.elim hq
  | brk=>exact False.elim hq
  | cont=>exact False.elim hq
theorem xi (F:bB X.prog X.w X.K X.mg X.base CX k f fd ps sp) (hr:eM k X.A) (hg:Gl X x) (hm:X.mg x=some (.ref f)) (hk:PySem.W.keepIn X.K (.ref f)=true) (hb:Binds X.K fd ps ds) (hd:Vals dvs ds) (hx:Passes CX X E)
  (ha:PA X (e :: es) t) (hdb:(x == ("__debug__" : Str))=false:=by decide) (he:starEach (e :: es) X.env=(false,eval e X.env) :: starEach es X.env:=by rfl) (hpl:(backTo pos (starEach es X.env)).any (·.1)=false:=by rfl) :
  PE X (.Call (.Name x p) (e :: es) [] pos) (sx sp dvs E t):=by
 intro pins s σ H Q I h
 refine wpAny_Call_Name_kw (rC I hg hm ?_ hdb)
 refine PySem.W.callWith_K (h₀:=X.base) I.ok.mod.xZ hk (bf (ha pos pins s σ H _ I h) fun us s1 ⟨vs,H1,I1,r,q⟩=>⟨I1.nL,?_⟩) he hpl
 exact yh F hr hb hd hx I1 r q
end
section
variable {X:Cx} {CX:ka} {k:Nat} {f C:Addr} {fd:FuncData} {ps ks:List Str} {sp:Sp} {E:XK} {x m:Str} {p pos apos kpos:Pos} {e o:Expr} {es:List Expr} {kws:List Keyword} {te ta:TE} {t tk:TA} {nm:Option Str}
variable {g:List Value->List Value->List Value} {gV:List V->List V->List V}
end
structure aP (N P:List Str) (sc:Scope):Prop where
 kind:sc.kind=.function
 co:sc.isCoroutine=false
 gen:sc.isGenerator=false
 nd:N.Nodup
 pre:N.take P.length=P
 par:∀ x ∈ P,sc.names.lookup x=some .local\/sc.names.lookup x=some .cell
 yi:∀ y ∈ sc.names,y.2 ≠ .free
theorem nO {kindOf:Str->Option NameKind} {x:Str}:∀ {binds:List (Str × Value)} {m:Str->Option Value},(∀ v,(x,v) ∉ binds)->bindL kindOf binds m x=m x
 | [],_,_=>rfl
 | (n,v) :: r,m,h=>by
  unfold bindL
  rw [nO fun w hw=>h w (List.mem_cons_of_mem _ hw)]
  split
  ·have:x ≠ n:=by rintro rfl;exact h v List.mem_cons_self
   simp [this]
  ·rfl
theorem nP {kindOf:Str->Option NameKind} {x:Str}:∀ {binds:List (Str × Value)} {m:Str->Option Value},(∀ v,(x,v) ∉ binds)->bindC kindOf binds m x=m x
 | [],_,_=>rfl
 | (n,v) :: r,m,h=>by
  unfold bindC
  rw [nP fun w hw=>h w (List.mem_cons_of_mem _ hw)]
  split
  ·rfl
  ·have:x ≠ n:=by rintro rfl;exact h v List.mem_cons_self
   simp [this]
theorem nQ {kindOf:Str->Option NameKind} {x:Str} {v:Value}:∀ {P:List Str} {vs:List Value} {i:Nat} {m:Str->Option Value},P.Nodup->P[i]? = some x->vs[i]? = some v->kindOf x=some .local ->
  bindL kindOf (P.zip vs) m x=some v
 | [],_,_,_,_,h,_,_=>by simp at h
 | _ :: _,[],_,_,_,_,h,_=>by simp at h
 | p :: P,w :: vs,0,m,nd,h1,h2,hk=>by
  simp at h1 h2;subst h1;subst h2
  show bindL kindOf ((p,w) :: P.zip vs) m p=_
  unfold bindL
  rw [nO fun v hv=>(List.nodup_cons.mp nd).1 (List.of_mem_zip hv).1,if_pos hk]
  simp
 | p :: P,w :: vs,i+1,m,nd,h1,h2,hk=>by
  show bindL kindOf ((p,w) :: P.zip vs) m x=_
  unfold bindL
  exact nQ (i:=i) (List.nodup_cons.mp nd).2 (by simpa using h1) (by simpa using h2) hk
theorem nR {kindOf:Str->Option NameKind} {x:Str} {v:Value}:∀ {P:List Str} {vs:List Value} {i:Nat} {m:Str->Option Value},P.Nodup->P[i]? = some x->vs[i]? = some v->kindOf x ≠ some .local ->
  bindC kindOf (P.zip vs) m x=some v
 | [],_,_,_,_,h,_,_=>by simp at h
 | _ :: _,[],_,_,_,_,h,_=>by simp at h
 | p :: P,w :: vs,0,m,nd,h1,h2,hk=>by
  simp at h1 h2;subst h1;subst h2
  show bindC kindOf ((p,w) :: P.zip vs) m p=_
  unfold bindC
  rw [nP fun v hv=>(List.nodup_cons.mp nd).1 (List.of_mem_zip hv).1,if_neg hk]
  simp
 | p :: P,w :: vs,i+1,m,nd,h1,h2,hk=>by
  show bindC kindOf ((p,w) :: P.zip vs) m x=_
  unfold bindC
  exact nR (i:=i) (List.nodup_cons.mp nd).2 (by simpa using h1) (by simpa using h2) hk
def start (N:List Str) (vs:List V):St:=vs.map some++List.replicate (N.length - vs.length) none
def m3 (CX:ka) (P:Program) (w:World) (K:PySem.W.Frag) (mg:Str->Option Value) (base:Heap) (N:List Str) (qual:Str) (scope:Scope) (f:Addr) (cd:Value) (A:Around) (outer:List Env) (s:Shared) (H:Hp) (E:XK):Cx where
 prog:=P
 w:=w
 K:=K
 mg:=mg
 base:=base
 A:=A.deeper (envOfC qual scope s.heap.objs.size f cd)
 N:=N
 dq:=s
 jC:=H
 env:=envOfC qual scope s.heap.objs.size f cd
 outer:=outer
 stack:=envOfC qual scope s.heap.objs.size f cd :: outer
 ex:=[]
 calm:=true
 fn:=fun _=>true
 pn:=[]
 xe:=fun e s'=>wpAny (model P w) (A.deeper (envOfC qual scope s.heap.objs.size f cd)) (leaving (envOfC qual scope s.heap.objs.size f cd) e) (fun _ s''=>CX outer H s E e s'') (fun e' s''=>CX outer H s E e' s'') s'
theorem o8 {sc:Scope} {n:Nat} {x:Str} (h:sc.names.lookup x=some .cell):∃ c,(cellsFrom n sc.names []).lookup x=some c:=by
 have q:=PySem.W.cellsFrom_some sc.names n [] (.inl h)
 exact Option.isSome_iff_exists.mp q
theorem tX {CX:ka} {P:Program} {w:World} {K:PySem.W.Frag} {mg:Str->Option Value} {base:Heap} {N ps:List Str} {qual:Str} {scope:Scope} {f:Addr} {cd:Value} {A:Around} {outer:List Env} {s s1:Shared} {H:Hp} {E:XK} {us:List Value} {vs:List V}
  (S:aP N ps scope) (hd:A.handled=none) (e0:sr P w K mg base A outer s H) (hl:vs.length=ps.length) (r:Vals vs us)
  (x:InCallC s s.heap.objs.size (bindL (envOfC qual scope s.heap.objs.size f cd).kindOf (ps.zip us) fun _=>none) (cellsFrom (s.heap.objs.size+1) scope.names []) (bindC (envOfC qual scope s.heap.objs.size f cd).kindOf (ps.zip us) fun _=>none) s1) :
  Inv (m3 CX P w K mg base N qual scope f cd A outer s H E) [] (start N vs) H s1:=by
 have hpl:ps.length<=N.length:=by have:=congrArg List.length S.pre;rw [List.length_take] at this;omega
 obtain⟨h1,tk,rfl,hk⟩:=x.done
 have noA:∀ b:Addr,b ∉ (m3 CX P w K mg base N qual scope f cd A outer s H E).ex:=fun b z=>absurd (show b ∈ ([]:List Addr) from z) (by simp)
 refine⟨⟨e0.mod,S.kind,rfl,rfl,Nat.le_refl _,fun y z c h1 h2=>?_,fun y hy=>?_,fun y c _ h=>?_,fun _=>hd,Around.frames_deeper e0.frames,.inr ⟨rfl,rfl⟩,fun b z=>absurd z (noA b),e0.bs,e0.nK,fun b _ _=>noA b,fun b z=>absurd z (noA b),e0.iO,e0.rn⟩,
  rfl,e0.bare,Un.kept hk,⟨_,x.toInCall.ns,fun i y v h1 h2 h3=>?_⟩,fun y c h=>⟨_,x.cell y c h⟩,e0.aN.fresh (Nat.le_refl _),fun y c h=>?_,fun p hp=>absurd (show p ∈ ([]:List (Addr × Obj)) from hp) (by simp),e0.aN.kept hk,?_⟩
 ·exact name_of_addr x.apart (PySem.mem_of_lookup h1) (PySem.mem_of_lookup h2)
 ·have hy:scope.names.lookup y=some .cell\/scope.names.lookup y=some .free:=hy
  rcases hy with hy | hy
  ·exact o8 hy
  ·exact absurd rfl (S.yi _ (PySem.mem_of_lookup hy))
 ·exact Nat.le_of_lt (x.above y c (PySem.mem_of_lookup h))
 ·have hi:i < vs.length:=by
   unfold start at h2
   by_cases hi:i < vs.length
   ·exact hi
   ·rw [List.getElem?_append_right (by simpa using hi)] at h2
    rw [List.getElem?_replicate] at h2
    split at h2 <;> cases h2
  have ha:vs[i]? = some v:=by
   unfold start at h2
   rw [List.getElem?_append_left (by simpa using hi),List.getElem?_map] at h2
   cases e:vs[i]? with
   | none=>rw [e] at h2;cases h2
   | some a=>rw [e] at h2;cases h2;rfl
  obtain⟨u,hu,rv⟩:=r.get ha
  have hp:ps[i]? = some y:=by
   rw [<-S.pre,List.getElem?_take_of_lt (by omega)];exact h1
  have ndP:ps.Nodup:=by rw [<-S.pre];exact S.nd.sublist (List.take_sublist _ _)
  refine⟨u,rv,?_⟩
  rcases S.par y (List.mem_of_getElem? hp) with k | k
  ·exact .inl ⟨k,nQ ndP hp hu k⟩
  ·obtain⟨c,e⟩:=o8 (n:=s.heap.objs.size+1) k
   refine .inr ⟨.inl k,c,e,?_⟩
   have q:=x.cell y c e
   rw [nR ndP hp hu (by show scope.names.lookup y ≠ _;rw [k];decide)] at q
   exact q
 ·exact e0.aN.fresh (Nat.le_of_lt (x.above y c (PySem.mem_of_lookup h)))
 ·unfold start
  show _=N.length
  rw [List.length_append,List.length_map,List.length_replicate]
  omega
theorem zf {CX:ka} {P:Program} {w:World} {K:PySem.W.Frag} {mg:Str->Option Value} {base:Heap} {k:Nat} {f:Addr} {name qual:Str} {params:Arguments} {body:List Stmt} {scope:Scope} {dV kV doc pm cdv ct oc:Value} {an od:Option Addr}
  {osl:Array (Option Value)} {N ps:List Str} {sp:Sp} (lk:K.lookup f=some ⟨oc,od,.func (PySem.W.fnOf name qual params body scope dV kV doc pm an cdv ct),osl⟩) (hcd:PySem.W.codeIn K cdv qual=true) (S:aP N ps scope)
  (len:∀ vs H Q E,sp vs H Q E->vs.length=ps.length)
  (hbody:∀ (A:Around) (outer:List Env) (s:Shared) (H:Hp) (vs:List V) (Q:VK) (E:XK),eM k (A.deeper (envOfC qual scope s.heap.objs.size f cdv))->sp vs H Q E ->
   ∃ t,iP (m3 CX P w K mg base N qual scope f cdv A outer s H E) body t/\t { nx:=fun _ H'=>Q .aS H',rt:=Q } (start N vs) H) :
  bB P w K mg base CX (k+1) f (PySem.W.fnOf name qual params body scope dV kV doc pm an cdv ct) ps sp:=by
 refine⟨len,fun A outer s H args us vs Q E hr e0 hb r hsp=>?_⟩
 have hl:=len _ _ _ _ hsp
 have KX:K.In s.heap:=e0.mod.xZ.keeps fun b o e=>(e0.bs b o e).1
 have lim:s.heap.NoLimit:=e0.mod.nolimit.keeps fun b o e=>(e0.bs b o e).1
 have hkind:∀ y ∈ ps.zip us,scope.names.lookup y.1=some .local\/(scope.names.lookup y.1=some .cell/\((cellsFrom (s.heap.objs.size+1) scope.names []).lookup y.1).isSome=true):=fun ⟨n,v⟩ hy=>by
  rcases S.par n (List.of_mem_zip hy).1 with q | q
  ·exact .inl q
  ·exact .inr ⟨q,PySem.W.cellsFrom_some _ _ _ (.inl q)⟩
 refine codeAny_call_function hr.depth (KX _ _ lk) rfl S.co S.gen rfl (PySem.W.codeRec_of KX hcd) (hb _ _ _ _ ?_)
 refine wpAny_newFunctionEnv_cells S.kind hkind fun env he s1 x=>?_
 subst he
 refine⟨lim.keeps x.toInCall.keep,codeAny_func ?_⟩
 obtain⟨t,ht,hq⟩:=hbody A outer s H vs Q E (hr.deeper _) hsp
 have I:Inv (m3 CX P w K mg base N qual scope f cdv A outer s H E) [] (start N vs) H s1:=tX S hr.hd e0 hl r x
 refine wpAny_mono (ht [] s1 (start N vs) H _ I hq) (fun fl s' hs=>?_) fun e s' hs=>hs
 have fin:∀ {σ':St} {H':Hp} {v:V} {u:Value},Inv (m3 CX P w K mg base N qual scope f cdv A outer s H E) [] σ' H' s'->RelV v u->Q v H'->CE outer P w H s Q u s' :=
  fun {σ' H' v u} J rv q=>⟨v,H',J.os,J.bare,J.base,J.aN,rv,q⟩
 cases fl with
 | ret u =>
  obtain⟨v,σ',H',J,rv,q⟩:=hs
  exact fin J rv q
 | next =>
  obtain⟨σ',H',J,q⟩:=hs
  exact fin (v:=V.aS) (u:=Value.none) J rfl q
 | brk =>
  obtain⟨_,_,_,q⟩:=hs
  exact False.elim q
 | cont =>
  obtain⟨_,_,_,q⟩:=hs
  exact False.elim q
section
variable {X:Cx} {x:Str} {p pos:Pos} {e:Expr} {es:List Expr} {t:TA} {id T:String} {r:List V->Hp->VK->Prop}
def zF (r:List V->Hp->VK->Prop) (t:TA):TE:=fun σ H Q=>t σ H fun vs H1=>r vs H1 Q
theorem ba (hc:fE X (.builtin id) r) (hg:Gl X x) (hm:X.mg x=none) (hv:bootBuiltins x=some (.builtin id)) (ha:PA X (e :: es) t) (hn:x ≠ "__name__" := by decide) (hdb:(x == ("__debug__" : Str))=false:=by decide)
  (he:starEach (e :: es) X.env=(false,eval e X.env) :: starEach es X.env:=by rfl) (hpl:(backTo pos (starEach es X.env)).any (·.1)=false:=by rfl):PE X (.Call (.Name x p) (e :: es) [] pos) (zF r t):=by
 intro pins s σ H Q I h
 refine wpAny_Call_Name_kw (mn I hg hm hv ?_ hn hdb)
 exact PyProof.Rows.callWith_builtin1 (bf (ha pos pins s σ H _ I h) fun us s1 ⟨vs,H1,I1,r1,q1⟩=>hc pins s1 σ H1 vs us Q I1 r1 q1) he hpl
theorem bh (hc:fE X (.type T) r) (hg:Gl X x) (hm:X.mg x=none) (hv:bootBuiltins x=some (.type T)) (ha:PA X (e :: es) t) (hn:x ≠ "__name__" := by decide) (hdb:(x == ("__debug__" : Str))=false:=by decide)
  (he:starEach (e :: es) X.env=(false,eval e X.env) :: starEach es X.env:=by rfl) (hpl:(backTo pos (starEach es X.env)).any (·.1)=false:=by rfl):PE X (.Call (.Name x p) (e :: es) [] pos) (zF r t):=by
 intro pins s σ H Q I h
 refine wpAny_Call_Name_kw (mn I hg hm hv ?_ hn hdb)
 exact PyProof.Rows.callWith_type1 (bf (ha pos pins s σ H _ I h) fun us s1 ⟨vs,H1,I1,r1,q1⟩=>hc pins s1 σ H1 vs us Q I1 r1 q1) he hpl
end
end L2
namespace HT
open PySem PyProof.Rows
section
open PySem.SeqAt
open PySem.AutoSeq1 (wpAny_loadPart')
open PySem.MeetsSeq PySem.MeetsSeq2 PySem.MeetsSeq3
end
section
variable {prog:Program} {w:World} {A:Around} {E:Value->Shared->Prop} {s:Shared}
def bS (n d:Nat):Option Int->Nat
 | none=>d
 | some v=>if v < 0 then (v+(n:Int)).toNat else min v.toNat n
theorem yj (n d:Nat) (hd:d<=n) (o:Option Int):bS n d o<=n:=by
 cases o with
 | none=>exact hd
 | some v =>
  show (if v < 0 then (v+(n:Int)).toNat else min v.toNat n)<=n
  by_cases hv:v < 0
  ·rw [if_pos hv];omega
  ·rw [if_neg hv];exact Nat.min_le_right _ _
theorem rK (v:Int) (n d:Nat):(if v < 0 then max (v+(n:Int)) 0 else min v (n:Int))=((bS n d (some v):Nat):Int):=by
 show (if v < 0 then max (v+(n:Int)) 0 else min v (n:Int))=(((if v < 0 then (v+(n:Int)).toNat else min v.toNat n):Nat):Int)
 by_cases hv:v < 0
 ·simp only [if_pos hv];omega
 ·simp only [if_neg hv];omega
theorem sy (lo hi:Option Int) (n:Nat):Builtin.Slice.sliceAdjust lo hi 1 (n:Int)=(((bS n 0 lo:Nat):Int),((bS n n hi:Nat):Int)):=by
 have h1:¬ ((1:Int) < 0):=by omega
 unfold Builtin.Slice.sliceAdjust
 simp only [h1,if_false]
 refine Prod.ext ?_ ?_
 ·cases lo with
  | none=>rfl
  | some v=>exact rK v n 0
 ·cases hi with
  | none=>rfl
  | some v=>exact rK v n n
theorem sA (i j:Nat):Builtin.Slice.slicePlaces (i:Int) (j:Int) 1=j - i:=by
 unfold Builtin.Slice.slicePlaces
 have h1:(1:Int) > 0:=by omega
 simp only [h1,if_true,Int.ediv_one]
 split <;> omega
theorem mx {v:Value} {o:Option Int} {Q:Option Int->Shared->Prop} (p:IsPart v o) (h:Q o s):wpAny (model prog w) A (Builtin.Slice.slicePartIndex v) Q E s:=by
 cases p with
 | none=>exact slicePart_none h
 | int i t=>exact slicePart_int h
theorem iT {sl:Addr} {vl vu:Value} {lo hi:Option Int} {n:Nat} {Q:Int × Int × Nat->Shared->Prop} (hs:s.heap.IsSliceOf sl vl vu .none) (pl:IsPart vl lo) (pu:IsPart vu hi)
  (h:Q (((bS n 0 lo:Nat):Int),1,bS n n hi - bS n 0 lo) s):wpAny (model prog w) A (Builtin.Slice.sliceApplied (.ref sl) (pure (n:Int))) Q E s:=by
 obtain⟨os,hos,hcs,hds⟩:=id hs
 unfold Builtin.Slice.sliceApplied Builtin.Slice.sliceFields
 refine wpAny_bind (wpAny_bind (wpAny_field hos hds (x:=vl) rfl (wpAny_bind (wpAny_field hos hds (x:=vu) rfl (wpAny_bind (wpAny_field hos hds (x:=.none) rfl (wpAny_pure ?_)))))))
 refine wpAny_bind (slicePart_none ?_)
 show wpAny _ _ (if ((1:Int) == 0)=true then _ else _) _ _ s
 rw [if_neg (by decide)]
 refine wpAny_bind (mx pl (wpAny_bind (mx pu (wpAny_bind (wpAny_pure ?_)))))
 show wpAny _ _ (match Builtin.Slice.sliceAdjust lo hi 1 (n:Int) with | (lo,hi)=>pure (lo,(1:Int),Builtin.Slice.slicePlaces lo hi 1)) _ _ s
 rw [sy lo hi n]
 show wpAny _ _ (pure (((bS n 0 lo:Nat):Int),(1:Int),Builtin.Slice.slicePlaces ((bS n 0 lo:Nat):Int) ((bS n n hi:Nat):Int) 1)) _ _ s
 rw [sA]
 exact wpAny_pure h
theorem vp (xs:Array Value) (i k:Nat):((List.range k).filterMap fun (m:Nat)=>xs[((i:Int)+(m:Int) * 1).toNat]?).toArray=((xs.toList.drop i).take k).toArray:=by
 have e:(fun (m:Nat)=>xs[((i:Int)+(m:Int) * 1).toNat]?)=fun m=>xs[i+m]?:=by
  funext m
  have:((i:Int)+(m:Int) * 1).toNat=i+m:=by omega
  rw [this]
 rw [e]
 have:=pick_run xs i k
 rw [List.filterMap_map] at this
 have e2:((fun x=>xs[x]?) ∘ fun x=>i+x)=fun m=>xs[i+m]?:=rfl
 rw [e2] at this
 rw [this]
theorem kZ {t sl:Addr} {items:Array Value} {vl vu:Value} {lo hi:Option Int} {Q:Value->Shared->Prop} (ht:IsTup s.heap t items) (hs:s.heap.IsSliceOf sl vl vu .none) (pl:IsPart vl lo) (pu:IsPart vu hi)
  (hw:¬ (bS items.size 0 lo=0/\bS items.size items.size hi=items.size))
  (h:Q (.ref s.heap.objs.size) { s with heap:=s.heap.push { cls:=.type "tuple",data:=.seq ((items.toList.drop (bS items.size 0 lo)).take (bS items.size items.size hi - bS items.size 0 lo)).toArray } })
  (hsz:items.size<=sizeLine):wpAny (model prog w) A (getItem (.ref t) (.ref sl)) Q E s:=by
 have htake:sizeOk (.seq ((items.toList.drop (bS items.size 0 lo)).take (bS items.size items.size hi - bS items.size 0 lo)).toArray):=by
  show ((items.toList.drop (bS items.size 0 lo)).take (bS items.size items.size hi - bS items.size 0 lo)).toArray.size<=sizeLine
  rw [List.size_toArray,List.length_take,List.length_drop,Array.length_toList]
  omega
 have hj:bS items.size items.size hi<=items.size:=yj _ _ (Nat.le_refl _) hi
 obtain⟨os,hos,hcs,hds⟩:=id hs
 have hTs:s.TypeIs (.ref sl) "slice" := ⟨os,hos,hcs⟩
 unfold getItem
 try with_reducible refine wpAny_holding ?_
 first | refine wpAny_bind (wpAny_pure ?_) | skip
 refine wpAny_bind (wpAny_sequenceKey ht.typeIs (by decide) ?_)
 refine wpAny_bind (wpAny_callSpecial?_slot (name:=Str.ofString "__getitem__") ht.typeIs PyProof.Rows.slot_tuple_getitem
  (wpAny_call_entry PyProof.Rows.slot_tuple_getitem ht.typeIs entry_tuple_getitem ?_ (args_tuple_getitem _ _)))
 show wpAny _ _ (Builtin.Tuple.tupleItemsOf (.ref t) >>= _) _ _ s
 refine wpAny_bind (tupleItemsOf_ ht ?_)
 refine wpAny_bind (wpAny_typeOf hTs ?_)
 rw [if_pos (by decide)]
 refine wpAny_bind (iT hs pl pu ?_)
 have hno:¬ ((((bS items.size 0 lo:Nat):Int) == 0 && (1:Int) == 1 && (bS items.size items.size hi - bS items.size 0 lo) == items.size)=true):=by
  intro q
  rw [Bool.and_eq_true,Bool.and_eq_true] at q
  have q1:((bS items.size 0 lo:Nat):Int)=0:=eq_of_beq q.1.1
  have q2:bS items.size items.size hi - bS items.size 0 lo=items.size:=eq_of_beq q.2
  exact hw ⟨by omega,by omega⟩
 show wpAny _ _ (if (((bS items.size 0 lo:Nat):Int) == 0 && (1:Int) == 1 && (bS items.size items.size hi - bS items.size 0 lo) == items.size)=true then _ else _) _ _ s
 rw [if_neg hno,vp]
 first
  | exact wpAny_bind (m:=Builtin.Tuple.tupleExact _) (wpAny_newObj_type (wpAny_pure ⟨_,rfl,wpAny_pure h⟩) htake)
  | exact wpAny_bind (m:=Builtin.Tuple.tupleExact _) (wpAny_newObj_type (wpAny_bind (wpAny_pure (wpAny_pure ⟨_,rfl,wpAny_pure h⟩))) htake)
  | exact wpAny_bind (wpAny_bind (m:=Builtin.Tuple.tupleExact _) (wpAny_newObj_type (wpAny_pure (wpAny_pure ⟨_,rfl,wpAny_pure h⟩)) htake))
  | exact wpAny_bind (wpAny_bind (m:=Builtin.Tuple.tupleExact _) (wpAny_newObj_type (wpAny_pure ⟨_,rfl,wpAny_pure h⟩) htake))
end
end HT
namespace L2
open PySem PySem.Spec PyProof.Rows
abbrev TO:=St->Hp->(Option Int->Hp->Prop)->Prop
def PO (X:Cx) (e:Option Expr) (t:TO):Prop :=
 ∀ (pins:List (Addr × Obj)) (s:Shared) (σ : St) (H:Hp) (Q:Option Int->Hp->Prop),Inv X pins σ H s->t σ H Q ->
  wpAny (model X.prog X.w) X.A (evalPart e X.env) (fun u s'=>∃ o H',Inv X pins σ H' s'/\IsPart u o/\Q o H') X.xe s
def xj:TO:=fun _ H Q=>Q none H
def zg (t:TE):TO:=fun σ H Q=>t σ H fun x H1=>∃ i,x=.int i/\Q (some i) H1
section
variable {X:Cx} {e:Expr} {te:TE} {lo hi:Option Expr} {tl th:TO} {pos p2:Pos}
theorem xk:PO X none xj:=by
 intro pins s σ H Q I h
 rw [evalPart_none]
 exact wpAny_pure ⟨none,H,I,.none,h⟩
theorem xl (h:PE X e te):PO X (some e) (zg te):=by
 intro pins s σ H Q I hw
 rw [evalPart_some]
 refine bf (h pins s σ H _ I hw) fun u s1 ⟨x,H1,I1,r1,q1⟩=>?_
 obtain⟨i,rfl,q⟩:=q1
 obtain⟨t,rfl⟩:=r1
 exact⟨some i,H1,I1,.int i t,q⟩
def yk (X:Cx) (r:V->Option Int->Option Int->Hp->VK->Prop):Prop :=
 ∀ (pins:List (Addr × Obj)) (s:Shared) (σ : St) (H:Hp) (x:V) (v vl vu:Value) (lo hi:Option Int) (sl:Addr) (Q:VK),Inv X pins σ H s->RelV x v->s.heap.IsSliceOf sl vl vu .none->IsPart vl lo->IsPart vu hi->r x lo hi H Q ->
  ∃ T id,typeLookup (.type T) "__getitem__" = pure (some (.builtin id))/\s.TypeIs v T/\wpAny (model X.prog X.w) X.A (getItem v (.ref sl)) (EP X pins σ Q) X.xe s
def Ar (r:V->Option Int->Option Int->Hp->VK->Prop) (te:TE) (tl th:TO):TE:=fun σ H Q=>te σ H fun x H1=>tl σ H1 fun l H2=>th σ H2 fun u H3=>r x l u H3 Q
theorem vq {r:V->Option Int->Option Int->Hp->VK->Prop} (hr:yk X r) (he:PE X e te) (hl:PO X lo tl) (hu:PO X hi th):PE X (.Subscript e (.Slice lo hi none p2) pos) (Ar r te tl th):=by
 intro pins s σ H Q I h
 refine Subscript_ (bf (he pins s σ H _ I h) fun v s1 ⟨x,H1,I1,r1,q1⟩=>?_)
 refine wpAny_Slice (bf (hl pins s1 σ H1 _ I1 q1) fun vl s2 ⟨l,H2,I2,pl,q2⟩=>bf (hu pins s2 σ H2 _ I2 q2) fun vu s3 ⟨u,H3,I3,pu,q3⟩=>?_)
 rw [evalPart_none]
 refine wpAny_pure ?_
 have I4:Inv X pins σ H3 { s3 with heap:=s3.heap.push { cls:=.type "slice",data:=.fields #[vl,vu,.none] } }:=I3.kept (t':=s3.toks) fun b ob q=>Heap.get?_push_of_some _ q
 obtain⟨T,id,hT,ht,hg⟩:=hr pins { s3 with heap:=s3.heap.push { cls:=.type "slice",data:=.fields #[vl,vu,.none] } } σ H3 x v vl vu l u s3.heap.objs.size Q I4 r1 (Heap.IsSliceOf.new ..) pl pu q3
 show wpAny (model X.prog X.w) X.A (subscriptTail e (.Slice lo hi none p2) v (.ref s3.heap.objs.size)) (EP X pins σ Q) X.xe { s3 with heap:=s3.heap.push { cls:=.type "slice",data:=.fields #[vl,vu,.none] } }
 exact tail_any (ops:=[.ref s3.heap.objs.size,v]) ht hT hg (by with_unfolding_all rfl)
def lN (xs:List V) (lo hi:Option Int):List V:=(xs.drop (HT.bS xs.length 0 lo)).take (HT.bS xs.length xs.length hi - HT.bS xs.length 0 lo)
theorem qJ (xs:List V) (lo hi:Option Int):(lN xs lo hi).length<=xs.length:=by
 unfold lN
 rw [List.length_take,List.length_drop]
 omega
def z9 (K:PySem.W.Frag):V->Option Int->Option Int->Hp->VK->Prop:=fun x lo hi H Q=>∃ a xs,x=.ref a/\aw K H a xs /\
 ¬ (HT.bS xs.length 0 lo=0/\HT.bS xs.length xs.length hi=xs.length)/\∀ p,H p=none->Q (.ref p) (upd H p (.tup (lN xs lo hi)))
theorem yl:yk X (z9 X.K):=by
 intro pins s σ H x v vl vu lo hi sl Q I rx hs pl pu h
 obtain⟨a,xs,rfl,hx,hw,q⟩:=h
 cases rx
 obtain⟨its,r,ht,hz⟩:=I.tuple hx
 have hlen:its.toArray.size=xs.length:=by rw [List.size_toArray];exact r.length.symm
 refine⟨"tuple",_,PyProof.Rows.slot_tuple_getitem.lookup,ht.typeIs,?_⟩
 refine HT.kZ ht hs pl pu (by rw [hlen];exact hw) ?_ (by rw [hlen];exact hz)
 rw [hlen]
 refine⟨.ref s.heap.objs.size,_,I.laid (t':=s.toks) (o:=.tup (lN xs lo hi)) (fun b ob q=>Heap.get?_push_of_some _ q) (Nat.le_refl _) ?_,rfl,q _ (I.aN.fresh (Nat.le_refl _))⟩
 exact⟨Nat.le_trans (qJ xs lo hi) hz,_,(r.drop (HT.bS xs.length 0 lo)).take (HT.bS xs.length xs.length hi - HT.bS xs.length 0 lo),⟨_,Heap.get?_push_size _ rfl,rfl,_,rfl,rfl⟩⟩
end
def kb (n:Nat) (i:Int):Option Nat:=if 0<=i then (if i < n then some i.toNat else none) else if -(n:Int)<=i then some (i+n).toNat else none
def fo {α : Type} (xs:List α) (i:Int):Option α:=(kb xs.length i).bind fun j=>xs[j]?
theorem m5 {n:Nat} {i:Int} {j:Nat} (h:kb n i=some j):seqIndex? i n=some j/\j < n/\-(n:Int)<=i/\i < n:=by
 unfold kb at h
 by_cases h0:0<=i
 ·rw [if_pos h0] at h
  by_cases h1:i < n
  ·rw [if_pos h1] at h
   have e:i.toNat=j:=Option.some.inj h
   exact⟨by rw [seqIndex_of h0 h1,e],by omega,by omega,h1⟩
  ·rw [if_neg h1] at h;cases h
 ·rw [if_neg h0] at h
  by_cases h1:-(n:Int)<=i
  ·rw [if_pos h1] at h
   have e:(i+n).toNat=j:=Option.some.inj h
   exact⟨by rw [seqIndex_neg (by omega) h1,e],by omega,h1,by omega⟩
  ·rw [if_neg h1] at h;cases h
theorem m6 {α : Type} {xs:List α} {i:Int} {v:α} (h:fo xs i=some v):∃ j,seqIndex? i xs.length=some j/\xs[j]? = some v/\j < xs.length/\-(xs.length:Int)<=i/\i < xs.length:=by
 unfold fo at h
 cases e:kb xs.length i with
 | none=>rw [e] at h;cases h
 | some j =>
  rw [e] at h
  obtain⟨h1,h2,h3,h4⟩:=m5 e
  exact⟨j,h1,h,h2,h3,h4⟩
theorem bE {α : Type} {xs:List α} {j:Nat} {v:α} (h:xs[j]? = some v):fo xs (j:Int)=some v:=by
 have hj:j < xs.length:=(List.getElem?_eq_some_iff.mp h).1
 have e:kb xs.length (j:Int)=some j:=by
  unfold kb
  rw [if_pos (by omega),if_pos (by omega)];simp
 unfold fo;rw [e];exact h
def rL (b:Expr):Prop:=∀ o i,subscripted b false o i=operate [o,i] (getItem o i)
def tY (X:Cx) (r:R2):Prop :=
 ∀ (value slice:Expr) (pins:List (Addr × Obj)) (s:Shared) (σ : St) (H:Hp) (x y:V) (v u:Value) (Q:VK),Inv X pins σ H s->RelV x v->RelV y u->r x y H Q ->
  subscripted slice false v u=operate [v,u] (getItem v u)->wpAny (model X.prog X.w) X.A (subscriptTail value slice v u) (EP X pins σ Q) X.xe s
def zG (X:Cx) (id:String) (r:V->List V->Hp->VK->Prop):Prop :=
 ∀ (pins:List (Addr × Obj)) (s:Shared) (σ : St) (H:Hp) (x:V) (xs:List V) (v:Value) (us:List Value) (Q:VK),Inv X pins σ H s->RelV x v->Vals xs us->r x xs H Q ->
  wpAny (model X.prog X.w) X.A (call (.builtin id) (v :: us)) (EP X pins σ Q) X.xe s
section
variable {X:Cx} {a b:Expr} {ta tb:TE} {pos:Pos}
theorem aF {r:R2} (hr:tY X r) (ha:PE X a ta) (hb:PE X b tb) (hs:rL b):PE X (.Subscript a b pos) (tT r ta tb):=by
 intro pins s σ H Q I h
 exact Subscript_ (vj ha hb I h fun v u s2 x y H2 I2 rx ry q=>hr a b pins s2 σ H2 x y v u Q I2 rx ry q (hs _ _))
def sC (K:PySem.W.Frag):R2:=fun x y H Q=>∃ p xs i v,x=.ref p/\y=.int i/\aU K H p xs/\fo xs i=some v/\Q v H
def vt (K:PySem.W.Frag):R2:=fun x y H Q=>∃ p xs i v,x=.ref p/\y=.int i/\aw K H p xs/\fo xs i=some v/\Q v H
def Aa:R2:=fun x y H Q=>∃ z i c,x=.str z/\y=.int i/\z.length<=sizeLine/\fo z.cps.toList i=some c/\Q (.str ⟨#[c]⟩) H
theorem bH:tY X (sC X.K):=by
 intro value slice pins s σ H x y v u Q I rx ry h hs
 obtain⟨p,xs,i,z,rfl,rfl,hq,he,q⟩:=h
 cases rx
 obtain⟨t,rfl⟩:=ry
 obtain⟨its,r,pl,hz⟩:=I.list hq
 obtain⟨j,h1,h2,h3,h4,h5⟩:=m6 he
 obtain⟨w,ew,rw'⟩:=r.get h2
 have hl:=r.length
 have hn:=jr
 have fin:EP X pins σ Q w s:=⟨z,H,I,rw',q⟩
 by_cases h0:0<=i
 ·have hj:i.toNat=j:=by
   rw [seqIndex_of h0 h5] at h1
   exact Option.some.inj h1
  exact item_listR pl.isList h0 (by omega) (by rw [hj];simpa using ew) fin hs
 ·have hj:(i+(its.toArray.size:Int)).toNat=j:=by
   rw [seqIndex_neg (by omega) h4] at h1
   rw [List.size_toArray,<-hl]
   exact Option.some.inj h1
  exact subscriptTail_builtinR (x:=w) pl.isList.typeIs slot_list_getitem.lookup
   (wpAny_getItem_list_neg (Q:=fun r s'=>r=w/\EP X pins σ Q r s') pl.isList (by omega) (by rw [List.size_toArray] <;> omega) (by omega) (by rw [hj];simpa using ew) ⟨rfl,fin⟩) hs
theorem aO:tY X (vt X.K):=by
 intro value slice pins s σ H x y v u Q I rx ry h hs
 obtain⟨p,xs,i,z,rfl,rfl,hq,he,q⟩:=h
 cases rx
 obtain⟨t,rfl⟩:=ry
 obtain⟨its,r,pl,hz⟩:=I.tuple hq
 obtain⟨j,h1,h2,h3,h4,h5⟩:=m6 he
 obtain⟨w,ew,rw'⟩:=r.get h2
 have hl:=r.length
 have hn:=jr
 have fin:EP X pins σ Q w s:=⟨z,H,I,rw',q⟩
 exact subscriptTail_builtinR (x:=w) pl.typeIs slot_tuple_getitem.lookup
  (getItem_tuple (j:=j) (Q:=fun r s'=>r=w/\EP X pins σ Q r s') pl (by omega) (by omega) (by rw [List.size_toArray,<-hl];exact h1) (by simpa using ew) ⟨rfl,fin⟩) hs
theorem tZ:tY X Aa:=by
  intro value slice pins s σ H x y v u Q I rx ry h hs
  obtain⟨z,i,c,rfl,rfl,hz,he,q⟩:=h
  obtain⟨t,rfl⟩:=rx
  obtain⟨t',rfl⟩:=ry
  obtain⟨j,h1,h2,h3,h4,h5⟩:=m6 he
  have hl:z.cps.toList.length=z.length:=by simp [Str.length]
  rw [hl] at h1 h4 h5
  have hn:=jr
  exact tail_any (typeIs_str s z t) slot_str_getitem.lookup (getItem_str (c:=c) (by
    have e1:decide (i < -(2 ^ 63:Int))=false:=decide_eq_false (by omega)
    have e2:decide (i >= 2 ^ 63)=false:=decide_eq_false (by omega)
    rw [e1,e2,Bool.or_false]) (by rw [h1];simpa using h2) ⟨.str ⟨#[c]⟩,H,I.tok _,⟨_,rfl⟩,q⟩) hs
theorem sD (its:List Value) (n j:Nat) (u:Value):Obj.mapSeq (·.setIfInBounds j u) { cls:=.type "list",data:=.seq its.toArray n } = { cls:=.type "list",data:=.seq (its.set j u).toArray n }:=by
 simp [Obj.mapSeq]
theorem Inv.lst {pins:List (Addr × Obj)} {σ : St} {H:Hp} {s:Shared} {p:Addr} {xs:List V} (I:Inv X pins σ H s) (h:H p=some (.lst xs)) :
  ∃ (its:List Value) (n:Nat),Vals xs its/\s.heap.get? p=some { cls:=.type "list",data:=.seq its.toArray n }/\xs.length<=sizeLine:=by
 obtain⟨z,its,n,r,e⟩:=I.aN p _ h
 exact⟨its,n,r,e,z⟩
theorem Inv.ym {pins:List (Addr × Obj)} {σ : St} {H:Hp} {s:Shared} {p:Addr} {xs ys:List V} {its its':List Value} {n n':Nat} {f:Obj->Obj} (I:Inv X pins σ H s) (h:H p=some (.lst xs))
  (ho:s.heap.get? p=some { cls:=.type "list",data:=.seq its.toArray n }) (hf:f { cls:=.type "list",data:=.seq its.toArray n } = { cls:=.type "list",data:=.seq its'.toArray n' }) (r:Vals ys its') (hz:ys.length<=sizeLine) (t:Nat) :
  Inv X pins σ (upd H p (.lst ys)) { s with heap:=s.heap.update p f,toks:=t }:=by
 have e:(s.heap.update p f).get? p=some { cls:=.type "list",data:=.seq its'.toArray n' }:=by
  rw [Heap.get?_update_self f ho (by rw [hf] <;> rfl),hf]
 refine I.write (x:=p) (e:=p) (by rw [h];trivial) (.inl rfl) (fun b u hb q=>(Heap.get?_update_other _ _ (Ne.symm hb)).trans q) ⟨_,e⟩ ?_
 exact⟨hz,its',n',r,e⟩
def zh:V->V->V->Hp->(Hp->Prop)->Prop:=fun o i v H Q=>∃ p xs k j,o=.ref p/\i=.int k/\H p=some (.lst xs)/\kb xs.length k=some j/\Q (upd H p (.lst (xs.set j v)))
theorem set_list:yc X zh:=by
 intro pins s σ H o i v ov iv u Q I ro ri rv h
 obtain⟨p,xs,k,j,rfl,rfl,hp,hj,q⟩:=h
 cases ro
 obtain⟨t,rfl⟩:=ri
 obtain⟨its,n,r,ho,hz⟩:=I.lst hp
 obtain⟨h1,h2,h3,h4⟩:=m5 hj
 have hl:=r.length
 have hn:=jr
 have I':Inv X pins σ (upd H p (.lst (xs.set j v))) { s with heap:=s.heap.update p (Obj.mapSeq (·.setIfInBounds j u)) } :=
  I.ym hp ho (sD its n j u) (r.set rv j) (by rw [List.length_set];exact hz) s.toks
 by_cases h0:0<=k
 ·have hk:k.toNat=j:=by
   rw [seqIndex_of h0 h4] at h1
   exact Option.some.inj h1
  exact PySem.W.ki_setAt ho h0 (by omega) (by rw [List.size_toArray,<-hl];exact h4) (by rw [hk];exact⟨_,I',q⟩)
 ·have hk:(k+(its.toArray.size:Int)).toNat=j:=by
   rw [seqIndex_neg (by omega) h3] at h1
   rw [List.size_toArray,<-hl]
   exact Option.some.inj h1
  exact PySem.W.ki_setBack ho (by omega) (by rw [List.size_toArray,<-hl];exact h3) (by omega) (by rw [hk];exact⟨_,I',q⟩)
def gd:V->Bool
 | .aS=>true
 | .bl _=>true
 | .int _=>true
 | .str _=>true
 | _=>false
def kc:V->V->Bool
 | .aS,.aS=>true
 | .bl a,.bl b=>a == b
 | .bl a,.int b=>(if a then 1 else 0) == b
 | .int a,.bl b=>a == (if b then 1 else 0)
 | .int a,.int b=>a == b
 | .str a,.str b=>a == b
 | _,_=>false
theorem yn {A:Around} {s:Shared} {y x:V} {u v:Value} (ry:RelV y u) (rx:RelV x v) (fy:gd y=true) (fx:gd x=true):SeqAt.EqAt A s u v (kc y x):=by
 cases y with
 | aS =>
  cases ry
  cases x with
  | aS=>cases rx;exact SeqAt.EqAt.same _
  | bl b=>cases rx;exact SeqAt.EqAt.none_bool b
  | int b=>obtain⟨t,rfl⟩:=rx;exact SeqAt.EqAt.none_int b t
  | str b=>obtain⟨t,rfl⟩:=rx;exact SeqAt.EqAt.none_str b t
  | _=>exact absurd (show false=true from fx) Bool.false_ne_true
 | bl a =>
  cases ry
  cases x with
  | aS=>cases rx;exact SeqAt.EqAt.bool_none a
  | bl b=>cases rx;exact SeqAt.EqAt.bool_bool a b
  | int b=>obtain⟨t,rfl⟩:=rx;exact SeqAt.EqAt.bool_int a b t
  | str b=>obtain⟨t,rfl⟩:=rx;exact SeqAt.EqAt.bool_str a b t
  | _=>exact absurd (show false=true from fx) Bool.false_ne_true
 | int a =>
  obtain⟨t',rfl⟩:=ry
  cases x with
  | aS=>cases rx;exact SeqAt.EqAt.int_none a t'
  | bl b=>cases rx;exact SeqAt.EqAt.int_bool a t' b
  | int b=>obtain⟨t,rfl⟩:=rx;exact SeqAt.EqAt.int_int a t' b t
  | str b=>obtain⟨t,rfl⟩:=rx;exact SeqAt.EqAt.int_str a t' b t
  | _=>exact absurd (show false=true from fx) Bool.false_ne_true
 | str a =>
  obtain⟨t',rfl⟩:=ry
  cases x with
  | aS=>cases rx;exact SeqAt.EqAt.str_none a t'
  | bl b=>cases rx;exact SeqAt.EqAt.str_bool a t' b
  | int b=>obtain⟨t,rfl⟩:=rx;exact SeqAt.EqAt.str_int a t' b t
  | str b=>obtain⟨t,rfl⟩:=rx;exact SeqAt.EqAt.str_str a t' b t
  | _=>exact absurd (show false=true from fx) Bool.false_ne_true
 | _=>exact absurd (show false=true from fy) Bool.false_ne_true
def ic (x:V) (u:Value):Bool:=match u with
 | .none=>kc .aS x
 | .bool b=>kc (.bl b) x
 | .int i _=>kc (.int i) x
 | .str z _=>kc (.str z) x
 | _=>false
theorem o9 {x y:V} {u:Value} (r:RelV y u) (f:gd y=true):ic x u=kc y x:=by
 cases y with
 | aS=>cases r;rfl
 | bl b=>cases r;rfl
 | int i=>obtain⟨t,rfl⟩:=r;rfl
 | str z=>obtain⟨t,rfl⟩:=r;rfl
 | _=>exact absurd (show false=true from f) Bool.false_ne_true
theorem jt {x:V}:∀ {xs:List V} {us:List Value},Vals xs us->xs.all gd=true->us.any (ic x)=xs.any fun y=>kc y x
 | _,_,.nil,_=>rfl
 | y :: xs,u :: us,.cons r t,f=>by
  rw [List.all_cons,Bool.and_eq_true] at f
  rw [List.any_cons,List.any_cons,o9 r f.1,jt t f.2]
theorem gP {A:Around} {s:Shared} {x:V} {v:Value} (rx:RelV x v) (fx:gd x=true):∀ {xs:List V} {us:List Value},Vals xs us->xs.all gd=true->∀ u ∈ us,SeqAt.EqAt A s u v (ic x u)
 | _,_,.nil,_=>fun u hu=>by cases hu
 | y :: xs,u :: us,.cons r t,f=>fun u' hu=>by
  rw [List.all_cons,Bool.and_eq_true] at f
  rcases List.mem_cons.mp hu with rfl | hu
  ·rw [o9 r f.1];exact yn r rx f.1 fx
  ·exact gP rx fx t f.2 u' hu
def pd (x:V) (xs:List V):Bool:=xs.any fun y=>kc y x
def zH (K:PySem.W.Frag) (neg:Bool):R2:=fun x y H Q=>∃ p xs,y=.ref p/\(aU K H p xs\/aw K H p xs)/\gd x=true/\xs.all gd=true/\Q (.bl (if neg then !pd x xs else pd x xs)) H
theorem t9:eS X (compareOp .In) (zH X.K false):=by
 intro pins s σ H x y v u Q I rx ry h
 obtain⟨p,xs,rfl,hq,fx,fs,q⟩:=h
 cases ry
 rcases hq with hq | hq
 ·obtain⟨its,r,pl,hz⟩:=I.list hq
  refine SeqAt.in_listAt (ic x) pl.isList (fun w hw=>gP rx fx r fs w (by simpa using hw)) ⟨.bl _,H,I,rfl,?_⟩
  rw [show its.toArray.any (ic x)=its.any (ic x) by simp,jt r fs]
  exact q
 ·obtain⟨its,r,pl,hz⟩:=I.tuple hq
  refine SeqAt.in_tupleAt (ic x) pl (fun w hw=>gP rx fx r fs w (by simpa using hw)) ⟨.bl _,H,I,rfl,?_⟩
  rw [show its.toArray.any (ic x)=its.any (ic x) by simp,jt r fs]
  exact q
theorem ph:eS X (compareOp .NotIn) (zH X.K true):=by
 intro pins s σ H x y v u Q I rx ry h
 obtain⟨p,xs,rfl,hq,fx,fs,q⟩:=h
 cases ry
 rcases hq with hq | hq
 ·obtain⟨its,r,pl,hz⟩:=I.list hq
  refine SeqAt.notIn_listAt (ic x) pl.isList (fun w hw=>gP rx fx r fs w (by simpa using hw)) ⟨.bl _,H,I,rfl,?_⟩
  rw [show its.toArray.any (ic x)=its.any (ic x) by simp,jt r fs]
  exact q
 ·obtain⟨its,r,pl,hz⟩:=I.tuple hq
  refine SeqAt.notIn_tupleAt (ic x) pl (fun w hw=>gP rx fx r fs w (by simpa using hw)) ⟨.bl _,H,I,rfl,?_⟩
  rw [show its.toArray.any (ic x)=its.any (ic x) by simp,jt r fs]
  exact q
theorem br:fE X (.builtin "len") (fun xs H Q=>∃ p ys,xs = [.ref p]/\(aU X.K H p ys\/aw X.K H p ys)/\Q (.int ys.length) H):=by
 intro pins s σ H xs us Q I r h
 obtain⟨p,ys,rfl,hq,q⟩:=h
 obtain⟨u,rfl,rx⟩:=vals1 r
 cases rx
 have hn:=jr
 rcases hq with hq | hq
 ·obtain⟨its,r',pl,hz⟩:=I.list hq
  have hlen:=r'.length
  exact Calls.call_len_list pl.isList (by simp only [List.size_toArray] <;> omega) ⟨.int ys.length,H,I.tok _,⟨s.toks+1,by rw [List.size_toArray,hlen]⟩,q⟩
 ·obtain⟨its,r',pl,hz⟩:=I.tuple hq
  have hlen:=r'.length
  exact len_tuple pl (by simp only [List.size_toArray] <;> omega) ⟨.int ys.length,H,I.tok _,⟨s.toks+1,by rw [List.size_toArray,hlen]⟩,q⟩
theorem kd:fE X (.type "list") (fun xs H Q=>∃ p ys,xs = [.ref p]/\(aU X.K H p ys\/aw X.K H p ys)/\∀ l,H l=none->Q (.ref l) (upd H l (.lst ys))):=by
 intro pins s σ H xs us Q I r h
 obtain⟨p,ys,rfl,hq,q⟩:=h
 obtain⟨u,rfl,rx⟩:=vals1 r
 cases rx
 have fin:∀ (its:List Value),Vals ys its->ys.length<=sizeLine->∀ (h':Heap) (c':Nat),(∀ b o',s.heap.get? b=some o'->h'.get? b=some o') ->
   h'.get? s.heap.objs.size=some { cls:=.type "list",dict:=none,data:=.seq its.toArray c',slots:=#[] }->EP X pins σ Q (.ref s.heap.objs.size) { s with heap:=h' }:=fun its r' hz h' c' kp e =>
  ⟨.ref s.heap.objs.size,_,I.laid (t':=s.toks) kp (Nat.le_refl _) (show bV X.prog X.w _ h' _ (.lst ys) from ⟨hz,its,c',r',e⟩),rfl,q _ (I.aN.fresh (Nat.le_refl _))⟩
 rcases hq with hq | hq
 ·obtain⟨its,r',pl,hz⟩:=I.list hq
  have hlen:=r'.length
  obtain⟨o,ho,hc,n,hd⟩:=pl.isList
  exact call_list_seq p (.inl rfl) ho hc hd (fun h' c' kp e=>fin its r' hz h' c' kp e) (by simp only [List.size_toArray] <;> omega)
 ·obtain⟨its,r',pl,hz⟩:=I.tuple hq
  have hlen:=r'.length
  obtain⟨o,ho,hc,n,hd⟩:=pl
  exact call_list_seq p (.inr rfl) ho hc hd (fun h' c' kp e=>fin its r' hz h' c' kp e) (by simp only [List.size_toArray] <;> omega)
theorem bL:fE X (.type "tuple") (fun xs H Q=>∃ p ys,xs = [.ref p]/\((aU X.K H p ys/\∀ l,H l=none->Q (.ref l) (upd H l (.tup ys)))\/(aw X.K H p ys/\Q (.ref p) H))):=by
 intro pins s σ H xs us Q I r h
 obtain⟨p,ys,rfl,h⟩:=h
 obtain⟨u,rfl,rx⟩:=vals1 r
 cases rx
 rcases h with ⟨hq,q⟩ | ⟨hq,q⟩
 ·obtain⟨its,r',pl,hz⟩:=I.list hq
  have hlen:=r'.length
  refine call_tuple_list pl.isList (fun h' kp=>?_) (by simp only [List.size_toArray] <;> omega)
  have I1:Inv X pins σ H { s with heap:=h' }:=I.kept (t':=s.toks) kp
  have I2:Inv X pins σ (upd H h'.objs.size (.tup ys)) { s with heap:=h'.push { cls:=.type "tuple",data:=.seq its.toArray } } :=
   I1.laid (t':=s.toks) (fun b o e=>Heap.get?_push_of_some _ e) (Nat.le_refl _) (show bV X.prog X.w _ _ _ (.tup ys) from ⟨hz,its,r',⟨_,Heap.get?_push_size _ rfl,rfl,_,rfl,rfl⟩⟩)
  exact⟨.ref h'.objs.size,_,I2,rfl,q _ (I1.aN.fresh (Nat.le_refl _))⟩
 ·obtain⟨its,r',pl,hz⟩:=I.tuple hq
  exact call_tuple_same pl ⟨.ref p,H,I,rfl,q⟩
def zI (K:PySem.W.Frag) (T:String) (x:V) (H:Hp):Prop:=match x with
 | .str _=>T = "str"
 | .int _=>T = "int"
 | .ref p=>(T = "list" /\ ∃ xs,aU K H p xs)\/(T = "tuple" /\ ∃ o,K.lookup p=some o/\o.cls=.type "tuple" /\ o.dict=none) \/
   (T = "dict" /\ ((∃ kvs,H p=some (.dK kvs))\/∃ kvs,H p=some (.dT kvs)))\/(T = "set" /\ ∃ S n,H p=some (.set S n))
 | _=>False
theorem yo {pins:List (Addr × Obj)} {σ : St} {H:Hp} {s:Shared} {T:String} {x:V} {v:Value} (I:Inv X pins σ H s) (r:RelV x v) (ty:zI X.K T x H) :
  s.TypeIs v T/\∀ a,v=.ref a->∃ ob,s.heap.get? a=some ob/\ob.dict=none:=by
 cases x with
 | str z =>
  obtain⟨t,rfl⟩:=r
  cases (show T = "str" from ty)
  exact⟨typeIs_str s z t,fun _ e=>nomatch e⟩
 | int i =>
  obtain⟨t,rfl⟩:=r
  cases (show T = "int" from ty)
  exact⟨typeIs_int s i t,fun _ e=>nomatch e⟩
 | ref p =>
  cases r
  rcases ty with ⟨rfl,xs,hq⟩ | ⟨rfl,o,hk,hc,hd⟩ | ⟨rfl,hk⟩ | ⟨rfl,S,n,hk⟩
  ·obtain⟨its,_,pl,_⟩:=I.list hq
   refine⟨pl.isList.typeIs,fun a e=>?_⟩
   cases e
   obtain⟨o,n,e,c,hd,_⟩:=pl
   exact⟨o,e,hd⟩
  ·refine⟨⟨o,I.nL p o hk,hc⟩,fun a e=>?_⟩
   cases e
   exact⟨o,I.nL _ o hk,hd⟩
  ·have z:∃ o,s.heap.get? p=some o/\o.ExactDict:=by
    rcases hk with ⟨kvs,hk⟩ | ⟨kvs,hk⟩
    ·obtain⟨_,_,_,_,o,_,_,e,ex,_⟩:=I.aN p _ hk
     exact⟨o,e,ex⟩
    ·obtain⟨_,_,_,_,o,_,_,e,ex,_⟩:=I.aN p _ hk
     exact⟨o,e,ex⟩
   obtain⟨o,e,ex⟩:=z
   refine⟨⟨o,e,ex.1⟩,fun a e2=>?_⟩
   cases e2
   exact⟨o,e,ex.2.1⟩
  ·obtain⟨o,_,_,_,e,ex,_⟩:=I.aN p _ hk
   refine⟨⟨o,e,ex.1⟩,fun a e2=>?_⟩
   cases e2
   exact⟨o,e,ex.2.1⟩
 | _=>exact False.elim ty
def As (K:PySem.W.Frag) (T:String) (r:V->List V->Hp->VK->Prop) (to:TE) (t:TA):TE:=fun σ H Q=>to σ H fun x H1=>zI K T x H1/\t σ H1 fun xs H2=>r x xs H2 Q
variable {o e:Expr} {es:List Expr} {to:TE} {t:TA} {name:Str} {apos cpos:Pos} {T id:String} {r:V->List V->Hp->VK->Prop}
theorem gF (pa:PlainAttrs T) (slot:Slot T name id) (hty:typeOf (.builtin id)=pure (.type "method_descriptor")) (hm:zG X id r) (ho:PE X o to) (ha:PA X (e :: es) t)
  (hbase:attributeBase o name X.env (eval o X.env)=eval o X.env:=by rfl)
  (hfew:((backTo cpos (starEach (e :: es) X.env)).all (fun x=>!x.1) && (backToKw cpos (keywordEach [] X.env)).all (fun x=>x.1.isSome)
   && decide ((e :: es).length+([]:List Keyword).length+(if ([]:List Keyword).isEmpty then 0 else 1) < 30))=true:=by rfl)
  (hline:(apos.endLine == cpos.line)=true:=by rfl) (hs:starEach (e :: es) X.env=(false,eval e X.env) :: starEach es X.env:=by rfl) (hplain:(backTo cpos (starEach es X.env)).any (·.1)=false:=by rfl) :
  PE X (.Call (.Attribute o name apos) (e :: es) [] cpos) (As X.K T r to t):=by
 intro pins s σ H Q I h
 refine wpAny_Call_method_late hbase hfew hline rfl (bf (ho pins s σ H _ I h) fun v s1 ⟨x,H1,I1,r1,ty,q1⟩=>?_)
 obtain⟨h1,h2⟩:=yo I1 r1 ty
 refine⟨T,id,pa,slot,hty,h1,h2,?_⟩
 have hA:=ha cpos pins s1 σ H1 _ I1 q1
 rw [hs] at hA ⊢
 refine Calls.callWith_builtin (by show (false || (backTo cpos (starEach es X.env)).any (·.1))=false;rw [hplain] <;> rfl) (Calls.evalArgs_plain ?_)
 exact bf hA fun us s2 ⟨vs,H2,I2,r2,q2⟩=>hm pins s2 σ H2 x vs v us Q I2 r1 r2 q2
end
def ua (X:Cx) (id:String) (r:V->List V->Hp->VK->Prop):Prop :=
 ∀ (pins:List (Addr × Obj)) (s:Shared) (σ : St) (H:Hp) (x:V) (xs:List V) (v:Value) (us:List Value) (Q:VK),Inv X pins σ H s->RelV x v->Vals xs us->r x xs H Q ->
  wpAny (model X.prog X.w) X.A (call (.builtin id) (v :: us)) (EP X pins σ Q) X.xe s
theorem Vals.one:∀ {x:V} {us:List Value},Vals [x] us->∃ u,us = [u]/\RelV x u
 | _,_,.cons r .nil=>⟨_,rfl,r⟩
theorem Vals.eraseIdx:∀ {xs:List V} {us:List Value} (i:Nat),Vals xs us->Vals (xs.eraseIdx i) (us.eraseIdx i)
 | _,_,_,.nil=>.nil
 | _,_,0,.cons _ t=>t
 | _,_,i+1,.cons r t=>.cons r (Vals.eraseIdx i t)
theorem Vals.rep {xs:List V} {us:List Value} (h:Vals xs us):∀ k:Nat,Vals (List.replicate k xs).flatten (List.replicate k us).flatten
 | 0=>.nil
 | k+1=>by
  rw [List.replicate_succ,List.replicate_succ,List.flatten_cons,List.flatten_cons]
  exact Vals.append h (Vals.rep h k)
theorem nS {α : Type}:∀ (l:List α) (i:Nat),(l.eraseIdx i).length<=l.length
 | [],_=>Nat.le_refl _
 | _ :: _,0=>Nat.le_succ _
 | _ :: r,i+1=>Nat.succ_le_succ (nS r i)
theorem foldl_rep (its:List Value):∀ (k:Nat) (acc:List Value),
  List.foldl (fun x1 x2=>x1++x2) acc.toArray (List.replicate k its.toArray)=(acc++(List.replicate k its).flatten).toArray
 | 0,acc=>by simp
 | k+1,acc=>by
  have e:acc.toArray++its.toArray=(acc++its).toArray:=by simp
  have e2:(acc++its)++(List.replicate k its).flatten=acc++(List.replicate (k+1) its).flatten:=by
   rw [List.replicate_succ,List.flatten_cons,List.append_assoc]
  rw [<-e2,<-foldl_rep its k (acc++its),<-e,List.replicate_succ,List.foldl_cons]
section
variable {X:Cx} {pins:List (Addr × Obj)} {σ : St} {H:Hp} {s:Shared} {l b:Addr} {xs ys zs:List V}
theorem Inv.sE {its its':List Value} {n:Nat} {f:Array Value->Array Value} {t':Nat} (I:Inv X pins σ H s) (hH:H l=some (.lst xs))
  (e:s.heap.get? l=some { cls:=.type "list",data:=.seq its.toArray n }) (hf:f its.toArray=its'.toArray) (hv:Vals ys its') (hz:ys.length<=sizeLine) :
  Inv X pins σ (upd H l (.lst ys)) { s with heap:=s.heap.update l (Obj.mapSeq f),toks:=t' }:=by
 have q:=PySem.IsL.update e f
 rw [hf] at q
 refine I.write (x:=l) (e:=l) (by rw [hH];exact trivial) (.inl rfl) (fun b' u hb hu=>(Heap.get?_update_other s.heap (Obj.mapSeq f) (Ne.symm hb)).trans hu) ⟨_,q⟩ ?_
 exact⟨hz,its',_,hv,q⟩
theorem Inv.yq {its:List Value} {t':Nat} (I:Inv X pins σ H s) (hv:Vals ys its) (hz:ys.length<=sizeLine) :
  Inv X pins σ (upd H s.heap.objs.size (.lst ys)) { s with heap:=s.heap.push { cls:=.type "list",data:=.seq its.toArray },toks:=t' } :=
 I.laid (fun _ _ q=>Heap.get?_push_of_some _ q) (Nat.le_refl _) ⟨hz,its,0,hv,Heap.get?_push_size _ rfl⟩
theorem Inv.fresh (I:Inv X pins σ H s):H s.heap.objs.size=none:=I.aN.fresh (Nat.le_refl _)
theorem Inv.jE (I:Inv X pins σ H s) (hH:H l=some (.lst xs)):xs.length<=sizeLine/\∃ (its:List Value) (n:Nat),Vals xs its/\xs.length=its.length/\s.heap.get? l=some { cls:=.type "list",data:=.seq its.toArray n }:=by
 obtain⟨z,its,n,r,e⟩:=I.aN l _ hH
 exact⟨z,its,n,r,r.length,e⟩
theorem pA {n:Nat} (h:n<=sizeLine):Builtin.List.listTooLong n=false:=by
 unfold Builtin.List.listTooLong
 exact decide_eq_false (by omega)
end
section
variable {X:Cx}
def xm:V->List V->Hp->VK->Prop:=fun x vs H Q=>∃ l xs y,x=.ref l/\vs = [y]/\H l=some (.lst xs)/\xs.length < sizeLine/\Q .aS (upd H l (.lst (xs ++ [y])))
theorem ie:ua X "list.append" xm:=by
 intro pins s σ H x vs v us Q I rx rv h
 obtain⟨l,xs,y,rfl,rfl,hH,hz,q⟩:=h
 cases rx
 obtain⟨u,rfl,ru⟩:=rv.one
 obtain⟨z,its,n,r,hl,e⟩:=I.jE hH
 refine call_meets F.slot_list_append ⟨_,e,rfl⟩ F.entry_list_append (F.args_list_append_2 _ _) (PySem.list_append l its.toArray n u (by rw [List.size_toArray];omega)) ⟨e,?_⟩
 refine⟨.aS,_,I.sE (its':=its ++ [u]) hH e (by simp) (r.append (.cons ru .nil)) ?_,rfl,q⟩
 rw [List.length_append,List.length_singleton]
 omega
def xn:V->List V->Hp->VK->Prop:=fun x vs H Q=>∃ l b xs zs,x=.ref l/\vs = [.ref b]/\H l=some (.lst xs)/\H b=some (.lst zs)/\xs.length+zs.length<=sizeLine/\Q .aS (upd H l (.lst (xs++zs)))
theorem nT:ua X "list.extend" xn:=by
 intro pins s σ H x vs v us Q I rx rv h
 obtain⟨l,b,xs,zs,rfl,rfl,hH,hB,hz,q⟩:=h
 cases rx
 obtain⟨u,rfl,ru⟩:=rv.one
 cases ru
 obtain⟨z,its,n,r,hl,e⟩:=I.jE hH
 obtain⟨z2,its2,n2,r2,hl2,e2⟩:=I.jE hB
 have hsz:its.toArray.size+its2.toArray.size<=sizeLine:=by rw [List.size_toArray,List.size_toArray];omega
 have hlong:¬ (!its.toArray.isEmpty && Builtin.List.listTooLong (its.toArray.size+its2.toArray.size))=true:=by
  rw [pA hsz,Bool.and_false]
  exact Bool.false_ne_true
 refine call_meets F.slot_list_extend ⟨_,e,rfl⟩ F.entry_list_extend (F.args_list_extend_2 _ _)
  (AutoSeq1.list_extend_list_list_0 l its.toArray n b its2.toArray n2 hlong (by rw [List.size_toArray];omega) (by omega)) ⟨e,e2,?_⟩
 refine⟨.aS,_,I.sE (its':=its++its2) hH e (by simp) (r.append r2) ?_,rfl,q⟩
 rw [List.length_append]
 omega
def yr:V->List V->Hp->VK->Prop:=fun x vs H Q=>∃ l xs i k y,x=.ref l/\vs = [.int i]/\H l=some (.lst xs)/\-(2 ^ 63)<=i/\i < 2 ^ 63/\seqIndex? i xs.length=some k/\xs[k]? = some y/\Q y (upd H l (.lst (xs.eraseIdx k)))
theorem vw:ua X "list.pop" yr:=by
 intro pins s σ H x vs v us Q I rx rv h
 obtain⟨l,xs,i,k,y,rfl,rfl,hH,h1,h2,hk,hy,q⟩:=h
 cases rx
 obtain⟨u,rfl,ru⟩:=rv.one
 obtain⟨t,rfl⟩:=ru
 obtain⟨z,its,n,r,hl,e⟩:=I.jE hH
 obtain⟨w,hw,rw'⟩:=r.get hy
 refine call_meets F.slot_list_pop ⟨_,e,rfl⟩ F.entry_list_pop (F.args_list_pop_2 _ _)
  (MeetsSeq.list_pop_at l its.toArray n i t k w (fitsIndex_both h1 h2) (by rw [List.size_toArray,<-hl];exact hk) (by rw [<-Array.getElem?_toList];exact hw) (by rw [List.size_toArray];omega)) ⟨e,?_⟩
 refine⟨y,_,I.sE (its':=its.eraseIdx k) hH e ?_ (r.eraseIdx k) ?_,rw',q⟩
 ·show its.toArray.eraseIdxIfInBounds k=(its.eraseIdx k).toArray
  rw [List.eraseIdxIfInBounds_toArray]
 ·have:=nS xs k
  omega
def Ab:R2:=fun x y H Q=>∃ l b xs zs,x=.ref l/\y=.ref b/\H l=some (.lst xs)/\H b=some (.lst zs)/\xs.length+zs.length<=sizeLine/\∀ p,H p=none->Q (.ref p) (upd H p (.lst (xs++zs)))
theorem yt:eS X (binaryOp .Add) Ab:=by
 intro pins s σ H x y v u Q I rx ry h
 obtain⟨l,b,xs,zs,rfl,rfl,hH,hB,hz,q⟩:=h
 cases rx
 cases ry
 obtain⟨z,its,n,r,hl,e⟩:=I.jE hH
 obtain⟨z2,its2,n2,r2,hl2,e2⟩:=I.jE hB
 refine PySem.P.add_list e e2 ?_ (by rw [List.size_toArray,List.size_toArray];omega)
 have ea:its.toArray++its2.toArray=(its++its2).toArray:=by simp
 rw [ea]
 exact⟨.ref _,_,I.yq (t':=s.toks) (r.append r2) (by rw [List.length_append];omega),rfl,q _ I.fresh⟩
def Ac:R2:=fun x y H Q=>∃ l k xs,x=.ref l/\y=.int k/\H l=some (.lst xs)/\-(2 ^ 63)<=k/\k < 2 ^ 63/\xs.length * k.toNat<=sizeLine /\
 ∀ p,H p=none->Q (.ref p) (upd H p (.lst (List.replicate k.toNat xs).flatten))
theorem len_rep {α : Type} (xs:List α) (k:Nat):(List.replicate k xs).flatten.length=k * xs.length:=by
 induction k with
 | zero=>simp
 | succ k ih=>rw [List.replicate_succ,List.flatten_cons,List.length_append,ih,Nat.succ_mul,Nat.add_comm]
theorem pB:eS X (binaryOp .Mult) Ac:=by
 intro pins s σ H x y v u Q I rx ry h
 obtain⟨l,k,xs,rfl,rfl,hH,h1,h2,hz,q⟩:=h
 cases rx
 obtain⟨t,rfl⟩:=ry
 obtain⟨z,its,n,r,hl,e⟩:=I.jE hH
 have hlen:its.toArray.size * k.toNat<=sizeLine:=by rw [List.size_toArray,<-hl];exact hz
 have hcap:¬ its.toArray.size * k.toNat > (2 ^ 63 - 1) / 8:=by
  have:(sizeLine:Nat)<=(2 ^ 63 - 1) / 8:=by decide
  omega
 have hfit:¬ (!Builtin.List.listFitsIndex k)=true:=by
  rw [fitsIndex_both h1 h2]
  exact Bool.false_ne_true
 have hlong:¬ Builtin.List.listTooLong (its.toArray.size * k.toNat)=true:=by
  rw [pA hlen]
  exact Bool.false_ne_true
 have hnew:List.foldl (fun x1 x2=>x1++x2) #[] (List.replicate (if its.toArray.isEmpty=true then 0 else k.toNat) its.toArray)=(List.replicate k.toNat its).flatten.toArray:=by
  have f0:∀ m:Nat,List.foldl (fun x1 x2=>x1++x2) #[] (List.replicate m its.toArray)=(List.replicate m its).flatten.toArray:=fun m=>by
   have:=foldl_rep its m []
   rw [List.nil_append] at this
   exact this
  rw [f0]
  cases its with
  | nil=>simp
  | cons a r'=>rw [if_neg (by simp)]
 refine wpAny_binaryOp_repeat_ref (T := "list") (U := "int") (by decide) ⟨_,e,rfl⟩ (fun s'=>typeIs_int s' k t) noFill_list_mul F.fills_int_mul F.slot_int_rmul repeat_list F.slot_int_index.lookup
  (call_meets F.slot_int_rmul (typeIs_int s k t) F.entry_int_rmul (F.args_int_rmul_2 _ _) (int___rmul___int_list k t l its.toArray n)
   ⟨e,rfl,⟨_,e,rfl⟩,call_meets F.slot_list_mul ⟨_,e,rfl⟩ F.entry_list_mul (F.args_list_mul_2 _ _) (AutoListH.list___mul___list_int_3 l its.toArray n k t hfit hcap hlong) ⟨e,?_⟩⟩)
 rw [hnew]
 exact⟨.ref _,_,I.yq (t':=s.toks) (r.rep k.toNat) (by rw [len_rep,Nat.mul_comm];exact hz),rfl,q _ I.fresh⟩
end
section
variable {prog:Program} {w:World} {A:Around} {E:Value->Shared->Prop} {s:Shared}
end
section
variable {X:Cx}
end
end L2
namespace zJ
open PySem PySem.W PySem.Calls PyProof.Rows
theorem my {P:Params} {h:Heap}:∀ (ns:List Int) (vs:List Value),WellAll P h vs (ns.map WData.int)->IntsAre vs ns:=by
 intro ns
 induction ns with
 | nil =>
  intro vs w
  rw [List.map_nil] at w
  cases w
  exact .nil
 | cons n ns ih =>
  intro vs w
  rw [List.map_cons] at w
  cases w with
  | cons a b =>
   cases a
   exact .cons _ _ (ih _ b)
theorem ub {l:OpenLaw} {n:Nat} (hn:l.most=some n) {P:Params} {h:Heap} {args:List WData} {vals:List Value}
  (hpre:l.row.toRowW.claim.pre args=true) (hwl:WellAll P h vals args) :
  ∃ a vs ns,vals = [Value.ref a]/\args = [WData.list (ns.map WData.int)]/\h.get? a=some { cls:=.type "list",data:=.seq vs.toArray }/\IntsAre vs ns/\ns.length<=n:=by
 have hsh:WShape.hasAll [] args [.list .int] = true:=(pre_splitW hpre).1
 have hc:l.pre.holds [] { args:=args }=true:=(pre_splitW hpre).2
 obtain⟨d,r,rfl,h1,h2⟩:=hasAllW_cons hsh
 obtain rfl:=hasAllW_nil h2
 obtain⟨xs,rfl,h3⟩:=hasW_list h1
 obtain⟨ns,rfl⟩:=items_int h3
 have hlen:ns.length<=n:=by
  unfold OpenLaw.pre at hc
  have h4:(WTm.not (.lt (.lit (.int (n:Int))) (.len (.arg 0)))).holds [] { args:=[.list (ns.map .int)] }=true:=by
   have h4:=(holds_andW hc).1
   rw [hn] at h4
   exact h4
  have h5:=condW_of h4 (w_not (w_lt w_lit (w_len_list (w_arg rfl))))
  rw [List.length_map] at h5
  refine Nat.le_of_not_lt fun q=>?_
  have q':(n:Int) < ((ns.length:Nat):Int):=by omega
  first
   | (rw [decide_eq_true q'] at h5;exact absurd h5 (by decide))
   | (simp at h5;omega)
 cases hwl with
 | cons w1 w2 =>
  cases w2
  cases w1 with
  | list ho hall=>exact⟨_,_,ns,rfl,rfl,ho,my ns _ hall,hlen⟩
theorem uc (l:OpenLaw) (args:List WData):l.row.toRowW.claim.post args (.bool true) args=true :=
 postW_of (r:=l.row.toRowW) (X:=(true == true))
  (show WShape.has [] (.bool true) .bool=true by first | rfl | decide | simp [WShape.has,WShape.arms,WShape.armsAll])
  (show (WTm.eq .res (.lit (.bool true))).value [] { args:=args,res:=some (.bool true),after:=args }=some (.bool (true == true)) from w_eq_bool (w_res rfl) w_lit) rfl
theorem qK {l:OpenLaw} {n:Nat} {q:Program} {loose:List Str} {XP:(Str->Option Value)->Heap->Prop} {YP:World->Heap->Prop} {d:DefRec}
  (hn:l.most=some n) (hdf:d.params.defaults = [])
  (call:∀ (w:World) (dq s₁ : Shared) (mg mb:Str->Option Value) (fa:Addr) (o:Obj) (pm cd doc:Value) (a:Addr) (vs:List Value) (ns:List Int),
   Ground q loose [] XP w dq mg mb s₁.heap->YP w s₁.heap ->
   s₁.heap.get? fa=some o->o.data=.func (docDef d.name d.params d.body d.scope pm cd doc)->s₁.heap.CodeRec cd d.name->mg d.name=some (.ref fa) ->
   s₁.heap.get? a=some { cls:=.type "list",data:=.seq vs.toArray }->IntsAre vs ns->ns.length<=n->s₁.gens = #[] ->
   codeAny (model l.prog w) callerA (.call (.ref fa) ⟨[.ref a],[]⟩) (fun r s'=>r=.ok (.ret (.bool true))/\OldK s₁.heap s'.heap/\s'.os=s₁.os/\AllBare s'.gens) s₁) :
  WalkO q loose XP YP l.row.toRowW d [] (fun f vs=>PySem.call f vs):=by
 intro w dq s₁ mg mb G Y fa o pm cd doc dV kV ho hd hcd hD hmg hg args vals as hpre hlay hrd hwl hlo
 obtain rfl:dV=.none:=Dflts.none hD hdf
 obtain rfl:kV=.none:=Dflts.noKw hD
 obtain⟨a,vs,ns,rfl,rfl,hobj,hints,hlen⟩:=ub hn hpre hwl
 refine enter_call (codeAny_mono (call w dq s₁ mg mb fa o pm cd doc a vs ns G Y ho (fd_plain hd) hcd hmg hobj hints hlen hg) fun r s' hq=>?_)
 obtain⟨rfl,h2,h3,h4⟩:=hq
 exact⟨.inl ⟨.bool true,.bool true,[],rfl,fun _=>rfl,.bool true,uc l _,fun _=>⟨List.Pairwise.nil,fun _ hm=>(nomatch hm)⟩⟩,h2,h3,h4⟩
section
variable {prog:Program} {w:World} {A:Around} {E:Value->Shared->Prop} {s:Shared} {K:Frag}
def ledger (h:Heap) (L d:Addr):List (Addr × Obj):=(List.range h.objs.size).filterMap fun a=>if a=L\/a=d then none else (h.get? a).map fun o=>(a,o)
end
end zJ
namespace L2
open PySem PySem.Spec PyProof.Rows
theorem nU:∀ {vs:List Value} {ns:List Int},IntsAre vs ns->Vals (ns.map V.int) vs
 | _,_,.nil=>.nil
 | _,_,.cons n t h=>.cons ⟨t,rfl⟩ (nU h)
def vy (H:Hp):Prop:=∀ b,H b=none\/∃ o xs,H b=some (.d6 o (.lst xs))
theorem vz {P:Program} {w:World} {K:PySem.W.Frag} {mg mb:Str->Option Value} {CX:ka} {k:Nat} {fa a:Addr} {fd:FuncData} {x:Str} {sp:Sp} {s₁ : Shared} {vs:List Value} {ns:List Int}
    (KX:K.In s₁.heap) (hns:s₁.heap.Ns mainGlobals mg) (hb:s₁.heap.Ns builtinsNs mb) (hbb:∀ x:Str,x ≠ "__name__" -> mb x=bootBuiltins x) (hlim:s₁.heap.NoLimit) (hg:s₁.gens = #[])
    (ha:s₁.heap.get? a=some { cls:=.type "list",data:=.seq vs.toArray }) (hi:IntsAre vs ns) (hl:ns.length<=sizeLine) (hr:eM k callerA)
    (F:∀ base:Heap,K.In base->base.Ns mainGlobals mg->bB P w K mg base CX k fa fd [x] sp) (hbind:∀ (s:Shared) (u:Value),BindsTo s fd ⟨[u],[]⟩ [(x,u)])
    (hsp:∀ H:Hp,vy H->aU K H a (ns.map V.int)->sp [.ref a] H (fun v _=>v=.bl true) fun _ _ _=>False)
    (hCX:∀ H e s',CX [] H s₁ (fun _ _ _=>False) e s'->False) :
    codeAny (model P w) callerA (.call (.ref fa) ⟨[.ref a],[]⟩) (fun r s'=>r=.ok (.ret (.bool true))/\OldK s₁.heap s'.heap/\s'.os=s₁.os/\AllBare s'.gens) s₁:=by
  have rv:=nU hi
  have lenV:=hi.length
  have core:∀ H:Hp,vy H->aU K H a (ns.map V.int)->dC P w H s₁.heap->(∀ b,H b ≠ none->b=a)->(H a ≠ none->K.lookup a=none) ->
      codeAny (model P w) callerA (.call (.ref fa) ⟨[.ref a],[]⟩) (fun r s'=>r=.ok (.ret (.bool true))/\OldK s₁.heap s'.heap/\s'.os=s₁.os/\AllBare s'.gens) s₁:=by
    intro H hO hS aN hA hK
    have base_of:∀ {b:Addr} {o:Obj},s₁.heap.get? b=some o->H b=none->(jB s₁.heap H).get? b=some o:=fun e n=>vd e n
    have noA:∀ {b:Addr} {o:Obj} {es:Array DictEntry} {ep:Nat},s₁.heap.get? b=some o->o.data=.dict es ep->H b=none:=fun {b o es ep} e d=>by
      cases q:H b with
      | none=>rfl
      | some u =>
        have e':b=a:=hA b (by rw [q];simp)
        subst e'
        rw [ha] at e;cases e
        have d':Data.seq vs.toArray _=Data.dict es ep:=d
        cases d'
    have nsK:∀ {b:Addr} {m:Str->Option Value},s₁.heap.Ns b m->(jB s₁.heap H).Ns b m:=fun {b m} ⟨o,es,ep,e,d,r⟩=>⟨o,es,ep,base_of e (noA e d),d,r⟩
    have hKb:K.In (jB s₁.heap H):=fun b o e=>base_of (KX b o e) (by
      cases q:H b with
      | none=>rfl
      | some u =>
        have e':b=a:=hA b (by rw [q];simp)
        subst e'
        rw [hK (by rw [q];simp)] at e;cases e)
    have hM:Mod K mg (jB s₁.heap H):=⟨hKb,nsK hns,⟨mb,nsK hb,hbb⟩,let ⟨mc,h1,h2⟩:=hlim;⟨mc,nsK h1,h2⟩⟩
    have e0:sr P w K mg (jB s₁.heap H) callerA [] s₁ H:=⟨rfl,hM,fun b o e=>xg e,Nat.le_of_eq (tO _ _),trivial,fun b hb=>absurd (show b ∈ ([]:List Addr) from hb) (by simp),aN,.of_eq hg⟩
    refine codeAny_mono ((F _ hKb (nsK hns)).run callerA [] s₁ H ⟨[.ref a],[]⟩ [.ref a] [.ref a] _ _ hr e0 (hbind s₁ (.ref a)) (.cons rfl .nil) (hsp H hO hS)) fun r s' h=>?_
    cases r with
    | error e=>exact (hCX H e s' h).elim
    | ok fl =>
      cases fl with
      | next=>exact False.elim h
      | brk=>exact False.elim h
      | cont=>exact False.elim h
      | ret u =>
        obtain⟨v,H',os,bare,un,hok',r',q⟩:=h
        have q':v=.bl true:=q
        subst q'
        obtain rfl:u=Value.bool true:=r'
        refine⟨rfl,OldK.of_keep fun b o e=>?_,os,bare⟩
        cases q:H b with
        | none=>exact un.keep b o e q (by intro z;exact absurd (show b ∈ ([]:List Addr) from z) (by simp)) (by simp)
        | some u =>
          rcases hO b with z | ⟨ob,xs,z⟩
          · rw [q] at z;cases z
          · have z2:=un.iq b ob _ z
            obtain⟨e1,_⟩:=aN b _ z
            obtain⟨e2,_⟩:=hok' b _ z2
            rw [e] at e1;cases e1
            exact e2
  cases hk:K.lookup a with
  | some o =>
    have e:=KX a o hk
    rw [ha] at e
    cases e
    refine core (fun _=>none) (fun _=>.inl rfl) (.inr ⟨_,vs.toArray,_,hk,rfl,rfl,rfl,by rw [List.size_toArray,lenV];exact hl,by simpa using rv⟩) (fun b u z=>by have z':(none:Option HO)=some u:=z;cases z') (fun b z=>absurd rfl z) fun z=>absurd rfl z
  | none =>
    refine core (fun b=>if b=a then some (.d6 { cls:=.type "list",data:=.seq vs.toArray } (.lst (ns.map V.int))) else none) (fun b=>?_) (.inl (.inr ⟨{ cls:=.type "list",data:=.seq vs.toArray },if_pos rfl⟩)) (fun b u z=>?_) (fun b z=>?_) fun _=>hk
    · by_cases hb:b=a
      · exact .inr ⟨_,_,if_pos hb⟩
      · exact .inl (if_neg hb)
    · by_cases hb:b=a
      · have z':=(if_pos hb).symm.trans z
        cases z'
        subst hb
        exact⟨ha,by rw [List.length_map];exact hl,vs,_,rv,ha⟩
      · have z':=(if_neg hb).symm.trans z
        cases z'
    · by_cases hb:b=a
      · exact hb
      · exact absurd (if_neg hb) z
abbrev KOf {K:PySem.W.Frag} {h:Heap} (_:K.In h):PySem.W.Frag:=K
theorem xo {l:PySem.W.OpenLaw} {n k:Nat} {q:Program} {loose:List Str} {XP:(Str->Option Value)->Heap->Prop} {YP:World->Heap->Prop} {d:DefRec} {K:Params->PySem.W.Frag} {CX:World->ka} {sp:World->Sp} {x:Str}
  (hn:l.most=some n) (hn2:n<=sizeLine) (hdf:d.params.defaults = []) (hr:eM k callerA)
  (hY:∀ (w:World) (h:Heap),YP w h->(K w.params).In h)
  (F:∀ (w:World) (mg:Str->Option Value) (fa:Addr) (h:Heap),(K w.params).In h->h.Ns mainGlobals mg->mg d.name=some (.ref fa) ->
   ∃ fd:FuncData,(∀ (s:Shared) (u:Value),BindsTo s fd ⟨[u],[]⟩ [(x,u)]) /\
    ∀ base:Heap,(K w.params).In base->base.Ns mainGlobals mg->bB l.prog w (K w.params) mg base (CX w) k fa fd [x] (sp w))
  (hsp:∀ (w:World) (H:Hp) (a:Addr) (ns:List Int),ns.length<=n->vy H->aU (K w.params) H a (ns.map V.int)->sp w [.ref a] H (fun v _=>v=.bl true) fun _ _ _=>False)
  (hCX:∀ (w:World) (H:Hp) (s:Shared) (e:Value) (s':Shared),CX w [] H s (fun _ _ _=>False) e s'->False) :
  PySem.W.WalkO q loose XP YP l.row.toRowW d [] (fun f vs=>PySem.call f vs):=by
 refine zJ.qK hn hdf fun w dq s₁ mg mb fa o pm cd doc a vs ns G Y ho hd hcd hmg hobj hints hlen hg=>?_
 have KX:=hY w _ Y
 obtain⟨fd,hb,hF⟩:=F w mg fa _ KX G.T.g hmg
 exact vz KX G.T.g G.T.b G.T.builtins G.T.nolimit hg hobj hints (Nat.le_trans hlen hn2) hr hF hb (fun H hO hS=>hsp w H a ns hlen hO hS) fun H e s'=>hCX w H s₁ e s'
def aM (s:Stmt):Arguments:=match s with
 | .FunctionDef _ a _ _ _ _ _ _ _ _=>a
 | _=>{ posonlyargs:=[],args:=[],vararg:=none,kwonlyargs:=[],kw_defaults:=[],kwarg:=none,defaults:=[] }
def aL (s:Stmt):List Stmt:=match s with
 | .FunctionDef _ _ b _ _ _ _ _ _ _=>b
 | _=>[]
def au (s:Stmt):Scope:=match s with
 | .FunctionDef _ _ _ _ _ _ sc _ _ _=>sc
 | _=>{ kind:=.function,names:=[],isGenerator:=false,isCoroutine:=false }
abbrev bT:ka:=fun _ _ _ _ _ _=>False
abbrev E0:XK:=fun _ _ _=>False
theorem zj {X:Cx}:Passes bT X E0:=fun _ _ _ _ _ _ _ h=>h.elim
structure bX (K:PySem.W.Frag) (x qual:Str) (st:Stmt) (f:Addr) (fd:FuncData):Prop where
 ex:∃ (oc:Value) (od:Option Addr) (kV doc pm:Value) (an:Option Addr) (cdv ct:Value) (osl:Array (Option Value)),
  fd=PySem.W.fnOf x qual (aM st) (aL st) (au st) .none kV doc pm an cdv ct/\K.lookup f=some ⟨oc,od,.func fd,osl⟩/\PySem.W.codeIn K cdv qual=true
 kp:PySem.W.keepIn K (.ref f)=true
section
variable {P:Program} {w:World} {K:PySem.W.Frag} {mg:Str->Option Value} {base:Heap}
theorem bX.ok {x qual:Str} {st:Stmt} {f:Addr} {fd:FuncData} {N ps:List Str} {k:Nat} {sp:Sp} (F:bX K x qual st f fd) (S:aP N ps (au st)) (len:∀ vs H Q E,sp vs H Q E->vs.length=ps.length)
  (hbody:∀ (cdv:Value) (A:Around) (outer:List Env) (s:Shared) (H:Hp) (vs:List V) (Q:VK) (E:XK),eM k (A.deeper (envOfC qual (au st) s.heap.objs.size f cdv))->sp vs H Q E ->
   ∃ t,iP (m3 bT P w K mg base N qual (au st) f cdv A outer s H E).wU (aL st) t/\t { nx:=fun _ H'=>Q .aS H',rt:=Q } (start N vs) H):bB P w K mg base bT (k+1) f fd ps sp:=by
 obtain⟨oc,od,kV,doc,pm,an,cdv,ct,osl,rfl,lk,hcd⟩:=F.ex
 refine zf lk hcd S len fun A outer s H vs Q E hr hsp=>?_
 obtain⟨t,h,q⟩:=hbody cdv A outer s H vs Q E hr hsp
 exact⟨t,h.wU,q⟩
theorem bX.binds {x qual:Str} {st:Stmt} {f:Addr} {fd:FuncData} {ps:List Str} (F:bX K x qual st f fd)
  (h:∀ (kV doc pm:Value) (an:Option Addr) (cdv ct:Value) (us:List Value),us.length=ps.length->bindArgs (PySem.W.fnOf x qual (aM st) (aL st) (au st) .none kV doc pm an cdv ct) ⟨us,[]⟩=pure (ps.zip us)):Binds K fd ps []:=by
 obtain⟨oc,od,kV,doc,pm,an,cdv,ct,osl,rfl,lk,hcd⟩:=F.ex
 exact .all (h kV doc pm an cdv ct)
theorem aX {x qual:Str} {st:Stmt} {f:Addr} {oc:Value} {od an:Option Addr} {osl:Array (Option Value)} {kV doc pm cdv ct:Value} (l:K.lookup f=some ⟨oc,od,.func (PySem.W.fnOf x qual (aM st) (aL st) (au st) .none kV doc pm an cdv ct),osl⟩)
  (c:PySem.W.codeIn K cdv qual=true) (k:PySem.W.keepIn K (.ref f)=true):bX K x qual st f (PySem.W.fnOf x qual (aM st) (aL st) (au st) .none kV doc pm an cdv ct):=⟨⟨oc,od,kV,doc,pm,an,cdv,ct,osl,rfl,l,c⟩,k⟩
end
theorem cz {A:Around} {k:Nat} (hr:eM k A):A.units+1 < cLine:=Nat.lt_of_le_of_lt (Nat.add_le_add_left (by decide:1<=64) _) hr.units
theorem bD {n:Nat} (h:n<=1000):n < sizeLine:=Nat.lt_of_le_of_lt h (by decide)
section
variable {X:Cx}
theorem pv (i:Nat) {x:Str} {pos:Pos} (hN:X.N[i]? = some x:=by rfl) (hv:x9 X.env.scope x:=by first | exact Or.inl rfl | exact Or.inr (Or.inl rfl) | exact Or.inr (Or.inr rfl)) (hd:(x == ("__debug__" : Str))=false:=by decide)
  (hcd:(x == ("__classdict__" : Str))=false:=by decide):PE X (.Name x pos) (oZ i):=ya hN hv hd hcd
end
theorem bw {A B:Prop} (h:B):if false=true then A else B:=by
 rw [if_neg Bool.false_ne_true]
 exact h
theorem bA {A B:Prop} (h:A):if true=true then A else B:=by
 rw [if_pos rfl]
 exact h
theorem cA {c A B:Prop} [Decidable c] (h1:c->A) (h2:¬ c->B):if c then A else B:=by
 by_cases h:c
 ·rw [if_pos h]
  exact h1 h
 ·rw [if_neg h]
  exact h2 h
def ao (H H':Hp):Prop:=∀ b o,H b=some o->H' b=some o
theorem ao.refl (H:Hp):ao H H:=fun _ _ h=>h
theorem ao.trans {H H1 H2:Hp} (a:ao H H1) (b:ao H1 H2):ao H H2:=fun c o h=>b c o (a c o h)
theorem ao.free {H H':Hp} (e:ao H H') {l:Addr} (h:H' l=Option.none):H l=Option.none:=by
 cases q:H l with
 | none=>rfl
 | some o =>
  rw [e l o q] at h
  cases h
theorem ao.seq {K:PySem.W.Frag} {H H':Hp} {a:Addr} {xs:List V} (e:ao H H') (h:aU K H a xs):aU K H' a xs:=by
 rcases h with (h | ⟨o,h⟩) | h
 ·exact .inl (.inl (e _ _ h))
 ·exact .inl (.inr ⟨o,e _ _ h⟩)
 ·exact .inr h
section
variable {X:Cx}
theorem xp:eS X (binaryOp .Mult) (rI IntMulOk fun i j=>.int (i * j)):=rE fun _ _ _ _ _ _ _ hc q=>mul_int q hc
def zk (_i j:Int):Prop:=0 < j/\j.natAbs.log2 < 9000
theorem vA:eS X (binaryOp .FloorDiv) (rI zk fun i j=>.int (i / j)):=rE fun i j _ _ _ _ _ hc q=>by
 have h1:(0:Int) < j:=hc.1
 exact floordiv_int (by omega) (by rw [Int.fdiv_eq_ediv_of_nonneg i (by omega)];exact q) (.inl (PyProof.noPylong_of_log2 hc.2))
structure Own (P:Program) (w:World) (K:PySem.W.Frag) (mg:Str->Option Value) (base:Heap) (x:Str) (k:Nat) (ps:List Str) (sp:Sp):Prop where
 ex:∃ f fd,bB P w K mg base bT k f fd ps sp/\mg x=some (.ref f)/\PySem.W.keepIn K (.ref f)=true/\Binds K fd ps []
variable {x:Str} {k:Nat} {ps:List Str} {sp:Sp} {e:Expr} {es:List Expr} {t:TA} {p pos:Pos}
theorem ay (o:Own X.prog X.w X.K X.mg X.base x k ps sp) (hr:eM k X.A) (hg:Gl X x) (ha:PA X (e :: es) t)
  (hdb:(x == ("__debug__" : Str))=false:=by decide) (he:starEach (e :: es) X.env=(false,eval e X.env) :: starEach es X.env:=by rfl)
  (hpl:(backTo pos (starEach es X.env)).any (·.1)=false:=by rfl):PE X (.Call (.Name x p) (e :: es) [] pos) (sx sp [] E0 t):=by
 obtain⟨f,fd,F,hm,hk,hb⟩:=o.ex
 exact xi F hr hg hm hk hb .nil zj ha hdb he hpl
end
theorem bP {α : Type} {x:α} {xs:List α}:fo (x :: xs) 0=some x:=bE (j:=0) rfl
theorem cv {α : Type} {x y:α} {xs:List α}:fo (x :: y :: xs) 1=some y:=bE (j:=1) rfl
theorem at2 {α : Type} {x y z:α} {xs:List α}:fo (x :: y :: z :: xs) 2=some z:=bE (j:=2) rfl
theorem sG {α : Type} {xs:List α} {i:Int} (h0:0<=i) (h1:i < xs.length):∃ v,fo xs i=some v/\v ∈ xs:=by
 obtain⟨j,rfl⟩:∃ j:Nat,i=j:=⟨i.toNat,by omega⟩
 have hj:j < xs.length:=by omega
 exact⟨xs[j],bE (by simp [hj]),List.getElem_mem hj⟩
theorem cI:bootBuiltins "len" = some (.builtin "len"):=by decide +kernel
theorem pC:bootBuiltins "min" = some (.builtin "min"):=by decide +kernel
theorem yu:bootBuiltins "max" = some (.builtin "max"):=by decide +kernel
theorem mz:bootBuiltins "int" = some (.type "int"):=by decide +kernel
theorem cJ:bootBuiltins "tuple" = some (.type "tuple"):=by decide +kernel
theorem rM:bootBuiltins "list" = some (.type "list"):=by decide +kernel
def bR (H:Hp) (b:Addr):Prop:=∃ x y:Int,H b=some (.lst [.int x,.int y])/\0<=y/\y < 2147483648
def Fix (b:Addr) (H H':Hp):Prop:=∀ c o,H c=some o->c ≠ b->H' c=some o
theorem Fix.trans {b:Addr} {H H1 H2:Hp} (u:Fix b H H1) (v:Fix b H1 H2):Fix b H H2:=fun c o h n=>v c o (u c o h n) n
theorem Fix.wX {b:Addr} {H:Hp} {o:HO}:Fix b H (upd H b o):=fun c u h n=>by rw [av n];exact h
theorem Fix.new {b p:Addr} {H:Hp} {o:HO} (hp:H p=none):Fix b H (upd H p o):=fun c u h _=>by rw [av (aT h hp)];exact h
theorem Fix.of_same {b:Addr} {H H':Hp} (h:ao H H'):Fix b H H':=fun c o e _=>h c o e
theorem ao.new {p:Addr} {H:Hp} {o:HO} (hp:H p=none):ao H (upd H p o):=fun c u h=>by rw [av (aT h hp)];exact h
theorem bR.new {b p:Addr} {H:Hp} {o:HO} (h:bR H b) (hp:H p=none):bR (upd H p o) b:=by
 obtain⟨x,y,e,q⟩:=h
 exact⟨x,y,by rw [av (aT e hp)];exact e,q⟩
theorem bR.same {b:Addr} {H H':Hp} (h:bR H b) (s:ao H H'):bR H' b:=by
 obtain⟨x,y,e,q⟩:=h
 exact⟨x,y,s _ _ e,q⟩
theorem pD {α : Type} {x0:α}:[x0].length<=sizeLine:=by show 1<=sizeLine;decide
theorem ln2 {α : Type} {x0 x1:α}:[x0,x1].length<=sizeLine:=by show 2<=sizeLine;decide
theorem pE {α : Type} {x0 x1 x2:α}:[x0,x1,x2].length<=sizeLine:=by show 3<=sizeLine;decide
theorem Au {α : Type} {x0 x1 x2 x3 x4:α}:[x0,x1,x2,x3,x4].length<=sizeLine:=by show 5<=sizeLine;decide
theorem ke {α : Type} {x0 x1 x2 x3 x4 x5 x6:α}:[x0,x1,x2,x3,x4,x5,x6].length<=sizeLine:=by show 7<=sizeLine;decide
theorem ao.mB {b:Addr} {H H1 H2:Hp} (s:ao H H1) (n:H b=none) (f:Fix b H1 H2):ao H H2:=fun c o e=>f c o (s c o e) (aT e n)
theorem bR.eT {b p:Addr} {H:Hp} {xs:List V} (h:bR H b) (e:H p=some (.tup xs)):p ≠ b:=by
 obtain⟨x,y,e1,_⟩:=h
 exact bQ e e1 (by intro z;cases z)
theorem bR.dU {b p:Addr} {H:Hp} (h:bR H b) (e:H p=none):p ≠ b:=by
 obtain⟨x,y,e1,_⟩:=h
 exact fun z=>aT e1 e z.symm
def sH (K:PySem.W.Frag):Sp:=fun vs H Q _=>∃ (a:Addr) (ns:List Int) (k:Int),vs = [.ref a,.int k]/\aU K H a (ns.map V.int)/\0<=k /\
 ∀ b H',H b=none->bR H' b->ao H H'->Q (.ref b) H'
def eU:Sp:=fun vs H Q _=>∃ (b:Addr) (m:Int),vs = [.ref b,.int m]/\bR H b/\(0 < m/\m.natAbs.log2 < 9000) /\
 ∀ r H',0<=r->r < m->bR H' b->Fix b H H'->Q (.int r) H'
def oR (K:PySem.W.Frag):Sp:=fun vs H Q _=>∃ (a:Addr) (ns:List Int),vs = [.ref a]/\aU K H a (ns.map V.int)/\ns.length<=63/\∀ H',Q (.bl true) H'
def ig (cells:List (Str × Addr)):List (Str × NameKind)->List (Str × Addr)->List (Str × Addr)
 | [],cs=>cs
 | (n,k) :: r,cs=>ig cells r (if k == .free then (n,(cells.lookup n).getD 0) :: cs else cs)
theorem jF {scope:Scope} {env:Env} (hf:∀ y ∈ scope.names,y.2=.free->∃ c,env.cells.lookup y.1=some c):closureFor scope env=pure (ig env.cells scope.names []):=by
 have key:∀ (names:List (Str × NameKind)) (cs:List (Str × Addr)),(∀ y ∈ names,y.2=.free->∃ c,env.cells.lookup y.1=some c) ->
   (forIn names cs fun x r=>match x with
    | (name,kind)=>if (kind == NameKind.free)=true then (do let a <-cellOf env name;pure (ForInStep.yield ((name,a) :: r))) else pure (ForInStep.yield r):Sem (List (Str × Addr)))=pure (ig env.cells names cs):=by
  intro names
  induction names with
  | nil=>intro cs _;rfl
  | cons y r ih =>
   intro cs hy
   obtain⟨n,k⟩:=y
   have ih':=fun cs=>ih cs fun z hz=>hy z (List.mem_cons_of_mem _ hz)
   rw [List.forIn_cons]
   by_cases hk:(k == NameKind.free)=true
   ·have e:k=.free:=by simpa using hk
    obtain⟨c,hc⟩:=hy (n,k) List.mem_cons_self e
    have hc':env.cells.lookup n=some c:=hc
    simp only [hk,if_true,cellOf,hc',pure_bind,ig,Option.getD_some]
    exact ih' _
   ·have hk':(k == NameKind.free)=false:=by simpa using hk
    simp only [hk',Bool.false_eq_true,if_false,pure_bind,ig]
    exact ih' _
 unfold closureFor
 have e:=key scope.names [] hf
 show ((forIn scope.names ([]:List (Str × Addr)) fun x r=>match x with
    | (name,kind)=>if (kind == NameKind.free)=true then (do let a <-cellOf env name;pure (ForInStep.yield ((name,a) :: r))) else pure (ForInStep.yield r):Sem (List (Str × Addr))) >>= fun r=>pure r)=_
 rw [e,pure_bind]
theorem i6 {cells:List (Str × Addr)}:∀ (names:List (Str × NameKind)) (cs:List (Str × Addr)),(∀ y ∈ names,y.2=.free->∃ c,cells.lookup y.1=some c) ->
  (∀ x c,cs.lookup x=some c->cells.lookup x=some c)->∀ x c,(ig cells names cs).lookup x=some c->cells.lookup x=some c
 | [],_,_,h,x,c,e=>h x c e
 | (n,k) :: r,cs,hf,h,x,c,e=>by
  refine i6 r _ (fun y hy=>hf y (List.mem_cons_of_mem _ hy)) (fun z d hz=>?_) x c e
  by_cases hk:(k == NameKind.free)=true
  ·rw [if_pos hk] at hz
   obtain⟨c',hc⟩:=hf (n,k) List.mem_cons_self (by simpa using hk)
   have hc':cells.lookup n=some c':=hc
   rw [List.lookup_cons] at hz
   cases hzn:z == n with
   | true =>
    rw [hzn] at hz
    have:z=n:=by simpa using hzn
    subst this
    rw [hc'] at hz ⊢
    simpa using hz
   | false=>rw [hzn] at hz;exact h z d hz
  ·rw [if_neg hk] at hz;exact h z d hz
theorem kJ {cells:List (Str × Addr)} {x:Str}:∀ (names:List (Str × NameKind)) (cs:List (Str × Addr)),((x,NameKind.free) ∈ names\/∃ c,cs.lookup x=some c)->∃ c,(ig cells names cs).lookup x=some c
 | [],_,h=>by
  rcases h with h | h
  ·cases h
  ·exact h
 | (n,k) :: r,cs,h=>by
  refine kJ r _ ?_
  by_cases hk:(k == NameKind.free)=true
  ·rw [if_pos hk]
   cases hxn:x == n with
   | true=>exact .inr ⟨_,by rw [List.lookup_cons,hxn]⟩
   | false =>
    rcases h with h | ⟨c,h⟩
    ·rcases List.mem_cons.mp h with h | h
     ·have:x=n:=(Prod.mk.inj h).1
      subst this
      simp at hxn
     ·exact .inl h
    ·exact .inr ⟨c,by rw [List.lookup_cons,hxn];exact h⟩
  ·rw [if_neg hk]
   rcases h with h | h
   ·rcases List.mem_cons.mp h with h | h
    ·have:NameKind.free=k:=(Prod.mk.inj h).2
     subst this
     simp at hk
    ·exact .inl h
   ·exact .inr h
theorem iU {env:Env} {x:Str} {k:NameKind} (hk:k=.cell\/k=.free):∀ {names:List (Str × NameKind)},(∀ y ∈ names,y.2 ≠ .cell) ->
  (names.map fun (n,k)=>if (k == NameKind.free && env.scope.kind == .function && env.kindOf n == some .cell) then (n,NameKind.cell) else (n,k)).lookup x=some k->(x,NameKind.free) ∈ names
 | [],_,h=>by simp at h
 | (n,q) :: r,hc,h=>by
  have ih:=iU (env:=env) (x:=x) hk (names:=r) (fun y hy=>hc y (List.mem_cons_of_mem _ hy))
  have h':List.lookup x ((if (q == NameKind.free && env.scope.kind == .function && env.kindOf n == some .cell)=true then (n,NameKind.cell) else (n,q)) :: _)=some k:=h
  by_cases hq:(q == NameKind.free && env.scope.kind == .function && env.kindOf n == some .cell)=true
  ·rw [if_pos hq,List.lookup_cons] at h'
   have eq:q=.free:=by
    rw [Bool.and_eq_true,Bool.and_eq_true] at hq
    simpa using hq.1.1
   cases hxn:x == n with
   | true =>
    have:x=n:=by simpa using hxn
    subst this;subst eq
    exact List.mem_cons_self
   | false=>rw [hxn] at h';exact List.mem_cons_of_mem _ (ih h')
  ·rw [if_neg hq,List.lookup_cons] at h'
   cases hxn:x == n with
   | true =>
    rw [hxn] at h'
    have:x=n:=by simpa using hxn
    subst this
    have e:q=k:=Option.some.inj h'
    subst e
    rcases hk with hk | hk
    ·exact absurd hk (hc (x,q) List.mem_cons_self)
    ·subst hk;exact List.mem_cons_self
   | false=>rw [hxn] at h';exact List.mem_cons_of_mem _ (ih h')
theorem iV {env:Env} {x:Str}:∀ {names:List (Str × NameKind)},names.lookup x=some .free ->
  (names.map fun (n,k)=>if (k == NameKind.free && env.scope.kind == .function && env.kindOf n == some .cell) then (n,NameKind.cell) else (n,k)).lookup x=some .cell \/
  (names.map fun (n,k)=>if (k == NameKind.free && env.scope.kind == .function && env.kindOf n == some .cell) then (n,NameKind.cell) else (n,k)).lookup x=some .free
 | [],h=>by simp at h
 | (n,q) :: r,h=>by
  have ih:=iV (env:=env) (x:=x) (names:=r)
  show List.lookup x ((if (q == NameKind.free && env.scope.kind == .function && env.kindOf n == some .cell)=true then (n,NameKind.cell) else (n,q)) :: _)=some .cell \/
   List.lookup x ((if (q == NameKind.free && env.scope.kind == .function && env.kindOf n == some .cell)=true then (n,NameKind.cell) else (n,q)) :: _)=some .free
  rw [List.lookup_cons] at h
  by_cases hq:(q == NameKind.free && env.scope.kind == .function && env.kindOf n == some .cell)=true
  ·rw [if_pos hq,List.lookup_cons]
   cases hxn:x == n with
   | true=>exact .inl rfl
   | false=>rw [hxn] at h;exact ih h
  ·rw [if_neg hq,List.lookup_cons]
   cases hxn:x == n with
   | true=>rw [hxn] at h;exact .inr h
   | false=>rw [hxn] at h;exact ih h
def cX (X:Cx) (scope:Scope) (C:Addr) (N':List Str) (fp:List Addr) (s₁ : Shared) (H₁ : Hp):Cx where
 prog:=X.prog
 w:=X.w
 K:=X.K
 mg:=X.mg
 base:=X.base
 A:=X.A
 N:=N'
 dq:=s₁
 jC:=H₁
 env:=compEnvC scope (ig X.env.cells scope.names []) C X.env
 outer:=X.stack
 stack:=X.stack
 ex:=fp
 fn:=fun _=>false
 calm:=X.calm
 pn:=[]
 xe:=fun _ _=>False
def gi (X:Cx) (scope:Scope):List Str->List Nat->Prop
 | [],[]=>True
 | x :: fr,j :: js=>(X.N[j]? = some x/\(X.env.kindOf x=some .cell\/X.env.kindOf x=some .free)/\scope.names.lookup x=some .free)/\gi X scope fr js
 | _,_=>False
theorem gi.len {X:Cx} {scope:Scope}:∀ {fr:List Str} {js:List Nat},gi X scope fr js->fr.length=js.length
 | [],[],_=>rfl
 | _ :: _,_ :: _,h=>by simp [gi.len h.2]
 | [],_ :: _,h=>h.elim
 | _ :: _,[],h=>h.elim
theorem gi.mem {X:Cx} {scope:Scope} {x:Str}:∀ {fr:List Str} {js:List Nat},gi X scope fr js->x ∈ fr->X.env.kindOf x=some .cell\/X.env.kindOf x=some .free
 | [],[],_,h=>by cases h
 | a :: fr,b :: js,h,hm=>by
  rcases List.mem_cons.mp hm with rfl | hm
  ·exact h.1.2.1
  ·exact gi.mem h.2 hm
 | [],_ :: _,h,_=>h.elim
 | _ :: _,[],h,_=>h.elim
theorem gi.get {X:Cx} {scope:Scope}:∀ {fr:List Str} {js:List Nat} {i:Nat} {x:Str} {j:Nat},gi X scope fr js->fr[i]? = some x->js[i]? = some j ->
  X.N[j]? = some x/\(X.env.kindOf x=some .cell\/X.env.kindOf x=some .free)/\scope.names.lookup x=some .free
 | [],[],_,_,_,_,h,_=>by simp at h
 | a :: fr,b :: js,0,x,j,h,h1,h2=>by
  simp at h1 h2
  subst h1;subst h2
  exact h.1
 | a :: fr,b :: js,i+1,x,j,h,h1,h2=>gi.get h.2 (by simpa using h1) (by simpa using h2)
 | [],_ :: _,_,_,_,h,_,_=>h.elim
 | _ :: _,[],_,_,_,h,_,_=>h.elim
def ij (n:Nat) (js:List Nat) (σ : St):St:=List.replicate n none++js.map fun j=>σ.getD j none
theorem ud {X:Cx} {pins:List (Addr × Obj)} {σ : St} {H:Hp} {s:Shared} {scope:Scope} {fp:List Addr} {C:Addr} {N':List Str} (I:Inv X pins σ H s) (hk:scope.kind=.function) (hcell:∀ y ∈ scope.names,y.2 ≠ .cell)
  (hf:∀ y ∈ scope.names,y.2=.free->∃ c,X.env.cells.lookup y.1=some c) (hC:s.heap.objs.size<=C) (hfp:∀ b ∈ fp,gO X pins H b) (hlt:∀ b ∈ fp,b < s.heap.objs.size):(cX X scope C N' fp s H).Ok:=by
 have ag:∀ x c,(ig X.env.cells scope.names []).lookup x=some c->X.env.cells.lookup x=some c:=i6 scope.names [] hf fun x c e=>by simp at e
 refine⟨I.ok.mod,hk,I.ok.glob,I.ok.blt,hC,fun x y c h1 h2=>I.ok.inj x y c (ag x c h1) (ag y c h2),fun x hx=>?_,(fun x c h=>(by cases h)),I.ok.hd,I.ok.frames,.inl rfl,fun b hb=>?_,I.bs,?_,fun b o e hb=>?_,fun b hb=>?_,I.stack,I.rA⟩
 ·refine kJ scope.names [] (.inl ?_)
  rcases hx with hx | hx
  ·exact iU (.inl rfl) hcell hx
  ·exact iU (.inr rfl) hcell hx
 ·obtain⟨h1,h2,h3,h4,h5,h6⟩:=hfp b hb
  exact⟨Nat.ne_of_lt (Nat.lt_of_lt_of_le (hlt b hb) hC),fun x c e=>h5 x c (ag x c e)⟩
 ·exact Nat.le_trans I.ok.nK I.sz
 ·obtain⟨h1,h2,h3,h4,h5,h6⟩:=hfp b hb
  rcases h4 with h4 | h4
  ·exact I.ok.oW b o e h4
  ·exact absurd (Nat.lt_of_lt_of_le (Heap.lt_size e) (Nat.le_trans I.ok.nK h4)) (Nat.lt_irrefl _)
 ·obtain⟨h1,h2,h3,h4,h5,h6⟩:=hfp b hb
  intro z
  rcases List.mem_cons.mp (I.j5 b z) with z | z
  ·exact h2 z
  ·exact h3 z
def rN (J:It) (n:Nat) (js:List Nat) (g:TG) (ct:TT) (te:TE) (acc:Addr) (σ : St) (H1:Hp) (Q:VK):Prop :=
 ∃ W:Nat->Nat->List V->St->Hp->Prop,(∃ m,W 0 m [] (ij n js σ) (upd H1 acc (.lst [])))/\∀ i m ys τ H2,W i m ys τ H2->H2 acc=some (.lst ys)/\ys.length < sizeLine /\
  ((J.stop i H2/\Q (.ref acc) H2)\/(J.go i H2/\∃ N:List V->St->Hp->Prop,(∀ ys' τ' H',N ys' τ' H'->∃ m',m' < m/\W (i+1) m' ys' τ' H')/\∀ x H3,J.rD i H2 x H3->g x τ H3 fun τ1 H4=>ct τ1 H4 fun b H5 =>
   if b=true then te τ1 H5 fun y H6=>H6 acc=some (.lst ys)/\N (ys ++ [y]) τ1 (upd H6 acc (.lst (ys ++ [y]))) else N ys τ1 H5))
def zK (n:Nat) (js:List Nat) (wi:TI) (g:TG) (ct:TT) (te:TE):TE:=fun σ H Q=>wi σ H fun J H1=>∀ acc,H1 acc=none->rN J n js g ct te acc σ H1 Q
def pF (X:Cx) (ifs:List Expr) (t:TT):Prop :=
 ∀ (pins:List (Addr × Obj)) (s:Shared) (σ : St) (H:Hp) (Q:Bool->Hp->Prop),Inv X pins σ H s->t σ H Q ->
  wpAny (model X.prog X.w) X.A (forIn ifs true fun c r=>if r=true then do let ok <-isTrue c X.env (eval c X.env);pure (ForInStep.yield ok) else pure (ForInStep.yield r)) (TP X pins σ Q) X.xe s
def yw:TT:=fun _ H Q=>Q true H
theorem du {X:Cx}:pF X [] yw:=fun _ _ σ H Q I h=>wpAny_pure ⟨H,I,h⟩
theorem m7 {X:Cx} {c:Expr} {t:TT} (h:PT X c t):pF X [c] t:=by
 intro pins s σ H Q I q
 rw [List.forIn_cons]
 simp only [if_true,bind_assoc,pure_bind]
 refine wpAny_bind (bf (h pins s σ H Q I q) fun b s1 h1=>?_)
 exact wpAny_pure h1
section
variable {X:Cx} {pos:Pos}
theorem jZ {prog:Program} {w:World} {A:Around} {R:Result->Shared->Prop} {s:Shared} {elt target iter:Expr} {ifs:List Expr} {scope:Scope} {pos:Pos} {it acc:Value} {env:Env} (I:Nat->Shared->Prop)
  (turn:∀ n s,I n s->wpAny (model prog w) A (pyNext it) (fun r s₁=>match r with
   | none=>R (.ok .next) s₁
   | some v=>wpAny (model prog w) A (letOwnedTupleGo target it v) (fun _ s₁'=>wpAny (model prog w) A (assign target env v) (fun _ s₂ =>
     wpAny (model prog w) A (forIn ifs true fun c r=>if r=true then do let ok <-isTrue c env (eval c env);pure (ForInStep.yield ok) else pure (ForInStep.yield r)) (fun ok s₃ =>
      if ok=true then wpAny (model prog w) A (eval elt env) (fun x s₄ =>
       wpAny (model prog w) A (call (.builtin "list.append") [acc,x]) (fun _ s₅=>∃ m,m < n/\I m s₅) (fun _ _=>False) s₄) (fun _ _=>False) s₃
      else ∃ m,m < n/\I m s₃) (fun _ _=>False) s₂) (fun _ _=>False) s₁') (fun _ _=>False) s₁) (fun _ _=>False) s)
  (n:Nat) (h:I n s) :
  codeAny (model prog w) A (.compLoop (.ListComp elt [⟨target,iter,ifs,0⟩] scope pos) 0 it acc env) R s:=by
 refine codeAny_loop rfl I (fun n s hI=>?_) n h
 show wpAny _ A ((compTurn (.ListComp elt [⟨target,iter,ifs,0⟩] scope pos) 0 it acc env).onRaise (fun x=>do noteFrame x env;theTreesLotGoes x)) _ _ s
 refine wpAny_noted ?_
 rw [compTurn_list]
 refine wpAny_bind (wpAny_standAt (wpAny_bind (wpAny_mono (turn n s hI) (fun r s₁ h₁=>?_) fun _ _ h'=>h'.elim)))
 cases r with
 | none=>exact wpAny_pure h₁
 | some v =>
  refine wpAny_bind (wpAny_mono h₁ (fun _ s₁' h₁'=>?_) fun _ _ h'=>h'.elim)
  refine wpAny_bind (wpAny_mono h₁' (fun _ s₂ h₂=>wpAny_bind (wpAny_mono h₂ (fun ok s₃ h₃=>?_) fun _ _ h'=>h'.elim)) fun _ _ h'=>h'.elim)
  cases ok with
  | false=>exact wpAny_pure ⟨rfl,h₃⟩
  | true =>
   exact wpAny_bind (wpAny_bind (wpAny_mono h₃ (fun x s₄ h₄=>wpAny_bind (wpAny_mono h₄ (fun _ s₅ h₅=>wpAny_pure (wpAny_pure ⟨rfl,h₅⟩)) fun _ _ h'=>h'.elim)) fun _ _ h'=>h'.elim))
theorem rO {pins:List (Addr × Obj)} {σ : St} {H:Hp} {s:Shared} {E:Value->Shared->Prop} {tg elt iter:Expr} {ifs:List Expr} {scope:Scope} {g:TG} {ct:TT} {te:TE} {ts fr:List Str} {js:List Nat}
    {it:Addr} {fp:List Addr} {tn:Nat->Heap->Prop} {J:It} {Q:VK} {RR:Value->Addr->Result->Shared->Prop}
    (hc:X.calm=true) (hkind:scope.kind=.function) (hcell:∀ y ∈ scope.names,y.2 ≠ .cell) (hfree:∀ y ∈ scope.names,y.2=.free->X.env.kindOf y.1=some .cell\/X.env.kindOf y.1=some .free)
    (hfr:gi X scope fr js) (htg:∀ C fp s₁ H₁,PG (cX X scope C (ts++fr) fp s₁ H₁) tg g) (hct:∀ C fp s₁ H₁,pF (cX X scope C (ts++fr) fp s₁ H₁) ifs ct) (hte:∀ C fp s₁ H₁,PE (cX X scope C (ts++fr) fp s₁ H₁) elt te)
    (I:Inv X pins σ H s) (T:Turn X.prog X.w X.K tg J fp it tn) (st:tn 0 s.heap) (hfp:∀ b ∈ fp,gO X pins H b)
    (h:∀ acc,H acc=none->rN J ts.length js g ct te acc σ H Q)
    (hRR:∀ acc C H' s' m,Inv X pins σ H' s'->s'.heap.Ns C m->H' C=none->s.heap.objs.size<=C->Q (.ref acc) H'->RR (.ref acc) C (.ok .next) s') :
    wpAny (model X.prog X.w) X.A (newList []) (fun acc s₃=>wpAny (model X.prog X.w) X.A (newFunctionEnv scope X.env.globals (ig X.env.cells scope.names []) [] X.env.qual none .none (some X.env)) (fun cenv s₄ =>
      codeAny (model X.prog X.w) X.A (.compStart (.ListComp elt [⟨tg,iter,ifs,0⟩] scope pos) 0 (.ref it) acc { cenv with scope:=relabel scope X.env }) (RR acc cenv.locals) s₄) E s₃) E s:=by
  have hf:∀ y ∈ scope.names,y.2=.free->∃ c,X.env.cells.lookup y.1=some c:=fun y hy e=>I.ok.has y.1 (hfree y hy e)
  have ag:∀ x c,(ig X.env.cells scope.names []).lookup x=some c->X.env.cells.lookup x=some c:=i6 scope.names [] hf fun x c e=>by simp at e
  have hlt:∀ b ∈ fp,b < s.heap.objs.size:=fun b hb=>by
    obtain⟨o,e,_⟩:=T.obj _ _ st b hb
    exact Heap.lt_size e
  refine wpAny_newObj_type (wpAny_newFunctionEnv hcell (by intro y hy;simp at hy) (fun h₁ hns₁ hsb₁=>?_) hkind)
  dsimp only at hns₁ hsb₁ ⊢
  generalize hH2:s.heap.push { cls:=.type "list",dict:=none,data:=.seq ([]:List Value).toArray }=G2 at hns₁ hsb₁ ⊢
  have hC:G2.objs.size=s.heap.objs.size+1:=by rw [<-hH2,Heap.size_push]
  have hDC:s.heap.objs.size ≠ G2.objs.size:=by rw [hC];exact Nat.ne_of_lt (Nat.lt_succ_self _)
  have hCle:s.heap.objs.size<=G2.objs.size:=by rw [hC];exact Nat.le_succ _
  have below:∀ b,b < s.heap.objs.size->b ≠ G2.objs.size/\b ≠ s.heap.objs.size:=fun b hb=>⟨by rw [hC];exact Nat.ne_of_lt (Nat.lt_succ_of_lt hb),Nat.ne_of_lt hb⟩
  have old:∀ b o,s.heap.get? b=some o->h₁.get? b=some o:=fun b o e=>hsb₁.extBut b o (below b (Heap.lt_size e)).1 (Heap.get?_push_of_some _ (hH2 ▸ Heap.get?_push_of_some _ e))
  have hacc:h₁.get? s.heap.objs.size=some { cls:=.type "list",data:=.seq ([]:List Value).toArray }:=hsb₁.extBut _ _ hDC (Heap.get?_push_of_some _ (hH2 ▸ Heap.get?_push_size _ rfl))
  have nD:H s.heap.objs.size=none:=I.aN.fresh (Nat.le_refl _)
  have nC:H G2.objs.size=none:=I.aN.fresh hCle
  obtain⟨W,⟨m0,w0⟩,turn⟩:=h s.heap.objs.size nD
  generalize hXb:cX X scope G2.objs.size (ts++fr) fp s H=Xb
  have Ib:∀ tk,Inv Xb [] (ij ts.length js σ) (upd H s.heap.objs.size (.lst [])) { s with heap:=h₁,toks:=tk }:=by
    intro tk
    subst hXb
    refine⟨ud I hkind hcell hf hCle hfp hlt,rfl,I.bare,Un.laid old (Nat.le_refl _) nD,⟨_,hns₁,fun i x v e1 e2 e3=>?_⟩,fun x c e=>?_,?_,fun x c e=>?_,fun p hp=>absurd (show p ∈ ([]:List (Addr × Obj)) from hp) (by simp),I.aN.laid old (Nat.le_refl _) ⟨by show 0<=sizeLine;decide,[],_,.nil,hacc⟩,?_⟩
    · have hi:ts.length<=i:=by
        refine Nat.le_of_not_lt fun hi=>?_
        unfold ij at e2
        rw [List.getElem?_append_left (by simpa using hi),List.getElem?_replicate] at e2
        split at e2 <;> cases e2
      have e1':fr[i - ts.length]? = some x:=by
        have e1'':(ts++fr)[i]? = some x:=e1
        rw [List.getElem?_append_right hi] at e1''
        exact e1''
      unfold ij at e2
      rw [List.getElem?_append_right (by simpa using hi),List.length_replicate,List.getElem?_map] at e2
      cases ej:js[i - ts.length]? with
      | none=>rw [ej] at e2;cases e2
      | some j =>
        rw [ej] at e2
        have e2':σ.getD j none=some v:=by simpa using e2
        obtain⟨q1,q2,q3⟩:=hfr.get e1' ej
        have e2'':σ[j]? = some (some v):=by
          rw [List.getD_eq_getElem?_getD] at e2'
          cases ez:σ[j]? with
          | none=>rw [ez] at e2';cases e2'
          | some z=>rw [ez] at e2';rw [show z=some v from e2']
        obtain⟨m,hn,hl⟩:=I.loc
        obtain⟨u,r,l⟩:=hl j x v q1 e2'' (by
          rcases q2 with q2 | q2
          · exact .inr (.inl q2)
          · exact .inr (.inr q2))
        refine⟨u,r,.inr ⟨iV q3,?_⟩⟩
        rcases l with ⟨l,_⟩ | ⟨_,c,lc,lv⟩
        · rcases q2 with q2 | q2 <;> (rw [l] at q2;cases q2)
        · obtain⟨c',hc'⟩:=kJ (cells:=X.env.cells) scope.names [] (.inl (PySem.mem_of_lookup q3))
          have:=ag x c' hc'
          rw [lc] at this
          cases this
          obtain⟨o,ho,hd⟩:=lv
          exact⟨c,hc',o,old _ _ ho,hd⟩
    · obtain⟨v,o,ho,hd⟩:=I.cell x c (ag x c e)
      exact⟨v,o,old _ _ ho,hd⟩
    · show upd H s.heap.objs.size (.lst []) G2.objs.size=none
      rw [av hDC.symm];exact nC
    · obtain⟨v,o,ho,hd⟩:=I.cell x c (ag x c e)
      rw [av (Nat.ne_of_lt (Heap.lt_size ho))]
      exact I.d7 x c (ag x c e)
    · show (ij ts.length js σ).length=(ts++fr).length
      unfold ij
      rw [List.length_append,List.length_replicate,List.length_map,List.length_append,hfr.len]
  have fpB:∀ {H':Hp},(∀ b ∈ fp,H' b=none)->∀ b ∈ fp,gO Xb [] H' b:=fun {H'} hn b hb=>by
    subst hXb
    obtain⟨h1,h2,h3,h4,h5,h6⟩:=hfp b hb
    refine⟨hn b hb,(below b (hlt b hb)).1,fun z=>?_,.inl hb,fun x c e=>h5 x c (ag x c e),fun p hp=>absurd (show p ∈ ([]:List (Addr × Obj)) from hp) (by simp)⟩
    rcases List.mem_cons.mp (I.j5 b z) with z | z
    · exact h2 z
    · exact h3 z
  have fin:∀ {τ : St} {H':Hp} {s':Shared},Inv Xb [] τ H' s'->Q (.ref s.heap.objs.size) H'->RR (.ref s.heap.objs.size) G2.objs.size (.ok .next) s':=fun {τ H' s'} Jb q=>by
    subst hXb
    obtain⟨m,hn,_⟩:=Jb.loc
    refine hRR _ _ H' s' m (I.wR (ch:=fp) Jb.os Jb.base Jb.aN Jb.bare fun b hb=>?_) hn Jb.free hCle q
    obtain⟨h1,h2,h3,h4,h5,h6⟩:=hfp b hb
    exact⟨h4,h2,h5,h6⟩
  have loop:∀ tk,codeAny (model X.prog X.w) X.A (.compLoop (.ListComp elt [⟨tg,iter,ifs,0⟩] scope pos) 0 (.ref it) (.ref s.heap.objs.size) (compEnvC scope (ig X.env.cells scope.names []) G2.objs.size X.env))
        (RR (.ref s.heap.objs.size) G2.objs.size) { s with heap:=h₁,toks:=tk }:=by
    intro tk
    refine jZ (fun n s'=>∃ i ys τ H',Inv Xb [] τ H' s'/\tn i s'.heap/\(∀ b ∈ fp,H' b=none)/\W i n ys τ H') ?_ m0 ⟨0,[],_,_,Ib tk,T.keep _ _ _ st fun b hb o e=>old b o e,fun b hb=>?_,w0⟩
    · rintro n s3 ⟨i,ys,τ,H3,I3,st3,fr3,w3⟩
      have htg':=htg G2.objs.size fp s H
      have hct':=hct G2.objs.size fp s H
      have hte':=hte G2.objs.size fp s H
      rw [hXb] at htg' hct' hte'
      have eP:Xb.prog=X.prog:=by subst hXb;rfl
      have ew:Xb.w=X.w:=by subst hXb;rfl
      have eK:Xb.K=X.K:=by subst hXb;rfl
      have eA:Xb.A=X.A:=by subst hXb;rfl
      have ec:Xb.calm=true:=by subst hXb;exact hc
      have ee:Xb.env=compEnvC scope (ig X.env.cells scope.names []) G2.objs.size X.env:=by subst hXb;rfl
      have ex:Xb.xe=fun _ _=>False:=by subst hXb;rfl
      rw [<-eP,<-ew,<-eA,<-ee]
      obtain⟨ha,hl,turn'⟩:=turn i n ys τ H3 w3
      rcases turn' with ⟨stop,q⟩ | ⟨go,N,hN,step⟩
      · have hd:=T.done Xb eP ew eK ec i [] s3 τ H3 (fun _ _=>False) I3 (fpB fr3) st3 stop
        rw [<-eP,<-ew] at hd
        refine wpAny_mono hd (fun r s4 hr4=>?_) fun _ _ z=>z
        obtain⟨hr,I4⟩:=hr4
        subst hr
        exact fin I4 q
      · have hd:=T.item Xb eP ew eK ec i [] s3 τ H3 (fun _ _=>False) I3 (fpB fr3) st3 go
        rw [<-eP,<-ew] at hd
        refine wpAny_mono hd (fun r s4 hr4=>?_) fun _ _ z=>z
        obtain⟨u,hr,h4⟩:=hr4
        subst hr
        refine wpAny_mono h4 (fun _ s5 ⟨x,H5,I5,r5,y5,st5,fr5⟩=>?_) fun _ _ z=>z
        have I5':=I5.pinned (fpB fr5) (T.obj _ _ st5)
        have keepT:∀ {σ7:St} {H7:Hp} {s7:Shared},Inv Xb ([] ++ jq fp s5.heap) σ7 H7 s7->tn (i+1) s7.heap/\∀ b ∈ fp,H7 b=none:=fun {σ7 H7 s7} I7=>by
          refine⟨T.keep _ _ _ st5 fun b hb o e=>(I7.pin (b,o) (List.mem_append_right _ (List.mem_append_right _ (fD hb e)))).1,fun b hb=>?_⟩
          obtain⟨o,e,d⟩:=T.obj _ _ st5 b hb
          exact (I7.pin (b,o) (List.mem_append_right _ (List.mem_append_right _ (fD hb e)))).2.1
        refine wpAny_mono (htg' _ s5 τ H5 x u _ I5' r5 (step x H5 y5)) (fun _ s6 ⟨τ6,H6,I6,q6⟩=>?_) (fun _ _ z=>by rw [ex] at z;exact z)
        refine wpAny_mono (hct' _ s6 τ6 H6 _ I6 q6) (fun ok s7 ⟨H7,I7,q7⟩=>?_) (fun _ _ z=>by rw [ex] at z;exact z)
        cases ok with
        | false =>
          have q7':N ys τ6 H7:=by rw [if_neg (by simp)] at q7;exact q7
          rw [if_neg (by simp)]
          obtain⟨m',hm,w7⟩:=hN _ _ _ q7'
          exact⟨m',hm,i+1,ys,τ6,H7,I7.gg,(keepT I7).1,(keepT I7).2,w7⟩
        | true =>
          rw [if_pos rfl] at q7 ⊢
          refine wpAny_mono (hte' _ s7 τ6 H7 _ I7 q7) (fun v s8 ⟨y,H8,I8,r8,ha8,n8⟩=>?_) (fun _ _ z=>by rw [ex] at z;exact z)
          refine wpAny_mono (ie (X:=Xb) _ s8 τ6 H8 (.ref s.heap.objs.size) [y] (.ref s.heap.objs.size) [v] (fun _ H9=>H9=upd H8 s.heap.objs.size (.lst (ys ++ [y]))) I8 rfl (.cons r8 .nil) ⟨_,ys,y,rfl,rfl,ha8,hl,rfl⟩) (fun _ s9 ⟨_,H9,I9,_,e9⟩=>?_) (fun _ _ z=>by rw [ex] at z;exact z)
          subst e9
          obtain⟨m',hm,w8⟩:=hN _ _ _ n8
          exact⟨m',hm,i+1,_,τ6,_,I9.gg,(keepT I9).1,(keepT I9).2,w8⟩
    · rw [av (Nat.ne_of_lt (hlt b hb))]
      exact (hfp b hb).1
  exact codeAny_compStart_list (loop _) (T.self _ 0 _ _ _ (T.keep _ _ _ st fun b hb o e=>old b o e) (loop _))
theorem Inv.pG {pins:List (Addr × Obj)} {σ : St} {H H':Hp} {s s':Shared} {C:Addr} {h':Heap} (I:Inv X pins σ H s) {σ':St} (I':Inv X pins σ' H' s') (hC:H' C=none) (hle:s.heap.objs.size<=C) (hsb:Heap.SameBut C s'.heap h') :
  Inv X pins σ' H' { s' with heap:=h' }:=by
 obtain⟨h1,h2,h3,h4,h5,h6⟩:=I.lM (H':=H') hle hC
 exact I'.turned (t':=s'.toks) (fun b o hb e=>hsb.extBut b o hb e) hC h2 h4 h5 h6
theorem cS {tg elt iter:Expr} {ifs:List Expr} {scope:Scope} {wi:TI} {g:TG} {ct:TT} {te:TE} (ts fr:List Str) (js:List Nat)
  (hc:X.calm=true) (hi:PI X tg iter wi) (hkind:scope.kind=.function) (hcell:∀ y ∈ scope.names,y.2 ≠ .cell) (hnames:∀ y ∈ scope.names,y.2=.local->scope.names.lookup y.1=some .local)
  (hfree0:∀ y ∈ scope.names,y.2=.free->y.1 ∈ fr) (hfr:gi X scope fr js)
  (htg:∀ C fp s₁ H₁,PG (cX X scope C (ts++fr) fp s₁ H₁) tg g) (hct:∀ C fp s₁ H₁,pF (cX X scope C (ts++fr) fp s₁ H₁) ifs ct) (hte:∀ C fp s₁ H₁,PE (cX X scope C (ts++fr) fp s₁ H₁) elt te)
  (hs:∀ x,foldedSetIterable iter X.env x=pure x:=by intro _;rfl):PE X (.ListComp elt [⟨tg,iter,ifs,0⟩] scope pos) (zK ts.length js wi g ct te):=by
 have hfree:∀ y ∈ scope.names,y.2=.free->X.env.kindOf y.1=some .cell\/X.env.kindOf y.1=some .free:=fun y hy e=>hfr.mem (hfree0 y hy e)
 intro pins s σ H Q I h
 rw [eval_ListComp]
 refine wpAny_comprehension_free (use:=none) rfl hs (jF fun y hy e=>I.ok.has y.1 (hfree y hy e)) hkind hnames (bf (hi pins s σ H _ I h) fun xv s1 h1=>bf h1 fun itv s2 h2=>?_)
 obtain⟨it,fp,tn,J,H2,e,I2,T,st2,f2,hW⟩:=h2
 subst e
 refine rO (RR:=fun acc C=>compPost (model X.prog X.w) X.A X.xe none (EP X pins σ Q) acc C) hc hkind hcell hfree hfr htg hct hte I2 T st2 f2 hW ?_
 intro acc C H' s' m I' hn hC hle q
 exact⟨m,hn,fun h' hsb=>⟨.ref acc,H',I2.pG I' hC hle hsb,rfl,q⟩⟩
theorem pH {tg elt iter:Expr} {ifs:List Expr} {scope:Scope} {wi:TI} {g:TG} {ct:TT} {te:TE} {i:Nat} {y:Str} {py spos:Pos} (ts fr:List Str) (js:List Nat)
  (hsw:swapsWith (.ListComp elt [⟨tg,iter,ifs,0⟩] scope pos) (some (.Name y py)) spos.line X.env=pure true) (hN:X.N.Nodup) (hi0:X.N[i]? = some y) (hx:X.env.scope.names.lookup y=some .local)
  (hc:X.calm=true) (hi:PI X tg iter wi) (hkind:scope.kind=.function) (hcell:∀ y ∈ scope.names,y.2 ≠ .cell) (hnames:∀ y ∈ scope.names,y.2=.local->scope.names.lookup y.1=some .local)
  (hfree0:∀ y ∈ scope.names,y.2=.free->y.1 ∈ fr) (hfr:gi X scope fr js)
  (htg:∀ C fp s₁ H₁,PG (cX X scope C (ts++fr) fp s₁ H₁) tg g) (hct:∀ C fp s₁ H₁,pF (cX X scope C (ts++fr) fp s₁ H₁) ifs ct) (hte:∀ C fp s₁ H₁,PE (cX X scope C (ts++fr) fp s₁ H₁) elt te)
  (hs:∀ x,foldedSetIterable iter X.env x=pure x:=by intro _;rfl):PS X (.Assign [.Name y py] (.ListComp elt [⟨tg,iter,ifs,0⟩] scope pos) spos) (o4 (zK ts.length js wi g ct te) (oO i)):=by
 have hfree:∀ y ∈ scope.names,y.2=.free->X.env.kindOf y.1=some .cell\/X.env.kindOf y.1=some .free:=fun y hy e=>hfr.mem (hfree0 y hy e)
 intro pins s σ H D I h
 rw [exec_Assign_Name_used _ _ _ _ hsw]
 refine wpAny_bind (wpAny_standAt (wpAny_bind ?_))
 show wpAny _ X.A (do let _ <-comprehension (.ListComp elt [⟨tg,iter,ifs,0⟩] scope pos) scope X.env _ (newList []) false (eval iter X.env) (some (assign (.Name y py) X.env))) _ _ s
 refine wpAny_bind (wpAny_mono (wpAny_comprehension_free (use:=some (assign (.Name y py) X.env)) (Q:=fun _ s'=>SP X pins D .next s') rfl hs (jF fun y hy e=>I.ok.has y.1 (hfree y hy e)) hkind hnames
  (bf (hi pins s σ H _ I h) fun xv s1 h1=>bf h1 fun itv s2 h2=>?_)) (fun _ s' hq=>wpAny_pure (wpAny_pure hq)) fun _ _ e=>e)
 obtain⟨it,fp,tn,J,H2,e,I2,T,st2,f2,hW⟩:=h2
 subst e
 refine rO (Q:=fun v H'=>D.nx (σ.set i (some v)) H') (RR:=fun acc C=>compPost (model X.prog X.w) X.A X.xe (some (assign (.Name y py) X.env)) (fun _ s'=>SP X pins D .next s') acc C) hc hkind hcell hfree hfr htg hct hte I2 T st2 f2 hW ?_
 intro acc C H' s' m I' hn hC hle q
 show wpAny _ X.A (assign (.Name y py) X.env (.ref acc)) _ _ _
 refine wpAny_assign_Name (nM I' hN hi0 (.inl hx) (v:=.ref acc) rfl (fun s'' I'' hch=>?_) (.inr hx))
 obtain⟨h1,h2,h3,h4,h5,h6⟩:=I2.lM (H':=H') hle hC
 obtain⟨a,hsb,ha⟩:=hch
 refine⟨m,hn.sameBut hsb ?_,fun h' hsb'=>⟨_,H',I2.pG I'' hC hle hsb',q⟩⟩
 rcases ha with ha | ha
 ·rw [ha];exact h2
 ·exact fun z=>h5 y a ha z.symm
end
theorem m8 {K:PySem.W.Frag} {a acc:Addr} {xs:List V} {n:Nat} {js:List Nat} {g:TG} {ct:TT} {te:TE} {σ : St} {H1:Hp} {Q:VK} (Pv:Nat->List V->St->Hp->Prop) (h0:Pv 0 [] (ij n js σ) (upd H1 acc (.lst [])))
  (hl:∀ i ys τ H,i<=xs.length->Pv i ys τ H->aU K H a xs/\H acc=some (.lst ys)/\ys.length < sizeLine)
  (hs:∀ i x ys τ H,xs[i]? = some x->Pv i ys τ H->g x τ H fun τ1 H4=>ct τ1 H4 fun b H5=>if b=true then te τ1 H5 fun y H6=>H6 acc=some (.lst ys)/\Pv (i+1) (ys ++ [y]) τ1 (upd H6 acc (.lst (ys ++ [y]))) else Pv (i+1) ys τ1 H5)
  (hd:∀ ys τ H,Pv xs.length ys τ H->Q (.ref acc) H) :
  rN (ye K a) n js g ct te acc σ H1 Q:=by
 refine⟨fun i m ys τ H=>m=xs.length - i/\i<=xs.length/\Pv i ys τ H,⟨xs.length,by simp,Nat.zero_le _,h0⟩,?_⟩
 rintro i m ys τ H ⟨rfl,hi,p⟩
 obtain⟨q,q2,q3⟩:=hl i ys τ H hi p
 refine⟨q2,q3,?_⟩
 by_cases hlt:i < xs.length
 ·refine .inr ⟨⟨xs,xs[i],q,by simp [hlt]⟩,Pv (i+1),fun ys' τ' H' p'=>⟨xs.length - (i+1),by omega,rfl,hlt,p'⟩,fun x H' y=>?_⟩
  obtain⟨e,y⟩:=y
  subst e
  exact hs i x ys τ _ (y xs q) p
 ·have e:i=xs.length:=by omega
  subst e
  exact .inl ⟨⟨xs,q,Nat.le_refl _⟩,hd ys τ H p⟩
theorem ju {K:PySem.W.Frag} {a acc:Addr} {xs:List V} {n:Nat} {js:List Nat} {g:TG} {ct:TT} {te:TE} {σ : St} {H1:Hp} {Q:VK} (Pv:Nat->List V->St->Hp->Prop) (h0:Pv 0 [] (ij n js σ) (upd H1 acc (.lst [])))
  (hl:∀ i ys τ H,i<=xs.length->Pv i ys τ H->aw K H a xs/\H acc=some (.lst ys)/\ys.length < sizeLine)
  (hs:∀ i x ys τ H,xs[i]? = some x->Pv i ys τ H->g x τ H fun τ1 H4=>ct τ1 H4 fun b H5=>if b=true then te τ1 H5 fun y H6=>H6 acc=some (.lst ys)/\Pv (i+1) (ys ++ [y]) τ1 (upd H6 acc (.lst (ys ++ [y]))) else Pv (i+1) ys τ1 H5)
  (hd:∀ ys τ H,Pv xs.length ys τ H->Q (.ref acc) H) :
  rN (o5 K a) n js g ct te acc σ H1 Q:=by
 refine⟨fun i m ys τ H=>m=xs.length - i/\i<=xs.length/\Pv i ys τ H,⟨xs.length,by simp,Nat.zero_le _,h0⟩,?_⟩
 rintro i m ys τ H ⟨rfl,hi,p⟩
 obtain⟨q,q2,q3⟩:=hl i ys τ H hi p
 refine⟨q2,q3,?_⟩
 by_cases hlt:i < xs.length
 ·refine .inr ⟨⟨xs,xs[i],q,by simp [hlt]⟩,Pv (i+1),fun ys' τ' H' p'=>⟨xs.length - (i+1),by omega,rfl,hlt,p'⟩,fun x H' y=>?_⟩
  obtain⟨e,y⟩:=y
  subst e
  exact hs i x ys τ _ (y xs q) p
 ·have e:i=xs.length:=by omega
  subst e
  exact .inl ⟨⟨xs,q,Nat.le_refl _⟩,hd ys τ H p⟩
theorem lO {lo:Int} {k:Nat} {acc:Addr} {n:Nat} {js:List Nat} {g:TG} {ct:TT} {te:TE} {σ : St} {H1:Hp} {Q:VK} (Pv:Nat->List V->St->Hp->Prop) (h0:Pv 0 [] (ij n js σ) (upd H1 acc (.lst [])))
  (hl:∀ i ys τ H,i<=k->Pv i ys τ H->H acc=some (.lst ys)/\ys.length < sizeLine)
  (hs:∀ i ys τ H,i < k->Pv i ys τ H->g (.int (lo+i)) τ H fun τ1 H4=>ct τ1 H4 fun b H5=>if b=true then te τ1 H5 fun y H6=>H6 acc=some (.lst ys)/\Pv (i+1) (ys ++ [y]) τ1 (upd H6 acc (.lst (ys ++ [y]))) else Pv (i+1) ys τ1 H5)
  (hd:∀ ys τ H,Pv k ys τ H->Q (.ref acc) H) :
  rN (o6 lo k) n js g ct te acc σ H1 Q:=by
 refine⟨fun i m ys τ H=>m=k - i/\i<=k/\Pv i ys τ H,⟨k,by simp,Nat.zero_le _,h0⟩,?_⟩
 rintro i m ys τ H ⟨rfl,hi,p⟩
 obtain⟨q2,q3⟩:=hl i ys τ H hi p
 refine⟨q2,q3,?_⟩
 by_cases hlt:i < k
 ·refine .inr ⟨hlt,Pv (i+1),fun ys' τ' H' p'=>⟨k - (i+1),by omega,rfl,hlt,p'⟩,fun x H' y=>?_⟩
  obtain⟨e,y⟩:=y
  subst e y
  exact hs i ys τ _ hlt p
 ·have e:i=k:=by omega
  subst e
  exact .inl ⟨Nat.le_refl _,hd ys τ H p⟩
section
variable {X:Cx}
end
def Ad (t:TS):TS:=fun D σ H=>∃ M:St->Hp->Prop,t { D with nx:=M } σ H/\∀ σ' H',M σ' H'->D.nx σ' H'
theorem cQ {X:Cx} {st:Stmt} {t:TS} (h:PS X st t):PS X st (Ad t):=by
 intro pins s σ H D I q
 obtain⟨M,q,hM⟩:=q
 refine bf (h pins s σ H _ I q) fun f s' hs=>?_
 cases f with
 | next =>
  obtain⟨σ',H',I',m⟩:=hs
  exact⟨σ',H',I',hM _ _ m⟩
 | brk=>exact hs
 | cont=>exact hs
 | ret u=>exact hs
theorem eV {m:Int} (h0:0 < m) (h1:m < 1073741824):m.natAbs.log2 < 9000:=by
 have h:m.natAbs.log2 < 30:=(Nat.log2_lt (by omega)).mpr (by omega)
 omega
theorem iG {X:Cx} {K:PySem.W.Frag} {es:List Expr} {k:Nat} {t:nN} {n:Nat} {pos:Pos} (hK:X.K=K) (h:PG X (.Tuple es k pos) (vg X.K n t)):PG X (.Tuple es k pos) (vg K n t):=by
 subst hK
 exact h
mutual
inductive bC (H:Hp):V->PyData->Prop
 | aS:bC H .aS .none
 | bl (b:Bool):bC H (.bl b) (.bool b)
 | int (i:Int):bC H (.int i) (.int i)
 | str (x:Str):bC H (.str x) (.str x)
 | lst {p:Addr} {xs:List V} {ds:List PyData}:H p=some (.lst xs)->bu H xs ds->bC H (.ref p) (.list ds)
 | tup {p:Addr} {xs:List V} {ds:List PyData}:H p=some (.tup xs)->bu H xs ds->bC H (.ref p) (.tuple ds)
inductive bu (H:Hp):List V->List PyData->Prop
 | nil:bu H [] []
 | cons {x:V} {xs:List V} {d:PyData} {ds:List PyData}:bC H x d->bu H xs ds->bu H (x :: xs) (d :: ds)
end
section
variable {P:Program} {w:World} {H:Hp} {h:Heap}
mutual
theorem bC.reads (ok:dC P w H h):∀ {x:V} {d:PyData} {v:Value},bC H x d->RelV x v->∃ as,Reads h v d as
 | _,_,v,.aS,r=>by
  cases (show v=Value.none from r)
  exact⟨_,.none⟩
 | _,_,v,.bl b,r=>by
  cases (show v=Value.bool b from r)
  exact⟨_,.bool b⟩
 | _,_,v,.int i,r=>by
  obtain⟨t,e⟩:=(show ∃ t,v=Value.int i t from r)
  cases e
  exact⟨_,.int i t⟩
 | _,_,v,.str x,r=>by
  obtain⟨t,e⟩:=(show ∃ t,v=Value.str x t from r)
  cases e
  exact⟨_,.str x t⟩
 | _,_,v,.lst (p:=p) (xs:=xs) e ds,r=>by
  cases (show v=Value.ref p from r)
  obtain⟨_,its,n,rv,h1⟩:=(show bV P w H h p (.lst xs) from ok p _ e)
  obtain⟨as,ra⟩:=bu.reads ok ds rv
  exact⟨_,.list (vs:=its.toArray) h1 rfl rfl (by simpa using ra)⟩
 | _,_,v,.tup (p:=p) (xs:=xs) e ds,r=>by
  cases (show v=Value.ref p from r)
  obtain⟨_,its,rv,o,h1,h2,n,h3⟩:=(show bV P w H h p (.tup xs) from ok p _ e)
  obtain⟨as,ra⟩:=bu.reads ok ds rv
  exact⟨_,.tuple (vs:=its.toArray) h1 h2 h3.1 (by simpa using ra)⟩
theorem bu.reads (ok:dC P w H h):∀ {xs:List V} {ds:List PyData} {vs:List Value},bu H xs ds->Vals xs vs->∃ as,ReadsAll h vs ds as
 | _,_,_,.nil,.nil=>⟨_,.nil⟩
 | _,_,_,.cons r rs,.cons q qs=>by
  obtain⟨as,ra⟩:=bC.reads ok r q
  obtain⟨bs,rb⟩:=bu.reads ok rs qs
  exact⟨_,.cons ra rb⟩
end
end
section
variable {X:Cx}
def Ae (neg:Bool):R2:=fun x y H Q=>∃ dx dy,bC H x dx/\bC H y dy/\dx.canLay0=true/\dy.canLay0=true/\min dx.depth dy.depth<=60/\Q (.bl (if neg then !PyData.eqv dx dy else PyData.eqv dx dy)) H
theorem yx (hu:X.A.units+64 < cLine):eS X (compareOp .NotEq) (Ae true):=by
 intro pins s σ H x y v u Q I rx ry h
 obtain⟨dx,dy,r1,r2,c1,c2,hd,q⟩:=h
 obtain⟨as,ra⟩:=r1.reads I.aN rx
 obtain⟨bs,rb⟩:=r2.reads I.aN ry
 exact PySem.SeqAt.neOverData X.prog X.w X.A X.xe s v u dx dy as bs _ ra rb c1 c2 (by omega) ⟨.bl _,H,I,rfl,q⟩
end
def one (c:Nat):Str:=⟨#[c]⟩
theorem pI (rest:List Str):∀ a:Array Nat,(rest.foldl (fun acc p=>acc++Str.empty.cps++p.cps) a).toList=a.toList++rest.flatMap (·.cps.toList):=by
 induction rest with
 | nil=>intro a;simp
 | cons x r ih =>
  intro a
  rw [List.foldl_cons,ih]
  have e:Str.empty.cps = #[]:=rfl
  simp [e]
theorem join_ones (cs:List Nat):(Txt.join Str.empty (cs.map one)).cps.toList=cs:=by
 cases cs with
 | nil=>rfl
 | cons c r =>
  show (List.foldl (fun acc p=>acc++Str.empty.cps++p.cps) (#[c]:Array Nat) (r.map one)).toList=c :: r
  rw [pI]
  simp only [List.flatMap_map,one]
  simp
theorem vB:Str.ofString "" = Str.empty:=by decide +kernel
theorem sI {ys:List Str}:∀ {us:List Value},Vals (ys.map V.str) us->StrsAre us ys:=by
 induction ys with
 | nil=>intro us r;cases r;exact .nil
 | cons y ys ih =>
  intro us r
  cases r with
  | cons h t =>
   obtain⟨k,e⟩:=h
   subst e
   exact .cons y k (ih t)
section
variable {X:Cx}
def rJoin (K:PySem.W.Frag):V->List V->Hp->VK->Prop:=fun x vs H Q=>∃ (z:Str) (p:Addr) (ys:List Str),x=.str z/\vs = [.ref p]/\aU K H p (ys.map V.str)/\(ys.map (·.length)).sum+ys.length * z.length<=16777216/\Q (.str (Txt.join z ys)) H
theorem rP:zG X "str.join" (rJoin X.K):=by
 intro pins s σ H x vs v us Q I rx rv h
 obtain⟨z,p,ys,rfl,rfl,hS,hz,q⟩:=h
 obtain⟨t,e⟩:=(show ∃ t,v=Value.str z t from rx)
 subst e
 obtain⟨u,rfl,ru⟩:=vals1 rv
 cases (show u=Value.ref p from ru)
 obtain⟨its,rv',pl,_⟩:=I.list hS
 exact join_list pl.isList (by simpa using sI rv') hz fun t' k=>⟨.str _,H,I.tok k,⟨_,rfl⟩,q⟩
end
inductive cc where
 | put (x:Str) (n:Int)
 | copy (x y:Str)
 | add (x:Str) (n:Int)
 | read (x:Str)
 | tell (x:Str)
inductive End where
 | stop
 | go (p:Nat)
 | cY (less:Bool) (x:Str) (n:Int) (p q:Nat)
abbrev Piece:=List cc × End
def wT (b:Bool):Str:=if b=true then "less" else "is"
def d8:cc->PyData
 | .put x n=>.tuple [.str "put",.str x,.int n]
 | .copy x y=>.tuple [.str "copy",.str x,.str y]
 | .add x n=>.tuple [.str "add",.str x,.int n]
 | .read x=>.tuple [.str "read",.str x]
 | .tell x=>.tuple [.str "tell",.str x]
def pJ:End->PyData
 | .stop=>.tuple [.str "stop"]
 | .go p=>.tuple [.str "go",.int p]
 | .cY b x n p q=>.tuple [.str (wT b),.str x,.int n,.int p,.int q]
def gG (p:Piece):PyData:=.tuple [.tuple (p.1.map d8),pJ p.2]
def hV (ps:List Piece):PyData:=.tuple (ps.map gG)
structure mC (x:Str):Prop where
 lo:1<=x.length
 hi:x.length<=8
 az:∀ c ∈ x.cps.toList,97<=c/\c<=122
def jG (n:Int):Prop:=-(10 ^ 40) < n/\n < 10 ^ 40
def fq (xs:List Str):cc->Prop
 | .put x n=>x ∈ xs/\jG n
 | .copy x y=>x ∈ xs/\y ∈ xs
 | .add x n=>x ∈ xs/\jG n
 | .read x=>x ∈ xs
 | .tell x=>x ∈ xs
def mD (xs:List Str) (count:Nat):End->Prop
 | .stop=>True
 | .go p=>p < count
 | .cY _ x n p q=>x ∈ xs/\jG n/\p < count/\q < count
structure dD (xs:List Str) (most:Nat) (ps:List Piece):Prop where
 jH:∀ p ∈ ps,p.1.length<=most/\∀ d ∈ p.1,fq xs d
 ends:∀ p ∈ ps,mD xs ps.length p.2
mutual
def dW:PyData->Bool
 | .list _=>false
 | .tuple xs=>cm xs
 | _=>true
def cm:List PyData->Bool
 | []=>true
 | x :: xs=>dW x && cm xs
end
mutual
theorem bC.aI {H H':Hp} (k:∀ p xs,H p=some (.tup xs)->H' p=some (.tup xs)):∀ {x:V} {d:PyData},bC H x d->dW d=true->bC H' x d
 | _,_,.aS,_=>.aS
 | _,_,.bl b,_=>.bl b
 | _,_,.int i,_=>.int i
 | _,_,.str x,_=>.str x
 | _,_,.lst _ _,h=>nomatch h
 | _,_,.tup e ds,h=>.tup (k _ _ e) (bu.aI k ds h)
theorem bu.aI {H H':Hp} (k:∀ p xs,H p=some (.tup xs)->H' p=some (.tup xs)):∀ {xs:List V} {ds:List PyData},bu H xs ds->cm ds=true->bu H' xs ds
 | _,_,.nil,_=>.nil
 | _,_,.cons r rs,h=>by
  simp only [cm,Bool.and_eq_true] at h
  exact .cons (bC.aI k r h.1) (bu.aI k rs h.2)
end
theorem bC.fix {b:Addr} {H H':Hp} {x:V} {d:PyData} (r:bC H x d) (hb:bR H b) (f:Fix b H H') (n:dW d=true):bC H' x d :=
 r.aI (fun p xs e=>f p _ e (hb.eT e)) n
theorem bC.same {H H':Hp} {x:V} {d:PyData} (r:bC H x d) (f:ao H H') (n:dW d=true):bC H' x d :=
 r.aI (fun p xs e=>f p _ e) n
theorem bu.fix {b:Addr} {H H':Hp} {xs:List V} {ds:List PyData} (r:bu H xs ds) (hb:bR H b) (f:Fix b H H') (n:cm ds=true):bu H' xs ds :=
 r.aI (fun p xs e=>f p _ e (hb.eT e)) n
theorem bu.same {H H':Hp} {xs:List V} {ds:List PyData} (r:bu H xs ds) (f:ao H H') (n:cm ds=true):bu H' xs ds :=
 r.aI (fun p xs e=>f p _ e) n
theorem bu.put {H:Hp} {xs ys:List V} {ds:List PyData} {l:Addr} {o:HO} (r:bu H xs ds) (hl:H l=some (.lst ys)) (n:cm ds=true):bu (upd H l o) xs ds :=
 r.aI (fun p zs e=>by rw [av (bQ e hl (by intro z;cases z))];exact e) n
theorem bu.app {H:Hp} {x:V} {d:PyData}:∀ {xs:List V} {ds:List PyData},bu H xs ds->bC H x d->bu H (xs ++ [x]) (ds ++ [d])
 | _,_,.nil,q=>.cons q .nil
 | _,_,.cons r rs,q=>.cons r (bu.app rs q)
theorem bu.len {H:Hp}:∀ {xs:List V} {ds:List PyData},bu H xs ds->xs.length=ds.length
 | _,_,.nil=>rfl
 | _,_,.cons _ rs=>by simp [bu.len rs]
theorem lr (d:cc):dW (d8 d)=true:=by cases d <;> rfl
theorem jI (e:End):dW (pJ e)=true:=by cases e <;> rfl
theorem dN:∀ ds:List cc,cm (ds.map d8)=true
 | []=>rfl
 | d :: ds=>by show (dW (d8 d) && cm (ds.map d8))=true;rw [lr,dN ds];rfl
theorem kf (p:Piece):dW (gG p)=true:=by
 show (cm (p.1.map d8) && (dW (pJ p.2) && true))=true
 rw [dN,jI];rfl
theorem cT:∀ ps:List Piece,cm (ps.map gG)=true
 | []=>rfl
 | p :: ps=>by show (dW (gG p) && cm (ps.map gG))=true;rw [kf,cT ps];rfl
theorem cw (ps:List Piece):dW (hV ps)=true:=cT ps
structure fG (H:Hp) (b l:Addr) (xs:List Str):Prop where
 at_:H l=some (.lst (xs.map V.str))
 ne:l ≠ b
 sJ:xs ≠ []
 bc:xs.length<=1000
 ok:∀ x ∈ xs,mC x
theorem fG.fix {H H':Hp} {b l:Addr} {xs:List Str} (h:fG H b l xs) (f:Fix b H H'):fG H' b l xs:=⟨f l _ h.at_ h.ne,h.ne,h.sJ,h.bc,h.ok⟩
theorem fG.pos {H:Hp} {b l:Addr} {xs:List Str} (h:fG H b l xs):0 < ((xs.map V.str).length:Int)/\((xs.map V.str).length:Int) < 1073741824:=by
 have h1:=h.sJ
 have h2:=h.bc
 have h3:0 < xs.length:=by cases xs with | nil=>exact absurd rfl h1 | cons _ _=>simp
 rw [List.length_map]
 omega
def m9:Sp:=fun vs H Q _=>∃ (b:Addr),vs = [.ref b]/\bR H b/\∀ l xs H',fG H' b l xs->xs.length<=4->bR H' b->Fix b H H'->Q (.ref l) H'
def iW:Sp:=fun vs H Q _=>∃ (b:Addr),vs = [.ref b]/\bR H b/\∀ n H',jG n->bR H' b->Fix b H H'->Q (.int n) H'
def pK:Sp:=fun vs H Q _=>∃ (b l:Addr) (xs:List Str),vs = [.ref b,.ref l]/\bR H b/\fG H b l xs/\∀ v d H',bC H' v (d8 d)->fq xs d->bR H' b->Fix b H H'->Q v H'
def pL:Sp:=fun vs H Q _=>∃ (b l:Addr) (xs:List Str) (c:Nat),vs = [.ref b,.ref l,.int c]/\bR H b/\fG H b l xs/\0 < c/\c < 1073741824/\∀ v e H',bC H' v (pJ e)->mD xs c e->bR H' b->Fix b H H'->Q v H'
def pM:Sp:=fun vs H Q _=>∃ (b:Addr) (c m:Nat),vs = [.ref b,.int c,.int m]/\bR H b/\0 < c/\c<=1000/\m<=1000/\∀ v xs ps H',bC H' v (hV ps)->ps.length=c->dD xs m ps->((∀ x ∈ xs,mC x)/\xs.length<=4)->bR H' b->Fix b H H'->Q v H'
def nc:Sp:=fun vs H Q _=>∃ (b:Addr) (m:Nat),vs = [.ref b,.int m]/\bR H b/\0 < m/\m<=1000/\∀ (n:Nat) H',0 < n->n<=max m 4->bR H' b->Fix b H H'->Q (.int n) H'
def mE:Str := "abcdefghijklmnopqrstuvwxyz"
theorem pN:mE.cps.toList=(List.range 26).map (· + 97):=by decide +kernel
theorem rQ:mE.length<=sizeLine:=by decide +kernel
theorem ue {r:Int} (h0:0<=r) (h1:r < 26):∃ c,fo mE.cps.toList r=some c/\97<=c/\c<=122:=by
 have hl:mE.cps.toList.length=26:=by rw [pN];simp
 obtain⟨c,hc,hm⟩:=sG (xs:=mE.cps.toList) h0 (by rw [hl];exact h1)
 refine⟨c,hc,?_⟩
 rw [pN] at hm
 obtain⟨k,hk,rfl⟩:=List.mem_map.mp hm
 have:=List.mem_range.mp hk
 omega
theorem jJ {xs:List Str} {r:Int} (h0:0<=r) (h1:r < ((xs.map V.str).length:Int)):∃ x,fo (xs.map V.str) r=some (V.str x)/\x ∈ xs:=by
 obtain⟨v,hv,hm⟩:=sG h0 h1
 obtain⟨x,hx,rfl⟩:=List.mem_map.mp hm
 exact⟨x,hv,hx⟩
theorem iX {σ : L2.St} {H:Hp} {Q:Bool->Hp->Prop} (h:Q true H):yw σ H Q:=h
theorem dm {i:Nat} {v:V} {σ : L2.St} {H:Hp} {Q:L2.St->Hp->Prop} (h:Q (σ.set i (some v)) H):oO i v σ H Q:=h
section
variable {κ : Type} [DecidableEq κ]
def bM (kvs:List (κ × V)) (k:κ):Option V:=(kvs.find? fun kv=>decide (kv.1=k)).map (·.2)
def putK (kvs:List (κ × V)) (k:κ) (v:V):List (κ × V) :=
 if (kvs.any fun kv=>decide (kv.1=k))=true then kvs.map (fun kv=>if kv.1=k then (kv.1,v) else kv) else kvs ++ [(k,v)]
def d9 (kvs:List (κ × V)) (k:κ):List (κ × V):=kvs.filter fun kv=>decide (kv.1 ≠ k)
theorem cK {p:κ × V} {r:List (κ × V)} {k:κ} (e:p.1=k):bM (p :: r) k=some p.2:=by simp [bM,List.find?_cons,e]
theorem cB {p:κ × V} {r:List (κ × V)} {k:κ} (e:¬ p.1=k):bM (p :: r) k=bM r k:=by simp [bM,List.find?_cons,e]
theorem gQ (k:κ):∀ kvs:List (κ × V),(kvs.any fun kv=>decide (kv.1=k))=(bM kvs k).isSome
 | []=>rfl
 | p :: r=>by
  rw [List.any_cons]
  by_cases e:p.1=k
  ·simp only [cK e,decide_eq_true e,Bool.true_or,Option.isSome_some]
  ·rw [cB e,decide_eq_false e,Bool.false_or];exact gQ k r
theorem pO (k j:κ) (y:V):∀ kvs:List (κ × V),bM (kvs.map fun kv=>if kv.1=k then (kv.1,y) else kv) j=(bM kvs j).map fun x=>if j=k then y else x
 | []=>rfl
 | p :: r=>by
  have ih:=pO k j y r
  rw [List.map_cons]
  by_cases h:p.1=k
  ·rw [if_pos h]
   by_cases e:p.1=j
   ·rw [cK (p:=(p.1,y)) e,cK e,Option.map_some,if_pos (e.symm.trans h)]
   ·rw [cB (p:=(p.1,y)) e,cB e,ih]
  ·rw [if_neg h]
   by_cases e:p.1=j
   ·rw [cK (p:=p) e,cK e,Option.map_some,if_neg (fun z=>h (e.trans z))]
   ·rw [cB (p:=p) e,cB e,ih]
theorem nV (k j:κ) (y:V):∀ kvs:List (κ × V),bM kvs k=none->bM (kvs ++ [(k,y)]) j=if j=k then some y else bM kvs j
 | [],_=>by
  by_cases e:k=j
  ·rw [if_pos e.symm];exact cK (p:=(k,y)) e
  ·rw [if_neg (fun z=>e z.symm)];exact cB (p:=(k,y)) e
 | p :: r,hn=>by
  rw [List.cons_append]
  have hk:¬ p.1=k:=fun z=>by rw [cK z] at hn;cases hn
  rw [cB hk] at hn
  have ih:=nV k j y r hn
  by_cases e:p.1=j
  ·rw [cK e,cK e,if_neg (fun z=>hk (e.trans z))]
  ·rw [cB e,cB e,ih]
theorem pP (kvs:List (κ × V)) (k j:κ) (y:V):bM (putK kvs k y) j=if j=k then some y else bM kvs j:=by
 unfold putK
 by_cases a:(kvs.any fun kv=>decide (kv.1=k))=true
 ·rw [if_pos a,pO]
  rw [gQ] at a
  by_cases e:j=k
  ·obtain⟨x,hx⟩:=Option.isSome_iff_exists.mp a
   rw [if_pos e,e,hx,Option.map_some,if_pos rfl]
  ·rw [if_neg e]
   cases bM kvs j with
   | none=>rfl
   | some x=>rw [Option.map_some,if_neg e]
 ·rw [if_neg a]
  refine nV k j y kvs ?_
  rw [gQ] at a
  cases q:bM kvs k with
  | none=>rfl
  | some x=>rw [q] at a;exact (a rfl).elim
theorem dZ (kvs:List (κ × V)) (k:κ) (v:V):(putK kvs k v).length<=kvs.length+1:=by
 unfold putK
 split
 ·rw [List.length_map];omega
 ·rw [List.length_append,List.length_cons,List.length_nil];omega
theorem vC {kvs:List (κ × V)} {k:κ} (v:V) (h:bM kvs k=none):putK kvs k v=kvs ++ [(k,v)]:=by
 unfold putK
 rw [gQ,h]
 exact if_neg (by decide)
theorem fU.uf {o:Option V} {u:Option Value} (r:fU o u):o.isSome=u.isSome:=by
 cases o with
 | none=>cases u with
  | none=>rfl
  | some _=>exact (show False from r).elim
 | some _=>cases u with
  | none=>exact (show False from r).elim
  | some _=>rfl
theorem fU.getD {o:Option V} {u:Option Value} {d:V} {d':Value} (r:fU o u) (rd:RelV d d'):RelV (o.getD d) (u.getD d'):=by
 cases o with
 | none=>cases u with
  | none=>exact rd
  | some _=>exact (show False from r).elim
 | some _=>cases u with
  | none=>exact (show False from r).elim
  | some _=>exact r
theorem KV.val {kvs:List (κ × V)} {vs:List (κ × Value)} (r:KV kvs vs) (k:κ):fU (bM kvs k) (valueAt vs k):=by
 unfold KV at r
 induction r with
 | nil=>exact True.intro
 | @cons p q ps qs h t ih =>
  obtain⟨h1,h2⟩:=h
  by_cases e:p.1=k
  ·have e':q.1=k:=h1.symm.trans e
   have b:valueAt (q :: qs) k=some q.2:=by simp [valueAt,List.find?_cons,e']
   rw [cK e,b];exact h2
  ·have e':¬ q.1=k:=fun z=>e (h1.trans z)
   have b:valueAt (q :: qs) k=valueAt qs k:=by simp [valueAt,List.find?_cons,e']
   rw [cB e,b];exact ih
theorem KV.any {kvs:List (κ × V)} {vs:List (κ × Value)} (r:KV kvs vs) (k:κ):(kvs.any fun kv=>decide (kv.1=k))=vs.any fun kv=>decide (kv.1=k):=by
 unfold KV at r
 induction r with
 | nil=>rfl
 | cons h t ih=>rw [List.any_cons,List.any_cons,ih,h.1]
theorem KV.vD {kvs:List (κ × V)} {vs:List (κ × Value)} (r:KV kvs vs) (k:κ) {y:V} {u:Value} (ry:RelV y u) :
  KV (kvs.map fun kv=>if kv.1=k then (kv.1,y) else kv) (vs.map fun kv=>if kv.1=k then (kv.1,u) else kv):=by
 unfold KV at r ⊢
 induction r with
 | nil=>exact .nil
 | @cons p q ps qs h t ih =>
  rw [List.map_cons,List.map_cons]
  refine .cons ?_ ih
  obtain⟨h1,h2⟩:=h
  by_cases e:p.1=k
  ·rw [if_pos e,if_pos (h1.symm.trans e)];exact⟨h1,ry⟩
  ·rw [if_neg e,if_neg (fun z=>e (h1.trans z))];exact⟨h1,h2⟩
theorem KV.put {kvs:List (κ × V)} {vs:List (κ × Value)} (r:KV kvs vs) (k:κ) {y:V} {u:Value} (ry:RelV y u):KV (putK kvs k y) (stored vs k u):=by
 unfold putK stored
 rw [r.any k]
 by_cases e:(vs.any fun kv=>decide (kv.1=k))=true
 ·rw [if_pos e,if_pos e];exact r.vD k ry
 ·rw [if_neg e,if_neg e];exact Paired.snoc r ⟨rfl,ry⟩
theorem KV.drop {kvs:List (κ × V)} {vs:List (κ × Value)} (r:KV kvs vs) (k:κ):KV (d9 kvs k) (without vs k):=by
 unfold KV at r ⊢
 unfold d9 without
 induction r with
 | nil=>exact .nil
 | @cons p q ps qs h t ih =>
  obtain⟨h1,h2⟩:=h
  rw [List.filter_cons,List.filter_cons]
  by_cases e:p.1=k
  ·have a:¬ decide (p.1 ≠ k)=true:=by simp [e]
   have b:¬ decide (q.1 ≠ k)=true:=by simp [h1.symm.trans e]
   rw [if_neg a,if_neg b];exact ih
  ·have e':¬ q.1=k:=fun z=>e (h1.trans z)
   have a:decide (p.1 ≠ k)=true:=by simp [e]
   have b:decide (q.1 ≠ k)=true:=by simp [e']
   rw [if_pos a,if_pos b];exact .cons ⟨h1,h2⟩ ih
theorem KV.keys {kvs:List (κ × V)} {vs:List (κ × Value)} (r:KV kvs vs):kvs.map (·.1)=vs.map (·.1):=by
 unfold KV at r
 induction r with
 | nil=>rfl
 | cons h t ih=>rw [List.map_cons,List.map_cons,ih,h.1]
theorem KV.length {kvs:List (κ × V)} {vs:List (κ × Value)} (r:KV kvs vs):kvs.length=vs.length:=Paired.length r
theorem vE (kvs:List (κ × V)) (k:κ):(d9 kvs k).length<=kvs.length:=List.length_filter_le _ _
end
theorem i7 {P:Program} {w:World} {k:Key} {u:Value} (r:RelV (kV k) u):(aQ P w).is k u=true:=by
 cases k with
 | inl i=>obtain⟨t,e⟩:=(show ∃ t,u=Value.int i t from r);subst e;exact ll P w i t
 | inr x=>obtain⟨t,e⟩:=(show ∃ t,u=Value.str x t from r);subst e;exact lp P w x t
theorem nW {P:Program} {w:World}:∀ {ks:List Key} {us:List Value},Vals (ks.map kV) us->ItemsAre (aQ P w) ks us
 | [],_,r=>by rw [List.map_nil] at r;cases r;exact .nil
 | k :: ks,_,r=>by
  rw [List.map_cons] at r
  cases r with
  | cons h t=>exact .cons (i7 h) (nW t)
abbrev KT (H:Hp):List (List Key × V)->List (List Key × Addr × Value)->Prop:=Paired fun p q=>p.1=q.1/\H q.2.1=some (.tup (p.1.map kV))/\RelV p.2 q.2.2
theorem KT.val {H:Hp} {kvs:List (List Key × V)} {xs:List (List Key × Addr × Value)} (r:KT H kvs xs) (k:List Key):fU (bM kvs k) ((atKey xs k).map (·.2)):=by
 induction r with
 | nil=>exact True.intro
 | @cons p q ps qs h t ih =>
  obtain⟨h1,_,h2⟩:=h
  by_cases e:p.1=k
  ·have e':q.1=k:=h1.symm.trans e
   have b:atKey (q :: qs) k=some q.2:=by simp [atKey,List.find?_cons,e']
   rw [cK e,b];exact h2
  ·have e':¬ q.1=k:=fun z=>e (h1.trans z)
   have b:atKey (q :: qs) k=atKey qs k:=by simp [atKey,List.find?_cons,e']
   rw [cB e,b];exact ih
theorem KT.vD {H:Hp} {kvs:List (List Key × V)} {xs:List (List Key × Addr × Value)} (r:KT H kvs xs) (k:List Key) {y:V} {u:Value} (ry:RelV y u) :
  KT H (kvs.map fun kv=>if kv.1=k then (kv.1,y) else kv) (xs.map (putAt k u)):=by
 induction r with
 | nil=>exact .nil
 | @cons p q ps qs h t ih =>
  rw [List.map_cons,List.map_cons]
  refine .cons ?_ ih
  obtain⟨h1,h2,h3⟩:=h
  unfold putAt
  by_cases e:p.1=k
  ·rw [if_pos e,if_pos (h1.symm.trans e)];exact⟨h1,h2,ry⟩
  ·rw [if_neg e,if_neg (fun z=>e (h1.trans z))];exact⟨h1,h2,h3⟩
theorem KT.put {H:Hp} {kvs:List (List Key × V)} {xs:List (List Key × Addr × Value)} (r:KT H kvs xs) (k:List Key) {b:Addr} {y:V} {u:Value} (hb:H b=some (.tup (k.map kV))) (ry:RelV y u) :
  KT H (putK kvs k y) (storedH xs k b u):=by
 have e:(kvs.any fun kv=>decide (kv.1=k))=(atKey xs k).isSome:=by
  rw [gQ,(r.val k).uf,Option.isSome_map]
 unfold putK storedH
 rw [e]
 by_cases q:(atKey xs k).isSome=true
 ·rw [if_pos q,if_pos q];exact r.vD k ry
 ·rw [if_neg q,if_neg q];exact Paired.snoc r ⟨rfl,hb,ry⟩
theorem KT.keeps {H H':Hp} {kvs:List (List Key × V)} {xs:List (List Key × Addr × Value)} (r:KT H kvs xs) (ht:∀ b ys,H b=some (.tup ys)->H' b=some (.tup ys)):KT H' kvs xs :=
 Paired.vc r fun _ _ z=>⟨z.1,ht _ _ z.2.1,z.2.2⟩
section
variable {P:Program} {w:World} {H:Hp} {h:Heap} {a:Addr}
theorem wY {u:HO} (ok:dC P w H h) (e:Rd H a u):bV P w H h a u:=e.ok ok
theorem kK {kvs:List (Key × V)} (ok:dC P w H h) (e:Rd H a (.dK kvs)):kvs.length<=sizeLine/\(a == sysModules)=false/\∃ vs,KV kvs vs/\h.DictOf (aQ P w) a vs :=
 show bV P w H h a (.dK kvs) from wY ok e
theorem kL {kvs:List (Key × V)} (ok:dC P w H h) (e:H a=some (.dK kvs)):kvs.length<=sizeLine/\(a == sysModules)=false/\∃ vs,KV kvs vs/\h.DictOf (aQ P w) a vs:=kK ok (.inl e)
theorem mF {ks:List Key} (ok:dC P w H h) (e:H a=some (.tup (ks.map kV))):(tupleKind (aQ P w)).is h ks a:=by
 obtain⟨_,its,r,o,h1,h2,n,h3⟩:=(show bV P w H h a (.tup (ks.map kV)) from ok a _ e)
 exact⟨o,its.toArray,n,h1,h2,h3.1,by simpa using nW r⟩
theorem mG {kvs:List (List Key × V)} (ok:dC P w H h) (e:Rd H a (.dT kvs)):kvs.length<=sizeLine/\(a == sysModules)=false /\
  ∃ xs,KT H kvs xs/\h.DictOfH (tupleKind (aQ P w)) a xs:=by
 obtain⟨z,y,xs,r,o,es,ep,h1,h2,h3,h4,h5⟩:=(show bV P w H h a (.dT kvs) from wY ok e)
 refine⟨z,y,xs,r,o,es,ep,h1,h2,h3,h4,fun x hx=>?_,h5⟩
 have all:∀ {l:List (List Key × V)} {m:List (List Key × Addr × Value)},KT H l m->∀ x ∈ m,(tupleKind (aQ P w)).is h x.1 x.2.1:=by
  intro l m q
  induction q with
  | nil=>intro x hx;exact nomatch hx
  | @cons p q ps qs hq t ih =>
   intro x hx
   rcases List.mem_cons.mp hx with e | hx
   ·subst e
    exact mF ok (by rw [<-hq.1];exact hq.2.1)
   ·exact ih x hx
 exact all r x hx
theorem zl {kvs:List (List Key × V)} (ok:dC P w H h) (e:H a=some (.dT kvs)):kvs.length<=sizeLine/\(a == sysModules)=false /\
  ∃ xs,KT H kvs xs/\h.DictOfH (tupleKind (aQ P w)) a xs:=mG ok (.inl e)
end
def cP (H:Hp) (a:Addr) (y:V) (r:Option V):Prop :=
 (∃ kvs k,Rd H a (.dK kvs)/\y=kV k/\r=bM kvs k)\/∃ kvs k b,Rd H a (.dT kvs)/\y=.ref b/\H b=some (.tup (k.map kV))/\r=bM kvs k
def gR (H:Hp) (a:Addr) (y v:V) (H':Hp):Prop :=
 (∃ kvs k,H a=some (.dK kvs)/\y=kV k/\kvs.length < sizeLine/\H' = upd H a (.dK (putK kvs k v))) \/
 ∃ kvs k b,H a=some (.dT kvs)/\y=.ref b/\H b=some (.tup (k.map kV))/\kvs.length < sizeLine/\H' = upd H a (.dT (putK kvs k v))
theorem cP.k {H:Hp} {a:Addr} {kvs:List (Key × V)} {k:Key} (e:H a=some (.dK kvs)):cP H a (kV k) (bM kvs k):=.inl ⟨kvs,k,.inl e,rfl,rfl⟩
theorem gR.k {H:Hp} {a:Addr} {kvs:List (Key × V)} {k:Key} {v:V} (e:H a=some (.dK kvs)) (hl:kvs.length < sizeLine):gR H a (kV k) v (upd H a (.dK (putK kvs k v))):=.inl ⟨kvs,k,e,rfl,hl,rfl⟩
section
variable {X:Cx} {pins:List (Addr × Obj)} {σ : St} {H:Hp} {s:Shared} {a:Addr} {y v:V} {u r:Value} {o:Option V} {A:Around} {E:Value->Shared->Prop}
theorem Inv.big (I:Inv X pins σ H s):sysModules < s.heap.objs.size:=by
 have h:mainGlobals < s.heap.objs.size:=(I.mod.glob.keeps I.bk).lt
 exact Nat.lt_trans (by decide) h
theorem ug {Q:Value->Shared->Prop} (hu:A.units+1 < cLine) (I:Inv X pins σ H s) (g:cP H a y (some v)) (ry:RelV y u) (h:∀ w' s',Inv X pins σ H s'->RelV v w'->Q w' s') :
  wpAny (model X.prog X.w) A (getItem (.ref a) u) Q E s:=by
 rcases g with ⟨kvs,k,e,ey,l⟩ | ⟨kvs,k,b,e,ey,eb,l⟩
 ·subst ey
  obtain⟨z,hd,vs,rel,dd⟩:=kK I.aN e
  obtain⟨w',hw,rw'⟩:=fU.some_of (v:=v) (o:=valueAt vs k) (by rw [l];exact rel.val k)
  exact wpAny_getItem_of (i7 ry) dd.mapOf hw (h w' _ (I.tok _) rw')
 ·subst ey
  cases (show u=Value.ref b from ry)
  obtain⟨z,hd,xs,rel,dd⟩:=mG I.aN e
  obtain⟨w',hw,rw'⟩:=fU.some_of (v:=v) (o:=(atKey xs k).map (·.2)) (by rw [l];exact rel.val k)
  obtain⟨p,hp,hp2⟩:=Option.map_eq_some_iff.mp hw
  refine wpAny_getItem_heap (tupleKind_room_in1 hu) (mF I.aN eb) dd hp ?_
  rw [hp2]
  exact h w' _ (I.tok _) rw'
theorem kM {h':Heap} {t':Nat} {ob:HO} (I:Inv X pins σ H s) (mu:tN (H a)) (hs:Heap.SameBut a s.heap h') (he:∃ q,h'.get? a=some q) (new:bV X.prog X.w (upd H a ob) h' a ob) :
  Inv X pins σ (upd H a ob) { s with heap:=h',toks:=t' } :=
 I.write (x:=a) (e:=a) mu (.inl rfl) (fun b q hb z=>(hs.2 b hb).trans z) he new
theorem iY {P:Program} {w:World} {H':Hp} {h':Heap} {kvs:List (Key × V)} {vs:List (Key × Value)} (z:kvs.length<=sizeLine) (hd:(a == sysModules)=false) (rel:KV kvs vs) (dd:h'.DictOf (aQ P w) a vs) :
  bV P w H' h' a (.dK kvs):=⟨z,hd,vs,rel,dd⟩
theorem uh {H':Hp} {Q:Unit->Shared->Prop} (hu:A.units+1 < cLine) (I:Inv X pins σ H s) (g:gR H a y v H') (ry:RelV y u) (rv:RelV v r) (h:∀ s',Inv X pins σ H' s'->Q () s') :
  wpAny (model X.prog X.w) A (setItem (.ref a) u r) Q E s:=by
 rcases g with ⟨kvs,k,e,ey,l,eH⟩ | ⟨kvs,k,b,e,ey,eb,l,eH⟩
 ·subst ey eH
  obtain⟨z,hd,vs,rel,dd⟩:=kL I.aN e
  have hz:vs.length<=sizeLine:=by rw [<-rel.length];exact z
  have hl:(putK kvs k v).length<=sizeLine:=by have:=dZ kvs k v;omega
  refine wpAny_setItem_pairs (hsz:=hz) (i7 ry) dd fun h' dd' hs=>h _ ?_
  have he:∃ q,h'.get? a=some q:=let ⟨q,_,_,hq,_⟩:=dd';⟨q,hq⟩
  exact kM I (by rw [e];exact True.intro) hs he (iY hl hd (rel.put k rv) dd')
 ·subst ey eH
  cases (show u=Value.ref b from ry)
  obtain⟨z,hd,xs,rel,dd⟩:=zl I.aN e
  have hz:xs.length<=sizeLine:=by rw [<-Paired.length rel];exact z
  have hl:(putK kvs k v).length<=sizeLine:=by have:=dZ kvs k v;omega
  refine wpAny_setItem_heap (hsz:=hz) (tupleKind_room_in1 hu) (mF I.aN eb) dd fun h' dd' hs=>h _ ?_
  obtain⟨q,es,ep,hq,h2,h3,h4,_,h5⟩:=dd'
  refine kM I (by rw [e];exact True.intro) hs ⟨q,hq⟩ ⟨hl,hd,_,(rel.put k eb rv).keeps fun c ys ec=>?_,q,es,ep,hq,h2,h3,h4,h5⟩
  rw [av (bQ ec e (fun z=>nomatch z))]
  exact ec
end
section
variable {X:Cx} {pins:List (Addr × Obj)} {σ : St} {H:Hp} {s:Shared} {a:Addr} {kvs:List (Key × V)} {k:Key} {u:Value} {A:Around} {E:Value->Shared->Prop}
theorem zm {v:V} {more:List Value} {Q:Value->Shared->Prop} (I:Inv X pins σ H s) (e:H a=some (.dK kvs)) (ry:RelV (kV k) u) (l:bM kvs k=some v) (hm:more = []\/∃ x,more = [x])
  (h:∀ w' s',Inv X pins σ (upd H a (.dK (d9 kvs k))) s'->RelV v w'->Q w' s'):wpAny (model X.prog X.w) A (call (.builtin "dict.pop") (.ref a :: u :: more)) Q E s:=by
 obtain⟨z,hd,vs,rel,dd⟩:=kL I.aN e
 obtain⟨w',hw,rw'⟩:=fU.some_of (v:=v) (o:=valueAt vs k) (by rw [<-l];exact rel.val k)
 have hp:(keyPart u).isSome=true:=by
  cases k with
  | inl i=>obtain⟨t,q⟩:=(show ∃ t,u=Value.int i t from ry);subst q;rfl
  | inr x=>obtain⟨t,q⟩:=(show ∃ t,u=Value.str x t from ry);subst q;rfl
 have ha:argsOk "dict.pop" ⟨.ref a :: u :: more,[]⟩:=by
  rcases hm with q | ⟨x,q⟩
  ·subst q;exact PySem.F.args_dict_pop_2 _ _
  ·subst q;exact PySem.F.args_dict_pop_3 _ _ _
 refine call_meetsIn PySem.F.slot_dict_pop dd.typeIs PySem.F.entry_dict_pop ha (meets_dict_pop_there (aQ X.prog X.w) a (i7 ry) more hm hp)
  ⟨vs,w',dd,by rw [<-rel.length];exact z,hw,fun h' dd' hs=>h w' _ ?_ rw'⟩
 have he:∃ q,h'.get? a=some q:=let ⟨q,_,_,hq,_⟩:=dd';⟨q,hq⟩
 exact kM I (by rw [e];exact True.intro) hs he (iY (Nat.le_trans (vE kvs k) z) hd (rel.drop k) dd')
theorem yy {r:Value} {Q:Value->Shared->Prop} (I:Inv X pins σ H s) (e:H a=some (.dK kvs)) (ry:RelV (kV k) u) (l:bM kvs k=none) (h:∀ s',Inv X pins σ H s'->Q r s') :
  wpAny (model X.prog X.w) A (call (.builtin "dict.pop") [.ref a,u,r]) Q E s:=by
 obtain⟨z,hd,vs,rel,dd⟩:=kL I.aN e
 have hn:valueAt vs k=none:=fU.none_of (by rw [<-l];exact rel.val k)
 have hp:(keyPart u).isSome=true:=by
  cases k with
  | inl i=>obtain⟨t,q⟩:=(show ∃ t,u=Value.int i t from ry);subst q;rfl
  | inr x=>obtain⟨t,q⟩:=(show ∃ t,u=Value.str x t from ry);subst q;rfl
 exact call_meetsIn PySem.F.slot_dict_pop dd.typeIs PySem.F.entry_dict_pop (PySem.F.args_dict_pop_3 _ _ _) (meets_dict_pop_default (aQ X.prog X.w) a (i7 ry) hd hp r) ⟨vs,dd,hn,h _ (I.tok _)⟩
end
def vF (i:Expr):Prop:=∀ ov iv,subscripted i false ov iv=operate [ov,iv] (getItem ov iv)
theorem rR {prog:Program} {w:World} {A:Around} {E:Value->Shared->Prop} {s:Shared} {env:Env} {value slice:Expr} {pos:Pos} {T id:String} {Q:Value->Shared->Prop}
  (hl:typeLookup (.type T) "__getitem__" = pure (some (.builtin id))) (hs:vF slice)
  (h:wpAny (model prog w) A (eval value env) (fun o s₁=>wpAny (model prog w) A (eval slice env) (fun i s₂=>s₂.TypeIs o T/\wpAny (model prog w) A (getItem o i) Q E s₂) E s₁) E s) :
  wpAny (model prog w) A (eval (.Subscript value slice pos) env) Q E s:=by
 refine Subscript_ (wpAny_mono h (fun o s₁ h₁=>wpAny_mono h₁ (fun i s₂ h₂=>?_) fun _ _ x=>x) fun _ _ x=>x)
 obtain⟨hT,h₂⟩:=h₂
 unfold subscriptTail
 refine wpAny_bind ?_
 rw [getitemInPython_of_ne hT.not_modules]
 refine wpAny_bind (wpAny_specialOf hT hl ?_)
 have fin:wpAny (model prog w) A (subscripted slice false o i) (fun r s₃=>wpAny (model prog w) A (letTemporaryGo value o r >>= fun _=>pure r) Q E s₃) E s₂:=by
  rw [hs o i]
  exact wpAny_operating (wpAny_mono h₂ (fun r s₃ h₃=>wpAny_bind (wpAny_letTemporaryGo (wpAny_pure h₃))) fun _ _ x=>x)
 first
  | exact wpAny_pure (wpAny_bind fin)
  | exact wpAny_bind (wpAny_pure (wpAny_bind fin))
  | exact wpAny_bind fin
theorem qL {X:Cx} {pins:List (Addr × Obj)} {σ : St} {H:Hp} {s:Shared} {a:Addr} {y:V} {o:Option V} (I:Inv X pins σ H s) (g:cP H a y o):s.TypeIs (.ref a) "dict" := by
 rcases g with ⟨kvs,k,e,_,_⟩ | ⟨kvs,k,b,e,_,_,_⟩
 ·obtain⟨_,_,vs,_,dd⟩:=kK I.aN e
  exact dd.typeIs
 ·obtain⟨_,_,xs,_,dd⟩:=mG I.aN e
  exact dd.typeIs
def zo (td ty:TE):TE:=fun σ H Q=>td σ H fun x H1=>ty σ H1 fun y H2=>∃ a v,x=.ref a/\cP H2 a y (some v)/\Q v H2
def zp (td ty tv:TE):TS:=fun D σ H=>tv σ H fun v H1=>td σ H1 fun x H2=>ty σ H2 fun y H3=>∃ a H4,x=.ref a/\gR H3 a y v H4/\D.nx σ H4
section
variable {X:Cx} {o i e value:Expr} {pos pos' tpos:Pos} {td ty tv:TE}
theorem kN (hu:X.A.units+1 < cLine) (ho:PE X o td) (hi:PE X i ty) (hs:vF i):PE X (.Subscript o i pos) (zo td ty):=by
 intro pins s σ H Q I h
 refine rR PySem.F.slot_dict_getitem.lookup hs (bf (ho pins s σ H _ I h) fun u s1 ⟨x,H1,I1,rx,q1⟩=>bf (hi pins s1 σ H1 _ I1 q1) fun iv s2 ⟨y,H2,I2,ry,a,v,ex,g,q2⟩=>?_)
 subst ex
 obtain rfl:u=Value.ref a:=rx
 exact⟨qL I2 g,ug hu I2 g ry fun w' s3 I3 rw'=>⟨v,H2,I3,rw',q2⟩⟩
theorem fH (hu:X.A.units+1 < cLine) (ho:PE X o td) (hi:PE X i ty) (hv:PE X value tv) (hs:swapsWith value (some (.Subscript o i pos')) pos.line X.env=pure false) :
  PS X (.Assign [.Subscript o i pos'] value pos) (zp td ty tv):=by
 intro pins s σ H D I h
 refine wpAny_Assign_Subscript (bf (hv pins s σ H _ I h) fun r s1 ⟨v,H1,I1,rv,q1⟩=>bf (ho pins s1 σ H1 _ I1 q1) fun u s2 ⟨x,H2,I2,rx,q2⟩=>bf (hi pins s2 σ H2 _ I2 q2) fun iv s3 ⟨y,H3,I3,ry,a,H4,ex,g,q3⟩=>?_) hs
 subst ex
 obtain rfl:u=Value.ref a:=rx
 exact uh hu I3 g ry rv fun s4 I4=>⟨σ,H4,I4,q3⟩
end
theorem vG {P:Program} {w:World} {H:Hp} (h:Heap) (hb:sysModules < h.objs.size):bV P w H (h.push { cls:=.type "dict",data:=.dict #[] }) h.objs.size (.dK []) :=
 ⟨Nat.zero_le _,beq_eq_false_iff_ne.mpr (Ne.symm (Nat.ne_of_lt hb)),[],.nil,Heap.DictOf.new h⟩
def yz:TE:=fun _ H Q=>∀ p,H p=none->Q (.ref p) (upd H p (.dK []))
section
variable {X:Cx} {pos:Pos}
theorem jK:PE X (.Dict [] [] pos) yz:=fun pins s σ H Q I h =>
 wpAny_Dict_empty ⟨.ref s.heap.objs.size,_,I.laid (a:=s.heap.objs.size) (o:=.dK []) (t':=s.toks) (fun _ _ q=>Heap.get?_push_of_some _ q) (Nat.le_refl _) (vG s.heap I.big),rfl,h _ (I.aN.fresh (Nat.le_refl _))⟩
end
structure M2 (X:Cx) (o:Expr) (m:Str) (apos:Pos) (e f:Expr) (cpos:Pos):Prop where
 base:attributeBase o m X.env (eval o X.env)=eval o X.env
 bc:((backTo cpos (starEach [e,f] X.env)).all (fun x=>!x.1) && (backToKw cpos (keywordEach [] X.env)).all (fun x=>x.1.isSome)
  && decide (([e,f]:List Expr).length+([]:List Keyword).length+(if ([]:List Keyword).isEmpty then 0 else 1) < 30))=true
 line:(apos.endLine == cpos.line)=true
 trees:backTo cpos (starEach [e,f] X.env) = [(false,eval e X.env),(false,eval f X.env)]
def yA (H:Hp) (a:Addr):Prop:=(∃ kvs,Rd H a (.dK kvs))\/∃ kvs,Rd H a (.dT kvs)
theorem ui {X:Cx} {pins:List (Addr × Obj)} {σ : St} {H:Hp} {s:Shared} {a:Addr} (I:Inv X pins σ H s) (d:yA H a) :
  s.TypeIs (.ref a) "dict" /\ (∀ b,Value.ref a=.ref b->∃ ob,s.heap.get? b=some ob/\ob.dict=none)/\(a == sysModules)=false:=by
 rcases d with ⟨kvs,e⟩ | ⟨kvs,e⟩
 ·obtain⟨_,hd,vs,_,dd⟩:=kK I.aN e
  refine⟨dd.typeIs,fun b q=>?_,hd⟩
  cases q
  obtain⟨ob,_,_,h1,h2,_⟩:=dd
  exact⟨ob,h1,h2.2.1⟩
 ·obtain⟨_,hd,xs,_,dd⟩:=mG I.aN e
  refine⟨dd.typeIs,fun b q=>?_,hd⟩
  cases q
  obtain⟨ob,_,_,h1,h2,_⟩:=dd
  exact⟨ob,h1,h2.2.1⟩
section
variable {X:Cx} {pins:List (Addr × Obj)} {σ : St} {H:Hp} {s:Shared} {a:Addr} {y d:V} {u r:Value} {o:Option V} {A:Around} {E:Value->Shared->Prop}
theorem yB {Q:Value->Shared->Prop} (hu:A.units+1 < cLine) (I:Inv X pins σ H s) (g:cP H a y o) (ry:RelV y u) (rd:RelV d r) (h:∀ w' s',Inv X pins σ H s'->RelV (o.getD d) w'->Q w' s') :
  wpAny (model X.prog X.w) A (call (.builtin "dict.get") [.ref a,u,r]) Q E s:=by
 rcases g with ⟨kvs,k,e,ey,l⟩ | ⟨kvs,k,b,e,ey,eb,l⟩
 ·subst ey
  obtain⟨z,hd,vs,rel,dd⟩:=kK I.aN e
  refine call_meetsIn PySem.F.slot_dict_get dd.typeIs PySem.F.entry_dict_get (PySem.F.args_dict_get_3 _ _ _) (meets_dict_get_default (aQ X.prog X.w) a (i7 ry) hd r) ⟨_,dd.mapOf,h _ _ (I.tok _) ?_⟩
  rw [l]
  exact (rel.val k).getD rd
 ·subst ey
  cases (show u=Value.ref b from ry)
  obtain⟨z,hd,xs,rel,dd⟩:=mG I.aN e
  refine call_meetsIn PySem.F.slot_dict_get dd.typeIs PySem.F.entry_dict_get (PySem.F.args_dict_get_3 _ _ _) (meetsH_dict_get_default (tupleKind (aQ X.prog X.w)) a b hd r) ⟨tupleKind_room_in1 hu,k,xs,mF I.aN eb,dd,h _ _ (I.tok _) ?_⟩
  rw [l]
  exact (rel.val k).getD rd
end
def yC (td ty tx:TE):TE:=fun σ H Q=>td σ H fun x H1=>∃ a,x=.ref a/\yA H1 a/\ty σ H1 fun y H2=>tx σ H2 fun z H3=>∃ kvs k,H3 a=some (.dK kvs)/\y=kV k /\
 (∀ v,bM kvs k=some v->Q v (upd H3 a (.dK (d9 kvs k))))/\(bM kvs k=none->Q z H3)
section
variable {X:Cx} {o e f:Expr} {apos cpos:Pos} {td ty tx:TE}
theorem pQ (ho:PE X o td) (he:PE X e ty) (hf:PE X f tx) (m:M2 X o "pop" apos e f cpos):PE X (.Call (.Attribute o "pop" apos) [e,f] [] cpos) (yC td ty tx):=by
 intro pins s σ H Q I h
 refine wpAny_Call_method m.base m.bc m.line PySem.F.plainAttrs_dict PySem.F.slot_dict_pop PySem.F.type_dict_pop (bf (ho pins s σ H _ I h) fun u s1 ⟨x,H1,I1,rx,a,ex,d,q1⟩=>?_)
 subst ex
 obtain rfl:u=Value.ref a:=rx
 obtain⟨t1,t2,_⟩:=ui I1 d
 refine⟨t1,t2,?_⟩
 rw [m.trees]
 refine Calls.callWith_builtin rfl (Calls.evalArgs_plain (Calls.spliced_cons (bf (he pins s1 σ H1 _ I1 q1) fun iv s2 ⟨y,H2,I2,ry,q2⟩ =>
  Calls.spliced_cons (bf (hf pins s2 σ H2 _ I2 q2) fun fv s3 ⟨z,H3,I3,rz,kvs,k,ea,ey,q3,q4⟩=>Calls.spliced_nil ?_))))
 subst ey
 cases l:bM kvs k with
 | some v=>exact zm I3 ea ry l (.inr ⟨fv,rfl⟩) fun w' s4 I4 rw'=>⟨v,_,I4,rw',q3 v l⟩
 | none=>exact yy I3 ea ry l fun s4 I4=>⟨z,H3,I4,rz,q4 l⟩
end
section
variable {X:Cx} {pins:List (Addr × Obj)} {σ : St} {H:Hp} {s:Shared} {a:Addr} {kvs:List (Key × V)} {A:Around} {E:Value->Shared->Prop}
end
section
variable {X:Cx} {pins:List (Addr × Obj)} {σ : St} {H:Hp} {s:Shared} {a:Addr} {y:V} {u:Value} {A:Around} {E:Value->Shared->Prop}
end
section
variable {X:Cx}
end
section
variable {κ : Type} [DecidableEq κ]
theorem xq {kvs:List (κ × V)} {k:κ} {v:V} (h:bM kvs k=some v):k ∈ kvs.map (·.1):=by
 have q:(kvs.any fun kv=>decide (kv.1=k))=true:=by
  rw [gQ,h]
  all_goals rfl
 obtain⟨p,hp,e⟩:=List.any_eq_true.mp q
 exact List.mem_map.mpr ⟨p,hp,of_decide_eq_true e⟩
theorem nX {p:κ × V} {r:List (κ × V)} {k:κ} (e:p.1=k):d9 (p :: r) k=d9 r k:=by
 unfold d9
 rw [List.filter_cons,if_neg (by simp [e])]
theorem nY {p:κ × V} {r:List (κ × V)} {k:κ} (e:¬ p.1=k):d9 (p :: r) k=p :: d9 r k:=by
 unfold d9
 rw [List.filter_cons,if_pos (by simp [e])]
end
theorem bC.cn {H:Hp} {v:V} {ds:List PyData} (h:bC H v (.tuple ds)):∃ p xs,v=.ref p/\H p=some (.tup xs)/\bu H xs ds:=by
 cases h with
 | tup e r=>exact⟨_,_,rfl,e,r⟩
theorem bC.int_inv {H:Hp} {v:V} {i:Int} (h:bC H v (.int i)):v=.int i:=by cases h;rfl
theorem bC.str_inv {H:Hp} {v:V} {x:Str} (h:bC H v (.str x)):v=.str x:=by cases h;rfl
theorem bu.cons_inv {H:Hp} {xs:List V} {d:PyData} {ds:List PyData} (h:bu H xs (d :: ds)):∃ x r,xs=x :: r/\bC H x d/\bu H r ds:=by
 cases h with
 | cons a b=>exact⟨_,_,rfl,a,b⟩
theorem bu.nil_inv {H:Hp} {xs:List V} (h:bu H xs []):xs = []:=by cases h;rfl
theorem bu.get {H:Hp}:∀ {xs:List V} {ds:List PyData} {i:Nat} {d:PyData},bu H xs ds->ds[i]? = some d->∃ x,xs[i]? = some x/\bC H x d
 | _,_,_,_,.nil,e=>by simp at e
 | _,_,0,_,.cons r _,e=>by
  simp at e
  subst e
  exact⟨_,rfl,r⟩
 | _,_,i+1,d,.cons _ t,e=>by
  obtain⟨x,h1,h2⟩:=bu.get (i:=i) (d:=d) t (by simpa using e)
  exact⟨x,by simpa using h1,h2⟩
def i8:cc->List V
 | .put x n=>[.str "put",.str x,.int n]
 | .copy x y=>[.str "copy",.str x,.str y]
 | .add x n=>[.str "add",.str x,.int n]
 | .read x=>[.str "read",.str x]
 | .tell x=>[.str "tell",.str x]
def iZ:End->List V
 | .stop=>[.str "stop"]
 | .go p=>[.str "go",.int p]
 | .cY b x n p q=>[.str (wT b),.str x,.int n,.int p,.int q]
theorem ng {H:Hp} {v:V} {d:cc} (h:bC H v (d8 d)):∃ p,v=.ref p/\H p=some (.tup (i8 d)):=by
  cases d <;> (
    obtain⟨p,xs,rfl,e,r⟩:=bC.cn h
    obtain⟨x1,r1,rfl,h1,r⟩:=r.cons_inv
    obtain⟨x2,r2,rfl,h2,r⟩:=r.cons_inv
    first
      | (obtain⟨x3,r3,rfl,h3,r⟩:=r.cons_inv
         have z:=r.nil_inv
         subst z
         refine⟨p,rfl,?_⟩
         first
           | rw [e,h1.str_inv,h2.str_inv,h3.int_inv];rfl
           | rw [e,h1.str_inv,h2.str_inv,h3.str_inv];rfl)
      | (have z:=r.nil_inv
         subst z
         refine⟨p,rfl,?_⟩
         rw [e,h1.str_inv,h2.str_inv];rfl))
theorem yD {H:Hp} {v:V} {e:End} (h:bC H v (pJ e)):∃ p,v=.ref p/\H p=some (.tup (iZ e)):=by
 cases e with
 | stop =>
  obtain⟨p,xs,rfl,e,r⟩:=bC.cn h
  obtain⟨x1,r1,rfl,h1,r⟩:=r.cons_inv
  have z:=r.nil_inv
  subst z
  exact⟨p,rfl,by rw [e,h1.str_inv];rfl⟩
 | go q =>
  obtain⟨p,xs,rfl,e,r⟩:=bC.cn h
  obtain⟨x1,r1,rfl,h1,r⟩:=r.cons_inv
  obtain⟨x2,r2,rfl,h2,r⟩:=r.cons_inv
  have z:=r.nil_inv
  subst z
  exact⟨p,rfl,by rw [e,h1.str_inv,h2.int_inv];rfl⟩
 | cY b x n q q' =>
  obtain⟨p,xs,rfl,e,r⟩:=bC.cn h
  obtain⟨x1,r1,rfl,h1,r⟩:=r.cons_inv
  obtain⟨x2,r2,rfl,h2,r⟩:=r.cons_inv
  obtain⟨x3,r3,rfl,h3,r⟩:=r.cons_inv
  obtain⟨x4,r4,rfl,h4,r⟩:=r.cons_inv
  obtain⟨x5,r5,rfl,h5,r⟩:=r.cons_inv
  have z:=r.nil_inv
  subst z
  exact⟨p,rfl,by rw [e,h1.str_inv,h2.str_inv,h3.int_inv,h4.int_inv,h5.int_inv];rfl⟩
theorem jL {H:Hp} {v:V} {ps:List Piece} {i:Nat} {ds:List cc} {e:End} (h:bC H v (hV ps)) (hi:ps[i]? = some (ds,e)) :
  ∃ p xs pc da ea vs,v=.ref p/\H p=some (.tup xs)/\xs.length=ps.length/\xs[i]? = some (.ref pc)/\H pc=some (.tup [.ref da,.ref ea])/\H da=some (.tup vs)/\bu H vs (ds.map d8)/\H ea=some (.tup (iZ e)):=by
 obtain⟨p,xs,rfl,e1,r⟩:=bC.cn h
 have hl:=r.len
 obtain⟨x,hx,rx⟩:=r.get (i:=i) (d:=gG (ds,e)) (by rw [List.getElem?_map,hi];rfl)
 obtain⟨pc,ys,rfl,e2,r2⟩:=bC.cn rx
 obtain⟨y1,t1,rfl,q1,r2⟩:=r2.cons_inv
 obtain⟨y2,t2,rfl,q2,r2⟩:=r2.cons_inv
 have z:=r2.nil_inv
 subst z
 obtain⟨da,vs,rfl,e3,r3⟩:=bC.cn q1
 obtain⟨ea,rfl,e4⟩:=yD q2
 exact⟨p,xs,pc,da,ea,vs,rfl,e1,by rw [hl,List.length_map],hx,e2,e3,r3,e4⟩
theorem cL {n:Nat} (h:n<=1000000):n < sizeLine:=Nat.lt_of_le_of_lt h (by decide)
theorem aV {c:Bool} {A B:Prop} (hc:c=false) (h:B):if c=true then A else B:=by subst hc;exact bw h
theorem cb {c:Bool} {A B:Prop} (hc:c=true) (h:A):if c=true then A else B:=by subst hc;exact bA h
def xr (td ty tx:TE):TE:=fun σ H Q=>td σ H fun x H1=>∃ a,x=.ref a/\yA H1 a/\ty σ H1 fun y H2=>tx σ H2 fun z H3=>∃ o v,cP H3 a y o/\o.getD z=v/\Q v H3
theorem cO {X:Cx} {o e f:Expr} {apos cpos:Pos} {td ty tx:TE} (hu:X.A.units+1 < cLine) (ho:PE X o td) (he:PE X e ty) (hf:PE X f tx) (m:M2 X o "get" apos e f cpos):PE X (.Call (.Attribute o "get" apos) [e,f] [] cpos) (xr td ty tx):=by
 intro pins s σ H Q I h
 refine wpAny_Call_method m.base m.bc m.line PySem.F.plainAttrs_dict PySem.F.slot_dict_get PySem.F.type_dict_get (bf (ho pins s σ H _ I h) fun u s1 ⟨x,H1,I1,rx,a,ex,d,q1⟩=>?_)
 subst ex
 obtain rfl:u=Value.ref a:=rx
 obtain⟨t1,t2,_⟩:=ui I1 d
 refine⟨t1,t2,?_⟩
 rw [m.trees]
 refine Calls.callWith_builtin rfl (Calls.evalArgs_plain (Calls.spliced_cons (bf (he pins s1 σ H1 _ I1 q1) fun iv s2 ⟨y,H2,I2,ry,q2⟩ =>
  Calls.spliced_cons (bf (hf pins s2 σ H2 _ I2 q2) fun fv s3 ⟨z,H3,I3,rz,ov,v,g,ev,q3⟩=>Calls.spliced_nil ?_))))
 exact yB hu I3 g ry rz fun w' s4 I4 rw'=>⟨v,H3,I4,by rw [<-ev];exact rw',q3⟩
structure RS where
 bW:Nat
 place:Nat
 w:Str->Int
 taken:Nat
 told:List Int
 word:Str
 cx:List Nat
def en (w:Str->Int) (x:Str) (n:Int):Str->Int:=fun y=>if y=x then n else w y
def oS (nums:List Int) (S:RS):cc->RS
 | .put x n=>{ S with w:=en S.w x n,place:=S.place+1 }
 | .copy x y=>{ S with w:=en S.w x (S.w y),place:=S.place+1 }
 | .add x n=>{ S with w:=en S.w x (S.w x+n),place:=S.place+1 }
 | .tell x=>{ S with told:=S.told ++ [S.w x],place:=S.place+1 }
 | .read x=>match nums[S.taken]? with
  | none=>{ S with word := "dry" }
  | some n=>{ S with w:=en S.w x n,taken:=S.taken+1,place:=S.place+1 }
def gS (b:Bool) (u n:Int):Bool:=if b=true then decide (u < n) else decide (u=n)
def kO (S:RS):End->RS
 | .stop=>{ S with word := "stop" }
 | .go p=>{ S with bW:=p,place:=0,cx:=S.cx ++ [p] }
 | .cY b x n p q=>{ S with bW:=if gS b (S.w x) n=true then p else q,place:=0,cx:=S.cx ++ [if gS b (S.w x) n=true then p else q] }
def fI (ps:List Piece) (nums:List Int) (S:RS):RS:=match ps[S.bW]? with
 | none=>S
 | some (ds,e)=>match ds[S.place]? with
  | some d=>oS nums S d
  | none=>kO S e
def DW (kvs:List (Key × V)) (w:Str->Int):Prop:=∀ x:Str,(bM kvs (Sum.inr x:Key)).getD (.int 0)=.int (w x)
theorem DW.put {kvs:List (Key × V)} {w:Str->Int} (h:DW kvs w) (x:Str) (n:Int):DW (putK kvs (Sum.inr x) (.int n)) (en w x n):=fun y=>by
 rw [pP]
 unfold en
 by_cases e:y=x
 ·subst e
  rw [if_pos rfl,if_pos rfl];rfl
 ·rw [if_neg (fun z=>e (Sum.inr.inj z)),if_neg e]
  exact h y
structure dM (H:Hp) (st d tl bl:Addr) (S:RS) (m:Nat):Prop where
 at_:H st=some (.tup [.int S.bW,.int S.place,.ref d,.int S.taken,.ref tl,.str S.word,.ref bl])
 dict:∃ kvs,H d=some (.dK kvs)/\DW kvs S.w/\kvs.length<=m
 told:H tl=some (.lst (S.told.map V.int))
 cx:H bl=some (.lst (S.cx.map fun k=>V.int (k:Nat)))
 ne:tl ≠ bl
 bc:S.told.length<=m/\S.cx.length<=m+1
def dI (d tl bl:Addr) (H H':Hp):Prop:=∀ c o,H c=some o->c ≠ d->c ≠ tl->c ≠ bl->H' c=some o
theorem dI.trans {d tl bl:Addr} {H H1 H2:Hp} (a:dI d tl bl H H1) (b:dI d tl bl H1 H2):dI d tl bl H H2:=fun c o h n1 n2 n3=>b c o (a c o h n1 n2 n3) n1 n2 n3
theorem dI.new {d tl bl p:Addr} {H:Hp} {o:HO} (hp:H p=none):dI d tl bl H (upd H p o):=fun c u h _ _ _=>by rw [av (aT h hp)];exact h
def jv (ps:List Piece):Prop:=∀ p ∈ ps,match p.2 with
 | .stop=>True
 | .go q=>q < ps.length
 | .cY _ _ _ q r=>q < ps.length/\r < ps.length
theorem dD.yE {xs:List Str} {m:Nat} {ps:List Piece} (h:dD xs m ps):jv ps:=fun p hp=>by
 have:=h.ends p hp
 cases e:p.2 with
 | stop=>exact True.intro
 | go q=>rw [e] at this;exact this
 | cY b x n q r=>rw [e] at this;exact⟨this.2.2.1,this.2.2.2⟩
def pR:Sp:=fun vs H Q _=>∃ (pv:V) (st np d tl bl:Addr) (ps:List Piece) (nums:List Int) (S:RS) (m:Nat),vs = [pv,.ref st,.ref np]/\bC H pv (hV ps)/\jv ps/\H np=some (.tup (nums.map V.int))/\dM H st d tl bl S m /\
 S.bW < ps.length/\S.taken<=nums.length/\m<=10000/\∀ st' H',dM H' st' d tl bl (fI ps nums S) (m+1)->dI d tl bl H H'->Q (.ref st') H'
theorem vH {ps:List Piece} {nums:List Int} {S:RS} (hp:jv ps) (h:S.bW < ps.length) (ht:S.taken<=nums.length):(fI ps nums S).bW < ps.length/\(fI ps nums S).taken<=nums.length:=by
 unfold fI
 have hx:ps[S.bW]? = some ps[S.bW]:=by simp [h]
 rw [hx]
 generalize hpc:ps[S.bW] = pc
 obtain⟨ds,e⟩:=pc
 have hm:(ds,e) ∈ ps:=by rw [<-hpc];exact List.getElem_mem h
 dsimp only
 cases hd:ds[S.place]? with
 | some dd =>
  cases dd with
  | read x =>
   dsimp only [oS]
   cases hn:nums[S.taken]? with
   | none=>exact⟨h,ht⟩
   | some n =>
    have:S.taken < nums.length:=(List.getElem?_eq_some_iff.mp hn).1
    exact⟨h,this⟩
  | _=>exact⟨h,ht⟩
 | none =>
  have hq:=hp (ds,e) hm
  cases e with
  | stop=>exact⟨h,ht⟩
  | go q=>exact⟨hq,ht⟩
  | cY b x n q r =>
   dsimp only [kO]
   refine⟨?_,ht⟩
   split
   ·exact hq.1
   ·exact hq.2
theorem dM.lu {H1:Hp} {st' d tl bl:Addr} {S':RS} {m:Nat} {kvs:List (Key × V)} (h1:H1 d=some (.dK kvs)) (dw:DW kvs S'.w) (hk:kvs.length<=m) (t1:H1 tl=some (.lst (S'.told.map V.int)))
  (b1:H1 bl=some (.lst (S'.cx.map fun k=>V.int (k:Nat)))) (ne:tl ≠ bl) (bc:S'.told.length<=m/\S'.cx.length<=m+1) (hn:H1 st' = none) {xs:List V}
  (ex:xs = [.int S'.bW,.int S'.place,.ref d,.int S'.taken,.ref tl,.str S'.word,.ref bl]):dM (upd H1 st' (.tup xs)) st' d tl bl S' m:=by
 subst ex
 exact⟨ae,⟨kvs,by rw [av (aT h1 hn)];exact h1,dw,hk⟩,by rw [av (aT t1 hn)];exact t1,by rw [av (aT b1 hn)];exact b1,ne,bc⟩
theorem dI.oU {d tl bl:Addr} {H:Hp} {o:HO}:dI d tl bl H (upd H d o):=fun c u h n _ _=>by rw [av n];exact h
theorem dI.zq {d tl bl:Addr} {H:Hp} {o:HO}:dI d tl bl H (upd H tl o):=fun c u h _ n _=>by rw [av n];exact h
theorem dI.wZ {d tl bl:Addr} {H:Hp} {o:HO}:dI d tl bl H (upd H bl o):=fun c u h _ _ n=>by rw [av n];exact h
theorem nZ {ps:List Piece} {nums:List Int} {S:RS} {ds:List cc} {e:End} {dd:cc} (h1:ps[S.bW]? = some (ds,e)) (h2:ds[S.place]? = some dd):fI ps nums S=oS nums S dd:=by
 unfold fI
 rw [h1]
 dsimp only
 rw [h2]
theorem pS {ps:List Piece} {nums:List Int} {S:RS} {ds:List cc} {e:End} (h1:ps[S.bW]? = some (ds,e)) (h2:ds[S.place]? = none):fI ps nums S=kO S e:=by
 unfold fI
 rw [h1]
 dsimp only
 rw [h2]
def vO:Option Int->V
 | none=>.aS
 | some i=>.int i
def iy:Option Int->Option Int->Prop
 | some a,some b=>a<=b
 | _,_=>True
def bY (n:Int) (lo hi:Option Int):Bool:=(match lo with | none=>true | some a=>decide (a<=n)) && (match hi with | none=>true | some a=>decide (n<=a))
abbrev Rs:=Option (Option Int × Option Int)
def je (hi:Option Int) (n:Int):Int:=match hi with | none=>n - 1 | some h=>if n - 1 < h then n - 1 else h
def jf (lo:Option Int) (n:Int):Int:=match lo with | none=>n | some l=>if n > l then n else l
def ft (lo hi:Option Int) (n:Int):Rs :=
 match lo with | none=>some (none,some (je hi n)) | some l=>if je hi n < l then none else some (some l,some (je hi n))
def gH (lo hi:Option Int) (n:Int):Rs :=
 match hi with | none=>some (some (jf lo n),none) | some h=>if h < jf lo n then none else some (some (jf lo n),some h)
def mH (lo hi:Option Int) (n:Int):Rs:=if bY n lo hi=true then some (some n,some n) else none
def i0 (lo hi:Option Int) (n:Int):Rs:=if lo=some n then (if hi=some n then none else some (some (n+1),hi)) else if hi=some n then some (lo,some (n - 1)) else some (lo,hi)
def kP (lo hi:Option Int) (n:Int) (side:Bool):Rs:=if side=true then ft lo hi n else gH lo hi n
def rS (lo hi:Option Int) (n:Int) (side:Bool):Rs:=if side=true then mH lo hi n else i0 lo hi n
def fj (w:Str) (lo hi:Option Int) (n:Int) (side:Bool):Rs:=if w = "less" then kP lo hi n side else rS lo hi n side
theorem vI {w:Str} {lo hi:Option Int} {n:Int} (le:iy lo hi) (h1:fj w lo hi n true=none) (h2:fj w lo hi n false=none):False:=by
 unfold fj at h1 h2
 by_cases hw:w = "less"
 ·rw [if_pos hw] at h1 h2
  simp only [kP,if_true,Bool.false_eq_true,if_false] at h1 h2
  unfold ft je at h1
  unfold gH jf at h2
  cases lo <;> cases hi <;> simp only [reduceCtorEq] at h1 h2
  rename_i l h
  simp only [iy] at le
  by_cases c1:n - 1 < h
  ·simp only [c1,if_true] at h1
   by_cases c2:n - 1 < l
   ·by_cases c3:n > l
    ·simp only [c3,if_true] at h2
     split at h2
     ·omega
     ·cases h2
    ·simp only [c3,if_false] at h2
     split at h2
     ·omega
     ·cases h2
   ·rw [if_neg c2] at h1;cases h1
  ·simp only [c1,if_false] at h1
   split at h1
   ·omega
   ·cases h1
 ·rw [if_neg hw] at h1 h2
  simp only [rS,if_true,Bool.false_eq_true,if_false] at h1 h2
  unfold i0 at h2
  by_cases c1:lo=some n
  ·rw [if_pos c1] at h2
   by_cases c2:hi=some n
   ·subst c1;subst c2
    simp [mH,bY] at h1
   ·rw [if_neg c2] at h2;cases h2
  ·rw [if_neg c1] at h2
   split at h2 <;> cases h2
def RV (H:Hp) (v:V) (r:Rs):Prop:=match r with
 | none=>v=.aS
 | some (a,b)=>∃ p,v=.ref p/\H p=some (.tup [vO a,vO b])
theorem RV.same {H H':Hp} {v:V} {r:Rs} (h:RV H v r) (s:ao H H'):RV H' v r:=by
 cases r with
 | none=>exact h
 | some ab =>
  obtain⟨p,e,h⟩:=h
  exact⟨p,e,s _ _ h⟩
theorem RV.put {H:Hp} {v:V} {r:Rs} {l:Addr} {xs:List V} {o:HO} (h:RV H v r) (hl:H l=some (.lst xs)):RV (upd H l o) v r:=by
 cases r with
 | none=>exact h
 | some ab =>
  obtain⟨p,e,h⟩:=h
  exact⟨p,e,by rw [av (bQ h hl (by intro z;cases z))];exact h⟩
def dO:Option Int->PyData
 | none=>.none
 | some i=>.int i
theorem yF {H:Hp} (o:Option Int):bC H (vO o) (dO o):=by
 cases o with
 | none=>exact .aS
 | some i=>exact .int i
theorem ao.put {H H':Hp} {l:Addr} {o:HO} (s:ao H H') (n:H l=none):ao H (upd H' l o):=fun c u e=>by rw [av (aT e n)];exact s c u e
theorem uj:decide (V.str "less" = V.str "less")=true:=by decide +kernel
theorem mI {lo:Option Int} {n:Int}:decide (vO lo=V.int n)=decide (lo=some n):=by
 cases lo with
 | none=>rfl
 | some i =>
  by_cases h:i=n
  ·subst h;simp [vO]
  ·have h1:¬ (V.int i=V.int n):=fun z=>h (V.int.inj z)
   have h2:¬ ((some i:Option Int)=some n):=fun z=>h (Option.some.inj z)
   rw [show vO (some i)=V.int i from rfl,decide_eq_false h1,decide_eq_false h2]
theorem kh {lo:Option Int} {n:Int}:vn (vO lo) (V.int n)=true:=by cases lo <;> rfl
section
variable {X:Cx} {C:Addr} {m x:Str} {k:Nat} {ps:List Str} {sp:Sp} {oe e:Expr} {es:List Expr} {ta:TE} {t:TA} {p pos apos:Pos}
end
theorem jw:bootBuiltins "dict" = some (.type "dict"):=by decide +kernel
def Av (a0 a1 a2 a3 a4 a5 a6 a7:V):List (Str × V):=[("pieces",a0),("passed",a1),("place",a2),("worths",a3),("numbers",a4),("taken",a5),("spoken",a6),("over",a7)]
section
variable {a0 a1 a2 a3 a4 a5 a6 a7 z:V}
end
structure cZ (C:Addr) (H:Hp) (p pl d nl sl:Addr) (plv:V) (nums:List Int) (S:RS) (m:Nat):Prop where
 ob:∃ dx,H p=some (.ins C dx (Av plv (.ref pl) (.int S.place) (.ref d) (.ref nl) (.int S.taken) (.ref sl) (.bl (decide (S.word = "stop")))))
 Aw:H pl=some (.lst (S.cx.map fun k=>V.int (k:Nat)))
 last:∃ xs,S.cx=xs ++ [S.bW]
 dict:∃ kvs,H d=some (.dK kvs)/\DW kvs S.w/\kvs.length<=m
 nums:H nl=some (.lst (nums.map V.int))
 Ax:H sl=some (.lst (S.told.map V.int))
 ne:pl ≠ nl/\pl ≠ sl/\nl ≠ sl
 bc:S.told.length<=m/\S.cx.length<=m+1
section
variable {C:Addr} {H H':Hp} {p pl d nl sl:Addr} {plv:V} {nums:List Int} {S:RS} {m:Nat}
end
def lB (ps:List Piece) (nums:List Int) (S:RS):RS:=if S.word = "on" then fI ps nums S else S
def dt (ps:List Piece) (nums:List Int):Nat->RS->RS
 | 0,S=>S
 | n+1,S=>lB ps nums (dt ps nums n S)
theorem xt {ps:List Piece} {nums:List Int} {n:Nat} {S:RS} (h:(dt ps nums n S).word = "on"):dt ps nums (n+1) S=fI ps nums (dt ps nums n S):=by
 show lB ps nums _=_
 unfold lB
 rw [if_pos h]
theorem pT {ps:List Piece} {nums:List Int} {n:Nat} {S:RS} (h:¬ (dt ps nums n S).word = "on"):∀ k,dt ps nums (n+k) S=dt ps nums n S
 | 0=>rfl
 | k+1=>by
  show lB ps nums (dt ps nums (n+k) S)=_
  rw [pT h k]
  unfold lB
  rw [if_neg h]
theorem rT {ps:List Piece} {nums:List Int} {S:RS} (hp:jv ps) (h:S.bW < ps.length) (ht:S.taken<=nums.length):∀ n,(dt ps nums n S).bW < ps.length/\(dt ps nums n S).taken<=nums.length
 | 0=>⟨h,ht⟩
 | n+1=>by
  have ih:=rT hp h ht n
  show (lB ps nums (dt ps nums n S)).bW < _/\(lB ps nums (dt ps nums n S)).taken<=_
  unfold lB
  split
  ·exact vH hp ih.1 ih.2
  ·exact ih
def fu (pc:Nat) (w:Str->Int):RS:=⟨pc,0,w,0,[], "on",[pc]⟩
end L2
namespace HT
open PySem PyProof.Rows PySem.Spec
section
variable {prog:Program} {w:World} {A:Around} {E:Value->Shared->Prop} {s:Shared}
theorem lg {t sl:Addr} {items:Array Value} {vl vu:Value} {lo hi:Option Int} {Q:Value->Shared->Prop} (ht:IsTup s.heap t items) (hs:s.heap.IsSliceOf sl vl vu .none) (pl:IsPart vl lo) (pu:IsPart vu hi)
  (hw:bS items.size 0 lo=0/\bS items.size items.size hi=items.size) (h:Q (.ref t) s):wpAny (model prog w) A (getItem (.ref t) (.ref sl)) Q E s:=by
 obtain⟨os,hos,hcs,hds⟩:=id hs
 have hTs:s.TypeIs (.ref sl) "slice" := ⟨os,hos,hcs⟩
 unfold getItem
 try with_reducible refine wpAny_holding ?_
 first | refine wpAny_bind (wpAny_pure ?_) | skip
 refine wpAny_bind (wpAny_sequenceKey ht.typeIs (by decide) ?_)
 refine wpAny_bind (wpAny_callSpecial?_slot (name:=Str.ofString "__getitem__") ht.typeIs PyProof.Rows.slot_tuple_getitem
  (wpAny_call_entry PyProof.Rows.slot_tuple_getitem ht.typeIs entry_tuple_getitem ?_ (args_tuple_getitem _ _)))
 show wpAny _ _ (Builtin.Tuple.tupleItemsOf (.ref t) >>= _) _ _ s
 refine wpAny_bind (tupleItemsOf_ ht ?_)
 refine wpAny_bind (wpAny_typeOf hTs ?_)
 rw [if_pos (by decide)]
 refine wpAny_bind (iT hs pl pu ?_)
 have hno:((((bS items.size 0 lo:Nat):Int) == 0 && (1:Int) == 1 && (bS items.size items.size hi - bS items.size 0 lo) == items.size)=true):=by
  rw [hw.1,hw.2]
  simp
 show wpAny _ _ (if (((bS items.size 0 lo:Nat):Int) == 0 && (1:Int) == 1 && (bS items.size items.size hi - bS items.size 0 lo) == items.size)=true then _ else _) _ _ s
 rw [if_pos hno]
 refine wpAny_bind ?_
 unfold Builtin.Tuple.tupleIsExact
 refine wpAny_bind (wpAny_typeOf ht.typeIs (wpAny_pure ?_))
 rw [if_pos (by decide)]
 refine wpAny_bind (wpAny_rule ?_)
 first
  | exact wpAny_pure ⟨_,rfl,wpAny_pure h⟩
  | exact wpAny_bind (wpAny_pure (wpAny_pure ⟨_,rfl,wpAny_pure h⟩))
  | exact wpAny_pure (wpAny_pure ⟨_,rfl,wpAny_pure h⟩)
end
end HT
namespace L2
open PySem PySem.Spec PyProof.Rows
section
variable {X:Cx}
def zr (K:PySem.W.Frag):V->Option Int->Option Int->Hp->VK->Prop:=fun x lo hi H Q=>∃ a xs,x=.ref a/\aw K H a xs /\
 ((HT.bS xs.length 0 lo=0/\HT.bS xs.length xs.length hi=xs.length)->Q (.ref a) H)/\(¬ (HT.bS xs.length 0 lo=0/\HT.bS xs.length xs.length hi=xs.length)->∀ p,H p=none->Q (.ref p) (upd H p (.tup (lN xs lo hi))))
theorem xu:yk X (zr X.K):=by
 intro pins s σ H x v vl vu lo hi sl Q I rx hs pl pu h
 obtain⟨a,xs,rfl,hx,q1,q2⟩:=h
 by_cases hw:HT.bS xs.length 0 lo=0/\HT.bS xs.length xs.length hi=xs.length
 ·cases rx
  obtain⟨its,r,ht,hz⟩:=I.tuple hx
  have hlen:its.toArray.size=xs.length:=by rw [List.size_toArray];exact r.length.symm
  refine⟨"tuple",_,PyProof.Rows.slot_tuple_getitem.lookup,ht.typeIs,?_⟩
  exact HT.lg ht hs pl pu (by rw [hlen];exact hw) ⟨.ref a,H,I,rfl,q1 hw⟩
 ·exact yl pins s σ H (.ref a) v vl vu lo hi sl Q I rx hs pl pu ⟨a,xs,rfl,hx,hw,q2 hw⟩
end
theorem Ay {α : Type} {x y z u v w:α} {xs:List α}:fo (x :: y :: z :: u :: v :: w :: xs) 5=some w:=bE (j:=5) rfl
theorem yG {x y z r:Int} (h0:0<=r) (h1:r < 3):∃ g:Int,fo [V.int x,V.int y,V.int z] r=some (V.int g)/\(g=x\/g=y\/g=z):=by
 obtain rfl | rfl | rfl:r=0\/r=1\/r=2:=by omega
 ·exact⟨x,bP,.inl rfl⟩
 ·exact⟨y,cv,.inr (.inl rfl)⟩
 ·exact⟨z,at2,.inr (.inr rfl)⟩
theorem dM.mono {H:Hp} {st d tl bl:Addr} {S:RS} {m m':Nat} (h:dM H st d tl bl S m) (le:m<=m'):dM H st d tl bl S m':=by
 obtain⟨h1,⟨kvs,h2,h3,h4⟩,h5,h6,h7,h8⟩:=h
 exact⟨h1,⟨kvs,h2,h3,Nat.le_trans h4 le⟩,h5,h6,h7,Nat.le_trans h8.1 le,Nat.le_trans h8.2 (Nat.succ_le_succ le)⟩
def lP:Sp:=fun vs H Q _=>∃ (b:Addr),vs = [.ref b]/\bR H b/\∀ (t:Addr) (nums:List Int) (H':Hp),H' t=some (.tup (nums.map V.int))->bR H' b->Fix b H H'->Q (.ref t) H'
theorem jg {P:Program} {w:World} {x:Str} {v:Value} (h:(aQ P w).is (Sum.inr x) v=true):∃ t,v=.str x t:=by
 cases v with
 | str y t =>
  have:y=x:=by simpa [aQ,iA,Value.isStrOf] using h
  exact⟨t,by rw [this]⟩
 | _=>simp [aQ,iA,Value.isStrOf] at h
theorem mJ:∀ {vs:List Value} {ks:List Str},vs.length=ks.length->(∀ (j:Nat) (v:Value) (x:Str),vs[j]? = some v->ks[j]? = some x->∃ t,v=.str x t)->StrsAre vs ks
 | [],[],_,_=>.nil
 | v :: vs,x :: ks,hl,h=>by
  obtain⟨t,rfl⟩:=h 0 v x rfl rfl
  exact .cons x t (mJ (by simpa using hl) fun j v' x' h1 h2=>h (j+1) v' x' (by simpa using h1) (by simpa using h2))
 | [],_ :: _,hl,_=>by simp at hl
 | _ :: _,[],hl,_=>by simp at hl
section
variable {prog:Program} {w:World} {A:Around} {E:Value->Shared->Prop} {s:Shared}
open PySem.Calls PySem.W in
theorem gather {T:String} {r d:Addr} {n:Nat} {P:Nat->Value->Prop} {OK:Heap->Prop} {G:List Value->Shared->Prop} (src:KdlSrc prog w T r d n P OK) (calm:A.handled=none) (ok:OK s.heap) (bc:n<=sizeLine)
  (fin:∀ (g:Heap) (tk:Nat) (got:Array Value),(∀ b o,s.heap.get? b=some o->g.get? b=some o)->ItemsOf P got n->s.heap.objs.size<=g.objs.size->G got.toList { s with heap:=g,toks:=tk }) :
  wpAny (model prog w) A (collect (.ref r)) G E s:=by
 obtain⟨lt1,lt2⟩:=src.there _ ok
 unfold collect
 refine wpAny_bind (wpAny_runValue (codeAny_builtin entry_proto_collect' ?_))
 rw [Around.under_plainId PySem.F.plain_proto_collect _]
 show wpAny _ A.in1 (newList [] >>= fun z=>again (.builtin "list.__iadd__" ⟨[z,.ref r],[]⟩)) _ _ s
 refine wpAny_bind (wpAny_newObj_type (wpAny_pure ⟨plainId_quiet PySem.F.plain_list_iadd _,codeAny_builtin entry_list_iadd' ?_⟩))
 rw [Around.under_plainId PySem.F.plain_list_iadd _]
 show wpAny _ A.in1 (Builtin.List.listExtendWith (.ref s.heap.objs.size) (.ref r) (.ref s.heap.objs.size)) _ _ _
 have made:(s.heap.push { cls:=.type "list",data:=.seq ([]:List Value).toArray }).get? s.heap.objs.size=some { cls:=.type "list",data:=.seq #[] }:=Heap.get?_push_size _ rfl
 have run:=kdl_extend (A:=A) (s:={ s with heap:=s.heap.push { cls:=.type "list",data:=.seq ([]:List Value).toArray } })
  (R:=fun (z:Result) (t:Shared)=>∃ (g:Heap) (tk:Nat) (got:Array Value) (c:Nat),z=.ok (.ret (.ref s.heap.objs.size))/\t = { s with heap:=g,toks:=tk } /\
   (∀ b o,s.heap.get? b=some o->g.get? b=some o)/\g.get? s.heap.objs.size=some { cls:=.type "list",dict:=none,data:=.seq got c,slots:=#[] }/\ItemsOf P got n)
  src calm (src.keep _ _ ok fun b _ o e=>Heap.get?_push_of_some _ e) s.heap.objs.size (Nat.ne_of_gt lt1) (Nat.ne_of_gt lt2) (.ref s.heap.objs.size) 0 made
  (fun g tk got c kept at_ its=>⟨g,tk,got,c,rfl,rfl,fun b o e=>kept b o (Nat.ne_of_lt (Heap.lt_size e)) (Heap.get?_push_of_some _ e),at_,its⟩) bc
 refine wpAny_mono run (fun z t x=>?_) fun z t ⟨_,_,_,_,bad,_⟩=>by cases bad
 cases z with
 | done f =>
  obtain⟨g,tk,got,c,e,rfl,kept,at_,its⟩:=x
  cases e
  show wpAny _ A (load s.heap.objs.size >>= _) _ _ _
  exact wpAny_bind (wpAny_load at_ (wpAny_pure (fin g tk got kept its (Nat.le_of_lt (Heap.lt_size at_)))))
 | again more =>
  refine⟨x.1,codeAny_mono x.2 fun z' t' ⟨g,tk,got,c,e1,e2,kept,at_,its⟩=>?_⟩
  subst e1 e2
  show wpAny _ A (load s.heap.objs.size >>= _) _ _ _
  exact wpAny_bind (wpAny_load at_ (wpAny_pure (fin g tk got kept its (Nat.le_of_lt (Heap.lt_size at_)))))
theorem pU {a:Addr} {kvs:List (Key × Value)} {ks:List Str} {Q:Value->Shared->Prop} (hh:A.handled=none) (lo:(a == sysModules)=false) (dd:s.heap.DictOf (aQ prog w) a kvs)
  (hk:kvs.map (·.1)=ks.map Sum.inr) (h64:ks.length < 64)
  (h:∀ (h':Heap) (tk:Nat) (D:Addr) (out:Array Value) (ss':List Str) (e:Nat),(∀ b o,s.heap.get? b=some o->h'.get? b=some o)->s.heap.objs.size<=D->h'.get? D=some { cls:=.type "list",data:=.seq out e } ->
   StrsAre out.toList ss'->ss'.Perm ks->sortedS ss' = true->Q (.ref D) { s with heap:=h',toks:=tk }) :
  wpAny (model prog w) A (call (.builtin "sorted") [.ref a]) Q E s:=by
 refine Calls.call_function_entry kind_sorted plain_sorted entry_sorted (args_sorted1 _) ?_
 unfold Builtin.«sorted»
 refine wpAny_bind (m:=checkCount "sorted" 1 1 _) (wpAny_pure ?_)
 obtain⟨ep,hat⟩:=dd.dictAt
 have hlk:kvs.length=ks.length:=by have:=congrArg List.length hk;simpa using this
 have hs:sizeLine=16777216\/64<=sizeLine:=.inr (by decide)
 have hz:kvs.length<=sizeLine:=by rw [hlk];exact Nat.le_trans (Nat.le_of_lt h64) (by decide)
 refine wpAny_bind (gather (A:=A.in1) (PySem.W.kdl_dict (knd:=aQ prog w) (kvs:=kvs) (ep:=ep) lo) hh hat hz fun h' tk acc hkeep hacc hsz=>?_)
 have hl:acc.toList.length=ks.length:=by rw [Array.length_toList,hacc.1,hlk]
 have hS:StrsAre acc.toList ks:=mJ hl fun j v x h1 h2=>by
  obtain⟨k,y,e1,e2⟩:=hacc.2 j v (by rw [<-Array.getElem?_toList];exact h1)
  have e3:(kvs.map (·.1))[j]? = some k:=by rw [List.getElem?_map,e1];rfl
  rw [hk,List.getElem?_map,h2] at e3
  cases (Option.some.inj e3)
  exact jg e2
 refine wpAny_bind (wpAny_newList ?_ (by rw [hl];exact Nat.le_trans (Nat.le_of_lt h64) (by decide)))
 have hoL:(h'.push (seqObj "list" acc.toList.toArray 0)).get? h'.objs.size=some (seqObj "list" acc.toList.toArray 0):=Heap.get?_push_size _ rfl
 refine wpAny_bind (wpAny_holding (wpAny_call_entry slot_list_sort ⟨_,hoL,rfl⟩ entry_list_sort (list_sort_treeK strKind_oneLt hoL hS.keysOf (fun v₁ v₂ rest e=>keyKind_strs (by rw [<-e];exact hS)) (by rw [hl];exact h64) fun st' a1 a2=>⟨_,rfl,?_⟩) (args_list_sort _)))
 obtain⟨ss',b1,b2,b3⟩:=sorted_out_str hS a1 a2
 obtain⟨e,he⟩:=sortedHeap_at (out:=(arrOf st').map (·.2)) hoL
 refine wpAny_pure ⟨_,rfl,h _ tk _ _ ss' e (fun b o ho=>?_) hsz he b1 b2 b3⟩
 have h1:=hkeep b o ho
 have hlt:=Heap.lt_size h1
 rw [sortedHeap_old (Nat.ne_of_lt hlt) (by rw [size_push'];exact Nat.lt_succ_of_lt hlt)]
 exact Heap.get?_push_of_some _ h1
end
theorem nh:∀ {us:List Value} {ys:List Str},StrsAre us ys->Vals (ys.map V.str) us
 | _,_,.nil=>.nil
 | _,_,.cons x t r=>.cons ⟨t,rfl⟩ (nh r)
section
variable {X:Cx}
theorem i1 (hc:X.calm=true):fE X (.builtin "sorted") (fun vs H Q=>∃ (a:Addr) (kvs:List (Key × V)) (ks:List Str),vs = [.ref a]/\H a=some (.dK kvs)/\kvs.map (·.1)=ks.map Sum.inr/\ks.length < 64 /\
  ∀ (l:Addr) (ss:List Str),ss.Perm ks->sortedS ss=true->H l=none->Q (.ref l) (upd H l (.lst (ss.map V.str)))):=by
 intro pins s σ H xs us Q I r h
 obtain⟨a,kvs,ks,rfl,ha,hk,h64,q⟩:=h
 obtain⟨u,rfl,ru⟩:=vals1 r
 cases (show u=Value.ref a from ru)
 obtain⟨z,hd,vs,rel,dd⟩:=kL I.aN ha
 refine pU (I.ok.hd hc) hd dd (by rw [<-rel.keys];exact hk) h64 fun h' tk D out ss' e hkeep hD he hS hp hs=>?_
 have hv:Vals (ss'.map V.str) out.toList:=nh hS
 refine⟨.ref D,_,I.laid (t':=tk) (o:=.lst (ss'.map V.str)) hkeep hD (show bV X.prog X.w _ h' _ (.lst (ss'.map V.str)) from ⟨?_,out.toList,e,hv,by simpa using he⟩),rfl,q D ss' hp hs (I.aN.fresh hD)⟩
 rw [List.length_map,hp.length_eq]
 exact Nat.le_trans (Nat.le_of_lt h64) (by decide)
end
theorem vJ {kvs:List (Key × V)} {k:Key} {v:V} (nd:(kvs.map (·.1)).Nodup) (h:(k,v) ∈ kvs):bM kvs k=some v:=by
 induction kvs with
 | nil=>cases h
 | cons p r ih =>
  obtain⟨k',v'⟩:=p
  rw [List.map_cons,List.nodup_cons] at nd
  rcases List.mem_cons.mp h with e | h
  ·cases e
   simp [bM]
  ·have hne:¬ k' = k:=fun z=>nd.1 (by rw [z];exact List.mem_map.mpr ⟨(k,v),h,rfl⟩)
   have:=ih nd.2 h
   simp [bM,hne] at this ⊢
   exact this
section
variable {X:Cx}
end
theorem sub_len {α : Type} [DecidableEq α]:∀ {l m:List α},l.Nodup->(∀ x ∈ l,x ∈ m)->l.length<=m.length
 | [],_,_,_=>Nat.zero_le _
 | x :: l,m,nd,h=>by
  rw [List.nodup_cons] at nd
  have hx:=h x (List.mem_cons_self ..)
  have h1:=sub_len (l:=l) (m:=m.erase x) nd.2 fun y hy=>(List.mem_erase_of_ne (fun z=>nd.1 (by rw [<-z];exact hy))).mpr (h y (List.mem_cons_of_mem _ hy))
  rw [List.length_erase_of_mem hx] at h1
  have h2:0 < m.length:=List.length_pos_of_mem hx
  show l.length+1<=m.length
  omega
theorem i9:bootBuiltins "sorted" = some (.builtin "sorted"):=PyProof.Rows.boot_sorted
theorem uk {kvs:List (Key × V)} {k:Key} {v:V}:(putK kvs k v).map (·.1)=kvs.map (·.1)/\k ∈ kvs.map (·.1)\/(putK kvs k v).map (·.1)=kvs.map (·.1) ++ [k]/\¬ k ∈ kvs.map (·.1):=by
 unfold putK
 by_cases h:(kvs.any fun kv=>decide (kv.1=k))=true
 ·rw [if_pos h]
  refine .inl ⟨?_,?_⟩
  ·rw [List.map_map]
   refine List.map_congr_left fun p _=>?_
   show (if p.1=k then (p.1,v) else p).1=p.1
   split <;> rfl
  ·obtain⟨p,hp,he⟩:=List.any_eq_true.mp h
   exact List.mem_map.mpr ⟨p,hp,of_decide_eq_true he⟩
 ·rw [if_neg h]
  refine .inr ⟨by rw [List.map_append];rfl,fun hm=>h ?_⟩
  obtain⟨p,hp,he⟩:=List.mem_map.mp hm
  exact List.any_eq_true.mpr ⟨p,hp,decide_eq_true he⟩
def kQ:cc->Str
 | .put x _=>x
 | .copy x _=>x
 | .add x _=>x
 | .read x=>x
 | .tell x=>x
theorem vK (dd:cc):fo (i8 dd) 1=some (.str (kQ dd)):=by cases dd <;> exact cv
theorem fq.name {xs:List Str} {dd:cc} (h:fq xs dd):kQ dd ∈ xs:=by
 cases dd with
 | put x n=>exact h.1
 | copy x y=>exact h.1
 | add x n=>exact h.1
 | read x=>exact h
 | tell x=>exact h
theorem bR.put {H:Hp} {b p:Addr} {o:HO} (h:bR H b) (n:b ≠ p):bR (upd H p o) b:=by
 obtain⟨x,y,e,z⟩:=h
 exact⟨x,y,by rw [av n];exact e,z⟩
section
variable {X:Cx}
end
section
variable {a0 a1 z:V}
end
section
variable {C D:Addr} {H H':Hp} {wp p pl d nl sl:Addr} {plv:V} {nums:List Int} {S:RS} {m:Nat}
end
section
variable (C D:Addr)
end
section
variable {C D:Addr} {H H':Hp} {wp p pl d nl sl st d2 tl bl np:Addr} {plv:V} {nums nums':List Int} {S S':RS} {m m':Nat}
end
section
variable (C D:Addr)
end
section
variable {C D:Addr} {H0 H H1 H2:Hp} {wp p pl d nl sl st st' d2 tl bl np b:Addr} {plv:V} {nums more:List Int} {S S':RS} {m m':Nat}
end
section
variable {X:Cx}
end
section
variable {ps:List Piece} {nums more:List Int} {S S0:RS} {m n:Nat}
end
section
variable {ps:List Piece} {nums more:List Int} {S:RS} {m n:Nat}
end
inductive Call where
 | hand (ns:List Int)
 | go (n:Nat)
structure yH where
 S:RS
 nums:List Int
 m:Nat
structure WA where
 wp:Addr
 p:Addr
 pl:Addr
 d:Addr
 nl:Addr
 sl:Addr
section
variable {C D:Addr} {H H' H0:Hp} {x y:WA} {pv pv':V} {s s':yH} {c:Addr} {o:HO}
end
section
variable (C D:Addr)
end
section
variable {C D:Addr} {H0 H H1:Hp} {w0 w1 w2:WA} {wl cl nb:Addr} {plv ov:V} {x0 x1 x2 x':yH} {n0 n1 n':List Int} {vs:List V} {cs:List Call}
end
section
variable {prog:Program} {w:World} {A:Around} {E:Value->Shared->Prop} {s:Shared}
theorem pV {j t:Addr} {n:Nat} {its:Array Value} {x:Value} {Q:Value->Shared->Prop} (hj:s.heap.IsTupleIter j t n) (ht:s.heap.IsTuple t its) (hx:its[n]? = some x)
  (hQ:∀ g,g.IsTupleIter j t (n+1)->Heap.SameBut j s.heap g->Q x { s with heap:=g }):wpAny (model prog w) A (Builtin.SmallTypes.nextOf (.ref j)) Q E s:=by
 obtain⟨ob,eo,ec,ed⟩:=id hj
 obtain⟨ot,et,_,k,ek⟩:=ht
 unfold Builtin.SmallTypes.nextOf
 refine wpAny_bind (wpAny_callSpecial?_slot (name:=Str.ofString "__next__") hj.typeIs F.slot_tuple_iterator_next (wpAny_call_entry F.slot_tuple_iterator_next hj.typeIs F.entry_tuple_iterator_next ?_ (F.args_tuple_iterator_next_1 _)))
 show wpAny _ _ (field (.ref j) 0 >>= _) _ _ s
 refine wpAny_bind (wpAny_field eo ed (x:=.ref t) rfl ?_)
 show wpAny _ _ (if (Value.ref t == Value.none)=true then _ else _) _ _ s
 refine (if_neg (c:=(Value.ref t == Value.none)=true) Bool.false_ne_true) ▸ ?_
 show wpAny _ _ (field (.ref j) 1 >>= _) _ _ s
 refine wpAny_bind (wpAny_field eo ed (x:=.int n 0) rfl (wpAny_bind (wpAny_seqItems et ek ?_)))
 simp only [hx,Int.toNat_natCast]
 refine wpAny_bind (wpAny_setField eo ed (by simp) (wpAny_pure ⟨x,rfl,wpAny_pure (hQ _ ⟨_,Heap.get?_update_self _ eo (Obj.isFreed_of_fields (Obj.data_mapFields ed _)),(Obj.cls_mapFields ..).trans ec,?_⟩ (Heap.SameBut.update ..))⟩))
 rw [Obj.data_mapFields ed];simp [rawInt]
theorem rV {j t:Addr} {n:Nat} {its:Array Value} {Q:Value->Shared->Prop} (ha:A.handled=none) (hj:s.heap.IsTupleIter j t n) (ht:s.heap.IsTuple t its) (hx:its[n]? = none)
    (hE:∀ g e,Heap.ExtBut j s.heap g->(∃ o,g.get? e=some o/\o.cls=.type "StopIteration")->E (.ref e) { s with heap:=g }):wpAny (model prog w) A (Builtin.SmallTypes.nextOf (.ref j)) Q E s:=by
  obtain⟨ob,eo,ec,ed⟩:=id hj
  obtain⟨ot,et,_,k,ek⟩:=ht
  unfold Builtin.SmallTypes.nextOf
  refine wpAny_bind (wpAny_callSpecial?_slot (name:=Str.ofString "__next__") hj.typeIs F.slot_tuple_iterator_next (wpAny_call_entry F.slot_tuple_iterator_next hj.typeIs F.entry_tuple_iterator_next ?_ (F.args_tuple_iterator_next_1 _)))
  show wpAny _ _ (field (.ref j) 0 >>= _) _ _ s
  refine wpAny_bind (wpAny_field eo ed (x:=.ref t) rfl ?_)
  show wpAny _ _ (if (Value.ref t == Value.none)=true then _ else _) _ _ s
  refine (if_neg (c:=(Value.ref t == Value.none)=true) Bool.false_ne_true) ▸ ?_
  show wpAny _ _ (field (.ref j) 1 >>= _) _ _ s
  refine wpAny_bind (wpAny_field eo ed (x:=.int n 0) rfl (wpAny_bind (wpAny_seqItems et ek ?_)))
  simp only [hx,Int.toNat_natCast]
  refine wpAny_bind (wpAny_rule (wpAny_bind (wpAny_setField eo ed (by simp) ?_)))
  show wpAny _ _ (newExc (.type "StopIteration") [] >>= fun _=>_) _ _ _
  refine wpAny_bind ?_
  simp only [newTuple,newExc]
  refine wpAny_bind (wpAny_newObj_type (wpAny_bind (m:=firstArgMember _ _) (wpAny_of_eq (a:=Value.none) (by first | rfl | (simp only [firstArgMember];rfl)) (wpAny_newObj_type ?_ (by size_fits)))) (by size_fits))
  simp only [raiseNew]
  refine wpAny_bind (wpAny_handled (by
    first | rw [show A.in1.handled=none from ha] | rw [ha]
    exact wpAny_bind (wpAny_pure (wpAny_throw (hE _ _ (((Heap.SameBut.update ..).extBut.push _).push _) ⟨_,Heap.get?_push_size _ rfl,rfl⟩)))))
structure rW (z p q j k a b:Addr):Prop where
 pz:p ≠ z
 qz:q ≠ z
 jz:j ≠ z
 kz:k ≠ z
 pq:p ≠ q
 pj:p ≠ j
 pk:p ≠ k
 qj:q ≠ j
 qk:q ≠ k
 jk:j ≠ k
 az:a ≠ z
 aq:a ≠ q
 aj:a ≠ j
 ak:a ≠ k
 bz:b ≠ z
 bq:b ≠ q
 bj:b ≠ j
 bk:b ≠ k
theorem iH {h g:Heap} {a:Addr} {xs:Array Value} (x:h.IsTuple a xs) (k:∀ o,h.get? a=some o->g.get? a=some o):g.IsTuple a xs:=by
 obtain⟨o,e,r⟩:=x
 exact⟨o,k o e,r⟩
theorem xw {z p q j k a b:Addr} {m n:Nat} {xs ys:Array Value} {x y u v:Value} {Q:Value->Shared->Prop} (D:rW z p q j k a b)
  (gz:IsZip s.heap z p q .none) (gp:IsPair s.heap p (.ref j) (.ref k)) (gq:IsPair s.heap q u v)
  (gj:s.heap.IsTupleIter j a m) (gk:s.heap.IsTupleIter k b n) (ga:s.heap.IsTuple a xs) (gb:s.heap.IsTuple b ys) (hx:xs[m]? = some x) (hy:ys[n]? = some y)
  (hQ:∀ g,IsZip g z p q (rawInt s.heap.objs.size)->IsPair g q x y->g.IsTupleIter j a (m+1)->g.IsTupleIter k b (n+1)->IsPair g s.heap.objs.size x y->g.objs.size=s.heap.objs.size+1 ->
   (∀ c o,c ≠ z->c ≠ q->c ≠ j->c ≠ k->s.heap.get? c=some o->g.get? c=some o)->Q (.ref s.heap.objs.size) { s with heap:=g }) :
  wpAny (model prog w) A (Builtin.«zip.__next__» ⟨[.ref z],[]⟩) (fun fin s'=>∃ v,fin=.done (.ret v)/\Q v s') E s:=by
 show wpAny _ _ (field (.ref z) 2 >>= fun _=>_) _ _ _
 refine wpAny_bind (wpAny_field gz rfl (x:=.bool false) rfl ?_)
 show wpAny _ _ (field (.ref z) 3 >>= fun _=>_) _ _ _
 refine wpAny_bind (wpAny_field gz rfl (x:=.ref p) rfl (wpAny_bind (wpAny_seqItems gp rfl ?_)))
 show wpAny _ _ (Builtin.SmallTypes.ownedTupleIsFree (.ref z) >>= fun _=>_) _ _ _
 refine wpAny_bind ?_
 unfold Builtin.SmallTypes.ownedTupleIsFree
 refine wpAny_bind (wpAny_field gz rfl (x:=.none) rfl (wpAny_pure ?_))
 simp only [if_true]
 refine wpAny_bind (wpAny_rule (wpAny_bind (wpAny_field gz rfl (x:=.ref q) rfl (wpAny_bind (wpAny_setField_rec gz (by simp) fun g1 gz1 t1=>?_)))))
 replace gz1:IsZip g1 z p q .ellipsis:=gz1
 refine wpAny_bind ?_
 simp only [List.forIn_cons,List.forIn_nil,List.zipIdx_cons,List.zipIdx_nil]
 refine wpAny_bind (wpAny_bind (wpAny_onRaise ?_))
 show wpAny _ _ (Builtin.SmallTypes.nextOf (.ref j) >>= fun _=>_) _ _ _
 refine wpAny_bind (pV (gj.extBut t1.extBut D.jz) (iH ga fun o e=>t1.extBut _ _ D.az e) hx fun g2 gj2 t2=>wpAny_pure ?_)
 have gq2:IsPair g2 q u v:=t2.extBut _ _ D.qj (t1.extBut _ _ D.qz gq)
 refine wpAny_bind (wpAny_seqItems gq2 rfl (wpAny_bind (wpAny_updateSeq_pair gq2 fun g3 gq3 t3=>?_)))
 replace gq3:IsPair g3 q x v:=gq3
 refine wpAny_bind (wpAny_letGo (wpAny_pure (wpAny_bind (wpAny_bind (wpAny_onRaise ?_)))))
 show wpAny _ _ (Builtin.SmallTypes.nextOf (.ref k) >>= fun _=>_) _ _ _
 refine wpAny_bind (pV (((gk.extBut t1.extBut D.kz).extBut t2.extBut D.jk.symm).extBut t3.extBut D.qk.symm) (iH gb fun o e=>t3.extBut _ _ D.bq (t2.extBut _ _ D.bj (t1.extBut _ _ D.bz e))) hy fun g4 gk4 t4=>wpAny_pure ?_)
 have gq4:IsPair g4 q x v:=t4.extBut _ _ D.qk gq3
 refine wpAny_bind (wpAny_seqItems gq4 rfl (wpAny_bind (wpAny_updateSeq_pair gq4 fun g5 gq5 t5=>?_)))
 replace gq5:IsPair g5 q x y:=gq5
 refine wpAny_bind (wpAny_letGo (wpAny_pure (wpAny_pure (wpAny_bind (wpAny_seqItems gq5 rfl (wpAny_bind (wpAny_newTuple ?_)))))))
 have ez:g5.objs.size=s.heap.objs.size:=by rw [t5.1,t4.1,t3.1,t2.1,t1.1]
 have gz5:IsZip g5 z p q .ellipsis:=t5.extBut _ _ D.qz.symm (t4.extBut _ _ D.kz.symm (t3.extBut _ _ D.qz.symm (t2.extBut _ _ D.jz.symm gz1)))
 have k5:∀ c o,c ≠ z->c ≠ q->c ≠ j->c ≠ k->s.heap.get? c=some o->g5.get? c=some o:=fun c o c1 c2 c3 c4 e=>t5.extBut _ _ c2 (t4.extBut _ _ c4 (t3.extBut _ _ c2 (t2.extBut _ _ c3 (t1.extBut _ _ c1 e))))
 have gj5:g5.IsTupleIter j a (m+1):=((gj2.extBut t3.extBut D.qj.symm).extBut t4.extBut D.jk).extBut t5.extBut D.qj.symm
 have gk5:g5.IsTupleIter k b (n+1):=gk4.extBut t5.extBut D.qk.symm
 have lz:z < g5.objs.size:=Heap.lt_size gz5
 show wpAny _ _ (Builtin.SmallTypes.ownedTupleHandOut (.ref z) (.ref g5.objs.size) >>= fun _=>_) _ _ _
 refine wpAny_bind ?_
 unfold Builtin.SmallTypes.ownedTupleHandOut
 have gz6:IsZip (g5.push { cls:=.type "tuple",data:=.seq #[x,y] }) z p q .ellipsis:=Heap.get?_push_of_some _ gz5
 refine wpAny_bind (wpAny_setField_rec gz6 (by simp) fun g7 gz7 t7=>?_)
 replace gz7:IsZip g7 z p q (rawInt g5.objs.size):=gz7
 refine wpAny_setField_rec gz7 (by simp) fun g8 gz8 t8=>?_
 replace gz8:IsZip g8 z p q (rawInt g5.objs.size):=gz8
 have up:∀ c o,c ≠ z->g5.get? c=some o->g8.get? c=some o:=fun c o c1 e=>t8.extBut _ _ c1 (t7.extBut _ _ c1 (Heap.get?_push_of_some _ e))
 have gT:IsPair g8 g5.objs.size x y:=t8.extBut _ _ (Nat.ne_of_gt lz) (t7.extBut _ _ (Nat.ne_of_gt lz) (Heap.get?_push_size _ rfl))
 have e8:g8.objs.size=g5.objs.size+1:=by rw [t8.1,t7.1,Heap.size_push]
 rw [ez] at gz8 gT e8
 refine wpAny_pure ⟨_,rfl,?_⟩
 show Q (.ref g5.objs.size) _
 rw [ez]
 refine hQ g8 gz8 (up _ _ D.qz gq5) ?_ ?_ gT e8 fun c o c1 c2 c3 c4 e=>up c o c1 (k5 c o c1 c2 c3 c4 e)
 ·obtain⟨o,e,r⟩:=gj5
  exact⟨o,up _ _ D.jz e,r⟩
 ·obtain⟨o,e,r⟩:=gk5
  exact⟨o,up _ _ D.kz e,r⟩
theorem yI {z p q j k a b:Addr} {m n:Nat} {xs ys:Array Value} {u v:Value} {Q:Fin->Shared->Prop} (ha:A.handled=none) (D:rW z p q j k a b)
  (gz:IsZip s.heap z p q .none) (gp:IsPair s.heap p (.ref j) (.ref k)) (gq:IsPair s.heap q u v)
  (gj:s.heap.IsTupleIter j a m) (gk:s.heap.IsTupleIter k b n) (ga:s.heap.IsTuple a xs) (gb:s.heap.IsTuple b ys) (hend:xs[m]? = none\/ys[n]? = none)
  (hE:∀ g e,(∀ c o,c ≠ z->c ≠ q->c ≠ j->c ≠ k->s.heap.get? c=some o->g.get? c=some o)->(∃ o,g.get? e=some o/\o.cls=.type "StopIteration")->E (.ref e) { s with heap:=g }) :
  wpAny (model prog w) A (Builtin.«zip.__next__» ⟨[.ref z],[]⟩) Q E s:=by
 show wpAny _ _ (field (.ref z) 2 >>= fun _=>_) _ _ _
 refine wpAny_bind (wpAny_field gz rfl (x:=.bool false) rfl ?_)
 show wpAny _ _ (field (.ref z) 3 >>= fun _=>_) _ _ _
 refine wpAny_bind (wpAny_field gz rfl (x:=.ref p) rfl (wpAny_bind (wpAny_seqItems gp rfl ?_)))
 show wpAny _ _ (Builtin.SmallTypes.ownedTupleIsFree (.ref z) >>= fun _=>_) _ _ _
 refine wpAny_bind ?_
 unfold Builtin.SmallTypes.ownedTupleIsFree
 refine wpAny_bind (wpAny_field gz rfl (x:=.none) rfl (wpAny_pure ?_))
 simp only [if_true]
 refine wpAny_bind (wpAny_rule (wpAny_bind (wpAny_field gz rfl (x:=.ref q) rfl (wpAny_bind (wpAny_setField_rec gz (by simp) fun g1 gz1 t1=>?_)))))
 replace gz1:IsZip g1 z p q .ellipsis:=gz1
 refine wpAny_bind ?_
 simp only [List.forIn_cons,List.forIn_nil,List.zipIdx_cons,List.zipIdx_nil]
 refine wpAny_bind (wpAny_bind (wpAny_onRaise ?_))
 show wpAny _ _ (Builtin.SmallTypes.nextOf (.ref j) >>= fun _=>_) _ _ _
 cases hx:xs[m]? with
 | none =>
  refine wpAny_bind (rV ha (gj.extBut t1.extBut D.jz) (iH ga fun o e=>t1.extBut _ _ D.az e) hx fun g2 e t2 he=>?_)
  obtain⟨oe,eoe,ce⟩:=he
  have gz2:IsZip g2 z p q .ellipsis:=t2 _ _ D.jz.symm gz1
  have ne:e ≠ z:=fun x=>by subst x;rw [gz2] at eoe;cases eoe;simp at ce
  exact wpAny_setField_rec gz2 (by simp) fun g3 _ t3=>hE g3 e (fun c o c1 _ c3 _ x=>t3.extBut _ _ c1 (t2 _ _ c3 (t1.extBut _ _ c1 x))) ⟨oe,t3.extBut _ _ ne eoe,ce⟩
 | some x =>
  have hy:ys[n]? = none:=hend.elim (fun h=>by rw [hx] at h;cases h) id
  refine wpAny_bind (pV (gj.extBut t1.extBut D.jz) (iH ga fun o e=>t1.extBut _ _ D.az e) hx fun g2 gj2 t2=>wpAny_pure ?_)
  have gq2:IsPair g2 q u v:=t2.extBut _ _ D.qj (t1.extBut _ _ D.qz gq)
  refine wpAny_bind (wpAny_seqItems gq2 rfl (wpAny_bind (wpAny_updateSeq_pair gq2 fun g3 gq3 t3=>?_)))
  refine wpAny_bind (wpAny_letGo (wpAny_pure (wpAny_bind (wpAny_bind (wpAny_onRaise ?_)))))
  show wpAny _ _ (Builtin.SmallTypes.nextOf (.ref k) >>= fun _=>_) _ _ _
  refine wpAny_bind (rV ha (((gk.extBut t1.extBut D.kz).extBut t2.extBut D.jk.symm).extBut t3.extBut D.qk.symm) (iH gb fun o e=>t3.extBut _ _ D.bq (t2.extBut _ _ D.bj (t1.extBut _ _ D.bz e))) hy fun g4 e t4 he=>?_)
  obtain⟨oe,eoe,ce⟩:=he
  have gz4:IsZip g4 z p q .ellipsis:=t4 _ _ D.kz.symm (t3.extBut _ _ D.qz.symm (t2.extBut _ _ D.jz.symm gz1))
  have ne:e ≠ z:=fun x=>by subst x;rw [gz4] at eoe;cases eoe;simp at ce
  exact wpAny_setField_rec gz4 (by simp) fun g5 _ t5=>hE g5 e (fun c o c1 c2 c3 c4 x=>t5.extBut _ _ c1 (t4 _ _ c4 (t3.extBut _ _ c2 (t2.extBut _ _ c3 (t1.extBut _ _ c1 x))))) ⟨oe,t5.extBut _ _ ne eoe,ce⟩
theorem xx {z p q j k a b:Addr} {m n:Nat} {xs ys:Array Value} {x y u v:Value} {Q:Option Value->Shared->Prop} (D:rW z p q j k a b)
  (gz:IsZip s.heap z p q .none) (gp:IsPair s.heap p (.ref j) (.ref k)) (gq:IsPair s.heap q u v)
  (gj:s.heap.IsTupleIter j a m) (gk:s.heap.IsTupleIter k b n) (ga:s.heap.IsTuple a xs) (gb:s.heap.IsTuple b ys) (hx:xs[m]? = some x) (hy:ys[n]? = some y)
  (hQ:∀ g,IsZip g z p q (rawInt s.heap.objs.size)->IsPair g q x y->g.IsTupleIter j a (m+1)->g.IsTupleIter k b (n+1)->IsPair g s.heap.objs.size x y->g.objs.size=s.heap.objs.size+1 ->
   (∀ c o,c ≠ z->c ≠ q->c ≠ j->c ≠ k->s.heap.get? c=some o->g.get? c=some o)->Q (some (.ref s.heap.objs.size)) { s with heap:=g }) :
  wpAny (model prog w) A (pyNext (.ref z)) Q E s:=by
 have ty:s.TypeIs (.ref z) "zip" := ⟨_,gz,rfl⟩
 unfold pyNext
 exact wpAny_bind (wpAny_attempt (wpAny_callSpecial?_slot (name:=Str.ofString "__next__") ty F.slot_zip_next (wpAny_call_entry F.slot_zip_next ty F.entry_zip_next
   (xw D gz gp gq gj gk ga gb hx hy fun g a1 a2 a3 a4 a5 a6 a7=>wpAny_pure (hQ g a1 a2 a3 a4 a5 a6 a7)) (F.args_zip_next_1 _))))
theorem xy {z p q j k a b:Addr} {m n:Nat} {xs ys:Array Value} {u v:Value} {Q:Option Value->Shared->Prop} (ha:A.handled=none) (D:rW z p q j k a b)
  (gz:IsZip s.heap z p q .none) (gp:IsPair s.heap p (.ref j) (.ref k)) (gq:IsPair s.heap q u v)
  (gj:s.heap.IsTupleIter j a m) (gk:s.heap.IsTupleIter k b n) (ga:s.heap.IsTuple a xs) (gb:s.heap.IsTuple b ys) (hend:xs[m]? = none\/ys[n]? = none)
  (hQ:∀ g,(∀ c o,c ≠ z->c ≠ q->c ≠ j->c ≠ k->s.heap.get? c=some o->g.get? c=some o)->Q none { s with heap:=g }):wpAny (model prog w) A (pyNext (.ref z)) Q E s:=by
 have ty:s.TypeIs (.ref z) "zip" := ⟨_,gz,rfl⟩
 unfold pyNext
 refine wpAny_bind (wpAny_attempt (wpAny_callSpecial?_slot (name:=Str.ofString "__next__") ty F.slot_zip_next (wpAny_call_entry F.slot_zip_next ty F.entry_zip_next
   (yI ha D gz gp gq gj gk ga gb hend fun g e hk he=>?_) (F.args_zip_next_1 _))))
 obtain⟨o,eo,ec⟩:=he
 exact wpAny_bind (wpAny_isInstance (T := "StopIteration") (b:=true) ⟨o,eo,ec⟩ isSubtype_stop (wpAny_pure (hQ _ hk)))
abbrev um (h:Heap) (a:Addr):Heap:=h.push { cls:=.type "tuple_iterator",data:=.fields #[.ref a,.int 0 0] }
abbrev w4 (h:Heap) (a b:Addr):Heap:=(um h a).push { cls:=.type "tuple_iterator",data:=.fields #[.ref b,.int 0 0] }
abbrev w5 (h:Heap) (a b:Addr):Heap:=(w4 h a b).push { cls:=.type "tuple",data:=.seq #[.ref h.objs.size,.ref (um h a).objs.size] }
abbrev w6 (h:Heap) (a b:Addr):Heap:=(w5 h a b).push { cls:=.type "tuple",data:=.seq #[.none,.none] }
abbrev rX (h:Heap) (a b:Addr):Heap:=(w6 h a b).push { cls:=.type "zip",data:=.fields #[.none,.bool false,.bool false,.ref (w4 h a b).objs.size,.ref (w5 h a b).objs.size] }
theorem yJ (a b:Addr) (xs ys:Array Value):Meets (Builtin.«zip.__new__» ⟨[.type "zip",.ref a,.ref b],[]⟩) (fun _ R s=>s.heap.IsTuple a xs/\s.heap.IsTuple b ys /\
   R (.ok (.ret (.ref (w6 s.heap a b).objs.size))) { s with heap:=rX s.heap a b }) :=
 .of_wp fun P w' A' R' s' hh=>by
  obtain⟨hp,g,d,tk,os⟩:=s'
  obtain⟨ga,gb,hh⟩:=hh
  have hsub:=sub_zip
  have la:Heap.IsTuple (Shared.heap ⟨hp,g,d,tk,os⟩) a xs:=ga
  have lb:Heap.IsTuple (Shared.heap ⟨um hp a,g,d,tk,os⟩) b ys:=iH gb fun o e=>Heap.get?_push_of_some _ e
  wp_walk using wpAny_pyIter_tuple la,wpAny_pyIter_tuple lb
  exact⟨_,rfl,hh⟩
theorem xA {a b:Addr} {xs ys:Array Value} {Q:Value->Shared->Prop} (ga:s.heap.IsTuple a xs) (gb:s.heap.IsTuple b ys)
  (h:∀ g,IsZip g (s.heap.objs.size+4) (s.heap.objs.size+2) (s.heap.objs.size+3) .none->IsPair g (s.heap.objs.size+2) (.ref s.heap.objs.size) (.ref (s.heap.objs.size+1)) ->
   IsPair g (s.heap.objs.size+3) .none .none->g.IsTupleIter s.heap.objs.size a 0->g.IsTupleIter (s.heap.objs.size+1) b 0 ->
   (∀ c o,s.heap.get? c=some o->g.get? c=some o)->Q (.ref (s.heap.objs.size+4)) { s with heap:=g }) :
  wpAny (model prog w) A (call (.type "zip") [.ref a,.ref b]) Q E s:=by
 refine callType_new F.called_zip (by decide) (F.typeCall_zip_2 _ _) (F.newCall_zip_2 _ _) (fun obj=>F.args_object_init_3 obj _ _) F.entry_zip_new (yJ a b xs ys) ⟨ga,gb,?_⟩
 have z1:(um s.heap a).objs.size=s.heap.objs.size+1:=Heap.size_push ..
 have z2:(w4 s.heap a b).objs.size=s.heap.objs.size+2:=by rw [Heap.size_push,z1]
 have z3:(w5 s.heap a b).objs.size=s.heap.objs.size+3:=by rw [Heap.size_push,z2]
 have z4:(w6 s.heap a b).objs.size=s.heap.objs.size+4:=by rw [Heap.size_push,z3]
 have up:∀ {h:Heap} {c:Addr} {o o':Obj},h.get? c=some o->(h.push o').get? c=some o:=fun e=>Heap.get?_push_of_some _ e
 have q5:(rX s.heap a b).get? (w6 s.heap a b).objs.size=some _:=Heap.get?_push_size _ rfl
 have q4:(rX s.heap a b).get? (w5 s.heap a b).objs.size=some _:=up (Heap.get?_push_size _ rfl)
 have q3:(rX s.heap a b).get? (w4 s.heap a b).objs.size=some _:=up (up (Heap.get?_push_size _ rfl))
 have q2:(rX s.heap a b).get? (um s.heap a).objs.size=some _:=up (up (up (Heap.get?_push_size _ rfl)))
 have q1:(rX s.heap a b).get? s.heap.objs.size=some _:=up (up (up (up (Heap.get?_push_size _ rfl))))
 show _/\_
 rw [z2,z3,z4] at q5
 rw [z1,z2] at q3
 rw [z3] at q4
 rw [z1] at q2
 rw [z4]
 exact⟨⟨_,q5,rfl⟩,h _ q5 q3 q4 ⟨_,q1,rfl,rfl⟩ ⟨_,q2,rfl,rfl⟩ fun c o x=>up (up (up (up (up x))))⟩
end
section
variable {X:Cx} {pins:List (Addr × Obj)} {σ : List (Option V)} {H H':Hp} {s:Shared} {h':Heap}
theorem Inv.rY {t':Nat} {fp:List Addr} (I:Inv X pins σ H s) (k:∀ b o,b ∉ fp->s.heap.get? b=some o->h'.get? b=some o) (f:∀ b ∈ fp,gO X pins H b):Inv X pins σ H { s with heap:=h',toks:=t' }:=by
 have nit:∀ b u,H b=some u->b ∉ fp:=fun b u e z=>by rw [(f b z).1] at e;cases e
 refine I.step (g':=s.gens) (d':=s.drawn) (ch:=fp) (fun b hb=>?_) (fun b o _ _ hc e _=>k b o hc e) (fun b o _ _ hc e _=>⟨o.slots,k b o hc e⟩) (fun _ _ _ _ n=>n)
  (fun b o hc e=>⟨o,k b o hc e⟩) (fun _ _ e=>e) (fun _ _ _ e=>e) (fun b ps e=>⟨#[],by rw [e];simp⟩) (fun m hm=>?_) (fun b u e=>?_) I.bare
 ·obtain⟨f0,f1,f2,f3,f4,f5⟩:=f b hb
  exact⟨f3,f1,f4,f5⟩
 ·obtain⟨o,es,ep,ho,r⟩:=hm
  exact⟨o,es,ep,k _ o (fun z=>(f _ z).2.1 rfl) ho,r⟩
 ·refine (I.aN b u e).lL (fun c v hc q=>k c v ?_ q) (fun _ q=>q) fun _ _ q=>q
  rcases hc with z | z
  ·rw [z];exact nit b u e
  ·exact nit c _ z
def w9 (K:PySem.W.Frag) (a b:Addr):It :=
 ⟨fun i H=>∃ xs ys x y,aw K H a xs/\aw K H b ys/\xs[i]? = some x/\ys[i]? = some y,
  fun i H v H'=>∃ t x y,v=.ref t/\H t=none/\H' = upd H t (.tup [x,y])/\∀ xs ys,aw K H a xs->aw K H b ys->xs[i]? = some x/\ys[i]? = some y,
  fun i H=>∃ xs ys,aw K H a xs/\aw K H b ys/\(xs.length<=i\/ys.length<=i)⟩
theorem vL {P:Program} {w:World} {K:PySem.W.Frag} {elts:List Expr} {kk:Nat} {pos:Pos} (a b z p q j k:Addr) (D:rW z p q j k a b) :
    Turn P w K (.Tuple elts kk pos) (w9 K a b) [z,p,q,j,k] z (fun i h=>IsZip h z p q .none/\IsPair h p (.ref j) (.ref k)/\(∃ u v,IsPair h q u v)/\h.IsTupleIter j a i/\h.IsTupleIter k b i) where
  mem:=by simp
  obj:=fun i h st c hc=>by
    obtain⟨gz,gp,⟨u,v,gq⟩,⟨oj,ej,cj,dj⟩,⟨ok,ek,ck,dk⟩⟩:=st
    simp only [List.mem_cons,List.not_mem_nil,or_false] at hc
    rcases hc with rfl | rfl | rfl | rfl | rfl
    · exact⟨_,gz,fun v e=>by cases e⟩
    · exact⟨_,gp,fun v e=>by cases e⟩
    · exact⟨_,gq,fun v e=>by cases e⟩
    · exact⟨oj,ej,fun v e=>by rw [dj] at e;cases e⟩
    · exact⟨ok,ek,fun v e=>by rw [dk] at e;cases e⟩
  keep:=fun i h g st kp=>by
    obtain⟨gz,gp,⟨u,v,gq⟩,⟨oj,ej,rj⟩,⟨ok,ek,rk⟩⟩:=st
    exact⟨kp z (by simp) _ gz,kp p (by simp) _ gp,⟨u,v,kp q (by simp) _ gq⟩,⟨oj,kp j (by simp) _ ej,rj⟩,⟨ok,kp k (by simp) _ ek,rk⟩⟩
  item:=by
    intro X hP hw hK hc i pins s σ H E I hf st hg
    subst hP hw hK
    obtain⟨gz,gp,⟨u,v,gq⟩,gj,gk⟩:=st
    obtain⟨xs,ys,x,y,ha,hb,hx,hy⟩:=hg
    obtain⟨is,ra,pa,_⟩:=I.tuple ha
    obtain⟨js,rb,pb,_⟩:=I.tuple hb
    obtain⟨xv,hxv,rx⟩:=ra.get hx
    obtain⟨yv,hyv,ry⟩:=rb.get hy
    have sz:∀ c ∈ [z,p,q,j,k],c ≠ s.heap.objs.size:=fun c hc e=>by
      subst e
      simp only [List.mem_cons,List.not_mem_nil,or_false] at hc
      rcases hc with e | e | e | e | e
      · exact absurd (Heap.lt_size gz) (by rw [<-e];exact Nat.lt_irrefl _)
      · exact absurd (Heap.lt_size gp) (by rw [<-e];exact Nat.lt_irrefl _)
      · exact absurd (Heap.lt_size gq) (by rw [<-e];exact Nat.lt_irrefl _)
      · obtain⟨oj,ej,_⟩:=gj
        exact absurd (Heap.lt_size ej) (by rw [<-e];exact Nat.lt_irrefl _)
      · obtain⟨ok,ek,_⟩:=gk
        exact absurd (Heap.lt_size ek) (by rw [<-e];exact Nat.lt_irrefl _)
    refine xx D gz gp gq gj gk (show s.heap.IsTuple a is.toArray from pa) (show s.heap.IsTuple b js.toArray from pb) (x:=xv) (y:=yv) (by simpa using hxv) (by simpa using hyv) fun g a1 a2 a3 a4 a5 a6 hk=>?_
    refine⟨.ref s.heap.objs.size,rfl,wpAny_letOwnedTupleGo_zip a1 fun g' gz' sb=>?_⟩
    have fr:=I.aN.fresh (a:=s.heap.objs.size) (Nat.le_refl _)
    have I1:Inv X pins σ (upd H s.heap.objs.size (.tup [x,y])) { s with heap:=s.heap.push { cls:=.type "tuple",data:=.seq #[xv,yv] },toks:=s.toks } :=
      I.laid (fun _ _ e=>Heap.get?_push_of_some _ e) (Nat.le_refl _) ⟨by show 2<=sizeLine;decide,[xv,yv],.cons rx (.cons ry .nil),by first | exact IsTup.new _ _ | exact⟨_,Heap.get?_push_size _ rfl,rfl,_,rfl,rfl⟩⟩
    have f1:∀ c ∈ [z,p,q,j,k],gO X pins (upd H s.heap.objs.size (.tup [x,y])) c:=fun c hc=>by
      obtain⟨f0,fr'⟩:=hf c hc
      exact⟨by rw [av (sz c hc)];exact f0,fr'⟩
    have I2:Inv X pins σ (upd H s.heap.objs.size (.tup [x,y])) { s with heap:=g',toks:=s.toks }:=Inv.rY (s:={ s with heap:=s.heap.push { cls:=.type "tuple",data:=.seq #[xv,yv] },toks:=s.toks }) (fp:=[z,p,q,j,k]) (h':=g') (t':=s.toks) I1 (fun c o hc e=>by
      simp only [List.mem_cons,List.not_mem_nil,or_false,not_or] at hc
      refine sb.extBut _ _ hc.1 ?_
      rcases Heap.get?_push_cases e with ⟨rfl,rfl⟩ | e
      · exact a5
      · exact hk c o hc.1 hc.2.2.1 hc.2.2.2.1 hc.2.2.2.2 e) f1
    refine⟨.ref s.heap.objs.size,_,I2,rfl,⟨_,x,y,rfl,fr,rfl,fun xs' ys' h1 h2=>?_⟩,⟨gz',sb.extBut _ _ D.pz (hk _ _ D.pz D.pq D.pj D.pk gp),⟨xv,yv,sb.extBut _ _ D.qz a2⟩,a3.extBut sb.extBut D.jz,a4.extBut sb.extBut D.kz⟩,fun c hc=>(f1 c hc).1⟩
    rw [I.j8 h1 ha,I.j8 h2 hb]
    exact⟨hx,hy⟩
  done:=by
    intro X hP hw hK hc i pins s σ H E I hf st hg
    subst hP hw hK
    obtain⟨gz,gp,⟨u,v,gq⟩,gj,gk⟩:=st
    obtain⟨xs,ys,ha,hb,hl⟩:=hg
    obtain⟨is,ra,pa,_⟩:=I.tuple ha
    obtain⟨js,rb,pb,_⟩:=I.tuple hb
    have la:=ra.length
    have lb:=rb.length
    have he:is.toArray[i]? = none\/js.toArray[i]? = none:=by
      rcases hl with h | h
      · exact .inl (by simp;omega)
      · exact .inr (by simp;omega)
    exact xy (I.ok.hd hc) D gz gp gq gj gk (show s.heap.IsTuple a is.toArray from pa) (show s.heap.IsTuple b js.toArray from pb) he fun g hk=>⟨rfl,I.rY (fp:=[z,p,q,j,k]) (t':=s.toks) (fun c o hc e=>by
      simp only [List.mem_cons,List.not_mem_nil,or_false,not_or] at hc
      exact hk c o hc.1 hc.2.2.1 hc.2.2.2.1 hc.2.2.2.2 e) hf⟩
  self:=fun _ _ _ _ _ st h=>wpAny_pyIter_zip st.1 h
theorem Az {N a b:Nat} (ha:a < N) (hb:b < N):rW (N+4:Nat) (N+2:Nat) (N+3:Nat) N (N+1:Nat) a b :=
 have ne:∀ {u v:Nat},u < v->¬ (u=v):=fun h e=>by omega
 have ne':∀ {u v:Nat},v < u->¬ (u=v):=fun h e=>by omega
 ⟨ne (by omega),ne (by omega),ne (by omega),ne (by omega),ne (by omega),ne' (by omega),ne' (by omega),ne' (by omega),ne' (by omega),ne (by omega),ne (by omega),ne (by omega),ne (by omega),ne (by omega),ne (by omega),ne (by omega),ne (by omega),ne (by omega)⟩
theorem yK:bootBuiltins "zip" = some (.type "zip"):=by decide +kernel
def Af (K:PySem.W.Frag) (ta:TA):TI:=fun σ H R=>ta σ H fun vs H1=>∃ a b,vs = [.ref a,.ref b]/\(∃ xs,aw K H1 a xs)/\(∃ ys,aw K H1 b ys)/\R (w9 K a b) H1
theorem pW {a b:Expr} {ta:TA} {p pos tp:Pos} {elts:List Expr} {kk:Nat} (hg:Gl X "zip") (hm:X.mg "zip" = none) (ha:PA X [a,b] ta) (hs:starEach [a,b] X.env = [(false,eval a X.env),(false,eval b X.env)]:=by rfl) (hs2:starEach [b] X.env = [(false,eval b X.env)]:=by rfl) :
  PI X (.Tuple elts kk tp) (.Call (.Name "zip" p) [a,b] [] pos) (Af X.K ta):=by
 intro pins s σ H R I h
 refine Call_ (mn I hg hm yK (PyProof.Rows.callWith_type1 (bf (ha pos pins s σ H _ I h) fun us s1 ⟨vs,H1,I1,r1,q1⟩=>?_) (by rw [hs,hs2]) (by rw [hs2];rfl)))
 obtain⟨x,y,e,⟨xs,hx⟩,⟨ys,hy⟩,q⟩:=q1
 subst e
 cases r1 with
 | cons r rr =>
  cases rr with
  | cons r' rr =>
   cases rr
   cases r
   cases r'
   obtain⟨is,rx,px,_⟩:=I1.tuple hx
   obtain⟨js,ry,py,_⟩:=I1.tuple hy
   have lx:x < s1.heap.objs.size:=px.lt
   have ly:y < s1.heap.objs.size:=py.lt
   refine xA (show s1.heap.IsTuple x is.toArray from px) (show s1.heap.IsTuple y js.toArray from py) fun g gz gp gq gj gk up=>?_
   refine wpAny_pyIter_zip gz ?_
   have I2:Inv X pins σ H1 { s1 with heap:=g }:=I1.kept (t':=s1.toks) up
   refine⟨_,[s1.heap.objs.size+4,s1.heap.objs.size+2,s1.heap.objs.size+3,s1.heap.objs.size,s1.heap.objs.size+1],_,w9 X.K x y,H1,rfl,I2,vL x y _ _ _ _ _ ?_,⟨gz,gp,⟨_,_,gq⟩,gj,gk⟩,fun c hc=>?_,q⟩
   ·exact Az lx ly
   ·have le:s1.heap.objs.size<=c:=by
     simp only [List.mem_cons,List.not_mem_nil,or_false] at hc
     rcases hc with rfl | rfl | rfl | rfl | rfl
     ·exact Nat.le_add_right _ _
     ·exact Nat.le_add_right _ _
     ·exact Nat.le_add_right _ _
     ·exact Nat.le_refl _
     ·exact Nat.le_add_right _ _
    exact I1.lM le (I1.aN.fresh le)
theorem pX {K:PySem.W.Frag} {a b acc:Addr} {xs ys:List V} {n:Nat} {js:List Nat} {g:TG} {ct:TT} {te:TE} {σ : St} {H1:Hp} {Q:VK} (Pv:Nat->List V->St->Hp->Prop) (h0:Pv 0 [] (ij n js σ) (upd H1 acc (.lst [])))
  (hl:∀ i zs τ H,i<=min xs.length ys.length->Pv i zs τ H->aw K H a xs/\aw K H b ys/\H acc=some (.lst zs)/\zs.length < sizeLine)
  (hs:∀ i x y zs τ H t,xs[i]? = some x->ys[i]? = some y->H t=none->Pv i zs τ H->g (.ref t) τ (upd H t (.tup [x,y])) fun τ1 H4=>ct τ1 H4 fun b H5=>if b=true then te τ1 H5 fun v H6=>H6 acc=some (.lst zs)/\Pv (i+1) (zs ++ [v]) τ1 (upd H6 acc (.lst (zs ++ [v]))) else Pv (i+1) zs τ1 H5)
  (hd:∀ zs τ H,Pv (min xs.length ys.length) zs τ H->Q (.ref acc) H) :
  rN (w9 K a b) n js g ct te acc σ H1 Q:=by
 refine⟨fun i m zs τ H=>m=min xs.length ys.length - i/\i<=min xs.length ys.length/\Pv i zs τ H,⟨min xs.length ys.length,by simp,Nat.zero_le _,h0⟩,?_⟩
 rintro i m zs τ H ⟨rfl,hi,p⟩
 obtain⟨qa,qb,q2,q3⟩:=hl i zs τ H hi p
 refine⟨q2,q3,?_⟩
 by_cases hlt:i < min xs.length ys.length
 ·have l1:i < xs.length:=by omega
  have l2:i < ys.length:=by omega
  refine .inr ⟨⟨xs,ys,xs[i],ys[i],qa,qb,by simp [l1],by simp [l2]⟩,Pv (i+1),fun zs' τ' H' p'=>⟨min xs.length ys.length - (i+1),by omega,rfl,hlt,p'⟩,fun v H' y=>?_⟩
  obtain⟨t,x,y,rfl,ht,rfl,h⟩:=y
  obtain⟨h1,h2⟩:=h xs ys qa qb
  exact hs i x y zs τ H t h1 h2 ht p
 ·have e:i=min xs.length ys.length:=by omega
  subst e
  refine .inl ⟨⟨xs,ys,qa,qb,?_⟩,hd zs τ H p⟩
  rcases Nat.le_total xs.length ys.length with h | h
  ·exact .inl (by omega)
  ·exact .inr (by omega)
end
structure vM (K:PySem.W.Frag) (mg:Str->Option Value) (nm:Str) (a:Addr) (D:List (Str × Addr)):Prop where
 lC:mg nm=some (.ref a)
 lk:∃ es ep,K.lookup a=some ⟨.type "dict",none,.dict es ep,#[]⟩/\KTD.Rows (fun d v=>v=Value.ref d) es.toList D
section
variable {prog:Program} {w:World} {A:Around} {E:Value->Shared->Prop} {s:Shared}
theorem vP {a d:Addr} {o:Obj} {es:Array DictEntry} {ep:Nat} {k:Str} {t:Tok} {D:List (Str × Addr)} {Q:Option Value->Shared->Prop} (ho:s.heap.get? a=some o) (hd:o.data=.dict es ep)
  (hr:KTD.Rows (fun d v=>v=Value.ref d) es.toList D) (ha:KTD.datumAt k D=some d) (q:Q (some (.ref d)) { s with toks:=s.toks+1 }):wpAny (model prog w) A (dictGet a (.str k t)) Q E s:=by
 unfold dictGet
 try with_reducible refine wpAny_holding ?_
 refine wpAny_bind (wpAny_pyHash_str (wpAny_bind (KTD.kt_dictFind_strs (s:={ s with toks:=s.toks+1 }) ho hd (by have:=hr.exact;obtain⟨l⟩:=es;simpa using this) ?_)))
 have hq:Q (findBy (fun k v=>v.isStr k) es k) { s with toks:=s.toks+1 }:=by
  obtain⟨v,hv,rfl⟩:=hr.find_some ha
  have e:findBy (fun k v=>v.isStr k) es k=some (.ref d):=by
   rw [<-hv]
   obtain⟨l⟩:=es
   simp [findBy]
  rw [e]
  exact q
 rw [findBy_of_findIdx?] at hq
 cases hi:es.findIdx? fun e=>e.key.isStr k with
 | some i=>rw [hi] at hq;exact wpAny_bind (wpAny_dictEntries (s:={ s with toks:=s.toks+1 }) ho hd (wpAny_pure hq))
 | none=>rw [hi] at hq;exact wpAny_pure hq
theorem vQ {a d:Addr} {o:Obj} {es:Array DictEntry} {ep:Nat} {k:Str} {t:Tok} {D:List (Str × Addr)} {Q:Value->Shared->Prop} (ty:s.TypeIs (.ref a) "dict") (ho:s.heap.get? a=some o) (hd:o.data=.dict es ep)
  (hr:KTD.Rows (fun d v=>v=Value.ref d) es.toList D) (ha:KTD.datumAt k D=some d) (q:Q (.ref d) { s with toks:=s.toks+1 }):wpAny (model prog w) A (getItem (.ref a) (.str k t)) Q E s:=by
 unfold getItem
 try with_reducible refine wpAny_holding ?_
 refine wpAny_bind (wpAny_sequenceKey ty (by decide) (wpAny_bind (wpAny_callSpecial?_slot (name:=Str.ofString "__getitem__") ty slot_dict_getitem (wpAny_call_entry slot_dict_getitem ty entry_dict_getitem ?_ (args_dict_getitem _ _)))))
 show wpAny _ _ (dictGet a (.str k t) >>= fun _=>_) _ _ s
 exact wpAny_bind (vP ho hd hr ha (wpAny_pure ⟨_,rfl,wpAny_pure q⟩))
end
section
variable {X:Cx}
theorem ni {nm:Str} {a:Addr} {D:List (Str × Addr)} {i:Expr} {p pos:Pos} {ty:TE} (G:vM X.K X.mg nm a D) (hg:Gl X nm) (hi:PE X i ty) (hs:vF i) (hdb:(nm == ("__debug__" : Str))=false:=by decide) :
  PE X (.Subscript (.Name nm p) i pos) (fun σ H Q=>ty σ H fun y H1=>∃ x d,y=.str x/\KTD.datumAt x D=some d/\Q (.ref d) H1):=by
 intro pins s σ H Q I h
 obtain⟨es,ep,hk,hr⟩:=G.lk
 refine rR PySem.F.slot_dict_getitem.lookup hs (bf (fC (v:=.ref a) hg G.lC rfl hdb pins s σ H (fun x H1=>x=.ref a/\ty σ H1 fun y H1=>∃ x d,y=.str x/\KTD.datumAt x D=some d/\Q (.ref d) H1) I ⟨rfl,h⟩) fun u s1 ⟨x,H1,I1,rx,ex,q1⟩=>?_)
 subst ex
 obtain rfl:u=Value.ref a:=rx
 refine bf (hi pins s1 σ H1 _ I1 q1) fun iv s2 ⟨y,H2,I2,ry,k,d,ey,hd,q2⟩=>?_
 subst ey
 obtain⟨t,rfl⟩:=(show ∃ t,iv=Value.str k t from ry)
 have ho:=I2.nL a _ hk
 exact⟨⟨_,ho,rfl⟩,vQ ⟨_,ho,rfl⟩ ho rfl hr hd ⟨.ref d,H2,I2.tok _,rfl,q2⟩⟩
end
def pick (w:Str) (xs:List V) (ks:List Str):List V:=((xs.zip ks).filter fun p=>decide (p.2=w)).map (·.1)
def ja (w:Str) (xs:List V) (ks:List Str) (i:Nat):List V:=(((xs.zip ks).take i).filter fun p=>decide (p.2=w)).map (·.1)
theorem sL {w:Str} {xs:List V} {ks:List Str} {i:Nat} {x:V} {k:Str} (hx:xs[i]? = some x) (hk:ks[i]? = some k):ja w xs ks (i+1)=ja w xs ks i++(if k=w then [x] else []):=by
 have hz:(xs.zip ks)[i]? = some (x,k):=by rw [List.getElem?_zip_eq_some];exact⟨hx,hk⟩
 unfold ja
 rw [List.take_add_one,hz,List.filter_append,List.map_append]
 congr 1
 by_cases h:k=w
 ·rw [if_pos h];simp [h]
 ·rw [if_neg h];simp [h]
theorem uq {w:Str} {xs:List V} {ks:List Str}:ja w xs ks (min xs.length (ks.map V.str).length)=pick w xs ks:=by
 unfold ja pick
 rw [List.length_map,List.take_of_length_le (by rw [List.length_zip];exact Nat.le_refl _)]
theorem ur {w:Str} {xs:List V} {ks:List Str} {i:Nat}:(ja w xs ks i).length<=i:=by
 unfold ja
 rw [List.length_map]
 exact Nat.le_trans (List.length_filter_le ..) (by rw [List.length_take];exact Nat.min_le_left ..)
theorem aw.same {K:PySem.W.Frag} {H H':Hp} {a:Addr} {xs:List V} (h:aw K H a xs) (s:ao H H'):aw K H' a xs:=by
 rcases h with h | h
 ·rcases h with h | h
  ·exact .inl (.inl (s _ _ h))
  ·obtain⟨b,hb⟩:=h
   exact .inl (.inr ⟨b,s _ _ hb⟩)
 ·exact .inr h
def kR (K:PySem.W.Frag):Sp:=fun vs H Q _=>∃ (t s:Addr) (v0:V) (xs:List V) (ks:List Str) (w:Str),vs = [.ref t,.ref s,.str w]/\H t=some (.tup (v0 :: xs))/\aw K H s (ks.map V.str)/\xs.length<=1000 /\
 ∀ l H',H' l=some (.lst (pick w xs ks))->ao H H'->Q (.ref l) H'
def KTup (K:PySem.W.Frag) (a:Addr) (ks:List Str):Prop:=∃ (o:Obj) (its:Array Value) (n:Nat),K.lookup a=some o/\o.cls=.type "tuple" /\ o.data=.seq its n/\its.size<=sizeLine/\Vals (ks.map V.str) its.toList
structure pY (K:PySem.W.Frag) (mg:Str->Option Value) (aE s0 s1 s2 s3:Addr):Prop where
 tab:vM K mg "END_PARTS" aE [("stop",s0),("go",s1),("less",s2),("is",s3)]
 q0:KTup K s0 []
 q1:KTup K s1 ["piece"]
 q2:KTup K s2 ["name", "number", "piece", "piece"]
 q3:KTup K s3 ["name", "number", "piece", "piece"]
def cM:End->List Nat
 | .stop=>[]
 | .go p=>[p]
 | .cY _ _ _ p q=>[p,q]
def kE:End->List Str
 | .stop=>[]
 | .go _=>["piece"]
 | .cY ..=>["name", "number", "piece", "piece"]
def wE:End->Str
 | .stop => "stop"
 | .go _ => "go"
 | .cY b ..=>wT b
theorem uu (e:End):∃ xs,iZ e=.str (wE e) :: xs/\xs.length<=1000/\pick "piece" xs (kE e)=(cM e).map fun k=>V.int (k:Nat):=by
 cases e with
 | stop=>exact⟨[],rfl,by decide,rfl⟩
 | go p=>exact⟨_,rfl,by show 1<=1000;decide,by simp [pick,kE,cM]⟩
 | cY b x n p q =>
  refine⟨_,rfl,by show 4<=1000;decide,?_⟩
  have h1:¬ ("name" : Str) = "piece" := by decide +kernel
  have h2:¬ ("number" : Str) = "piece" := by decide +kernel
  simp [pick,kE,cM,h1,h2]
theorem pY.at_ {K:PySem.W.Frag} {mg:Str->Option Value} {aE s0 s1 s2 s3:Addr} (G:pY K mg aE s0 s1 s2 s3) (e:End):∃ s,KTD.datumAt (wE e) [(("stop" : Str),s0),("go",s1),("less",s2),("is",s3)] = some s/\KTup K s (kE e):=by
 have hit:∀ {k:Str} {d:Addr} {D:List (Str × Addr)},KTD.datumAt k ((k,d) :: D)=some d:=fun {k d D}=>by
  show (if decide (k=k)=true then some d else KTD.datumAt k D)=some d
  rw [if_pos (decide_eq_true rfl)]
 have miss:∀ {k x:Str} {d:Addr} {D:List (Str × Addr)} {o:Option Addr},¬ k=x->KTD.datumAt k D=o->KTD.datumAt k ((x,d) :: D)=o:=fun {k x d D o} h e=>by
  show (if decide (k=x)=true then some d else KTD.datumAt k D)=o
  rw [if_neg (by rw [decide_eq_false h];decide)]
  exact e
 cases e with
 | stop=>exact⟨s0,hit,G.q0⟩
 | go p=>exact⟨s1,miss (show ¬ (("go" : Str) = "stop") by decide +kernel) hit,G.q1⟩
 | cY b x n p q =>
  cases b with
  | true=>exact⟨s2,miss (show ¬ (("less" : Str) = "stop") by decide +kernel) (miss (show ¬ (("less" : Str) = "go") by decide +kernel) hit),G.q2⟩
  | false=>exact⟨s3,miss (show ¬ (("is" : Str) = "stop") by decide +kernel) (miss (show ¬ (("is" : Str) = "go") by decide +kernel) (miss (show ¬ (("is" : Str) = "less") by decide +kernel) hit)),G.q3⟩
def mK:Sp:=fun vs H Q _=>∃ (ea:Addr) (e:End),vs = [.ref ea]/\H ea=some (.tup (iZ e))/\∀ t H',H' t=some (.tup ((cM e).map fun k=>V.int (k:Nat)))->ao H H'->Q (.ref t) H'
end L2
namespace LS
open PySem
def Up (xs:Array Nat):Prop:=∀ (i j:Nat) (a b:Nat),i < j->xs[i]? = some a->xs[j]? = some b->a < b
theorem vR {xs:Array Nat} {j:Nat} (up:Up xs):∀ (fuel lo hi:Nat),hi - lo<=fuel->lo<=hi->hi<=xs.size ->
  (∀ i a,i < lo->xs[i]? = some a->a < j)->(∀ i a,hi<=i->xs[i]? = some a->j<=a) ->
  (∀ i a,i < SetTable.below.go xs j fuel lo hi->xs[i]? = some a->a < j)/\(∀ i a,SetTable.below.go xs j fuel lo hi<=i->xs[i]? = some a->j<=a)/\SetTable.below.go xs j fuel lo hi<=xs.size:=by
 intro fuel
 induction fuel with
 | zero =>
  intro lo hi h1 h2 h3 h4 h5
  have e:lo=hi:=by omega
  subst e
  unfold SetTable.below.go
  exact⟨h4,h5,h3⟩
 | succ f ih =>
  intro lo hi h1 h2 h3 h4 h5
  unfold SetTable.below.go
  by_cases hl:lo < hi
  ·rw [if_pos hl]
   dsimp only
   have hm:(lo+hi) / 2 < hi:=by omega
   have hm2:lo<=(lo+hi) / 2:=by omega
   generalize (lo+hi) / 2=mid at hm hm2
   have hs:mid < xs.size:=by omega
   have hg:xs[mid]? = some xs[mid]:=by simp [hs]
   have hd:xs.getD mid j=xs[mid]:=by simp [Array.getD,hs]
   rw [hd]
   by_cases hc:xs[mid] < j
   ·rw [if_pos hc]
    refine ih (mid+1) hi (by omega) (by omega) h3 (fun i a hi' he=>?_) h5
    by_cases e:i=mid
    ·subst e;rw [hg] at he;cases he;exact hc
    ·have:=up i mid a _ (by omega) he hg;omega
   ·rw [if_neg hc]
    refine ih lo mid (by omega) hm2 (by omega) h4 (fun i a hi' he=>?_)
    by_cases e:i=mid
    ·subst e;rw [hg] at he;cases he;omega
    ·have:=up mid i _ a (by omega) hg he;omega
  ·rw [if_neg hl]
   have e:lo=hi:=by omega
   subst e
   exact⟨h4,h5,h3⟩
theorem lQ {xs:Array Nat} {j:Nat} (up:Up xs) :
    (∀ i a,i < SetTable.below xs j->xs[i]? = some a->a < j)/\(∀ i a,SetTable.below xs j<=i->xs[i]? = some a->j<=a)/\SetTable.below xs j<=xs.size :=
  vR up xs.size 0 xs.size (by omega) (Nat.zero_le _) (Nat.le_refl _) (fun _ _ h=>absurd h (Nat.not_lt_zero _)) (fun i a h e=>by
    have:xs[i]? = none:=by simp;omega
    rw [this] at e;cases e)
theorem pZ {α : Type} {xs:Array α} {p:Nat} {x:α} (hp:p<=xs.size) (i:Nat) :
  (SetTable.insertAt xs p x)[i]? = if i < p then xs[i]? else if i=p then some x else xs[i - 1]?:=by
 unfold SetTable.insertAt
 have h1:(xs.extract 0 p).size=p:=by simp;omega
 rw [Array.getElem?_append]
 have h2:((xs.extract 0 p).push x).size=p+1:=by simp;omega
 rw [h2]
 by_cases a:i < p
 ·rw [if_pos (by omega),if_pos a,Array.getElem?_push,h1,if_neg (by omega)]
  rw [Array.getElem?_extract]
  simp;omega
 ·rw [if_neg a]
  by_cases b:i=p
  ·subst b
   rw [if_pos (by omega),if_pos rfl,Array.getElem?_push,h1,if_pos rfl]
  ·rw [if_neg (by omega),if_neg b]
   rw [Array.getElem?_extract]
   have:p+(i - (p+1))=i - 1:=by omega
   rw [this]
   by_cases c:i - 1 < xs.size
   ·simp;omega
   ·have:xs[i - 1]? = none:=by simp;omega
    rw [this];simp
theorem Up.insert {xs:Array Nat} {j:Nat} (up:Up xs) (hn:xs[SetTable.below xs j]? ≠ some j):Up (SetTable.insertAt xs (SetTable.below xs j) j):=by
 obtain⟨h1,h2,h3⟩:=lQ (j:=j) up
 generalize SetTable.below xs j=p at h1 h2 h3 hn
 have h2':∀ i a,p<=i->xs[i]? = some a->j < a:=fun i a hi e=>by
  have q:=h2 i a hi e
  by_cases z:i=p
  ·subst z
   rcases Nat.lt_or_ge j a with c | c
   ·exact c
   ·have:a=j:=by omega
    subst this;exact absurd e hn
  ·have hps:p < xs.size:=by
    have:i < xs.size:=by
     rcases Nat.lt_or_ge i xs.size with c | c
     ·exact c
     ·have:xs[i]? = none:=by simp;omega
      rw [this] at e;cases e
    omega
   have e1:xs[p]? = some xs[p]:=by simp [hps]
   have q1:=h2 p _ (Nat.le_refl _) e1
   have q2:=up p i _ _ (by omega) e1 e
   omega
 intro a b x y hab ha hb
 rw [pZ h3] at ha hb
 by_cases c1:a < p
 ·rw [if_pos c1] at ha
  by_cases d1:b < p
  ·rw [if_pos d1] at hb;exact up a b _ _ hab ha hb
  ·rw [if_neg d1] at hb
   by_cases d2:b=p
   ·rw [if_pos d2] at hb;cases hb;exact h1 a _ c1 ha
   ·rw [if_neg d2] at hb
    exact Nat.lt_trans (h1 a _ c1 ha) (h2' (b - 1) _ (by omega) hb)
 ·rw [if_neg c1] at ha
  by_cases c2:a=p
  ·rw [if_pos c2] at ha;cases ha
   rw [if_neg (by omega),if_neg (by omega)] at hb
   exact h2' (b - 1) _ (by omega) hb
  ·rw [if_neg c2] at ha
   rw [if_neg (by omega),if_neg (by omega)] at hb
   exact up (a - 1) (b - 1) _ _ (by omega) ha hb
def Rp (t:SetTable):Prop:=t.plain=true->Up t.place
theorem vS {t:SetTable} {f:Nat->Int} {h:Int}:∀ (fuel:Nat) (p:SetTable.Probe) (j:Nat) (d:Option Nat),(∀ x,p.dummy=some x->t.place[SetTable.below t.place x]? ≠ some x) ->
  SetTable.probe.go t f h fuel p=some (.empty j d)->t.place[SetTable.below t.place (d.getD j)]? ≠ some (d.getD j):=by
 intro fuel
 induction fuel with
 | zero=>intro p j d _ e;unfold SetTable.probe.go at e;cases e
 | succ n ih =>
  intro p j d hd e
  unfold SetTable.probe.go at e
  have adv:∀ q:SetTable.Probe,(t.advance q).dummy=q.dummy:=fun q=>by unfold SetTable.advance;split <;> rfl
  cases hs:t.slot p.j with
  | empty =>
   rw [hs] at e
   dsimp only at e
   injection e with e
   injection e with e1 e2
   subst e1;subst e2
   unfold SetTable.slot at hs
   dsimp only at hs
   split at hs
   ·cases hs
   ·rename_i hne
    cases hdm:p.dummy with
    | none=>intro z;exact hne (by rw [show (none:Option Nat).getD p.j=p.j from rfl] at z;simpa using z)
    | some x=>exact hd x hdm
  | dummy =>
   rw [hs] at e
   dsimp only at e
   refine ih _ j d (fun x hx=>?_) e
   rw [adv] at hx
   injection hx with hx
   subst hx
   unfold SetTable.slot at hs
   dsimp only at hs
   split at hs
   ·cases hs
   ·rename_i hne
    intro z;exact hne (by simpa using z)
  | live i =>
   rw [hs] at e
   dsimp only at e
   split at e
   ·cases e
   ·exact ih _ j d (fun x hx=>hd x (by rw [adv] at hx;exact hx)) e
theorem p8 {t:SetTable} {h:Int} {j:Nat} {b:Bool} (e:t.freeSlot h=some (j,b)):t.place[SetTable.below t.place j]? ≠ some j:=by
 unfold SetTable.freeSlot at e
 split at e
 ·rename_i j' d hp
  injection e with e
  injection e with e1 e2
  subst e1
  unfold SetTable.probe at hp
  exact vS _ _ _ _ (fun x hx=>by cases hx) hp
 ·cases e
theorem Rp.standIn (t:SetTable) (n:Nat):Rp (t.standIn n):=fun h=>by cases h
theorem Rp.layNew {t:SetTable} (r:Rp t) (es:Array (Int × Value)) (h:Int) (x:Value):Rp (layNew t es h x).2.1/\(layNew t es h x).2.1.led=t.led:=by
 unfold PySem.layNew
 split
 ·rename_i j b e
  dsimp only
  unfold SetTable.orStandIn
  split
  ·refine⟨fun hp=>?_,rfl⟩
   exact (r hp).insert (p8 e)
  ·exact⟨Rp.standIn _ _,rfl⟩
 ·exact⟨Rp.standIn _ _,rfl⟩
theorem vT (n:Nat) (f:Nat->Option Nat):Up (((List.range n).filterMap fun j=>(f j).map fun k=>(j,k)).map (·.1)).toArray:=by
 have hs:List.Pairwise (· < ·) (((List.range n).filterMap fun j=>(f j).map fun k=>(j,k)).map (·.1)):=by
  have hl:List.Sublist (((List.range n).filterMap fun j=>(f j).map fun k=>(j,k)).map (·.1)) (List.range n):=by
   generalize List.range n=l
   induction l with
   | nil=>exact List.Sublist.refl _
   | cons a l ih =>
    rw [List.filterMap_cons]
    cases e:f a with
    | none=>exact ih.cons a
    | some k=>exact ih.cons₂ a
  exact List.Pairwise.sublist hl List.pairwise_lt_range
 intro i j a b hij ha hb
 rw [List.getElem?_toArray] at ha hb
 have hi:i < _:=(List.getElem?_eq_some_iff.mp ha).1
 have hj:j < _:=(List.getElem?_eq_some_iff.mp hb).1
 have:=List.pairwise_iff_getElem.mp hs i j hi hj hij
 rw [(List.getElem?_eq_some_iff.mp ha).2,(List.getElem?_eq_some_iff.mp hb).2] at this
 exact this
theorem Rp.relayAll (t:SetTable) (es:Array (Int × Value)) (n:Nat):Rp (relayAll t es n).2.1/\(relayAll t es n).2.1.led=t.led:=by
 unfold PySem.relayAll
 split
 ·rename_i t' order e
  dsimp only
  split
  ·unfold SetTable.relaid SetTable.laid at e
   simp only [bind,Option.bind] at e
   split at e
   ·cases e
   ·rename_i owner _
    injection e with e
    injection e with e1 _
    subst e1
    exact⟨fun _=>vT _ _,rfl⟩
  ·exact⟨Rp.standIn _ _,rfl⟩
 ·exact⟨Rp.standIn _ _,rfl⟩
theorem sM {xs:Array Nat} (up:Up xs) {i a:Nat} (e:xs[i]? = some a):SetTable.below xs (a+1)=i+1:=by
 obtain⟨h1,h2,h3⟩:=lQ (j:=a+1) up
 have hi:i < xs.size:=(Array.getElem?_eq_some_iff.mp e).1
 rcases Nat.lt_trichotomy (SetTable.below xs (a+1)) (i+1) with c | c | c
 ·have:=h2 i a (by omega) e;omega
 ·exact c
 ·have hs:i+1 < xs.size:=by omega
  have e':xs[i+1]? = some xs[i+1]:=by simp [hs]
  have q1:=h1 (i+1) _ c e'
  have q2:=up i (i+1) _ _ (by omega) e e'
  omega
theorem sN {xs:Array Nat} (up:Up xs):SetTable.below xs 0=0:=by
 obtain⟨h1,h2,h3⟩:=lQ (j:=0) up
 rcases Nat.eq_zero_or_pos (SetTable.below xs 0) with c | c
 ·exact c
 ·have e':xs[0]? = some xs[0]:=by simp
  have:=h1 0 _ c e';omega
theorem Up.bc {xs:Array Nat} (h:xs.size<=1):Up xs:=fun i j a b hij ha hb=>by
 have:=(Array.getElem?_eq_some_iff.mp hb).1;omega
open PySem.Spec PyProof.Rows
section
variable {prog:Program} {w:World} {K:Type} [DecidableEq K] {knd:KeyKind prog w K}
variable {A:Around} {E:Value->Shared->Prop} {s:Shared}
def Ent (knd:KeyKind prog w K) (e:Int × Value) (k:K):Prop:=knd.is k e.2=true/\e.1=knd.hash k/\e.2.scannable=true
structure cZ (knd:KeyKind prog w K) (h:Heap) (a:Addr) (ks:List K) (o:Obj) (es:Array (Int × Value)) (ep:Nat) (t:SetTable):Prop where
 at_:h.get? a=some o
 ex:o.ExactSet
 data:o.data=.set es ep t
 ents:∃ ls:List K,ls.Perm ks/\Paired (Ent knd) es.toList ls
 nd:ks.Nodup
 bc:es.size < scanBound
 fits:t.fits es.size=true
 led:t.led = !(w.params.followText "set-order")
 up:Rp t
def fV (knd:KeyKind prog w K) (h:Heap) (a:Addr) (ks:List K):Prop:=∃ o es ep t,cZ knd h a ks o es ep t
theorem jh {α β : Type} {F:α->β->Prop}:∀ {l l':List α},l.Perm l'->∀ {m':List β},Paired F l' m'->∃ m,m.Perm m'/\Paired F l m:=by
 intro l l' p
 induction p with
 | nil=>intro m' h;exact⟨m',.refl _,h⟩
 | cons x p ih =>
  intro m' h
  cases h with
  | cons r t=>obtain⟨m,q,e⟩:=ih t;exact⟨_,q.cons _,.cons r e⟩
 | swap x y l =>
  intro m' h
  cases h with
  | cons r t=>cases t with
   | cons r' t'=>exact⟨_,.swap _ _ _,.cons r' (.cons r t')⟩
 | trans p q ih1 ih2 =>
  intro m' h
  obtain⟨m1,a1,b1⟩:=ih2 h
  obtain⟨m2,a2,b2⟩:=ih1 b1
  exact⟨m2,a2.trans a1,b2⟩
theorem iB {α β : Type} {F:α->β->Prop}:∀ {l:List α} {m:List β},Paired F l m->(∀ x ∈ l,∃ y ∈ m,F x y)/\(∀ y ∈ m,∃ x ∈ l,F x y)
 | _,_,.nil=>⟨(fun _ h=>nomatch h),(fun _ h=>nomatch h)⟩
 | _,_,.cons r t=>by
  obtain⟨h1,h2⟩:=iB t
  refine⟨fun x hx=>?_,fun y hy=>?_⟩
  ·rcases List.mem_cons.mp hx with rfl | hx
   ·exact⟨_,List.mem_cons_self ..,r⟩
   ·obtain⟨y,hy,f⟩:=h1 x hx;exact⟨y,List.mem_cons_of_mem _ hy,f⟩
  ·rcases List.mem_cons.mp hy with rfl | hy
   ·exact⟨_,List.mem_cons_self ..,r⟩
   ·obtain⟨x,hx,f⟩:=h2 y hy;exact⟨x,List.mem_cons_of_mem _ hx,f⟩
theorem ji {α β : Type} {F:α->β->Prop} {x:α} {y:β} (f:F x y):∀ {l:List α} {m:List β},Paired F l m->Paired F (l ++ [x]) (m ++ [y])
 | _,_,.nil=>.cons f .nil
 | _,_,.cons r t=>.cons r (ji f t)
variable {a:Addr} {ks:List K} {o:Obj} {es:Array (Int × Value)} {ep:Nat} {t:SetTable} {h h':Heap}
theorem cZ.elems (S:cZ knd h a ks o es ep t):ElemsOf knd es.toList:=fun e he=>by
 obtain⟨ls,_,p⟩:=S.ents
 obtain⟨k,_,f⟩:=(iB p).1 e he
 exact⟨⟨k,f.1,f.2.1⟩,f.2.2⟩
theorem cZ.len (S:cZ knd h a ks o es ep t):es.size=ks.length:=by
 obtain⟨ls,q,p⟩:=S.ents
 rw [<-Array.length_toList,p.length,q.length_eq]
theorem cZ.mem (S:cZ knd h a ks o es ep t) (k:K):k ∈ ks ↔ ∃ e ∈ es.toList,knd.is k e.2=true:=by
 obtain⟨ls,q,p⟩:=S.ents
 rw [<-q.mem_iff]
 constructor
 ·intro hk
  obtain⟨e,he,f⟩:=(iB p).2 k hk
  exact⟨e,he,f.1⟩
 ·rintro⟨e,he,f⟩
  obtain⟨k',hk',f'⟩:=(iB p).1 e he
  rw [knd.inj e.2 k k' f f'.1];exact hk'
theorem cZ.keep (S:cZ knd h a ks o es ep t) (k:∀ o,h.get? a=some o->h'.get? a=some o):cZ knd h' a ks o es ep t:={ S with at_:=k _ S.at_ }
theorem fV.keep (S:fV knd h a ks) (k:∀ o,h.get? a=some o->h'.get? a=some o):fV knd h' a ks:=let ⟨o,es,ep,t,S⟩:=S;⟨o,es,ep,t,S.keep k⟩
theorem p9 {o:Obj} {es es':Array (Int × Value)} {ep:Nat} {t t':SetTable} (hd:o.data=.set es ep t):Obj.putSet es' t' o = { o with data:=.set es' (ep+1) t' }:=putSet_of es' t' hd
theorem cZ.store {es':Array (Int × Value)} {t':SetTable} {ks':List K} (S:cZ knd h a ks o es ep t) (he:∃ ls:List K,ls.Perm ks'/\Paired (Ent knd) es'.toList ls) (nd:ks'.Nodup) (bc:es'.size < scanBound)
  (fits:t'.fits es'.size=true) (led:t'.led=t.led) (up:Rp t'):cZ knd (h.update a (Obj.putSet es' t')) a ks' { o with data:=.set es' (ep+1) t' } es' (ep+1) t' where
 at_:=by
  have q:=Heap.get?_update_self (Obj.putSet es' t') S.at_ (by rw [p9 S.data];rfl)
  rw [p9 S.data] at q
  exact q
 ex:=S.ex
 data:=rfl
 ents:=he
 nd:=nd
 bc:=bc
 fits:=fits
 led:=led.trans S.led
 up:=up
theorem lR {g:Bool->Sem Unit} (hg:∀ (b:Bool) (s₁ : Shared) (Q':Unit->Shared->Prop),Q' () s₁->wpAny (model prog w) A (g b) Q' E s₁) {es1:Array (Int × Value)} {t2:SetTable} {ks':List K}
  (S:cZ knd s.heap a ks o es ep t) (he:∃ ls:List K,ls.Perm ks'/\Paired (Ent knd) es1.toList ls) (nd:ks'.Nodup) (bc:es1.size < scanBound) (fits:t2.fits es1.size=true) (led:t2.led=t.led) (up:Rp t2) {wd:Bool}
  {R:Option Bool->Shared->Prop} (q:∀ h',Heap.SameBut a s.heap h'->fV knd h' a ks'->R (some true) { s with heap:=h' }) :
  wpAny (model prog w) A (storeSet a es1 t2 >>= fun _=>if (!wd && t2.tooFull)=true then g (relayAll t2 es1 (SetTable.grown es1.size)).2.2 >>= fun _ =>
   storeSet a (relayAll t2 es1 (SetTable.grown es1.size)).1 (relayAll t2 es1 (SetTable.grown es1.size)).2.1 >>= fun _=>pure (some true) else pure (some true)) R E s:=by
 refine wpAny_bind (wpAny_storeSet_of S.at_ S.data ?_ (fits_of_scanBound bc))
 have S1:=S.store he nd bc fits led up
 have b1:=Heap.SameBut.update s.heap a (Obj.putSet es1 t2)
 by_cases hc:(!wd && t2.tooFull)=true
 ·rw [if_pos hc]
  have p1:=relayAll_perm t2 es1 (SetTable.grown es1.size)
  have p2:=relayAll_fits t2 es1 (SetTable.grown es1.size)
  have p3:=Rp.relayAll t2 es1 (SetTable.grown es1.size)
  generalize relayAll t2 es1 (SetTable.grown es1.size)=R3 at p1 p2 p3
  obtain⟨es3,t3,gv⟩:=R3
  obtain⟨ls,l1,l2⟩:=he
  obtain⟨ls3,l3,l4⟩:=jh p1 l2
  have z:es3.size=es1.size:=by rw [<-Array.length_toList,p1.length_eq,Array.length_toList]
  have few3:es3.size < scanBound:=by rw [z];exact bc
  refine wpAny_bind (hg _ _ _ ?_)
  refine wpAny_bind (wpAny_storeSet_of S1.at_ S1.data ?_ (fits_of_scanBound few3))
  exact wpAny_pure (q _ (b1.trans (Heap.SameBut.update _ a _)) ⟨_,_,_,_,S1.store ⟨ls3,l3.trans l1,l4⟩ nd few3 p2 p3.2 p3.1⟩)
 ·rw [if_neg hc]
  exact wpAny_pure (q _ b1 ⟨_,_,_,_,S1⟩)
theorem sO {k:K} {x:Value} {Q:Bool->Shared->Prop} (hk:knd.is k x=true) (hsc:x.scannable=true) (S:fV knd s.heap a ks) (room:ks.length+1 < scanBound)
  (q:∀ h',Heap.SameBut a s.heap h'->fV knd h' a (if k ∈ ks then ks else ks ++ [k])->Q (!decide (k ∈ ks)) { s with heap:=h' }) :
  wpAny (model prog w) A (setAddHashed a x (knd.hash k)) Q E s:=by
 obtain⟨o,es,ep,t,S⟩:=S
 have few1:es.size+1 < scanBound:=by rw [S.len];exact room
 unfold setAddHashed setAddHashedIn
 refine wpAny_holding (wpAny_bind (wpAny_setState_of S.at_ S.data S.fits ?_))
 dsimp only
 rw [byScan_of hsc S.bc S.elems]
 simp only [↓reduceIte]
 unfold setAddByScan
 refine wpAny_bind (wpAny_bind (wpAny_rule ?_))
 refine wpAny_bind (wpAny_setScan_of hk S.at_ S.data S.fits S.elems ?_)
 cases hr:List.findIdx? (fun e=>knd.is k e.2) es.toList with
 | some j =>
  obtain⟨hj,hpj,_⟩:=List.findIdx?_eq_some_iff_getElem.mp hr
  have hin:k ∈ ks:=(S.mem k).mpr ⟨es.toList[j],List.getElem_mem hj,hpj⟩
  refine wpAny_pure (wpAny_pure ?_)
  have:=q s.heap (Heap.SameBut.refl a s.heap) (by rw [if_pos hin];exact⟨o,es,ep,t,S⟩)
  rw [decide_eq_true hin] at this
  exact this
 | none =>
  have hin:¬ k ∈ ks:=fun z=>by
   obtain⟨e,he,hp⟩:=(S.mem k).mp z
   have:=List.findIdx?_eq_none_iff.mp hr e he
   rw [hp] at this;exact Bool.noConfusion this
  rw [if_neg hin,decide_eq_false hin] at q
  have p1:=layNew_perm t es (knd.hash k) x
  have p2:=layNew_fits t es (knd.hash k) x
  have p3:=S.up.layNew es (knd.hash k) x
  dsimp only
  generalize layNew t es (knd.hash k) x=L at p1 p2 p3 ⊢
  obtain⟨es1,t1,wd,gv⟩:=L
  dsimp only at p1 p2 p3 ⊢
  rw [Array.toList_push] at p1
  have hE:∃ ls:List K,ls.Perm (ks ++ [k])/\Paired (Ent knd) es1.toList ls:=by
   obtain⟨ls,l1,l2⟩:=S.ents
   obtain⟨m,m1,m2⟩:=jh p1 (ji (F:=Ent knd) (x:=(knd.hash k,x)) (y:=k) ⟨hk,rfl,hsc⟩ l2)
   exact⟨m,m1.trans (l1.append_right _),m2⟩
  have nd1:(ks ++ [k]).Nodup:=by
   rw [List.nodup_append]
   exact⟨S.nd,by simp,fun y hy z hz e=>hin (by rw [List.mem_singleton] at hz;rw [<-hz,<-e];exact hy)⟩
  have few2:es1.size < scanBound:=by rw [<-Array.length_toList,p1.length_eq,List.length_append,Array.length_toList];simpa using few1
  have gw:∀ (b:Bool) (s₁ : Shared) (Q':Unit->Shared->Prop),Q' () s₁->wpAny (model prog w) A (match b with | true=>rule "set.scan.the-table-gave-way" | false=>pure ()) Q' E s₁:=fun b s₁ Q' hq=>by
   cases b
   ·exact wpAny_pure hq
   ·exact wpAny_rule hq
  refine wpAny_bind (gw _ _ _ ?_)
  by_cases hp:t1.plain=true
  ·rw [if_pos hp]
   refine wpAny_bind ?_
   rw [hashByValue_scannable 8 hsc]
   refine wpAny_pure ?_
   by_cases hv:plainKind x=true
   ·rw [if_pos hv]
    exact lR gw S hE nd1 few2 p2 p3.2 p3.1 fun h' b Sk=>wpAny_pure (q h' b Sk)
   ·rw [if_neg hv]
    exact lR gw S hE nd1 few2 (SetTable.fits_plain_off p2) p3.2 (fun z=>by cases z) fun h' b Sk=>wpAny_pure (q h' b Sk)
  ·rw [if_neg hp]
   refine wpAny_bind (wpAny_pure ?_)
   rw [if_pos rfl]
   exact lR gw S hE nd1 few2 p2 p3.2 p3.1 fun h' b Sk=>wpAny_pure (q h' b Sk)
theorem uv {led:Bool} (hl:led = !(w.params.followText "set-order")) (at_:h.get? a=some { cls:=.type "set",dict:=none,data:=.set #[] 0 (.fresh 0 0 led) }):fV knd h a [] :=
 ⟨_,#[],0,_,at_,⟨rfl,rfl,rfl⟩,rfl,⟨[],.refl _,.nil⟩,List.nodup_nil,by decide,by rfl,hl,fun _=>Up.bc (Nat.zero_le _)⟩
end
theorem jM {α : Type}:∀ (l:List α) (i:Nat) (h:i < l.length),(l[i] :: l.eraseIdx i).Perm l
 | x :: l,0,_=>.refl _
 | x :: l,i+1,h=>by
  have hi:i < l.length:=by simpa using h
  have ih:=jM l i hi
  show (l[i] :: x :: l.eraseIdx i).Perm (x :: l)
  exact (List.Perm.swap x _ _).trans (ih.cons x)
theorem uw {α : Type} (f:Nat->Nat):∀ (n k:Nat) (l:List α) (out:Array α),l.length=n->(pickOrder.go f n k l out).toList.Perm (out.toList++l):=by
 intro n
 induction n with
 | zero =>
  intro k l out hl
  have:l = []:=List.length_eq_zero_iff.mp hl
  subst this
  unfold pickOrder.go
  simp
 | succ n ih =>
  intro k l out hl
  unfold pickOrder.go
  have hlt:f k % l.length < l.length:=Nat.mod_lt _ (by omega)
  rw [List.getElem?_eq_getElem hlt]
  dsimp only
  refine (ih _ _ _ (by rw [List.length_eraseIdx_of_lt hlt];omega)).trans ?_
  rw [Array.toList_push,List.append_assoc]
  refine List.Perm.append_left _ ?_
  exact jM _ _ hlt
theorem gU {α : Type} (f:Nat->Nat) (xs:Array α):(pickOrder f xs).toList.Perm xs.toList:=by
 unfold pickOrder
 have:=uw f xs.size 0 xs.toList #[] (by simp)
 simpa using this
section
variable {prog:Program} {w:World} {A:Around} {E:Value->Shared->Prop} {s:Shared}
theorem kS {Q:Bool->Shared->Prop} (q:Q (w.params.followText "set-order") s):wpAny (model prog w) A setsByText Q E s:=by
 unfold setsByText
 exact wpAny_bind (wpAny_askSetting (wpAny_pure q))
theorem xB {src:Source} {n:Nat} {Q:Nat->Shared->Prop} (hn:n ≠ 0) (q:∀ (i:Nat) (d:_),i < n->Q i { s with drawn:=d }):wpAny (model prog w) A (choose src n) Q E s:=by
 intro Γ p hΓ
 show Sem.wp _ _ (.choose src n .pure) _ _ _ _
 rw [Sem.wp_choose]
 exact⟨hn,q _ _ (Nat.mod_lt _ (Nat.pos_of_ne_zero hn))⟩
theorem zt:∀ (n:Nat) (xs:List Nat) (s:Shared) {Q:List Nat->Shared->Prop},xs.length=n->(∀ (ys:List Nat) (d:_),ys.Perm xs->Q ys { s with drawn:=d })->wpAny (model prog w) A (drawOrder n xs) Q E s:=by
 intro n
 induction n with
 | zero =>
  intro xs s Q hl q
  have:xs = []:=List.length_eq_zero_iff.mp hl
  subst this
  unfold drawOrder
  exact wpAny_pure (q [] s.drawn (.refl _))
 | succ n ih =>
  intro xs s Q hl q
  cases xs with
  | nil=>cases hl
  | cons x0 xs =>
   unfold drawOrder
   refine wpAny_bind (xB (by simp) fun i d hi=>?_)
   rw [List.getElem?_eq_getElem hi]
   dsimp only
   refine wpAny_bind (ih _ _ (by rw [List.length_eraseIdx_of_lt hi];omega) fun ys d' hp=>?_)
   refine wpAny_pure (q _ d' ?_)
   exact (hp.cons _).trans (jM _ _ hi)
end
section
variable {prog:Program} {w:World} {K:Type} [DecidableEq K] {knd:KeyKind prog w K}
variable {A:Around} {E:Value->Shared->Prop} {s:Shared} {a:Addr} {ks:List K} {o:Obj} {es:Array (Int × Value)} {ep:Nat} {t:SetTable}
theorem ux {slot i:Nat} {Q:Option (Value × Nat)->Shared->Prop} (S:cZ knd s.heap a ks o es ep t) (hb:w.params.followText "set-order" = true)
  (q:Q (((pickOrder (w.params.setOrder a ep) es)[i]?).map fun e=>(e.2,slot)) s):wpAny (model prog w) A (setNext a slot i ep) Q E s:=by
 unfold setNext
 refine wpAny_bind (wpAny_setState_of S.at_ S.data S.fits ?_)
 dsimp only
 refine wpAny_bind (kS ?_)
 rw [hb,if_pos rfl]
 rw [if_neg (by simp)]
 unfold setWalk
 refine wpAny_bind (wpAny_bind (wpAny_setState_of S.at_ S.data S.fits ?_))
 dsimp only
 refine wpAny_bind (kS ?_)
 rw [hb,if_pos rfl]
 exact wpAny_bind (wpAny_askSetting (wpAny_pure (wpAny_pure q)))
theorem uy {slot i:Nat} {Q:Option (Value × Nat)->Shared->Prop} (S:cZ knd s.heap a ks o es ep t) (hb:w.params.followText "set-order" = false) (hd:t.plain=true\/es.size<=1) (hs:SetTable.below t.place slot=i)
  (q:Q (match es[i]?,t.place[i]? with | some (_,x),some j=>some (x,j+1) | _,_=>none) s):wpAny (model prog w) A (setNext a slot i ep) Q E s:=by
 unfold setNext
 refine wpAny_bind (wpAny_setState_of S.at_ S.data S.fits ?_)
 dsimp only
 refine wpAny_bind (kS ?_)
 rw [hb,if_neg Bool.false_ne_true]
 refine wpAny_ite_split (fun h=>absurd (show (!t.plain && decide (es.size > 1))=true from h) ?_) (fun _=>?_)
 ·rcases hd with h | h
  ·rw [h];simp
  ·rw [show decide (es.size > 1)=false by simp;omega];simp
 have hl:t.led=true:=by rw [S.led,hb];rfl
 refine wpAny_bind ?_
 show wpAny _ _ (if (!t.led && !es.isEmpty)=true then unsupported "set:maker-not-led" else pure ()) _ _ s
 rw [hl,if_neg (by simp)]
 refine wpAny_pure ?_
 rw [hs]
 exact wpAny_pure q
theorem yL {i:Nat} {e:Int × Value} {Q:Value->Shared->Prop} (S:cZ knd s.heap a ks o es ep t) (he:es[i]? = some e) (q:Q e.2 s):wpAny (model prog w) A (setNextDrawn a i ep) Q E s:=by
 unfold setNextDrawn
 refine wpAny_bind (wpAny_setState_of S.at_ S.data S.fits ?_)
 dsimp only
 rw [if_neg (by simp)]
 rw [he]
 exact wpAny_pure q
theorem slot_next:Slot "set_iterator" "__next__" "set_iterator.__next__" :=
  Slot.of (owner := "set_iterator") (n := "__next__")
    (by rw [typeLookup_type,builtinLookup_eq_fast]
        kernel_rfl)
    (by decide +kernel)
    (by decide +kernel)
    (by decide +kernel)
    (by first
      | exact .inl (by decide +kernel)
      | exact .inr (by decide +kernel))
    (by rw [isSubtype_type]
        kernel_rfl)
theorem entry_next:entryFor table "set_iterator.__next__" = some Builtin.«set_iterator.__next__» :=
 entryFor_of_tree (by kernel_rfl)
theorem n5:Manifest.owners.lookup (String.ofList ['r','o','t','a','r','e','t','i','_','t','e','s'].reverse)=some Manifest.sig_set_iterator:=by
 kernel_rfl
theorem args_next (v:Value):argsOk "set_iterator.__next__" ⟨[v],[]⟩:=by
 unfold argsOk
 rw [signature?_of (id := "set_iterator.__next__") (n:=['_','_','t','x','e','n','_','_']) (o:=['r','o','t','a','r','e','t','i','_','t','e','s'])
  (by kernel_rfl) n5]
 kernel_rfl
end
def eN (h:Heap) (I:Addr) (first:Value) (i:Nat) (a:Addr) (n ep:Nat):Prop :=
 ∃ oI,h.get? I=some oI/\oI.cls=.type "set_iterator" /\ oI.data=.fields #[first,.int i 0,.ref a,.int n 0,.int ep 0]
theorem eN.type {s:Shared} {I:Addr} {first:Value} {i:Nat} {a:Addr} {n ep:Nat} (h:eN s.heap I first i a n ep):s.TypeIs (.ref I) "set_iterator" := let ⟨o,e,c,_⟩:=h;⟨o,e,c⟩
theorem eN.keep {h h':Heap} {I:Addr} {first:Value} {i:Nat} {a:Addr} {n ep:Nat} (x:eN h I first i a n ep) (k:∀ o,h.get? I=some o->h'.get? I=some o):eN h' I first i a n ep :=
 let ⟨o,e,c⟩:=x;⟨o,k _ e,c⟩
section
variable {prog:Program} {w:World} {K:Type} [DecidableEq K] {knd:KeyKind prog w K}
variable {A:Around} {E:Value->Shared->Prop} {s:Shared} {a I:Addr} {ks:List K} {o:Obj} {es:Array (Int × Value)} {ep:Nat} {t:SetTable}
theorem qc {slot nx i:Nat} {x:Value} {Q:Option Value->Shared->Prop} (hit:eN s.heap I (.int slot 0) i a es.size ep) (S:cZ knd s.heap a ks o es ep t)
  (hn:∀ (A:Around) (E:Value->Shared->Prop) (Q:Option (Value × Nat)->Shared->Prop),Q (some (x,nx)) s->wpAny (model prog w) A (setNext a slot i ep) Q E s)
  (q:∀ h',eN h' I (.int nx 0) (i+1) a es.size ep->Heap.SameBut I s.heap h'->Q (some x) { s with heap:=h' }):wpAny (model prog w) A (pyNext (.ref I)) Q E s:=by
 obtain⟨oI,ho,hc,hd⟩:=id hit
 unfold pyNext
 refine wpAny_bind (wpAny_attempt (wpAny_callSpecial?_slot (name:=Str.ofString "__next__") hit.type slot_next (wpAny_call_entry slot_next hit.type entry_next ?_ (args_next _))))
 unfold Builtin.«set_iterator.__next__»
 refine wpAny_bind (wpAny_pure ?_)
 refine wpAny_bind (wpAny_fieldsOf ho hd ?_)
 dsimp only
 refine wpAny_bind (wpAny_setEntries_of S.at_ S.data S.fits ?_)
 rw [if_neg (by simp)]
 simp only [Int.toNat_natCast]
 refine wpAny_bind (hn _ _ _ ?_)
 dsimp only
 refine wpAny_bind (wpAny_setField ho hd (by simp) ?_)
 have d1:(Obj.mapFields (·.setIfInBounds 0 (rawInt (nx:Int))) oI).data=.fields #[.int nx 0,.int i 0,.ref a,.int es.size 0,.int ep 0]:=by rw [Obj.data_mapFields hd];simp [rawInt]
 have g1:=Heap.get?_update_self (Obj.mapFields (·.setIfInBounds 0 (rawInt (nx:Int)))) ho (Obj.isFreed_of_fields (Obj.data_mapFields hd _))
 refine wpAny_bind (wpAny_setField g1 d1 (by simp) ?_)
 refine wpAny_pure ⟨_,rfl,wpAny_pure (q _ ⟨_,Heap.get?_update_self _ g1 (Obj.isFreed_of_fields (Obj.data_mapFields d1 _)),?_,?_⟩ ((Heap.SameBut.update ..).trans (Heap.SameBut.update ..)))⟩
 ·exact (Obj.cls_mapFields ..).trans ((Obj.cls_mapFields ..).trans hc)
 ·rw [Obj.data_mapFields d1];simp [rawInt]
theorem lF {Q:Option Value->Shared->Prop} {s0:Shared} (hh:A.handled=none) (hk:∀ b o,b ≠ I->s0.heap.get? b=some o->s.heap.get? b=some o)
  (q:∀ h',(∀ b o,b ≠ I->s0.heap.get? b=some o->h'.get? b=some o)->Q none { s with heap:=h' }) :
  wpAny (model prog w) A.in1 (newExc (.type "StopIteration") [] >>= fun e=>(raiseNew e:Sem Fin)) (fun _ _=>False)
   (fun e s'=>wpAny (model prog w) A (isInstance e (.type "StopIteration") >>= fun b=>if b=true then pure none else throw e) Q E s') s:=by
 refine wpAny_bind ?_
 simp only [newExc,newTuple]
 refine wpAny_bind (wpAny_newObj_type ?_ (by size_fits))
 refine wpAny_bind (m:=firstArgMember _ _) (wpAny_of_eq (a:=Value.none) (by first | rfl | (simp only [firstArgMember];rfl)) ?_)
 refine wpAny_newObj_type ?_ (by size_fits)
 simp only [raiseNew]
 refine wpAny_bind (wpAny_handled ?_)
 rw [show A.in1.handled=none from hh]
 refine wpAny_bind (wpAny_pure (wpAny_throw ?_))
 refine wpAny_bind (wpAny_isInstance (T := "StopIteration") (b:=true) ⟨_,Heap.get?_push_size _ rfl,rfl⟩ isSubtype_stop ?_)
 exact wpAny_pure (q _ fun b o hb e=>Heap.get?_push_of_some _ (Heap.get?_push_of_some _ (hk b o hb e)))
theorem rZ {slot i:Nat} {Q:Option Value->Shared->Prop} (hh:A.handled=none) (hit:eN s.heap I (.int slot 0) i a es.size ep) (S:cZ knd s.heap a ks o es ep t)
  (hn:∀ (A:Around) (E:Value->Shared->Prop) (Q:Option (Value × Nat)->Shared->Prop),Q none s->wpAny (model prog w) A (setNext a slot i ep) Q E s)
  (q:∀ h',(∀ b o,b ≠ I->s.heap.get? b=some o->h'.get? b=some o)->Q none { s with heap:=h' }):wpAny (model prog w) A (pyNext (.ref I)) Q E s:=by
 obtain⟨oI,ho,hc,hd⟩:=id hit
 unfold pyNext
 refine wpAny_bind (wpAny_attempt (wpAny_callSpecial?_slot (name:=Str.ofString "__next__") hit.type slot_next (wpAny_call_entry slot_next hit.type entry_next ?_ (args_next _))))
 unfold Builtin.«set_iterator.__next__»
 refine wpAny_bind (wpAny_pure ?_)
 refine wpAny_bind (wpAny_fieldsOf ho hd ?_)
 dsimp only
 refine wpAny_bind (wpAny_setEntries_of S.at_ S.data S.fits ?_)
 rw [if_neg (by simp)]
 simp only [Int.toNat_natCast]
 refine wpAny_bind (hn _ _ _ ?_)
 dsimp only
 refine wpAny_bind (wpAny_setField ho hd (by simp) ?_)
 refine wpAny_mono (lF (I:=I) (s0:=s) (E:=E) (Q:=Q) hh (fun b o hb e=>(Heap.get?_update_other _ _ (Ne.symm hb)).trans e) fun h' k=>q h' k) (fun _ _ z=>z.elim) fun e s' z=>z
theorem vU {T:Addr} {i k:Nat} {oT:Obj} {its:Array Value} {c:Nat} {x:Int × Value} {Q:Option Value->Shared->Prop} (hit:eN s.heap I (.ref T) i a es.size ep) (S:cZ knd s.heap a ks o es ep t)
  (hT:s.heap.get? T=some oT) (dT:oT.data=.seq its c) (hk:its[i]? = some (.int k 0)) (hx:es[k]? = some x)
  (q:∀ h',eN h' I (.ref T) (i+1) a es.size ep->Heap.SameBut I s.heap h'->Q (some x.2) { s with heap:=h' }):wpAny (model prog w) A (pyNext (.ref I)) Q E s:=by
 obtain⟨oI,ho,hc,hd⟩:=id hit
 unfold pyNext
 refine wpAny_bind (wpAny_attempt (wpAny_callSpecial?_slot (name:=Str.ofString "__next__") hit.type slot_next (wpAny_call_entry slot_next hit.type entry_next ?_ (args_next _))))
 unfold Builtin.«set_iterator.__next__»
 refine wpAny_bind (wpAny_pure ?_)
 refine wpAny_bind (wpAny_fieldsOf ho hd ?_)
 dsimp only
 refine wpAny_bind (wpAny_setEntries_of S.at_ S.data S.fits ?_)
 rw [if_neg (by simp)]
 refine wpAny_bind (wpAny_seqItems hT dT ?_)
 dsimp only
 simp only [Int.toNat_natCast]
 rw [hk]
 dsimp only
 simp only [Int.toNat_natCast]
 refine wpAny_bind (yL S hx ?_)
 refine wpAny_bind (wpAny_setField ho hd (by simp) ?_)
 refine wpAny_pure ⟨_,rfl,wpAny_pure (q _ ⟨_,Heap.get?_update_self _ ho (Obj.isFreed_of_fields (Obj.data_mapFields hd _)),?_,?_⟩ (Heap.SameBut.update ..))⟩
 ·exact (Obj.cls_mapFields ..).trans hc
 ·rw [Obj.data_mapFields hd];simp [rawInt]
theorem xC {T:Addr} {i:Nat} {oT:Obj} {its:Array Value} {c:Nat} {Q:Option Value->Shared->Prop} (hh:A.handled=none) (hit:eN s.heap I (.ref T) i a es.size ep) (S:cZ knd s.heap a ks o es ep t)
  (hT:s.heap.get? T=some oT) (dT:oT.data=.seq its c) (hk:its[i]? = none)
  (q:∀ h',(∀ b o,b ≠ I->s.heap.get? b=some o->h'.get? b=some o)->Q none { s with heap:=h' }):wpAny (model prog w) A (pyNext (.ref I)) Q E s:=by
 obtain⟨oI,ho,hc,hd⟩:=id hit
 unfold pyNext
 refine wpAny_bind (wpAny_attempt (wpAny_callSpecial?_slot (name:=Str.ofString "__next__") hit.type slot_next (wpAny_call_entry slot_next hit.type entry_next ?_ (args_next _))))
 unfold Builtin.«set_iterator.__next__»
 refine wpAny_bind (wpAny_pure ?_)
 refine wpAny_bind (wpAny_fieldsOf ho hd ?_)
 dsimp only
 refine wpAny_bind (wpAny_setEntries_of S.at_ S.data S.fits ?_)
 rw [if_neg (by simp)]
 refine wpAny_bind (wpAny_seqItems hT dT ?_)
 dsimp only
 simp only [Int.toNat_natCast]
 rw [hk]
 dsimp only
 refine wpAny_bind (wpAny_setField ho hd (by simp) ?_)
 have d1:(Obj.mapFields (·.setIfInBounds 0 (rawInt 0)) oI).data=.fields #[.int 0 0,.int i 0,.ref a,.int es.size 0,.int ep 0]:=by rw [Obj.data_mapFields hd];simp [rawInt]
 have g1:=Heap.get?_update_self (Obj.mapFields (·.setIfInBounds 0 (rawInt 0))) ho (Obj.isFreed_of_fields (Obj.data_mapFields hd _))
 refine wpAny_bind (wpAny_setField g1 d1 (by simp) ?_)
 refine wpAny_mono (lF (I:=I) (s0:=s) (E:=E) (Q:=Q) hh (fun b o hb e=>(Heap.get?_update_other _ _ (Ne.symm hb)).trans ((Heap.get?_update_other _ _ (Ne.symm hb)).trans e)) fun h' k=>q h' k) (fun _ _ z=>z.elim) fun e s' z=>z
theorem mL:Slot "set_iterator" "__iter__" "set_iterator.__iter__" :=
  Slot.of (owner := "set_iterator") (n := "__iter__")
    (by rw [typeLookup_type,builtinLookup_eq_fast]
        kernel_rfl)
    (by decide +kernel)
    (by decide +kernel)
    (by decide +kernel)
    (by first
      | exact .inl (by decide +kernel)
      | exact .inr (by decide +kernel))
    (by rw [isSubtype_type]
        kernel_rfl)
theorem qM:entryFor table "set_iterator.__iter__" = some Builtin.«dict_keyiterator.__iter__» :=
 entryFor_alias (id' := "dict_keyiterator.__iter__")
  (by kernel_rfl) rfl
  (by decide +kernel)
  (by kernel_rfl)
theorem sP (v:Value):argsOk "set_iterator.__iter__" ⟨[v],[]⟩:=by
 unfold argsOk
 rw [signature?_of (id := "set_iterator.__iter__") (n:=['_','_','r','e','t','i','_','_']) (o:=['r','o','t','a','r','e','t','i','_','t','e','s'])
  (by kernel_rfl) n5]
 kernel_rfl
theorem ki {first:Value} {i:Nat} {Q:Value->Shared->Prop} {n:Nat} (hit:eN s.heap I first i a n ep) (q:Q (.ref I) s):wpAny (model prog w) A (pyIter (.ref I)) Q E s:=by
 refine wpAny_pyIter_slot hit.type mL (wpAny_call_entry mL hit.type qM ?_ (sP _))
 show wpAny _ _ (ret (.ref I)) _ _ s
 exact wpAny_pure ⟨_,rfl, "set_iterator",_,hit.type,slot_next.lookup,q⟩
theorem yM (hh:A.handled=none) (hI:a ≠ I) (hb:w.params.followText "set-order" = true) (nd:True) :
  Walks prog w A I [I,a] [I] es.size (fun i v=>∃ e,(pickOrder (w.params.setOrder a ep) es)[i]? = some e/\e.2=v) (fun i h=>eN h I (.int 0 0) i a es.size ep/\cZ knd h a ks o es ep t) where
 sub:=fun b hb=>by simp at hb;simp [hb]
 frame:=fun _ _ _ st k=>⟨st.1.keep fun o e=>k I (by simp) o e,st.2.keep fun o e=>k a (by simp) o e⟩
 item:=fun i s Q E hi st q=>by
  have z:(pickOrder (w.params.setOrder a ep) es).size=es.size:=by have:=(gU (w.params.setOrder a ep) es).length_eq;simpa using this
  have g:(pickOrder (w.params.setOrder a ep) es)[i]? = some ((pickOrder (w.params.setOrder a ep) es)[i]'(by omega)):=by simp
  refine qc (slot:=0) (nx:=0) st.1 st.2 (fun A E Q h=>ux st.2 hb (by rw [g];exact h)) fun h' hit' sb=>?_
  exact q _ h' s.toks ⟨_,g,rfl⟩ ⟨hit',st.2.keep fun o e=>sb.extBut a o hI e⟩ fun b o hb e=>sb.extBut b o (fun z=>hb (by simp [z])) e
 done:=fun s Q E st q=>by
  have z:(pickOrder (w.params.setOrder a ep) es).size=es.size:=by have:=(gU (w.params.setOrder a ep) es).length_eq;simpa using this
  refine rZ (slot:=0) hh st.1 st.2 (fun A E Q h=>ux st.2 hb (by rw [Array.getElem?_eq_none (by omega)];exact h)) fun h' k=>?_
  exact q h' s.toks fun b o hb e=>k b o (fun z=>hb (by simp [z])) e
 self:=fun _ _ _ _ st q=>ki st.1 q
theorem lS {α : Type} {es:Array α}:∀ {ys:List Nat},(∀ k ∈ ys,k < es.size)->∀ i:Nat,(ys.filterMap fun k=>es[k]?)[i]? = (ys[i]?).bind fun k=>es[k]?
 | [],_,i=>by simp
 | y :: ys,h,i=>by
  have hy:es[y]? = some (es[y]'(h y (List.mem_cons_self ..))):=by simp
  rw [List.filterMap_cons,hy]
  cases i with
  | zero=>simp
  | succ i =>
   have:=lS (ys:=ys) (fun k hk=>h k (List.mem_cons_of_mem _ hk)) i
   simpa using this
def mM (t:SetTable):Nat->Nat
 | 0=>0
 | i+1=>t.place.getD i 0+1
theorem mN {t:SetTable} (up:Up t.place) {i:Nat} (h:i<=t.place.size):SetTable.below t.place (mM t i)=i:=by
 cases i with
 | zero=>exact sN up
 | succ i =>
  have hi:i < t.place.size:=by omega
  have e:t.place[i]? = some (t.place.getD i 0):=by simp [Array.getD,hi]
  exact sM up e
theorem yN (hh:A.handled=none) (hI:a ≠ I) (hb:w.params.followText "set-order" = false) (hd:t.plain=true\/es.size<=1) (hf:t.fits es.size=true) (hr:Rp t) :
  Walks prog w A I [I,a] [I] es.size (fun i v=>∃ e,es[i]? = some e/\e.2=v) (fun i h=>eN h I (.int (mM t i) 0) i a es.size ep/\cZ knd h a ks o es ep t) where
 sub:=fun b hb=>by simp at hb;simp [hb]
 frame:=fun _ _ _ st k=>⟨st.1.keep fun o e=>k I (by simp) o e,st.2.keep fun o e=>k a (by simp) o e⟩
 item:=fun i s Q E hi st q=>by
  have z:t.place.size=es.size:=by simp only [SetTable.fits,Bool.and_eq_true,beq_iff_eq] at hf;exact hf.1
  have up:Up t.place:=by
   rcases hd with c | c
   ·exact hr c
   ·exact Up.bc (by omega)
  have g:es[i]? = some es[i]:=by simp [hi]
  have gp:t.place[i]? = some (t.place.getD i 0):=by simp [Array.getD,z,hi]
  refine qc (slot:=mM t i) (nx:=mM t (i+1)) (x:=es[i].2) st.1 st.2 (fun A E Q h=>uy st.2 hb hd (mN up (by omega)) (by rw [g,gp];exact h)) fun h' hit' sb=>?_
  exact q _ h' s.toks ⟨_,g,rfl⟩ ⟨hit',st.2.keep fun o e=>sb.extBut a o hI e⟩ fun b o hb e=>sb.extBut b o (fun z=>hb (by simp [z])) e
 done:=fun s Q E st q=>by
  have z:t.place.size=es.size:=by simp only [SetTable.fits,Bool.and_eq_true,beq_iff_eq] at hf;exact hf.1
  have up:Up t.place:=by
   rcases hd with c | c
   ·exact hr c
   ·exact Up.bc (by omega)
  refine rZ (slot:=mM t es.size) hh st.1 st.2 (fun A E Q h=>uy st.2 hb hd (mN up (by omega)) (by rw [Array.getElem?_eq_none (Nat.le_refl _)];exact h)) fun h' k=>?_
  exact q h' s.toks fun b o hb e=>k b o (fun z=>hb (by simp [z])) e
 self:=fun _ _ _ _ st q=>ki st.1 q
theorem yO {T:Addr} {oT:Obj} {ys:List Nat} (hh:A.handled=none) (hI:a ≠ I) (hT:T ≠ I) (dT:oT.data=.seq (ys.map fun (i:Nat)=>rawInt i).toArray 0) (hp:ys.Perm (List.range es.size)) :
  Walks prog w A I [I,a,T] [I] es.size (fun i v=>∃ e,((ys.filterMap fun k=>es[k]?))[i]? = some e/\e.2=v) (fun i h=>eN h I (.ref T) i a es.size ep/\cZ knd h a ks o es ep t/\h.get? T=some oT) where
 sub:=fun b hb=>by simp at hb;simp [hb]
 frame:=fun _ _ _ st k=>⟨st.1.keep fun o e=>k I (by simp) o e,st.2.1.keep fun o e=>k a (by simp) o e,k T (by simp) _ st.2.2⟩
 item:=fun i s Q E hi st q=>by
  have hl:ys.length=es.size:=by rw [hp.length_eq,List.length_range]
  have hin:∀ k ∈ ys,k < es.size:=fun k hk=>List.mem_range.mp (hp.mem_iff.mp hk)
  have h1:ys[i]? = some (ys[i]'(by omega)):=by simp
  have hk:ys[i]'(by omega) < es.size:=hin _ (List.getElem_mem _)
  generalize ys[i]'(by omega)=k at h1 hk
  have hx:es[k]? = some es[k]:=by simp [hk]
  have hv:(ys.filterMap fun k=>es[k]?)[i]? = some es[k]:=by
   rw [lS hin,h1]
   exact hx
  refine vU (k:=k) (x:=es[k]) st.1 st.2.1 st.2.2 dT (by simp [h1,rawInt]) hx fun h' hit' sb=>?_
  exact q _ h' s.toks ⟨_,hv,rfl⟩ ⟨hit',st.2.1.keep fun o e=>sb.extBut a o hI e,sb.extBut T _ hT st.2.2⟩ fun b o hb e=>sb.extBut b o (fun z=>hb (by simp [z])) e
 done:=fun s Q E st q=>by
  have hl:ys.length=es.size:=by rw [hp.length_eq,List.length_range]
  refine xC hh st.1 st.2.1 st.2.2 dT (by simp [hl]) fun h' k=>?_
  exact q h' s.toks fun b o hb e=>k b o (fun z=>hb (by simp [z])) e
 self:=fun _ _ _ _ st q=>ki st.1 q
theorem kj {b x y:Addr} (h:b ∈ [x,y]):b=x\/b=y:=by simpa using h
theorem vV {b x y z:Addr} (h:b ∈ [x,y,z]):b=x\/b=y\/b=z:=by simpa using h
theorem sQ:entryFor table "set.__iter__" = some Builtin.«frozenset.__iter__» :=
 entryFor_alias (id' := "frozenset.__iter__")
  (by kernel_rfl) rfl
  (by decide +kernel)
  (by kernel_rfl)
theorem cZ.typeIs (S:cZ knd s.heap a ks o es ep t):s.TypeIs (.ref a) "set" := ⟨o,S.at_,S.ex.1⟩
theorem qN {Q:Bool->Shared->Prop} (S:cZ knd s.heap a ks o es ep t) (q:Q (!(w.params.followText "set-order") && (!t.plain && decide (es.size > 1))) s):wpAny (model prog w) A (setDrawn a) Q E s:=by
 unfold setDrawn
 refine wpAny_bind (wpAny_setState_of S.at_ S.data S.fits ?_)
 dsimp only
 exact wpAny_bind (kS (wpAny_pure q))
def Comes (es:Array (Int × Value)) (P:Nat->Value->Prop):Prop:=∃ l:List (Int × Value),l.Perm es.toList/\P=fun i v=>∃ e,l[i]? = some e/\e.2=v
theorem vW {Q:Value->Shared->Prop} (hh:A.handled=none) (S:cZ knd s.heap a ks o es ep t)
  (q:∀ (I:Addr) (h':Heap) (d:_) (fp:List Addr) (P:Nat->Value->Prop) (St:Nat->Heap->Prop),(∀ b o,s.heap.get? b=some o->h'.get? b=some o)->s.heap.objs.size<=I->(∀ b ∈ fp,b < h'.objs.size)->(∀ b,h'.objs.size<=b->b ∉ fp) ->
   (∀ b ∈ fp,b=a\/s.heap.objs.size<=b)->Comes es P->(∀ A:Around,A.handled=none->Walks prog w A I fp [I] es.size P St)->St 0 h'->Q (.ref I) { s with heap:=h',drawn:=d }) :
  wpAny (model prog w) A (pyIter (.ref a)) Q E s:=by
 have la:a < s.heap.objs.size:=Heap.lt_size S.at_
 refine wpAny_pyIter_slot S.typeIs PySem.F.slot_set_iter (wpAny_call_entry PySem.F.slot_set_iter S.typeIs sQ ?_ (PySem.F.args_set_iter_1 _))
 unfold Builtin.«frozenset.__iter__»
 refine wpAny_bind ?_
 unfold Builtin.Frozenset.slot0
 refine wpAny_bind (wpAny_pure ?_)
 refine wpAny_pure ?_
 refine wpAny_bind ?_
 unfold Builtin.Frozenset.sizeOf
 refine wpAny_bind (wpAny_setEntries_of S.at_ S.data S.fits (wpAny_pure ?_))
 refine wpAny_bind (qN S ?_)
 cases hb:w.params.followText "set-order" with
 | true =>
  rw [Bool.not_true,Bool.false_and,if_neg Bool.false_ne_true]
  refine wpAny_bind (wpAny_pure ?_)
  refine wpAny_bind (wpAny_setEpoch_of S.at_ S.data S.fits ?_)
  refine wpAny_bind ?_
  simp only [newFields]
  refine wpAny_newObj_type (wpAny_pure ⟨_,rfl, "set_iterator",_,⟨_,Heap.get?_push_size _ rfl,rfl⟩,slot_next.lookup,?_⟩) (by size_fits)
  refine q _ _ s.drawn [s.heap.objs.size,a] _ _ (fun b o e=>Heap.get?_push_of_some _ e) (Nat.le_refl _) (fun b hb=>?_) (fun b hb hm=>?_) (fun b hb=>?_) ⟨_,gU (w.params.setOrder a ep) es,?_⟩ (fun A hh=>yM (knd:=knd) (ks:=ks) (o:=o) (t:=t) hh (Nat.ne_of_lt la) hb trivial) ⟨⟨_,Heap.get?_push_size _ rfl,rfl,rfl⟩,S.keep fun o e=>Heap.get?_push_of_some _ e⟩
  ·rw [Heap.size_push]
   rcases kj hb with e | e
   ·rw [e];exact Nat.lt_succ_self _
   ·rw [e];exact Nat.lt_succ_of_lt la
  ·rw [Heap.size_push] at hb
   rcases kj hm with e | e
   ·rw [e] at hb;exact Nat.not_succ_le_self _ hb
   ·rw [e] at hb;exact Nat.lt_irrefl _ (Nat.lt_of_lt_of_le la (Nat.le_of_succ_le hb))
  ·rcases kj hb with e | e
   ·exact .inr (by rw [e];exact Nat.le_refl _)
   ·exact .inl e
  ·funext i v;simp
 | false =>
  rw [Bool.not_false,Bool.true_and]
  by_cases hd:(!t.plain && decide (es.size > 1))=true
  ·rw [hd,if_pos rfl]
   refine wpAny_bind (zt es.size (List.range es.size) s (by simp) fun ys d hp=>?_)
   have hz:(ys.map fun (i:Nat)=>rawInt i).length<=sizeLine:=by rw [List.length_map,hp.length_eq,List.length_range];exact fits_of_scanBound S.bc
   refine wpAny_bind (wpAny_newTuple ?_ hz)
   have S1:cZ knd (s.heap.push { cls:=.type "tuple",data:=.seq (ys.map fun (i:Nat)=>rawInt i).toArray }) a ks o es ep t:=S.keep fun o e=>Heap.get?_push_of_some _ e
   refine wpAny_bind (wpAny_setEpoch_of S1.at_ S1.data S1.fits ?_)
   refine wpAny_bind ?_
   simp only [newFields]
   refine wpAny_newObj_type (wpAny_pure ⟨_,rfl, "set_iterator",_,⟨_,Heap.get?_push_size _ rfl,rfl⟩,slot_next.lookup,?_⟩) (by size_fits)
   refine q _ _ d [(s.heap.push { cls:=.type "tuple",data:=.seq (ys.map fun (i:Nat)=>rawInt i).toArray }).objs.size,a,s.heap.objs.size] _ _ (fun b o e=>Heap.get?_push_of_some _ (Heap.get?_push_of_some _ e)) (by rw [Heap.size_push];exact Nat.le_succ _) (fun b hb=>?_) (fun b hb hm=>?_) (fun b hb=>?_) ⟨ys.filterMap fun k=>es[k]?,?_,rfl⟩
    (fun A hh=>yO (knd:=knd) (ks:=ks) (o:=o) (t:=t) (oT:={ cls:=.type "tuple",data:=.seq (ys.map fun (i:Nat)=>rawInt i).toArray }) hh (by rw [Heap.size_push];exact Nat.ne_of_lt (Nat.lt_succ_of_lt la)) (by rw [Heap.size_push];exact Nat.ne_of_lt (Nat.lt_succ_self _)) rfl hp) ⟨⟨_,Heap.get?_push_size _ rfl,rfl,rfl⟩,S1.keep fun o e=>Heap.get?_push_of_some _ e,Heap.get?_push_of_some _ (Heap.get?_push_size _ rfl)⟩
   ·rw [Heap.size_push,Heap.size_push]
    rcases vV hb with e | e | e
    ·rw [e,Heap.size_push];exact Nat.lt_succ_self _
    ·rw [e];exact Nat.lt_succ_of_lt (Nat.lt_succ_of_lt la)
    ·rw [e];exact Nat.lt_succ_of_lt (Nat.lt_succ_self _)
   ·rw [Heap.size_push,Heap.size_push] at hb
    rcases vV hm with e | e | e
    ·rw [e,Heap.size_push] at hb;exact Nat.not_succ_le_self _ hb
    ·rw [e] at hb;exact Nat.lt_irrefl _ (Nat.lt_of_lt_of_le la (Nat.le_of_succ_le (Nat.le_of_succ_le hb)))
    ·rw [e] at hb;exact Nat.not_succ_le_self _ (Nat.le_of_succ_le hb)
   ·rcases vV hb with e | e | e
    ·exact .inr (by rw [e,Heap.size_push];exact Nat.le_succ _)
    ·exact .inl e
    ·exact .inr (by rw [e];exact Nat.le_refl _)
   ·refine (hp.filterMap _).trans ?_
    have:((List.range es.size).filterMap fun k=>es[k]?)=es.toList:=by
     refine List.ext_getElem? fun i=>?_
     rw [lS (fun k hk=>List.mem_range.mp hk)]
     by_cases hi:i < es.size
     ·rw [List.getElem?_range hi];simp
     ·rw [List.getElem?_eq_none (by simp;omega),List.getElem?_eq_none (by simp;omega)];rfl
    rw [this]
  ·rw [if_neg hd]
   refine wpAny_bind (wpAny_pure ?_)
   refine wpAny_bind (wpAny_setEpoch_of S.at_ S.data S.fits ?_)
   refine wpAny_bind ?_
   simp only [newFields]
   refine wpAny_newObj_type (wpAny_pure ⟨_,rfl, "set_iterator",_,⟨_,Heap.get?_push_size _ rfl,rfl⟩,slot_next.lookup,?_⟩) (by size_fits)
   have hd':t.plain=true\/es.size<=1:=by
    cases hp:t.plain with
    | true=>exact .inl rfl
    | false=>right;rw [hp] at hd;simp at hd;exact hd
   refine q _ _ s.drawn [s.heap.objs.size,a] _ _ (fun b o e=>Heap.get?_push_of_some _ e) (Nat.le_refl _) (fun b hb=>?_) (fun b hb hm=>?_) (fun b hb=>?_) ⟨es.toList,.refl _,?_⟩ (fun A hh=>yN (knd:=knd) (ks:=ks) (o:=o) (t:=t) hh (Nat.ne_of_lt la) hb hd' S.fits S.up) ⟨⟨_,Heap.get?_push_size _ rfl,rfl,rfl⟩,S.keep fun o e=>Heap.get?_push_of_some _ e⟩
   ·rw [Heap.size_push]
    rcases kj hb with e | e
    ·rw [e];exact Nat.lt_succ_self _
    ·rw [e];exact Nat.lt_succ_of_lt la
   ·rw [Heap.size_push] at hb
    rcases kj hm with e | e
    ·rw [e] at hb;exact Nat.not_succ_le_self _ hb
    ·rw [e] at hb;exact Nat.lt_irrefl _ (Nat.lt_of_lt_of_le la (Nat.le_of_succ_le hb))
   ·rcases kj hb with e | e
    ·exact .inr (by rw [e];exact Nat.le_refl _)
    ·exact .inl e
   ·funext i v;simp
theorem vX {Q:Bool->Shared->Prop} (hT:s.TypeIs (.ref a) "set") (q:Q false s):wpAny (model prog w) A (Builtin.List.listLengthHint (.ref a)) Q E s:=by
 unfold Builtin.List.listLengthHint
 refine wpAny_bind (wpAny_specialOf hT PySem.F.slot_set_len.lookup ?_)
 generalize hid:("set.__len__" : String)=id0
 wp_delta
 rw [show splitId id0=some ("set", "__len__") from by subst hid;decide +kernel]
 subst hid
 refine wpAny_bind (wpAny_isInstance (T := "set") (b:=true) hT sub_set_self ?_)
 refine wpAny_ite_split (fun hab=>absurd hab (by decide)) (fun _=>?_)
 refine wpAny_ite_split (fun _=>?_) (fun hab=>absurd (by decide +kernel) hab)
 refine wpAny_bind (wpAny_typeOf hT ?_)
 exact wpAny_pure q
end
open PySem.Calls PySem.W
section
variable {prog:Program} {w:World} {K:Type} [DecidableEq K] {knd:KeyKind prog w K}
variable {A:Around} {E:Value->Shared->Prop} {s:Shared} {a:Addr} {ks:List K} {o:Obj} {es:Array (Int × Value)} {ep:Nat} {t:SetTable}
theorem qO {P:Nat->Value->Prop} {got:Array Value} (hc:Comes es P) (hi:ItemsOf P got es.size):∃ l:List (Int × Value),l.Perm es.toList/\got.toList=l.map (·.2):=by
 obtain⟨l,hp,rfl⟩:=hc
 refine⟨l,hp,?_⟩
 have hl:l.length=es.size:=by rw [hp.length_eq,Array.length_toList]
 refine List.ext_getElem? fun i=>?_
 rw [List.getElem?_map]
 by_cases h:i < es.size
 ·have e1:got.toList[i]? = some (got[i]'(by rw [hi.1];exact h)):=by simp [hi.1,h]
  obtain⟨e,he,hv⟩:=hi.2 i _ (by rw [<-Array.getElem?_toList];exact e1)
  rw [e1,he,<-hv];rfl
 ·rw [List.getElem?_eq_none (by rw [Array.length_toList,hi.1];omega),List.getElem?_eq_none (by omega)];rfl
theorem sR {R:Result->Shared->Prop} (hh:A.handled=none) (S:cZ knd s.heap a ks o es ep t) (L:Addr) (hLa:L ≠ a) (hL:s.heap.get? L=some { cls:=.type "list",data:=.seq #[] 0 }) (res:Value)
  (fin:∀ (g:Heap) (tk:Nat) (d:_) (got:Array Value) (c:Nat),(∀ b o,b ≠ L->s.heap.get? b=some o->g.get? b=some o)->g.get? L=some { cls:=.type "list",dict:=none,data:=.seq got c,slots:=#[] } ->
   (∃ l:List (Int × Value),l.Perm es.toList/\got.toList=l.map (·.2))->R (.ok (.ret res)) { s with heap:=g,toks:=tk,drawn:=d }) :
  wpAny (model prog w) A.in1 (Builtin.List.listExtendWith (.ref L) (.ref a) res)
   (fun fin s'=>match fin with | .done f=>R (.ok f) s' | .again c'=>c'.quiet=true/\codeAny (model prog w) A c' R s') (fun e s'=>R (.error e) s') s:=by
 have hz:es.size<=sizeLine:=fits_of_scanBound S.bc
 unfold Builtin.List.listExtendWith
 refine wpAny_bind (wpAny_typeOf S.typeIs ?_)
 have h1:Builtin.List.listSameRef (.ref L) (.ref a)=false:=by simp [Builtin.List.listSameRef,hLa]
 rw [h1]
 have h2:(Value.type "set" == Value.type "list")=false:=by decide
 have h3:(Value.type "set" == Value.type "tuple")=false:=by decide
 rw [h2,h3]
 rw [if_neg (by decide)]
 refine wpAny_bind (vW (A:=A.in1) hh S fun I h1 d fp P St keep hI hfp hnew hof hc W st=>?_)
 have hLlt:L < s.heap.objs.size:=Heap.lt_size hL
 have hLf:L ∉ fp:=fun hm=>by
  rcases hof L hm with e | e
  ·exact hLa e
  ·exact Nat.lt_irrefl _ (Nat.lt_of_lt_of_le hLlt e)
 have hLI:L ≠ I:=fun e=>Nat.lt_irrefl _ (Nat.lt_of_lt_of_le hLlt (e ▸ hI))
 have Wk:=W A.in1 hh
 have loop:∀ (g:Heap) (c tk:Nat),St 0 g->(∀ b o,b ≠ L->s.heap.get? b=some o->g.get? b=some o)->g.get? L=some { cls:=.type "list",data:=.seq #[] c } ->
   codeAny (model prog w) A (.builtin "list.extend.loop" ⟨[.ref L,.ref I,res],[]⟩) R { s with heap:=g,toks:=tk,drawn:=d }:=by
  intro g c tk st' kp gL
  refine codeAny_extend_loopS Wk.toS hz L hLf res es.size 0 _ #[] c rfl (Nat.zero_le _) st' gL (ItemsOf.nil _) fun s' got c' mv gL' its=>?_
  have e:=Moved.eq_with mv
  rw [e]
  refine fin s'.heap s'.toks d got c' (fun b o hb e=>mv.heap b o (fun hm=>?_) (kp b o hb e)) gL' (qO hc its)
  rcases List.mem_cons.mp hm with e' | hm
  ·exact hb e'
  ·rw [List.mem_singleton] at hm
   subst hm
   exact Nat.lt_irrefl _ (Nat.lt_of_lt_of_le (Heap.lt_size e) hI)
 have gL1:=keep _ _ hL
 refine wpAny_bind (wpAny_holding (vX ⟨o,keep _ _ S.at_,S.ex.1⟩ ?_))
 refine wpAny_ite_split (fun _=>?_) (fun _=>wpAny_pure ⟨plainId_quiet PySem.F.plain_extend_loop _,loop _ 0 _ st (fun b o _ e=>keep b o e) gL1⟩)
 refine wpAny_bind (wpAny_rule ?_)
 refine wpAny_bind ?_
 show wpAny _ _ (updateSeq L (·.push .none) >>= fun _=>updateSeq L (·.pop)) _ _ _
 refine wpAny_bind (wpAny_updateSeq gL1 rfl ?_)
 have gL2:=Heap.get?_update_self (Obj.mapSeq (·.push Value.none)) gL1 rfl
 refine wpAny_updateSeq (hz:=by seq_fits) gL2 rfl ?_
 have gL3:=Heap.get?_update_self (Obj.mapSeq (·.pop)) gL2 rfl
 refine wpAny_pure ⟨plainId_quiet PySem.F.plain_extend_loop _,loop _ _ _ ?_ (fun b o hb e=>?_) gL3⟩
 ·refine Wk.frame 0 _ _ st fun b hb o e=>?_
  have hbL:b ≠ L:=fun h=>hLf (h ▸ hb)
  exact (Heap.get?_update_other _ _ (Ne.symm hbL)).trans ((Heap.get?_update_other _ _ (Ne.symm hbL)).trans e)
 ·exact (Heap.get?_update_other _ _ (Ne.symm hb)).trans ((Heap.get?_update_other _ _ (Ne.symm hb)).trans (keep b o e))
theorem sS {G:List Value->Shared->Prop} (calm:A.handled=none) (S:cZ knd s.heap a ks o es ep t)
  (fin:∀ (g:Heap) (tk:Nat) (d:_) (got:Array Value),(∀ b o,s.heap.get? b=some o->g.get? b=some o)->(∃ l:List (Int × Value),l.Perm es.toList/\got.toList=l.map (·.2))->s.heap.objs.size<=g.objs.size->G got.toList { s with heap:=g,toks:=tk,drawn:=d }) :
  wpAny (model prog w) A (collect (.ref a)) G E s:=by
 have la:a < s.heap.objs.size:=Heap.lt_size S.at_
 unfold collect
 refine wpAny_bind (wpAny_runValue (codeAny_builtin entry_proto_collect' ?_))
 rw [Around.under_plainId PySem.F.plain_proto_collect _]
 show wpAny _ A.in1 (newList [] >>= fun z=>again (.builtin "list.__iadd__" ⟨[z,.ref a],[]⟩)) _ _ s
 refine wpAny_bind (wpAny_newObj_type (wpAny_pure ⟨plainId_quiet PySem.F.plain_list_iadd _,codeAny_builtin entry_list_iadd' ?_⟩))
 rw [Around.under_plainId PySem.F.plain_list_iadd _]
 show wpAny _ A.in1 (Builtin.List.listExtendWith (.ref s.heap.objs.size) (.ref a) (.ref s.heap.objs.size)) _ _ _
 have made:(s.heap.push { cls:=.type "list",data:=.seq ([]:List Value).toArray }).get? s.heap.objs.size=some { cls:=.type "list",data:=.seq #[] 0 }:=Heap.get?_push_size _ rfl
 have run:=sR (A:=A) (s:={ s with heap:=s.heap.push { cls:=.type "list",data:=.seq ([]:List Value).toArray } })
  (R:=fun (z:Result) (t:Shared)=>∃ (g:Heap) (tk:Nat) (d:_) (got:Array Value) (c:Nat),z=.ok (.ret (.ref s.heap.objs.size))/\t = { s with heap:=g,toks:=tk,drawn:=d } /\
   (∀ b o,s.heap.get? b=some o->g.get? b=some o)/\g.get? s.heap.objs.size=some { cls:=.type "list",dict:=none,data:=.seq got c,slots:=#[] }/\∃ l:List (Int × Value),l.Perm es.toList/\got.toList=l.map (·.2))
  calm (S.keep fun o e=>Heap.get?_push_of_some _ e) s.heap.objs.size (Nat.ne_of_gt la) made (.ref s.heap.objs.size)
  (fun g tk d got c kept at_ its=>⟨g,tk,d,got,c,rfl,rfl,fun b o e=>kept b o (Nat.ne_of_lt (Heap.lt_size e)) (Heap.get?_push_of_some _ e),at_,its⟩)
 refine wpAny_mono run (fun z t x=>?_) fun z t ⟨_,_,_,_,_,bad,_⟩=>by cases bad
 cases z with
 | done f =>
  obtain⟨g,tk,d,got,c,e,rfl,kept,at_,its⟩:=x
  cases e
  show wpAny _ A (load s.heap.objs.size >>= _) _ _ _
  exact wpAny_bind (wpAny_load at_ (wpAny_pure (fin g tk d got kept its (Nat.le_of_lt (Heap.lt_size at_)))))
 | again more =>
  refine⟨x.1,codeAny_mono x.2 fun z' t' ⟨g,tk,d,got,c,e1,e2,kept,at_,its⟩=>?_⟩
  subst e1 e2
  show wpAny _ A (load s.heap.objs.size >>= _) _ _ _
  exact wpAny_bind (wpAny_load at_ (wpAny_pure (fin g tk d got kept its (Nat.le_of_lt (Heap.lt_size at_)))))
end
end LS
namespace L2
open PySem PySem.Spec PyProof.Rows LS
def mO (m:List Key):List Str:=m.filterMap fun k=>match k with | .inr x=>some x | .inl _=>none
theorem uz (ss:List Str):mO (ss.map Sum.inr)=ss:=by
 induction ss with
 | nil=>rfl
 | cons x ss ih=>show x :: mO (ss.map Sum.inr)=x :: ss;rw [ih]
theorem vY {m:List Key} {ss:List Str} (p:m.Perm (ss.map Sum.inr)):m=(mO m).map Sum.inr/\(mO m).Perm ss:=by
 refine⟨?_,by have:=p.filterMap (fun k:Key=>match k with | .inr x=>some x | .inl _=>none);rw [show List.filterMap _ (ss.map Sum.inr)=ss from uz ss] at this;exact this⟩
 have hall:∀ k ∈ m,∃ x,k=Sum.inr x:=fun k hk=>by
  obtain⟨x,_,rfl⟩:=List.mem_map.mp (p.mem_iff.mp hk)
  exact⟨x,rfl⟩
 clear p
 induction m with
 | nil=>rfl
 | cons k m ih =>
  obtain⟨x,rfl⟩:=hall k (List.mem_cons_self ..)
  have:=ih fun k hk=>hall k (List.mem_cons_of_mem _ hk)
  show Sum.inr x :: m=Sum.inr x :: (mO m).map Sum.inr
  rw [<-this]
section
variable {prog:Program} {w:World} {A:Around} {E:Value->Shared->Prop} {s:Shared} {a:Addr} {ks:List Key} {o:Obj} {es:Array (Int × Value)} {ep:Nat} {t:SetTable}
theorem vZ {got:List Value} (S:LS.cZ (aQ prog w) s.heap a ks o es ep t) (h:∃ l:List (Int × Value),l.Perm es.toList/\got=l.map (·.2)):∃ m:List Key,m.Perm ks/\Paired (fun v k=>(aQ prog w).is k v=true) got m:=by
 obtain⟨l,hp,rfl⟩:=h
 obtain⟨ls,q1,q2⟩:=S.ents
 obtain⟨m,m1,m2⟩:=jh hp q2
 refine⟨m,m1.trans q1,?_⟩
 clear hp q2 m1
 induction m2 with
 | nil=>exact .nil
 | cons r _ ih=>exact .cons r.1 ih
theorem km:∀ {got:List Value} {ss:List Str},Paired (fun v k=>(aQ prog w).is k v=true) got (ss.map Sum.inr)->StrsAre got ss
 | _,[],.nil=>.nil
 | _,x :: ss,.cons r t=>by
  obtain⟨t',rfl⟩:=jg r
  exact .cons x t' (km t)
theorem qP {ss:List Str} {Q:Value->Shared->Prop} (hh:A.handled=none) (S:LS.cZ (aQ prog w) s.heap a (ss.map Sum.inr) o es ep t) (h64:ss.length < 64)
  (q:∀ (h':Heap) (tk:Nat) (d:_) (D:Addr) (out:Array Value) (ss':List Str) (e:Nat),(∀ b o,s.heap.get? b=some o->h'.get? b=some o)->s.heap.objs.size<=D->h'.get? D=some { cls:=.type "list",data:=.seq out e } ->
   StrsAre out.toList ss'->ss'.Perm ss->sortedS ss' = true->Q (.ref D) { s with heap:=h',toks:=tk,drawn:=d }) :
  wpAny (model prog w) A (call (.builtin "sorted") [.ref a]) Q E s:=by
 refine Calls.call_function_entry kind_sorted plain_sorted entry_sorted (args_sorted1 _) ?_
 unfold Builtin.«sorted»
 refine wpAny_bind (m:=checkCount "sorted" 1 1 _) (wpAny_pure ?_)
 refine wpAny_bind (sS (A:=A.in1) hh S fun h' tk d acc hkeep hacc hsz=>?_)
 obtain⟨m,m1,m2⟩:=vZ S hacc
 obtain⟨e1,p1⟩:=vY m1
 rw [e1] at m2
 have hS:=km m2
 have hl:acc.toList.length < 64:=by rw [m2.length,List.length_map,p1.length_eq];exact h64
 refine wpAny_bind (wpAny_newList ?_ (Nat.le_trans (Nat.le_of_lt hl) (by decide)))
 have hoL:(h'.push (seqObj "list" acc.toList.toArray 0)).get? h'.objs.size=some (seqObj "list" acc.toList.toArray 0):=Heap.get?_push_size _ rfl
 refine wpAny_bind (wpAny_holding (wpAny_call_entry slot_list_sort ⟨_,hoL,rfl⟩ entry_list_sort (list_sort_treeK strKind_oneLt hoL hS.keysOf (fun v₁ v₂ rest e=>keyKind_strs (by rw [<-e];exact hS)) hl fun st' a1 a2=>⟨_,rfl,?_⟩) (args_list_sort _)))
 obtain⟨ss',b1,b2,b3⟩:=sorted_out_str hS a1 a2
 obtain⟨e,he⟩:=sortedHeap_at (out:=(arrOf st').map (·.2)) hoL
 refine wpAny_pure ⟨_,rfl,q _ tk d _ _ ss' e (fun b o ho=>?_) hsz he b1 (b2.trans p1) b3⟩
 have h1:=hkeep b o ho
 have hlt:=Heap.lt_size h1
 rw [sortedHeap_old (Nat.ne_of_lt hlt) (by rw [size_push'];exact Nat.lt_succ_of_lt hlt)]
 exact Heap.get?_push_of_some _ h1
end
def qd (P:Program) (w:World) (a:Addr) (ks:List Key):HO:=.ext fun h=>fV (aQ P w) h a ks
theorem xD {P:Program} {w:World} {H:Hp} {h:Heap} {a:Addr} {ks:List Key} (S:fV (aQ P w) h a ks):bV P w H h a (qd P w a ks) :=
 ⟨S,let ⟨o,_,_,_,S⟩:=S;⟨o,S.at_⟩,fun h1 h2 S k=>S.keep k⟩
section
variable {X:Cx} {pins:List (Addr × Obj)} {σ : List (Option V)} {H:Hp} {s:Shared}
theorem Inv.Ag {a:Addr} {ks:List Key} (I:Inv X pins σ H s) (h:H a=some (qd X.prog X.w a ks)):fV (aQ X.prog X.w) s.heap a ks:=(I.aN a _ h).1
theorem Inv.xE {d:_} (I:Inv X pins σ H s):Inv X pins σ H { s with drawn:=d }:=⟨I.ok,I.os,I.bare,I.base,I.loc,I.cell,I.free,I.d7,I.pin,I.aN,I.len⟩
theorem oB (hc:X.calm=true):fE X (.builtin "sorted") (fun vs H Q=>∃ (a:Addr) (ss:List Str),vs = [.ref a]/\H a=some (qd X.prog X.w a (ss.map Sum.inr))/\ss.length < 64 /\
  ∀ (l:Addr) (ss':List Str),ss'.Perm ss->sortedS ss' = true->H l=none->Q (.ref l) (upd H l (.lst (ss'.map V.str)))):=by
 intro pins s σ H xs us Q I r h
 obtain⟨a,ss,rfl,ha,h64,q⟩:=h
 obtain⟨u,rfl,ru⟩:=vals1 r
 cases (show u=Value.ref a from ru)
 obtain⟨o,es,ep,t,S⟩:=I.Ag ha
 refine qP (I.ok.hd hc) S h64 fun h' tk d D out ss' e hkeep hD he hS hp hs=>?_
 have hv:Vals (ss'.map V.str) out.toList:=nh hS
 refine⟨.ref D,_,(I.xE (d:=d)).laid (t':=tk) (o:=.lst (ss'.map V.str)) hkeep hD (show bV X.prog X.w _ h' _ (.lst (ss'.map V.str)) from ⟨?_,out.toList,e,hv,by simpa using he⟩),rfl,q D ss' hp hs (I.aN.fresh hD)⟩
 rw [List.length_map,hp.length_eq]
 exact Nat.le_trans (Nat.le_of_lt h64) (by decide)
end
end L2
namespace LS
open PySem PySem.Spec PyProof.Rows L2
section
variable {K:Type} [DecidableEq K]
def putIn (acc:List K) (k:K):List K:=if k ∈ acc then acc else acc ++ [k]
def de (ms:List K):List K:=ms.foldl putIn []
theorem uA {acc:List K} {k x:K}:x ∈ putIn acc k ↔ x ∈ acc\/x=k:=by
 unfold putIn
 split
 ·rename_i h
  exact⟨.inl,fun z=>z.elim id (fun e=>e ▸ h)⟩
 ·simp
theorem uB (acc:List K) (k:K):(putIn acc k).length<=acc.length+1:=by unfold putIn;split <;> simp
theorem qe:∀ (ms acc:List K) (x:K),x ∈ ms.foldl putIn acc ↔ x ∈ acc\/x ∈ ms
 | [],acc,x=>by simp
 | k :: ms,acc,x=>by
  rw [List.foldl_cons,qe ms,uA]
  simp [or_assoc]
theorem oa {ms:List K} {x:K}:x ∈ de ms ↔ x ∈ ms:=by unfold de;rw [qe];simp
theorem qf:∀ (ms acc:List K),(ms.foldl putIn acc).length<=acc.length+ms.length
 | [],acc=>by simp
 | k :: ms,acc=>by
  rw [List.foldl_cons]
  have:=qf ms (putIn acc k)
  have:=uB acc k
  simp only [List.length_cons];omega
theorem sd:∀ (ms acc:List K),acc.Nodup->(ms.foldl putIn acc).Nodup
 | [],acc,h=>h
 | k :: ms,acc,h=>by
  rw [List.foldl_cons]
  refine sd ms _ ?_
  unfold putIn
  split
  ·exact h
  ·rename_i hn
   rw [List.nodup_append]
   exact⟨h,by simp,fun a ha b hb e=>hn (by rw [List.mem_singleton] at hb;rw [<-hb,<-e];exact ha)⟩
theorem qg (ms:List K):(de ms).Nodup:=sd ms [] List.nodup_nil
end
section
variable {prog:Program} {w:World} {A:Around} {E:Value->Shared->Prop} {s:Shared}
theorem v7 {k:Key} {v:Value} (h:(aQ prog w).is k v=true):v.scannable=true:=by
 rcases cG (show iA k v=true from h) with ⟨j,t,_,rfl⟩ | ⟨x,t,_,rfl⟩ <;> rfl
theorem xF {a:Addr} {ks:List Key} {k:Key} {v:Value} {Q:Bool->Shared->Prop} (hk:(aQ prog w).is k v=true) (S:fV (aQ prog w) s.heap a ks) (room:ks.length+1 < scanBound)
  (q:∀ h',Heap.SameBut a s.heap h'->fV (aQ prog w) h' a (putIn ks k)->∀ c:Bool,Q c { s with heap:=h',toks:=s.toks+1 }):wpAny (model prog w) A (setAdd a v) Q E s:=by
 unfold setAdd
 refine wpAny_holding ?_
 refine wpAny_bind ((aQ prog w).pyHash hk ?_)
 exact sO (s:={ s with toks:=s.toks+1 }) hk (v7 hk) S room fun h' b S'=>q h' b S' _
theorem uC {I L:Addr} {fp wr:List Addr} {G:Array GenState->Array GenState->Prop} {n:Nat} {P:Nat->Value->Prop} {St:Nat->Shared->Prop} {R:Result->Shared->Prop} (W:WalksS prog w A.in1 I fp wr G n P St) (hLf:L ∉ fp)
  (ms:List Key) (hl:ms.length=n) (hm:∀ i v,P i v->∃ k,ms[i]? = some k/\(aQ prog w).is k v=true) (hb:n+1 < scanBound) :
  ∀ (k i:Nat) (s:Shared),n - i=k->i<=n->St i s->fV (aQ prog w) s.heap L (de (ms.take i)) ->
   (∀ s',Moved (L :: wr) G s s'->fV (aQ prog w) s'.heap L (de ms)->R (.ok (.ret .none)) s') ->
   codeAny (model prog w) A (.builtin "set.update.loop" ⟨[.ref L,.ref I],[]⟩) R s:=by
 have hLw:L ∉ wr:=fun h=>hLf (W.sub _ h)
 intro k
 induction k with
 | zero =>
  intro i s hk hi st S q
  have e:i=n:=by omega
  subst e
  refine codeAny_builtin PyProof.Rows.F.entry_set_update_loop ?_
  rw [Around.under_plainId PyProof.Rows.F.plain_set_update_loop _]
  show wpAny _ A.in1 (pyNext (.ref I) >>= _) _ _ s
  refine wpAny_bind (W.done s _ _ st fun s' mv=>?_)
  refine wpAny_pure (q s' (mv.mono fun b hb=>List.mem_cons_of_mem _ hb) ?_)
  rw [List.take_of_length_le (by omega)] at S
  exact S.keep fun o e=>mv.heap L _ hLw e
 | succ k ih =>
  intro i s hk hi st S q
  have hlt:i < n:=by omega
  refine codeAny_builtin PyProof.Rows.F.entry_set_update_loop ?_
  rw [Around.under_plainId PyProof.Rows.F.plain_set_update_loop _]
  show wpAny _ A.in1 (pyNext (.ref I) >>= _) _ _ s
  refine wpAny_bind (W.item i s _ _ hlt st fun v s' hP st' mv=>?_)
  obtain⟨key,hkey,his⟩:=hm i v hP
  have S':fV (aQ prog w) s'.heap L (de (ms.take i)):=S.keep fun o e=>mv.heap L _ hLw e
  refine wpAny_bind (wpAny_holding (xF his S' ?_ fun h' sb S2 _=>?_))
  ·have h1:=qf (ms.take i) []
   have h2:(ms.take i).length<=i:=by rw [List.length_take];omega
   have h3:(de (ms.take i)).length<=0+(ms.take i).length:=h1
   omega
  ·have e1:putIn (de (ms.take i)) key=de (ms.take (i+1)):=by
    unfold de
    rw [List.take_add_one,hkey,List.foldl_append];rfl
   rw [e1] at S2
   refine wpAny_pure ⟨plainId_quiet PyProof.Rows.F.plain_set_update_loop _,ih (i+1) _ (by omega) hlt (W.frame _ s' _ _ st' (Nat.le_succ _) fun b hb o e=>?_) S2 fun s'' mv2 S3=>?_⟩
   ·rw [sb.2 b (fun h:b=L=>hLf (by rw [<-h];exact hb))];exact e
   ·refine q s'' (Moved.trans W.gtrans ((mv.mono fun b hb=>List.mem_cons_of_mem _ hb).then_heap (Nat.le_succ _) fun b o hb e=>?_) mv2) S3
    rw [sb.2 b (fun h:b=L=>hb (by rw [h];exact List.mem_cons_self))];exact e
end
theorem jN {α β : Type} {F:α->β->Prop}:∀ {l:List α} {m:List β},Paired F l m->∀ {i:Nat} {x:α},l[i]? = some x->∃ y,m[i]? = some y/\F x y
 | _,_,.nil,i,x,e=>by simp at e
 | _,_,.cons r _,0,x,e=>by simp at e;subst e;exact⟨_,rfl,r⟩
 | _,_,.cons _ t,i+1,x,e=>by simpa using jN t (i:=i) (x:=x) (by simpa using e)
def er (w:World):Obj:={ cls:=.type "set",dict:=none,data:=.set #[] 0 (.fresh 0 0 (!(w.params.followText "set-order"))) }
section
variable {prog:Program} {w:World} {A:Around} {E:Value->Shared->Prop} {s:Shared}
theorem uD (rest:List Value) (hc:checkBuiltinCall "set.__new__" ⟨.type "set" :: rest,[]⟩=pure ()) {Q:Value->Shared->Prop} (q:Q (.ref s.heap.objs.size) { s with heap:=s.heap.push (er w) }) :
  codeAny (model prog w) A (.call (.builtin "set.__new__") ⟨.type "set" :: rest,[]⟩) (wants Q E) s:=by
 refine codeAny_of_tree ?_
 show wpAny _ A.in1 (checkBuiltinCall "set.__new__" ⟨.type "set" :: rest,[]⟩ >>= fun _=>again (.builtin "set.__new__" ⟨.type "set" :: rest,[]⟩)) _ _ s
 refine wpAny_bind (wpAny_of_eq hc (wpAny_pure ⟨plainId_quiet PySem.F.plain_set_new _,codeAny_builtin PySem.F.entry_set_new ?_⟩))
 rw [Around.under_plainId PySem.F.plain_set_new _]
 unfold Builtin.«set.__new__» Builtin.Frozenset.newClass
 have hsub:=sub_set_self
 obtain⟨hp,g,d,tk,os⟩:=s
 dsimp only
 wp_walk
 refine wpAny_askSetting (wpAny_pure ?_)
 dsimp only
 simp only [newObj]
 refine wpAny_bind (wpAny_alloc (wpAny_pure ?_))
 exact wpAny_pure q
theorem v8 {rest:List Value} {Q:Value->Shared->Prop} (hct:checkTypeCall "set" ⟨rest,[]⟩=pure ()) (hcn:checkBuiltinCall "set.__new__" ⟨.type "set" :: rest,[]⟩=pure ())
  (hci:∀ (M:Model) (A:Around) (E:Value->Shared->Prop) (s':Shared) (Q':Unit->Shared->Prop),s'.TypeIs (.ref s.heap.objs.size) "set" -> Q' () s'->wpAny M A (checkBuiltinCall "set.__init__" ⟨.ref s.heap.objs.size :: rest,[]⟩) Q' E s')
  (init:∀ (R:Result->Shared->Prop),(∀ h' tk,(∀ b o,s.heap.get? b=some o->h'.get? b=some o)->Q (.ref s.heap.objs.size) { s with heap:=h',toks:=tk }->R (.ok (.ret .none)) { s with heap:=h',toks:=tk }) ->
   wpAny (model prog w) A.in1.in1 (Builtin.«set.__init__» ⟨.ref s.heap.objs.size :: rest,[]⟩) (fun fin s'=>match fin with | .done f=>R (.ok f) s' | .again c'=>c'.quiet=true/\codeAny (model prog w) A.in1 c' R s') (fun e s'=>R (.error e) s')
    { s with heap:=s.heap.push (er w) }) :
  wpAny (model prog w) A (call (.type "set") rest) Q E s:=by
 obtain⟨c,tl,hmro⟩:=PySem.F.called_set.mro
 have hmade:=PySem.F.called_set.made
 have hsub:=PySem.F.called_set.sub
 refine wpAny_call (codeAny_of_tree ?_)
 show wpAny _ _ (callAny (.type "set") _) _ _ _
 refine wpAny_pure ⟨Code.quiet_builtin _ (by decide +kernel),codeAny_builtin PySem.F.entry_type_call ?_⟩
 rw [Around.under_plain (weight_type_call_type "set" rest []) rfl]
 have h1:=PySem.F.called_set.notType
 have h2:=PySem.F.called_set.canCreate
 repeat (any_goals (first | assumption | wp_step))
 refine codeAny_mono (uD (w:=w) rest hcn (E:=E) (Q:=fun obj s₁=>obj=.ref s.heap.objs.size/\s₁ = { s with heap:=s.heap.push (er w) }) ⟨rfl,rfl⟩) fun r s₁ hr=>?_
 cases r with
 | error e=>exact hr
 | ok fl =>
  cases fl with
  | ret obj =>
   obtain⟨rfl,rfl⟩:=hr
   have hS:(s.heap.push (er w)).get? s.heap.objs.size=some (er w):=Heap.get?_push_size _ rfl
   have hT:Shared.TypeIs { s with heap:=s.heap.push (er w) } (.ref s.heap.objs.size) "set" := ⟨_,hS,rfl⟩
   have hli:=PySem.F.called_set.init.lookup
   have hbi:=PySem.F.called_set.init.bind (.ref s.heap.objs.size)
   repeat (any_goals (first | assumption | wp_step))
   refine codeAny_mono (codeAny_call_builtin (R:=wants (fun r s₂=>r=.none/\Q (.ref s.heap.objs.size) s₂) E) PySem.F.called_set.init.plain PySem.F.entry_set_init (hci _ _ _ _ _ hT (init _ fun h' tk _ q=>⟨rfl,q⟩))) fun r₂ s₂ hr₂=>?_
   cases r₂ with
   | error e=>exact hr₂
   | ok fl₂ =>
    cases fl₂ with
    | ret r =>
     obtain⟨rfl,hq⟩:=hr₂
     repeat (any_goals (first | assumption | wp_step))
    | _=>exact hr₂.elim
  | _=>exact hr.elim
theorem set_list {l:Addr} {items:Array Value} {ms:List Key} {Q:Value->Shared->Prop} (hh:A.handled=none) (hl:s.heap.IsList l items) (hm:Paired (fun v k=>(aQ prog w).is k v=true) items.toList ms) (hb:items.size+1 < scanBound)
  (q:∀ h' tk,fV (aQ prog w) h' s.heap.objs.size (de ms)->(∀ b o,s.heap.get? b=some o->h'.get? b=some o)->Q (.ref s.heap.objs.size) { s with heap:=h',toks:=tk }):wpAny (model prog w) A (call (.type "set") [.ref l]) Q E s:=by
 refine v8 (PySem.F.typeCall_set_1 _) (PySem.F.newCall_set_1 _) (fun M A E s' Q' hT q'=>check_set_init_1 hT q') fun R fin=>?_
 have hS:(s.heap.push (er w)).get? s.heap.objs.size=some (er w):=Heap.get?_push_size _ rfl
 have hT:Shared.TypeIs { s with heap:=s.heap.push (er w) } (.ref s.heap.objs.size) "set" := ⟨_,hS,rfl⟩
 have hz:(s.heap.push (er w)).objs.size=s.heap.objs.size+1:=Heap.size_push _ _
 obtain⟨ol,hol,hcl,nl,hdl⟩:=id hl
 obtain⟨ocls,odict,odata,oslots⟩:=ol
 simp only at hcl hdl
 subst hcl
 subst hdl
 have hol':(s.heap.push (er w)).get? l=some { cls:=.type "list",dict:=odict,data:=.seq items nl,slots:=oslots }:=Heap.get?_push_of_some _ hol
 have hsls:=PySem.F.sub_list_set
 have hslf:=PySem.F.sub_list_frozenset
 have hne:(Value.type "list" == Value.type "dict")=false:=by decide
 have hl1:(s.heap.push (er w)).IsList l items:=⟨_,hol',rfl,nl,rfl⟩
 have hlS:l < s.heap.objs.size:=Heap.lt_size hol
 unfold er at hS hT hz hol' hl1 ⊢
 unfold Builtin.«set.__init__» noKeywords Builtin.Frozenset.updateFrom
 generalize hPI:pyIter=PI
 wp_walk
 subst hPI
 refine wpAny_pyIter_list hl1 ?_
 refine wpAny_bind (wpAny_runValue ?_)
 have hh3:A.in1.in1.in1.handled=none:=by simp [hh]
 refine uC (L:=s.heap.objs.size) ((Walks.list hh3 _ l ?_ items).toS) ?_ ms ?_ (fun i v hv=>?_) hb (items.size - 0) 0 _ (by omega) (Nat.zero_le _) ⟨⟨_,Heap.get?_push_size _ rfl,rfl,rfl⟩,(hl1.push _)⟩ ?_ fun s' mv S'=>?_
 ·rw [hz];exact Nat.ne_of_lt (Nat.lt_succ_of_lt hlS)
 ·rw [hz]
  intro hmem
  rcases kj hmem with e | e
  ·exact absurd e (Nat.ne_of_lt (Nat.lt_succ_self _))
  ·exact absurd e (Nat.ne_of_gt hlS)
 ·rw [<-hm.length,Array.length_toList]
 ·have hv':items.toList[i]? = some v:=by rw [Array.getElem?_toList];exact hv
  exact jN hm hv'
 ·exact uv rfl (Heap.get?_push_of_some _ hS)
 ·obtain⟨h',g',d',tk',os'⟩:=s'
  have eg:g' = s.gens:=mv.gens
  have ed:d' = s.drawn:=mv.drawn
  have eo:os' = s.os:=mv.os
  subst eg;subst ed;subst eo
  have kp:∀ b o,s.heap.get? b=some o->h'.get? b=some o:=fun b o e=>mv.heap b o (fun hm=>by
   rcases kj hm with e' | e'
   ·exact absurd e' (Nat.ne_of_lt (Heap.lt_size e))
   ·rw [hz] at e';exact absurd e' (Nat.ne_of_lt (Nat.lt_succ_of_lt (Heap.lt_size e)))) (Heap.get?_push_of_some _ (Heap.get?_push_of_some _ e))
  show wpAny _ _ _ _ _ _
  refine wpAny_pure ?_
  exact wpAny_pure (fin h' tk' kp (q h' tk' S' kp))
end
end LS
namespace L2
open PySem PySem.Spec PyProof.Rows LS
theorem yP:bootBuiltins "set" = some (.type "set"):=by decide +kernel
theorem xG {P:Program} {w:World} {k:Key} {v:Value} (r:RelV (kV k) v):(aQ P w).is k v=true:=by
 cases k with
 | inl i=>obtain⟨t,rfl⟩:=r;exact ll P w i t
 | inr x=>obtain⟨t,rfl⟩:=r;exact lp P w x t
theorem lG {P:Program} {w:World}:∀ {ks:List Key} {us:List Value},Vals (ks.map kV) us->Paired (fun v k=>(aQ P w).is k v=true) us ks
 | [],_,.nil=>.nil
 | k :: ks,_,.cons r t=>.cons (xG r) (lG t)
section
variable {X:Cx}
theorem Inv.xa {pins:List (Addr × Obj)} {σ : List (Option V)} {H:Hp} {s:Shared} {n:Nat} (I:Inv X pins σ H s):Inv X pins σ H { s with toks:=n }:=⟨I.ok,I.os,I.bare,I.base,I.loc,I.cell,I.free,I.d7,I.pin,I.aN,I.len⟩
theorem uE (hc:X.calm=true):fE X (.type "set") (fun vs H Q=>∃ (p:Addr) (ks:List Key),vs = [.ref p]/\aU X.K H p (ks.map kV)/\ks.length+1 < scanBound/\∀ l,H l=none->Q (.ref l) (upd H l (qd X.prog X.w l (de ks)))):=by
 intro pins s σ H xs us Q I r h
 obtain⟨p,ks,rfl,hp,hz,q⟩:=h
 obtain⟨u,rfl,ru⟩:=vals1 r
 cases (show u=Value.ref p from ru)
 obtain⟨its,hv,pl,_⟩:=I.list hp
 have hm:=lG (P:=X.prog) (w:=X.w) hv
 refine LS.set_list (I.ok.hd hc) pl.isList (by simpa using hm) (by have:=hm.length;simp at this ⊢;omega) fun h' tk S kp=>?_
 exact⟨.ref s.heap.objs.size,_,I.laid (t':=tk) kp (Nat.le_refl _) (xD S),rfl,q _ I.fresh⟩
variable {o e:Expr} {es:List Expr} {to:TE} {t:TA} {name:Str} {apos cpos:Pos} {id:String} {r:V->List V->Hp->VK->Prop}
end
structure oV (K:PySem.W.Frag) (mg:Str->Option Value) (aD d0 d1 d2 d3 d4:Addr):Prop where
 tab:vM K mg "DEED_PARTS" aD [("put",d0),("copy",d1),("add",d2),("read",d3),("tell",d4)]
 q0:KTup K d0 ["name", "number"]
 q1:KTup K d1 ["name", "name"]
 q2:KTup K d2 ["name", "number"]
 q3:KTup K d3 ["name"]
 q4:KTup K d4 ["name"]
def dn:cc->List Str
 | .put x _=>[x]
 | .copy x y=>[x,y]
 | .add x _=>[x]
 | .read x=>[x]
 | .tell x=>[x]
def i2:End->List Str
 | .cY _ x _ _ _=>[x]
 | _=>[]
def pNames (p:Piece):List Str:=p.1.flatMap dn++i2 p.2
def bF (ps:List Piece):List Str:=ps.flatMap pNames
def kD:cc->List Str
 | .put ..=>["name", "number"]
 | .copy ..=>["name", "name"]
 | .add ..=>["name", "number"]
 | .read ..=>["name"]
 | .tell ..=>["name"]
def wD:cc->Str
 | .put .. => "put"
 | .copy .. => "copy"
 | .add .. => "add"
 | .read .. => "read"
 | .tell .. => "tell"
theorem sT (d:cc):∃ xs,i8 d=.str (wD d) :: xs/\xs.length<=1000/\pick "name" xs (kD d)=(dn d).map V.str:=by
 have h2:¬ ("number" : Str) = "name" := by decide +kernel
 cases d with
 | put x n=>exact⟨_,rfl,by show 2<=1000;decide,by simp [pick,kD,dn,h2]⟩
 | copy x y=>exact⟨_,rfl,by show 2<=1000;decide,by simp [pick,kD,dn]⟩
 | add x n=>exact⟨_,rfl,by show 2<=1000;decide,by simp [pick,kD,dn,h2]⟩
 | read x=>exact⟨_,rfl,by show 1<=1000;decide,by simp [pick,kD,dn]⟩
 | tell x=>exact⟨_,rfl,by show 1<=1000;decide,by simp [pick,kD,dn]⟩
theorem sV (e:End):∃ xs,iZ e=.str (wE e) :: xs/\xs.length<=1000/\pick "name" xs (kE e)=(i2 e).map V.str:=by
 have h1:¬ ("piece" : Str) = "name" := by decide +kernel
 have h2:¬ ("number" : Str) = "name" := by decide +kernel
 cases e with
 | stop=>exact⟨[],rfl,by decide,rfl⟩
 | go p=>exact⟨_,rfl,by show 1<=1000;decide,by simp [pick,kE,i2,h1]⟩
 | cY b x n p q=>exact⟨_,rfl,by show 4<=1000;decide,by simp [pick,kE,i2,h1,h2]⟩
theorem jx {k:Str} {d:Addr} {D:List (Str × Addr)}:KTD.datumAt k ((k,d) :: D)=some d:=by
 show (if decide (k=k)=true then some d else KTD.datumAt k D)=some d
 rw [if_pos (decide_eq_true rfl)]
theorem d5 {k x:Str} {d:Addr} {D:List (Str × Addr)} {o:Option Addr} (h:¬ k=x) (e:KTD.datumAt k D=o):KTD.datumAt k ((x,d) :: D)=o:=by
 show (if decide (k=x)=true then some d else KTD.datumAt k D)=o
 rw [if_neg (by rw [decide_eq_false h];decide)]
 exact e
theorem oV.at_ {K:PySem.W.Frag} {mg:Str->Option Value} {aD d0 d1 d2 d3 d4:Addr} (G:oV K mg aD d0 d1 d2 d3 d4) (d:cc) :
  ∃ s,KTD.datumAt (wD d) [(("put" : Str),d0),("copy",d1),("add",d2),("read",d3),("tell",d4)] = some s/\KTup K s (kD d):=by
 cases d with
 | put x n=>exact⟨d0,jx,G.q0⟩
 | copy x y=>exact⟨d1,d5 (show ¬ (("copy" : Str) = "put") by decide +kernel) jx,G.q1⟩
 | add x n=>exact⟨d2,d5 (show ¬ (("add" : Str) = "put") by decide +kernel) (d5 (show ¬ (("add" : Str) = "copy") by decide +kernel) jx),G.q2⟩
 | read x=>exact⟨d3,d5 (show ¬ (("read" : Str) = "put") by decide +kernel) (d5 (show ¬ (("read" : Str) = "copy") by decide +kernel) (d5 (show ¬ (("read" : Str) = "add") by decide +kernel) jx)),G.q3⟩
 | tell x=>exact⟨d4,d5 (show ¬ (("tell" : Str) = "put") by decide +kernel) (d5 (show ¬ (("tell" : Str) = "copy") by decide +kernel) (d5 (show ¬ (("tell" : Str) = "add") by decide +kernel) (d5 (show ¬ (("tell" : Str) = "read") by decide +kernel) jx))),G.q4⟩
theorem v9 (acc ys:List Str):(ys.map (Sum.inr:Str->Key)).foldl LS.putIn (acc.map Sum.inr)=(ys.foldl LS.putIn acc).map Sum.inr:=by
 induction ys generalizing acc with
 | nil=>rfl
 | cons y ys ih =>
  rw [List.map_cons,List.foldl_cons,List.foldl_cons,<-ih]
  congr 1
  unfold LS.putIn
  by_cases h:y ∈ acc
  ·rw [if_pos h,if_pos (List.mem_map.mpr ⟨y,h,rfl⟩)]
  ·rw [if_neg h,if_neg (fun z=>by obtain⟨x,hx,e⟩:=List.mem_map.mp z;cases e;exact h hx),List.map_append];rfl
theorem sW (ys:List Str):de (ys.map (Sum.inr:Str->Key))=(de ys).map Sum.inr:=v9 [] ys
theorem xH (ys:List Str):(ys.map (Sum.inr:Str->Key)).map kV=ys.map V.str:=by rw [List.map_map];rfl
theorem og {xs:List Str} {m:Nat} {ps:List Piece} (ok:dD xs m ps):∀ x ∈ bF ps,x ∈ xs:=fun x hx=>by
 obtain⟨p,hp,hx⟩:=List.mem_flatMap.mp hx
 rcases List.mem_append.mp hx with h | h
 ·obtain⟨d,hd,h⟩:=List.mem_flatMap.mp h
  have dk:=(ok.jH p hp).2 d hd
  cases d with
  | put a n=>rw [List.mem_singleton.mp h];exact dk.1
  | copy a b =>
   rcases List.mem_cons.mp h with rfl | h
   ·exact dk.1
   ·rw [List.mem_singleton.mp h];exact dk.2
  | add a n=>rw [List.mem_singleton.mp h];exact dk.1
  | read a=>rw [List.mem_singleton.mp h];exact dk
  | tell a=>rw [List.mem_singleton.mp h];exact dk
 ·have ek:=ok.ends p hp
  obtain⟨ds,e⟩:=p
  cases e with
  | stop=>cases h
  | go q=>cases h
  | cY b a n q r=>rw [List.mem_singleton.mp h];exact ek.1
theorem oh {α β : Type} {l:List α} {f:α->List β} {i:Nat} {x:α} (h:l[i]? = some x):(l.take (i+1)).flatMap f=(l.take i).flatMap f++f x:=by
 rw [List.take_add_one,h,List.flatMap_append];simp
theorem jV {α β : Type} {l:List α} {f:α->List β} (i:Nat):((l.take i).flatMap f).length<=(l.flatMap f).length:=by
 conv=>rhs;rw [<-List.take_append_drop i l,List.flatMap_append,List.length_append]
 exact Nat.le_add_right _ _
def kn:Sp:=fun vs H Q _=>∃ (plv:V) (ps:List Piece) (xs:List Str) (m:Nat),vs = [plv]/\bC H plv (hV ps)/\dD xs m ps/\xs.length < 64/\(bF ps).length<=4000 /\
 ∀ (t:Addr) (ss:List Str) (H':Hp),H' t=some (.tup (ss.map V.str))->ss.Perm (de (bF ps))->sortedS ss=true->ss.length < 64->ao H H'->Q (.ref t) H'
theorem wa {xs:List Str} {m:Nat} {ps:List Piece} (ok:dD xs m ps):(de (bF ps)).length<=xs.length :=
 sub_len (qg _) fun x hx=>og ok x (oa.mp hx)
end L2
namespace PySem
theorem oC:typeLookup (.type "tuple") "keys" = pure none:=by rw [typeLookup_type,builtinLookup_eq_fast];kernel_rfl
section
variable {prog:Program} {w:World} {A:Around} {E:Value->Shared->Prop} {s:Shared}
theorem oD {a:Addr} {xs:Array Value} {k:Nat} {sl:Array (Option Value)} {name:Str} {u:Tok} {Q:Value->Shared->Prop} (hx:s.heap.get? a=some { cls:=.type "tuple",dict:=none,data:=.seq xs k,slots:=sl })
  (miss:typeLookup (.type "tuple") name=pure none) (plain:(["__module__", "__name__", "__qualname__", "__doc__", "__annotations__"]:List Str).contains name=false) (calm:A.handled=none) (fits:name.length+100<=sizeLine)
  (fin:∀ g tk e,Heap.NewExcOf s.heap g e "AttributeError" -> E (.ref e) { s with heap:=g,toks:=tk }):wpAny (model prog w) A (getAttrBy (.ref a) (.str name u) false) Q E s:=by
 obtain⟨hp,gs,dr,tk,os⟩:=s
 have hT:∀ tk',(⟨hp,gs,dr,tk',os⟩:Shared).TypeIs (.ref a) "tuple" := fun _=>⟨_,hx,rfl⟩
 have f1:=sub_AttributeError
 have f3:=F.slot_tuple_getattribute.lookup
 have f4:=F.slot_tuple_getattribute.bind (.ref a)
 have f5:=am_tuple_getattr_none
 unfold getAttrBy
 repeat (any_goals (first | exact hT _ | assumption | ((with_reducible show wpAny _ _ (call (Value.builtin "tuple.__getattribute__") _ _) _ _ _);refine call_meets F.slot_tuple_getattribute (hT _) am_entry_tuple_getattribute (F.args_tuple_getattribute_2 _ _) (meets_getattribute_miss_tuple a xs k sl name _ miss plain fits) ⟨hx,calm,fun g t e ne=>?_⟩) | wp_step))
 obtain⟨t',u',there⟩:=ne.there
 show wpAny _ _ (getattributeRaised _ _ _ _ _ _ _) _ _ _
 unfold getattributeRaised
 repeat (any_goals (first | wp_step | assumption))
 exact fin g _ e ne.of
theorem mP {a:Addr} {xs:Array Value} {k:Nat} {sl:Array (Option Value)} {Q:Option Value->Shared->Prop} (hx:s.heap.get? a=some { cls:=.type "tuple",dict:=none,data:=.seq xs k,slots:=sl }) (calm:A.handled=none)
  (fin:∀ g tk,(∀ b o,s.heap.get? b=some o->g.get? b=some o)->Q none { s with heap:=g,toks:=tk }):wpAny (model prog w) A (getAttr? (.ref a) "keys") Q E s:=by
 unfold getAttr? getAttrBy?
 refine wpAny_bind (wpAny_mkText ?_)
 refine wpAny_bind (wpAny_attempt ?_)
 refine oD (s:={ s with toks:=s.toks+1 }) hx oC (by decide +kernel) calm (by decide +kernel) fun g tk e ne=>?_
 obtain⟨ob,vs,he,hc,_⟩:=ne.there
 have hT:({ s with heap:=g,toks:=tk }:Shared).TypeIs (.ref e) "AttributeError" := ⟨ob,he,hc⟩
 refine wpAny_bind (wpAny_isInstance hT sub_AttributeError ?_)
 exact wpAny_pure (fin g tk ne.keeps)
end
end PySem
namespace PySem
theorem jy:entryFor table "dict.update.loop" = some Builtin.«dict.update.loop»:=entryFor_of_tree (by kernel_rfl)
theorem fJ:plainId "dict.update.loop" = true:=by decide +kernel
section
variable {prog:Program} {w:World} {K:Type} [DecidableEq K] {knd:KeyKind prog w K} {A:Around} {s:Shared}
def qh (knd:KeyKind prog w K) (h:Heap) (q:Addr) (p:K × Value):Prop:=∃ key n sl,h.get? q=some { cls:=.type "tuple",dict:=none,data:=.seq #[key,p.2] n,slots:=sl }/\knd.is p.1 key=true
theorem oE {E:Value->Shared->Prop} {q:Addr} {x y:Value} {n:Nat} {sl:Array (Option Value)} {Q:List Value->Shared->Prop} (hq:s.heap.get? q=some { cls:=.type "tuple",dict:=none,data:=.seq #[x,y] n,slots:=sl })
  (fin:Q [x,y] s):wpAny (model prog w) A (Builtin.Dict.pairItems (.ref q)) Q E s:=by
 have hT:s.TypeIs (.ref q) "tuple" := ⟨_,hq,rfl⟩
 unfold Builtin.Dict.pairItems
 refine wpAny_bind (wpAny_typeOf hT ?_)
 rw [if_pos (by decide)]
 unfold seqItems?
 obtain⟨hp,gs,dr,tk,os⟩:=s
 repeat (any_goals (first | wp_step | assumption))
theorem sX {E:Value->Shared->Prop} {d I ax:Addr} {items:Array Value} {rs:List (K × Value)} {R:Result->Shared->Prop} {h0:Heap} (calm:A.handled=none) (ndI:d ≠ I) (nda:d ≠ ax) (nax:ax ≠ I) (len:rs.length=items.size) (bc:rs.length<=sizeLine)
  (pairs:∀ (i:Nat) (p:K × Value),rs[i]? = some p->∃ q,items[i]? = some (.ref q)/\q ≠ d/\q ≠ I/\qh knd h0 q p)
  (fin:∀ (g:Heap) (tk:Nat),g.DictOf knd d (merged [] rs)->(∀ b o,b ≠ d->b ≠ I->h0.get? b=some o->g.get? b=some o)->R (.ok (.ret .none)) { s with heap:=g,toks:=tk }) :
  ∀ (m i:Nat) (h:Heap) (tk:Nat) (t:Tok),rs.length - i=m->i<=rs.length->h.IsTupleIter I ax i->h.IsTuple ax items->h.DictOf knd d (merged [] (rs.take i))->(∀ b o,b ≠ d->b ≠ I->h0.get? b=some o->h.get? b=some o) ->
   codeAny (model prog w) A (.builtin "dict.update.loop" ⟨[.ref d,.ref I,.int i t,.none],[]⟩) R { s with heap:=h,toks:=tk }:=by
 have W:=Walks.tuple (prog:=prog) (w:=w) (A:=A.in1) calm I ax nax items
 intro m
 induction m with
 | zero =>
  intro i h tk t em hi it ta dd kp
  have ei:i=rs.length:=by omega
  subst ei
  refine codeAny_builtin jy ?_
  rw [Around.under_plainId fJ _]
  show wpAny _ A.in1 (pyNext (.ref I) >>= _) _ _ _
  refine wpAny_bind (W.done { s with heap:=h,toks:=tk } _ _ ⟨by rw [<-len];exact it,ta⟩ fun g tk' kg=>?_)
  show wpAny _ A.in1 (Builtin.Dict.addKeywords d [] >>= fun _=>ret Value.none) _ _ _
  refine wpAny_bind (wpAny_pure ?_)
  refine wpAny_pure (fin g tk' ?_ fun b o n1 n2 e=>kg b o (by simpa using n2) (kp b o n1 n2 e))
  rw [List.take_length] at dd
  obtain⟨ob,es,ep,ho,rest⟩:=dd
  exact⟨ob,es,ep,kg d ob (by simpa using ndI) ho,rest⟩
 | succ m ih =>
  intro i h tk t em hi it ta dd kp
  have hlt:i < rs.length:=by omega
  have hp:rs[i]? = some rs[i]:=by simp [hlt]
  generalize rs[i] = p at hp
  obtain⟨q,hq,nqd,nqI,key,n,sl,hqo,hkey⟩:=pairs i p hp
  refine codeAny_builtin jy ?_
  rw [Around.under_plainId fJ _]
  show wpAny _ A.in1 (pyNext (.ref I) >>= _) _ _ _
  refine wpAny_bind (W.item i { s with heap:=h,toks:=tk } _ _ (by omega) ⟨it,ta⟩ fun v g tk' hv st kg=>?_)
  rw [hq] at hv
  cases hv
  have kp':∀ b o,b ≠ d->b ≠ I->h0.get? b=some o->g.get? b=some o:=fun b o n1 n2 e=>kg b o (by simpa using n2) (kp b o n1 n2 e)
  refine wpAny_bind (wpAny_holding (wpAny_bind (wpAny_tryCatch (oE (kp' q _ nqd nqI hqo) ?_))))
  have dd':g.DictOf knd d (merged [] (rs.take i)):=by
   obtain⟨ob,es,ep,ho,rest⟩:=dd
   exact⟨ob,es,ep,kg d ob (by simpa using ndI) ho,rest⟩
  refine wpAny_holding (wpAny_dictSet_pairs hkey dd' (fun g2 dd2 same=>?_) ?_)
  ·refine wpAny_pure ⟨plainId_quiet fJ _,?_⟩
   rw [<-merged_take_succ [] rs i p hp] at dd2
   have k2:∀ b o,b ≠ d->g.get? b=some o->g2.get? b=some o:=fun b o nb e=>(same.2 b nb).trans e
   refine ih (i+1) g2 _ _ (by omega) hlt ?_ ?_ dd2 fun b o n1 n2 e=>k2 b o n1 (kp' b o n1 n2 e)
   ·exact st.1.at fun o e=>k2 I o ndI.symm e
   ·exact st.2.at fun o e=>k2 ax o nda.symm e
  ·have e:=merged_length_le ([]:List (K × Value)) (rs.take i)
   rw [List.length_take] at e
   simp only [List.length_nil] at e
   omega
open PySem.Calls in
theorem oF {E:Value->Shared->Prop} {ax:Addr} {items:Array Value} {na:Nat} {sa:Array (Option Value)} {rs:List (K × Value)} {Q:Value->Shared->Prop} (calm:A.handled=none)
  (hx:s.heap.get? ax=some { cls:=.type "tuple",dict:=none,data:=.seq items na,slots:=sa }) (len:rs.length=items.size) (bc:rs.length<=sizeLine)
  (pairs:∀ (i:Nat) (p:K × Value),rs[i]? = some p->∃ q,items[i]? = some (.ref q)/\qh knd s.heap q p)
  (fin:∀ (g:Heap) (tk:Nat),g.DictOf knd s.heap.objs.size (merged [] rs)->(∀ b o,s.heap.get? b=some o->g.get? b=some o)->Q (.ref s.heap.objs.size) { s with heap:=g,toks:=tk }) :
  wpAny (model prog w) A (call (.type "dict") [.ref ax]) Q E s:=by
 refine callType_codes (Q₁:=fun ob s1=>ob=.ref s.heap.objs.size/\s1 = { s with heap:=s.heap.push { cls:=.type "dict",data:=.dict #[] } }) F.kt_called_dict (F.kt_typeCall_dict_1 _) F.entry_dict_init (kt_code_dict_new _ ⟨rfl,rfl⟩) fun ob s1 e1=>?_
 obtain⟨rfl,rfl⟩:=e1
 have fresh:(s.heap.push { cls:=.type "dict",data:=.dict #[] }).DictOf knd s.heap.objs.size []:=Heap.DictOf.new s.heap
 have hx1:=Heap.get?_push_of_some { cls:=.type "dict",data:=.dict #[] } hx
 refine⟨fresh.typeIs,F.args_dict_init_2 _ _,?_⟩
 have hT:({ s with heap:=s.heap.push { cls:=.type "dict",data:=.dict #[] } }:Shared).TypeIs (.ref ax) "tuple" := ⟨_,hx1,rfl⟩
 unfold Builtin.«dict.__init__»
 refine wpAny_bind ?_
 unfold Builtin.Dict.selfAndRest
 refine wpAny_bind (wpAny_notOrdered_dict fresh.typeIs (wpAny_pure ?_))
 show wpAny _ _ (Builtin.Dict.updateFrom "dict.__init__" s.heap.objs.size (.ref ax) [] .none) _ _ _
 unfold Builtin.Dict.updateFrom
 refine wpAny_bind (wpAny_typeOf hT ?_)
 rw [if_pos (by decide)]
 refine wpAny_bind (mP hx1 calm fun g tk kg=>?_)
 rw [if_pos (show (none:Option Value).isNone=true from rfl)]
 refine wpAny_bind (wpAny_rule ?_)
 have hxg:=kg _ _ hx1
 have hta:g.IsTuple ax items:=⟨_,hxg,rfl,na,rfl⟩
 refine wpAny_bind (wpAny_pyIter_tuple hta ?_)
 have dg:g.DictOf knd s.heap.objs.size []:=by
  obtain⟨ob,es,ep,ho,rest⟩:=fresh
  exact⟨ob,es,ep,kg _ _ ho,rest⟩
 have ltd:s.heap.objs.size < g.objs.size:=by
  obtain⟨ob,es,ep,ho,rest⟩:=dg
  exact Heap.lt_size ho
 have lta:ax < g.objs.size:=Heap.lt_size hxg
 have ltx:ax < s.heap.objs.size:=Heap.lt_size hx
 have kg':∀ b o,s.heap.get? b=some o->(g.push { cls:=.type "tuple_iterator",data:=.fields #[.ref ax,.int 0 0] }).get? b=some o:=fun b o e=>Heap.get?_push_of_some _ (kg b o (Heap.get?_push_of_some _ e))
 refine wpAny_pure ⟨plainId_quiet fJ _,?_⟩
 refine sX (E:=E) (knd:=knd) (s:=s) (A:=A.in1) (items:=items) (rs:=rs) (h0:=g.push { cls:=.type "tuple_iterator",data:=.fields #[.ref ax,.int 0 0] }) calm (Nat.ne_of_lt ltd) (Nat.ne_of_gt ltx) (Nat.ne_of_lt lta) len bc (fun i p hp=>?_) (fun g2 tk2 dd2 k2=>⟨rfl,fin g2 tk2 dd2 fun b o e=>k2 b o (Nat.ne_of_lt (Heap.lt_size e)) (Nat.ne_of_lt (Nat.lt_trans (Heap.lt_size e) ltd)) (kg' b o e)⟩) rs.length 0 _ _ _ (Nat.sub_zero _) (Nat.zero_le _) ⟨_,Heap.get?_push_size _ rfl,rfl,rfl⟩ (hta.push _) (dg.push _) fun b o _ _ e=>e
 obtain⟨q,hq,key,n,sl,hqo,hkey⟩:=pairs i p hp
 have hql:=Heap.lt_size hqo
 exact⟨q,hq,Nat.ne_of_lt hql,Nat.ne_of_lt (Nat.lt_trans hql ltd),key,n,sl,kg' q _ hqo,hkey⟩
end
end PySem
namespace L2
open PySem PySem.Spec PyProof.Rows
theorem xb:∀ (kvs:List (Key × V)) (P:Nat->Key × Value->Prop),(∀ (i:Nat) (k:Key) (v:V),kvs[i]? = some (k,v)->∃ u,RelV v u/\P i (k,u))->∃ rs:List (Key × Value),KV kvs rs/\∀ (i:Nat) (p:Key × Value),rs[i]? = some p->P i p
 | [],_,_=>⟨[],.nil,fun i p h=>by simp at h⟩
 | (k,v) :: r,P,h=>by
  obtain⟨u,ru,hu⟩:=h 0 k v rfl
  obtain⟨rs,kr,hr⟩:=xb r (fun i=>P (i+1)) fun i k' v' e=>h (i+1) k' v' (by simpa using e)
  refine⟨(k,u) :: rs,.cons ⟨rfl,ru⟩ kr,fun i p e=>?_⟩
  cases i with
  | zero=>cases (Option.some.inj e);exact hu
  | succ i=>exact hr i p (by simpa using e)
theorem lT:∀ {xs:List V} {us:List Value} {j:Nat} {x:V},Vals xs us->xs[j]? = some x->∃ u,us[j]? = some u/\RelV x u
 | _,_,_,_,.nil,e=>by simp at e
 | _,_,0,_,.cons r _,e=>by
  cases (Option.some.inj e)
  exact⟨_,rfl,r⟩
 | _,_,j+1,x,.cons _ t,e=>by
  obtain⟨u,h1,h2⟩:=lT (j:=j) (x:=x) t (by simpa using e)
  exact⟨u,by simpa using h1,h2⟩
section
variable {X:Cx}
theorem dX (hc:X.calm=true):fE X (.type "dict") (fun vs H Q=>∃ (a:Addr) (xs:List V) (kvs:List (Key × V)),vs = [.ref a]/\H a=some (.tup xs)/\xs.length=kvs.length /\
  (∀ (i:Nat) (k:Key) (v:V),kvs[i]? = some (k,v)->∃ q,xs[i]? = some (.ref q)/\H q=some (.tup [kV k,v]))/\(kvs.map (·.1)).Nodup/\∀ d,H d=none->Q (.ref d) (upd H d (.dK kvs))):=by
 intro pins s σ H vs us Q I r h
 obtain⟨a,xs,kvs,rfl,ha,hl,hp,nd,q⟩:=h
 obtain⟨u,rfl,ru⟩:=vals1 r
 cases (show u=Value.ref a from ru)
 obtain⟨hz,its,rv,⟨c,dct,dat,sl⟩,h1,h2,n,h3,h4⟩:=(show bV X.prog X.w H s.heap a (.tup xs) from I.aN a _ ha)
 dsimp only at h2 h3 h4
 subst h2 h3 h4
 have hil:its.length=kvs.length:=by rw [<-rv.length];exact hl
 obtain⟨rs,rel,prs⟩:=xb kvs (fun i p=>∃ q,its.toArray[i]? = some (.ref q)/\qh (aQ X.prog X.w) s.heap q p) fun i k v e=>by
  obtain⟨q,e1,e2⟩:=hp i k v e
  obtain⟨_,its2,rv2,⟨c2,dct2,dat2,sl2⟩,g1,g2,n2,g3,g4⟩:=(show bV X.prog X.w H s.heap q (.tup [kV k,v]) from I.aN q _ e2)
  dsimp only at g2 g3 g4
  subst g2 g3 g4
  obtain⟨key,u2,rfl,rk,ru2⟩:=vals2 rv2
  refine⟨u2,ru2,q,?_,key,n2,sl2,g1,i7 rk⟩
  obtain⟨w',hw,rw'⟩:=lT rv e1
  cases (show w' = Value.ref q from rw')
  simpa using hw
 have hkl:kvs.length<=sizeLine:=by rw [<-hl];exact hz
 have ndr:(rs.map (·.1)).Nodup:=by rw [<-rel.keys];exact nd
 refine oF (knd:=aQ X.prog X.w) (rs:=rs) (I.ok.hd hc) h1 (by rw [<-rel.length,<-hil];simp) (by rw [<-rel.length];exact hkl) prs fun g tk dd kg=>?_
 rw [merged_nil_of_nodup rs ndr] at dd
 exact⟨.ref s.heap.objs.size,_,I.laid (a:=s.heap.objs.size) (o:=.dK kvs) (t':=tk) kg (Nat.le_refl _) (iY hkl (beq_eq_false_iff_ne.mpr (Ne.symm (Nat.ne_of_lt I.big))) rel dd),rfl,q _ (I.aN.fresh (Nat.le_refl _))⟩
theorem all_range (bs:List Bool):((List.range bs.length).all fun i=>(bs[i]?).getD true)=bs.all id:=by
 rw [Bool.eq_iff_iff]
 simp only [List.all_eq_true,List.mem_range]
 constructor
 ·intro h b hb
  obtain⟨i,hi,rfl⟩:=List.getElem_of_mem hb
  have:=h i hi
  simpa [hi] using this
 ·intro h i hi
  have:=h bs[i] (List.getElem_mem hi)
  simpa [hi] using this
theorem jb (hc:X.calm=true):fE X (.builtin "all") (fun vs H Q=>∃ (p:Addr) (bs:List Bool),vs = [.ref p]/\aU X.K H p (bs.map V.bl)/\Q (.bl (bs.all id)) H):=by
 intro pins s σ H vs us Q I r h
 obtain⟨p,bs,rfl,hS,q⟩:=h
 obtain⟨u,rfl,ru⟩:=vals1 r
 cases (show u=Value.ref p from ru)
 obtain⟨its,rv,pl,hz⟩:=I.list hS
 have hl:=pl.isList
 have hlt:p < s.heap.objs.size:=by
  obtain⟨_,e,_⟩:=hl
  exact Heap.lt_size e
 have hsz:its.toArray.size=bs.length:=by
  have:=rv.length
  simp at this
  simp [this]
 refine call_all_walk (wpAny_pyIter_list hl ?_)
 refine⟨s.heap.objs.size,[s.heap.objs.size,p],[s.heap.objs.size],its.toArray.size,_,_,fun j=>(bs[j]?).getD true,rfl,Walks.list (A:=X.A.in1) (I.ok.hd hc) _ p (Nat.ne_of_lt hlt) its.toArray,
  ⟨⟨_,Heap.get?_push_size _ rfl,rfl,rfl⟩,hl.push _⟩,fun j v t Q' E' hP hQ=>?_,fun g tk hk=>?_⟩
 ·have hj:its[j]? = some v:=by simpa using hP
  have hjl:j < bs.length:=by
   have:=(List.getElem?_eq_some_iff.mp hj).1
   rw [<-rv.length,List.length_map] at this
   exact this
  have hb:bs[j]? = some bs[j]:=by simp [hjl]
  obtain⟨w',hw,rw'⟩:=lT (j:=j) (x:=V.bl bs[j]) rv (by rw [List.getElem?_map,hb];rfl)
  rw [hj] at hw
  cases hw
  cases (show v=Value.bool bs[j] from rw')
  have hQ':Q' ((bs[j]?).getD true) t:=hQ
  rw [hb] at hQ'
  exact wpAny_truthy_bool hQ'
 ·refine⟨.bl (bs.all id),H,?_,?_,q⟩
  ·refine I.kept (t':=tk) fun b o e=>hk b o (fun hm=>?_) (Heap.get?_push_of_some _ e)
   rw [List.mem_singleton.mp hm] at e
   exact Nat.lt_irrefl _ (Heap.lt_size e)
  ·show _=Value.bool (bs.all id)
   rw [hsz,all_range]
end
def qi (a b:Str):Prop:=a.cps.toList<=b.cps.toList
theorem uF {a b c:Str} (h:qi a b) (g:qi b c):qi a c:=List.le_trans h g
theorem oi:∀ (l:List Str) (p:Str),risingS p l=true->(p :: l).Pairwise qi
 | [],p,_=>by simp
 | x :: r,p,h=>by
  have h':(!ltCps x.cps.toList p.cps.toList && risingS x r)=true:=h
  rw [Bool.and_eq_true,Bool.not_eq_true'] at h'
  have h1:qi p x:=by
   have:=h'.1
   rw [ltCps_eq] at this
   exact of_decide_eq_false this
  have ih:=oi r x h'.2
  refine List.Pairwise.cons (fun y hy=>?_) ih
  rcases List.mem_cons.mp hy with e | hy
  ·rw [e];exact h1
  ·exact uF h1 ((List.pairwise_cons.mp ih).1 y hy)
theorem ko {l:List Str} (h:sortedS l=true):l.Pairwise qi:=by
 cases l with
 | nil=>exact List.Pairwise.nil
 | cons x r=>exact oi r x h
structure om (ss:List Str):Prop where
 pw:ss.Pairwise qi
 nd:ss.Nodup
theorem om.filter {l:List Str} (h:om l) (p:Str->Bool):om (l.filter p):=⟨h.pw.filter p,h.nd.filter p⟩
abbrev Sx:=Option Int × Option Int
def bN:Sx:=(none,none)
structure gI (K:PySem.W.Frag) (mg:Str->Option Value) (aA:Addr):Prop where
 lC:mg "ALL" = some (.ref aA)
 at_:∃ dc n sl,K.lookup aA=some ⟨.type "tuple",dc,.seq #[.none,.none] n,sl⟩
theorem gI.sq {K:PySem.W.Frag} {mg:Str->Option Value} {aA:Addr} (h:gI K mg aA) (H:Hp):aw K H aA [.aS,.aS]:=by
 obtain⟨dc,n,sl,e⟩:=h.at_
 exact .inr ⟨_,#[.none,.none],n,e,rfl,rfl,by decide,.cons rfl (.cons rfl .nil)⟩
def SH (H:Hp) (v:V) (s:Sx):Prop:=∃ q,v=.ref q/\H q=some (.tup [vO s.1,vO s.2])
def SV (aA:Addr) (H:Hp) (v:V) (s:Sx):Prop:=SH H v s\/(v=.ref aA/\s=bN)
def dS (s:Sx):PyData:=.tuple [dO s.1,dO s.2]
theorem SH.rd {H:Hp} {v:V} {s:Sx} (h:SH H v s):bC H v (dS s):=by
 obtain⟨q,rfl,e⟩:=h
 exact .tup e (.cons (yF _) (.cons (yF _) .nil))
theorem SH.aI {H H':Hp} {v:V} {s:Sx} (h:SH H v s) (k:∀ p xs,H p=some (.tup xs)->H' p=some (.tup xs)):SH H' v s:=by
 obtain⟨q,e,h⟩:=h
 exact⟨q,e,k _ _ h⟩
theorem SV.aI {aA:Addr} {H H':Hp} {v:V} {s:Sx} (h:SV aA H v s) (k:∀ p xs,H p=some (.tup xs)->H' p=some (.tup xs)):SV aA H' v s:=h.elim (fun h=>.inl (h.aI k)) .inr
theorem SV.sq {K:PySem.W.Frag} {mg:Str->Option Value} {aA:Addr} {H:Hp} {v:V} {s:Sx} (g:gI K mg aA) (h:SV aA H v s):∃ q,v=.ref q/\aw K H q [vO s.1,vO s.2]:=by
 rcases h with ⟨q,e,h⟩ | ⟨e,rfl⟩
 ·exact⟨q,e,aw.of h⟩
 ·exact⟨aA,e,g.sq H⟩
theorem kT {H:Hp} {v:V} {o:Option Int} (h:bC H v (dO o)):v=vO o:=by
 cases o with
 | none=>cases h;rfl
 | some i=>exact h.int_inv
structure Tb (aA:Addr) (H:Hp) (kvs:List (Key × V)) (ks:List Str) (T:Str->Sx):Prop where
 keys:kvs.map (·.1)=ks.map Sum.inr
 nd:ks.Nodup
 val:∀ x:Str,(bM kvs (Sum.inr x)=none/\T x=bN/\¬ x ∈ ks)\/(∃ v,bM kvs (Sum.inr x)=some v/\SV aA H v (T x)/\x ∈ ks)
def bI (T:Str->Sx) (x:Str) (s:Sx):Str->Sx:=fun y=>if y=x then s else T y
theorem Tb.aI {aA:Addr} {H H':Hp} {kvs:List (Key × V)} {ks:List Str} {T:Str->Sx} (h:Tb aA H kvs ks T) (k:∀ p xs,H p=some (.tup xs)->H' p=some (.tup xs)):Tb aA H' kvs ks T :=
 ⟨h.keys,h.nd,fun x=>(h.val x).elim .inl fun ⟨v,e,s,m⟩=>.inr ⟨v,e,s.aI k,m⟩⟩
theorem Tb.put {aA:Addr} {H:Hp} {kvs:List (Key × V)} {ks:List Str} {T:Str->Sx} (h:Tb aA H kvs ks T) {v:V} {s:Sx} (x:Str) (hv:SV aA H v s) :
  ∃ ks',Tb aA H (putK kvs (Sum.inr x) v) ks' (bI T x s)/\ks'.length<=ks.length+1/\∀ y,y ∈ ks' ↔ y ∈ ks\/y=x:=by
 have vals:∀ (ks':List Str),(∀ y,y ∈ ks' ↔ y ∈ ks\/y=x)->∀ y:Str,(bM (putK kvs (Sum.inr x) v) (Sum.inr y)=none/\bI T x s y=bN/\¬ y ∈ ks')\/(∃ u,bM (putK kvs (Sum.inr x) v) (Sum.inr y)=some u/\SV aA H u (bI T x s y)/\y ∈ ks'):=by
  intro ks' hk y
  rw [pP]
  unfold bI
  by_cases e:y=x
  ·subst e
   rw [if_pos rfl,if_pos rfl]
   exact .inr ⟨v,rfl,hv,(hk y).mpr (.inr rfl)⟩
  ·rw [if_neg (fun z=>e (Sum.inr.inj z)),if_neg e]
   rcases h.val y with ⟨a,b,c⟩ | ⟨u,a,b,c⟩
   ·exact .inl ⟨a,b,fun z=>((hk y).mp z).elim c e⟩
   ·exact .inr ⟨u,a,b,(hk y).mpr (.inl c)⟩
 rcases uk (kvs:=kvs) (k:=(Sum.inr x:Key)) (v:=v) with ⟨e1,hm⟩ | ⟨e1,hn⟩
 ·have hx:x ∈ ks:=by
   rw [h.keys] at hm
   obtain⟨y,hy,e⟩:=List.mem_map.mp hm
   cases e
   exact hy
  have hk:∀ y,y ∈ ks ↔ y ∈ ks\/y=x:=fun y=>⟨.inl,fun z=>z.elim id fun e=>by rw [e];exact hx⟩
  exact⟨ks,⟨by rw [e1];exact h.keys,h.nd,vals ks hk⟩,Nat.le_succ _,hk⟩
 ·have hx:¬ x ∈ ks:=fun z=>hn (by rw [h.keys];exact List.mem_map.mpr ⟨x,z,rfl⟩)
  have hk:∀ y,y ∈ ks ++ [x] ↔ y ∈ ks\/y=x:=fun y=>by simp
  refine⟨ks ++ [x],⟨by rw [e1,h.keys,List.map_append];rfl,?_,vals _ hk⟩,by simp,hk⟩
  rw [List.nodup_append]
  refine⟨h.nd,by simp,fun a ha b hb=>?_⟩
  rw [List.mem_singleton] at hb
  subst hb
  exact fun z=>hx (by rw [<-z];exact ha)
def dF (T:Str->Sx) (x:Str):PyData:=.tuple [.str x,dS (T x)]
def FV (H:Hp) (v:V) (T:Str->Sx):Prop:=∃ (p:Addr) (xs:List V) (ss:List Str),v=.ref p/\H p=some (.tup xs)/\om ss/\(∀ x,x ∈ ss ↔ T x ≠ bN)/\bu H xs (ss.map (dF T))
def uG (T:Str->Sx) (ss:List Str):PyData:=.tuple (ss.map (dF T))
theorem gJ (T:Str->Sx):∀ ss:List Str,cm (ss.map (dF T))=true
 | []=>rfl
 | x :: ss=>by
  show (dW (dF T x) && cm (ss.map (dF T)))=true
  rw [gJ T ss]
  show ((true && ((dW (dO (T x).1) && (dW (dO (T x).2) && true)) && true)) && true)=true
  cases (T x).1 <;> cases (T x).2 <;> rfl
theorem FV.aI {H H':Hp} {v:V} {T:Str->Sx} (h:FV H v T) (k:∀ p xs,H p=some (.tup xs)->H' p=some (.tup xs)):FV H' v T:=by
 obtain⟨p,xs,ss,e,hp,hs,hm,r⟩:=h
 exact⟨p,xs,ss,e,k _ _ hp,hs,hm,r.aI k (gJ T ss)⟩
theorem FV.same {H H':Hp} {v:V} {T:Str->Sx} (h:FV H v T) (s:ao H H'):FV H' v T:=h.aI fun p xs e=>s _ _ e
theorem FV.tb {H:Hp} {xs:List V} {T:Str->Sx} {ss:List Str} (aA:Addr) (hs:om ss) (hm:∀ x,x ∈ ss ↔ T x ≠ bN) (r:bu H xs (ss.map (dF T))) :
  ∃ kvs:List (Key × V),xs.length=kvs.length/\(∀ (i:Nat) (k:Key) (v:V),kvs[i]? = some (k,v)->∃ q,xs[i]? = some (.ref q)/\H q=some (.tup [kV k,v]))/\(kvs.map (·.1)).Nodup/\Tb aA H kvs ss T:=by
 have go:∀ (ss:List Str) (xs:List V),bu H xs (ss.map (dF T))->∃ kvs:List (Key × V),xs.length=kvs.length/\(∀ (i:Nat) (k:Key) (v:V),kvs[i]? = some (k,v)->∃ q,xs[i]? = some (.ref q)/\H q=some (.tup [kV k,v])) /\
   kvs.map (·.1)=ss.map Sum.inr/\∀ x:Str,(bM kvs (Sum.inr x)=none/\¬ x ∈ ss)\/(∃ v,bM kvs (Sum.inr x)=some v/\SH H v (T x)/\x ∈ ss):=by
  intro ss
  induction ss with
  | nil =>
   intro xs r
   have z:=bu.nil_inv r
   subst z
   exact⟨[],rfl,fun i k v e=>by simp at e,rfl,fun x=>.inl ⟨rfl,by simp⟩⟩
  | cons y ss ih =>
   intro xs r
   obtain⟨x1,t1,rfl,h1,r⟩:=bu.cons_inv r
   obtain⟨kvs,l1,l2,l3,l4⟩:=ih t1 r
   obtain⟨q,zs,rfl,hq,rz⟩:=bC.cn h1
   obtain⟨z1,t2,rfl,g1,rz⟩:=rz.cons_inv
   obtain⟨z2,t3,rfl,g2,rz⟩:=rz.cons_inv
   have z:=rz.nil_inv
   subst z
   obtain⟨q2,ws,rfl,hq2,rw2⟩:=bC.cn g2
   obtain⟨w1,t4,rfl,f1,rw2⟩:=rw2.cons_inv
   obtain⟨w2,t5,rfl,f2,rw2⟩:=rw2.cons_inv
   have z:=rw2.nil_inv
   subst z
   have e1:w1=vO (T y).1:=kT f1
   have e2:w2=vO (T y).2:=kT f2
   subst e1 e2
   rw [g1.str_inv] at hq
   refine⟨(Sum.inr y,.ref q2) :: kvs,by simp [l1],fun i k v e=>?_,by simp [l3],fun x=>?_⟩
   ·cases i with
    | zero=>cases (Option.some.inj e);exact⟨q,rfl,hq⟩
    | succ i =>
     obtain⟨q',a,b⟩:=l2 i k v (by simpa using e)
     exact⟨q',by simpa using a,b⟩
   ·by_cases e:x=y
    ·subst e
     exact .inr ⟨_,cK rfl,⟨q2,rfl,hq2⟩,List.mem_cons_self ..⟩
    ·rw [cB (fun z=>e (Sum.inr.inj z).symm)]
     rcases l4 x with ⟨a,b⟩ | ⟨v,a,b,c⟩
     ·exact .inl ⟨a,fun z=>(List.mem_cons.mp z).elim e b⟩
     ·exact .inr ⟨v,a,b,List.mem_cons_of_mem _ c⟩
 obtain⟨kvs,l1,l2,l3,l4⟩:=go ss xs r
 refine⟨kvs,l1,l2,?_,⟨l3,hs.nd,fun x=>?_⟩⟩
 ·rw [l3]
  exact List.Pairwise.map _ (fun a b n z=>n (Sum.inr.inj z)) hs.nd
 ·rcases l4 x with ⟨a,b⟩ | ⟨v,a,b,c⟩
  ·refine .inl ⟨a,?_,b⟩
   exact Classical.byContradiction fun z=>b ((hm x).mpr z)
  ·exact .inr ⟨v,a,.inl b,c⟩
theorem nj (s:Sx):PyData.eqv (dS s) (.tuple [.none,.none])=decide (s=bN):=by
 obtain⟨a,b⟩:=s
 cases a <;> cases b <;> rfl
theorem xc (s:Sx):(dS s).canLay0=true:=by
 obtain⟨a,b⟩:=s
 cases a <;> cases b <;> rfl
theorem xf (s:Sx):(dS s).depth<=60:=by
 obtain⟨a,b⟩:=s
 cases a <;> cases b <;> (show (1:Nat)<=60;decide)
section
variable {X:Cx}
theorem uH {pins:List (Addr × Obj)} {σ : St} {H:Hp} {s:Shared} {aA:Addr} (I:Inv X pins σ H s) (g:gI X.K X.mg aA):∃ as,Reads s.heap (.ref aA) (.tuple [.none,.none]) as:=by
 obtain⟨dc,n,sl,e⟩:=g.at_
 exact⟨_,.tuple (I.nL aA _ e) rfl rfl (.cons .none (.cons .none .nil))⟩
theorem yQ {aA:Addr} (hu:X.A.units+64 < cLine) (g:gI X.K X.mg aA):eS X (compareOp .NotEq) (fun x y H Q=>∃ s,SV aA H x s/\y=.ref aA/\Q (.bl (!decide (s=bN))) H):=by
 intro pins sh σ H x y v u Q I rx ry h
 obtain⟨s,hs,rfl,q⟩:=h
 cases (show u=Value.ref aA from ry)
 obtain⟨bs,rb⟩:=uH I g
 rcases hs with hs | ⟨rfl,rfl⟩
 ·obtain⟨as,ra⟩:=hs.rd.reads I.aN rx
  refine PySem.SeqAt.neOverData X.prog X.w X.A X.xe sh v _ _ _ as bs _ ra rb (xc s) rfl (by have:=xf s;omega) ⟨.bl _,H,I,?_,q⟩
  show _=Value.bool (!decide (s=bN))
  rw [nj]
 ·cases (show v=Value.ref aA from rx)
  exact PySem.SeqAt.neOverData X.prog X.w X.A X.xe sh _ _ _ _ bs bs _ rb rb rfl rfl (by show X.A.units+1 < cLine;omega) ⟨.bl _,H,I,rfl,q⟩
end
def ik (aA:Addr):Sp:=fun vs H Q _=>∃ (d:Addr) (kvs:List (Key × V)) (ks:List Str) (T:Str->Sx),vs = [.ref d]/\H d=some (.dK kvs)/\Tb aA H kvs ks T/\ks.length < 64/\∀ v H',FV H' v T->ao H H'->Q v H'
def uI (o:Option Int) (n:Int):Option Int:=o.map (· + n)
def uJ (s:Sx) (n:Int):Sx:=(uI s.1 n,uI s.2 n)
def yR (T:Str->Sx):cc->Sx
 | .put _ n=>(some n,some n)
 | .copy _ y=>T y
 | .add x n=>uJ (T x) n
 | .read _=>bN
 | .tell x=>T x
def nq (T:Str->Sx) (d:cc):Str->Sx:=bI T (kQ d) (yR T d)
def cE (T:Str->Sx):List cc->(Str->Sx):=fun ds=>ds.foldl nq T
def nr (K:PySem.W.Frag):Sp:=fun vs H Q _=>∃ (q:Addr) (s:Sx) (n:Int),vs = [.ref q,.int n]/\aw K H q [vO s.1,vO s.2]/\∀ v H',SH H' v (uJ s n)->ao H H'->Q v H'
def jO (aA:Addr):Sp:=fun vs H Q _=>∃ (d q:Addr) (kvs:List (Key × V)) (ks:List Str) (T:Str->Sx) (dd:cc),vs = [.ref d,.ref q]/\H d=some (.dK kvs)/\Tb aA H kvs ks T/\H q=some (.tup (i8 dd))/\∀ v H',SV aA H' v (yR T dd)->ao H H'->Q v H'
theorem mQ:bootBuiltins "all" = some (.builtin "all"):=by decide +kernel
theorem Tb.getD {aA:Addr} {H:Hp} {kvs:List (Key × V)} {ks:List Str} {T:Str->Sx} (h:Tb aA H kvs ks T) (x:Str):∃ v,(bM kvs (Sum.inr x)).getD (.ref aA)=v/\SV aA H v (T x):=by
 rcases h.val x with ⟨a,b,_⟩ | ⟨v,a,b,_⟩
 ·exact⟨_,by rw [a];rfl,.inr ⟨rfl,b⟩⟩
 ·exact⟨v,by rw [a];rfl,b⟩
theorem mR {H:Hp} {v:V} {T:Str->Sx} {y:Str} (h:bC H v (dF T y)):∃ t q,v=.ref t/\H t=some (.tup [.str y,.ref q])/\H q=some (.tup [vO (T y).1,vO (T y).2]):=by
 obtain⟨t,zs,rfl,ht,rz⟩:=bC.cn h
 obtain⟨z1,t2,rfl,g1,rz⟩:=rz.cons_inv
 obtain⟨z2,t3,rfl,g2,rz⟩:=rz.cons_inv
 have z:=rz.nil_inv
 subst z
 obtain⟨q2,ws,rfl,hq2,rw2⟩:=bC.cn g2
 obtain⟨w1,t4,rfl,f1,rw2⟩:=rw2.cons_inv
 obtain⟨w2,t5,rfl,f2,rw2⟩:=rw2.cons_inv
 have z:=rw2.nil_inv
 subst z
 rw [g1.str_inv] at ht
 rw [kT f1,kT f2] at hq2
 exact⟨t,q2,rfl,ht,hq2⟩
section
variable {C D:Addr} {H0 H H1:Hp} {w0 w1:WA} {plv:V} {x0 x1 x':yH}
end
theorem uK {xs:List Str} {m:Nat} {ps:List Piece} (ok:dD xs m ps):(bF ps).length<=ps.length * (2 * m+1):=by
 unfold bF
 have h:∀ p ∈ ps,(pNames p).length<=2 * m+1:=fun p hp=>by
  have h1:=(ok.jH p hp).1
  unfold pNames
  rw [List.length_append]
  have h2:(p.1.flatMap dn).length<=2 * p.1.length:=by
   induction p.1 with
   | nil=>simp
   | cons d ds ih =>
    rw [List.flatMap_cons,List.length_append,List.length_cons]
    have:(dn d).length<=2:=by cases d <;> simp [dn]
    omega
  have h3:(i2 p.2).length<=1:=by cases p.2 <;> simp [i2]
  omega
 clear ok
 induction ps with
 | nil=>simp
 | cons p ps ih =>
  rw [List.flatMap_cons,List.length_append,List.length_cons]
  have h1:=h p (List.mem_cons_self ..)
  have h2:=ih fun q hq=>h q (List.mem_cons_of_mem _ hq)
  rw [Nat.add_mul]
  omega
section
variable {prog:Program} {w:World} {E:Value->Shared->Prop}
end
abbrev KX (kvs:List (PyData × Addr × V)) (xs:List (PyData × Addr × Value)):Prop:=Paired (fun (p:PyData × Addr × V) (q:PyData × Addr × Value)=>p.1=q.1/\p.2.1=q.2.1/\RelV p.2.2 q.2.2) kvs xs
section
variable {X:Cx} {pins:List (Addr × Obj)} {σ : St} {H:Hp} {s:Shared} {a k:Addr} {kvs:List (PyData × Addr × V)} {d:PyData}
end
open LS
section
variable {X:Cx}
end
section
variable {a0 a1 z:V}
end
section
variable {C r m d:Addr} {H H':Hp} {ms:List Nat}
end
section
variable (C:Addr)
end
structure NF (X:Cx) (a:Addr):Prop where
 none_:∀ o,X.dq.heap.get? a=some o->X.jC a=none->a ∉ X.ex->False
 tup:∀ xs,X.jC a ≠ some (.tup xs)
 d6:∀ o u,X.jC a ≠ some (.d6 o u)
 j3:∀ ps,X.jC a ≠ some (.j3 ps)
section
variable {X:Cx} {pins:List (Addr × Obj)} {σ : L2.St} {H:Hp} {s:Shared} {a:Addr}
theorem Inv.nf {kvs:List (Key × V)} (I:Inv X pins σ H s) (e:H a=some (.dK kvs)):NF X a where
 none_:=fun o h1 h2 h3=>by
  have:=I.base.free a o h1 h2 h3
  rw [e] at this
  cases this
 tup:=fun xs h=>by
  have:=I.base.aI a xs h
  rw [e] at this
  cases this
 d6:=fun o u h=>by
  have:=I.base.iq a o u h
  rw [e] at this
  cases this
 j3:=fun ps h=>by
  obtain⟨more,this⟩:=I.base.iN a ps h
  rw [e] at this
  cases this
theorem Inv.swap {u u':HO} (I:Inv X pins σ H s) (nf:NF X a) (e:H a=some u) (no:∀ y,u ≠ .own y) (nt:∀ xs,u ≠ .tup xs) (new:bV X.prog X.w (upd H a u') s.heap a u'):Inv X pins σ (upd H a u') s where
 ok:=I.ok
 os:=I.os
 bare:=I.bare
 base:={
  keep:=I.base.keep
  slot:=I.base.slot
  free:=fun b o h1 h2 h3=>by
   by_cases z:b=a
   ·subst z;exact absurd (nf.none_ o h1 h2 h3) id
   ·rw [av z];exact I.base.free b o h1 h2 h3
  there:=I.base.there
  aI:=fun b xs h=>by
   have z:b ≠ a:=fun z=>by subst z;exact nf.tup xs h
   rw [av z];exact I.base.aI b xs h
  iq:=fun b o v h=>by
   have z:b ≠ a:=fun z=>by subst z;exact nf.d6 o v h
   rw [av z];exact I.base.iq b o v h
  iN:=fun b ps h=>by
   have z:b ≠ a:=fun z=>by subst z;exact nf.j3 ps h
   rw [av z];exact I.base.iN b ps h }
 loc:=I.loc
 cell:=I.cell
 free:=by rw [av (fun z=>by have:=I.free;rw [z,e] at this;cases this)];exact I.free
 d7:=fun x c h=>by rw [av (fun z=>by have:=I.d7 x c h;rw [z,e] at this;cases this)];exact I.d7 x c h
 pin:=fun p hp=>by
  obtain⟨h1,h2,h3⟩:=I.pin p hp
  exact⟨h1,by rw [av (fun z=>by rw [z,e] at h2;cases h2)];exact h2,h3⟩
 aN:=fun b o h=>by
  by_cases z:b=a
  ·subst z
   rw [ae] at h
   cases h
   exact new
  ·rw [av z] at h
   refine (I.aN b o h).lL (fun _ _ _ q=>q) (fun c q=>?_) fun c xs q=>?_
   ·rw [av (fun y=>by rw [y,e] at q;exact no _ (Option.some.inj q))];exact q
   ·rw [av (fun y=>by rw [y,e] at q;exact nt _ (Option.some.inj q))];exact q
 len:=I.len
end
theorem xI {P:Program} {w:World} {k:Key} {v:Value} (h:(aQ P w).is k v=true):RelV (kV k) v:=by
 cases k with
 | inr x=>exact jg h
 | inl i =>
  obtain⟨t,e⟩:=Value.isInt_shape (show Value.isInt i v=true from h)
  exact⟨t,e⟩
def zL (a:Addr) (kvs:List (Key × V)) (ob:Obj):It :=
 ⟨fun i H=>H a=some (.d6 ob (.dK kvs))/\i < kvs.length,fun i H x H'=>H' = H/\∃ k v,kvs[i]? = some (k,v)/\x=kV k,fun i H=>H a=some (.d6 ob (.dK kvs))/\kvs.length<=i⟩
theorem uL {P:Program} {w:World} {K:PySem.W.Frag} {tg:Expr} {kvs:List (Key × V)} {vs:List (Key × Value)} {ob:Obj} {ep:Nat} (a it:Addr) (hat:∀ h:Heap,h.get? a=some ob->h.DictAt (aQ P w) a vs ep) (rel:KV kvs vs) :
  Turn P w K tg (zL a kvs ob) [it] it (fun i h=>h.IsKeyIter it a i vs.length ep) where
 mem:=by simp
 obj:=fun i h st b hb=>by
  have e:b=it:=by simpa using hb
  subst e
  obtain⟨o,e,c,d⟩:=st
  exact⟨o,e,fun v z=>by rw [d] at z;cases z⟩
 keep:=fun i h h' st k=>st.at fun o e=>k it (by simp) o e
 item:=by
  intro X hP hw hK hc i pins s σ H E I hf st hg
  subst hP hw hK
  obtain⟨ha,hi⟩:=hg
  obtain⟨e0,_⟩:=(show bV X.prog X.w H s.heap a (.d6 ob (.dK kvs)) from I.aN a _ ha)
  have hvi:i < vs.length:=by rw [<-rel.length];exact hi
  have hx:vs[i]? = some vs[i]:=by simp [hvi]
  generalize vs[i] = p at hx
  obtain⟨k,u⟩:=p
  obtain⟨v,hkv⟩:∃ v,kvs[i]? = some (k,v):=by
   have e1:(vs.map (·.1))[i]? = some k:=by rw [List.getElem?_map,hx];rfl
   rw [<-rel.keys,List.getElem?_map] at e1
   cases e2:kvs[i]? with
   | none=>rw [e2] at e1;cases e1
   | some q =>
    rw [e2] at e1
    obtain⟨k',v⟩:=q
    cases (Option.some.inj e1)
    exact⟨v,rfl⟩
  obtain⟨f0,f1,f2,f3,f4,f5⟩:=hf it (by simp)
  refine wpAny_pyNext_dict_item st (hat _ e0) hx fun key h' hkey st' sb=>?_
  have I1:Inv X pins σ H { s with heap:=h' }:=I.turned (t':=s.toks) (fun b o hb e=>(sb.2 b hb).trans e) f0 f1 f3 f4 f5
  obtain⟨o,e,c,d⟩:=id st'
  exact⟨key,rfl,oP (s:={ s with heap:=h' }) e c d (by decide) ⟨kV k,H,I1,xI hkey,⟨rfl,k,v,hkv,rfl⟩,st',fun b hb=>(hf b hb).1⟩⟩
 done:=by
  intro X hP hw hK hc i pins s σ H E I hf st hg
  subst hP hw hK
  obtain⟨ha,hi⟩:=hg
  obtain⟨e0,_⟩:=(show bV X.prog X.w H s.heap a (.d6 ob (.dK kvs)) from I.aN a _ ha)
  obtain⟨f0,f1,f2,f3,f4,f5⟩:=hf it (by simp)
  exact wpAny_pyNext_dict_end (I.ok.hd hc) st (hat _ e0) (List.getElem?_eq_none (by rw [<-rel.length];exact hi)) fun h' eb=>⟨rfl,I.turned (t':=s.toks) (fun b o hb e=>eb b o hb e) f0 f1 f3 f4 f5⟩
 self:=fun _ _ _ _ _ st h=>wpAny_pyIter_keyiter st h
section
variable {X:Cx}
def zu (i:Nat) (X:Cx):TI:=fun σ H R=>∃ v,σ[i]? = some (some v)/\∃ a kvs,v=.ref a/\H a=some (.dK kvs)/\∀ ob,NF X a->R (zL a kvs ob) (upd H a (.d6 ob (.dK kvs)))
theorem xJ {tg l:Expr} {i:Nat} (hl:PE X l (oZ i)):PI X tg l (zu i X):=by
 intro pins s σ H R I h
 obtain⟨v0,hv0,a,kvs,rfl,ha,q⟩:=h
 refine bf (hl pins s σ H (fun x H1=>x=.ref a/\H1=H) I ⟨_,hv0,rfl,rfl⟩) fun v s1 ⟨x,H1,I1,r1,e1,e2⟩=>?_
 subst e1 e2
 cases r1
 have nf:=I1.nf ha
 obtain⟨z,hd,vs,rel,dd⟩:=kL I1.aN ha
 obtain⟨ep,ob,es,ho,rest⟩:=dd.dictAt
 have I2:Inv X pins σ (upd H1 a (.d6 ob (.dK kvs))) s1:=I1.swap nf ha (fun _ h=>nomatch h) (fun _ h=>nomatch h) ⟨ho,iY z hd rel ⟨ob,es,ep,ho,rest⟩⟩
 refine wpAny_pyIter_dict hd ⟨ob,es,ho,rest⟩ ?_
 refine⟨s1.heap.objs.size,[s1.heap.objs.size],_,_,_,rfl,I2.kept (t':=s1.toks) fun b o e=>Heap.get?_push_of_some _ e,uL a _ (fun h e=>⟨ob,es,e,rest⟩) rel,⟨_,Heap.get?_push_size _ rfl,rfl,rfl⟩,fun b hb=>?_,q ob nf⟩
 have e:b=s1.heap.objs.size:=by simpa using hb
 subst e
 exact I2.lM (Nat.le_refl _) (I2.aN.fresh (Nat.le_refl _))
def zv (i:Nat) (g:TG) (tb:TS):TS:=fun D σ H=>∃ v,σ[i]? = some (some v)/\∃ a kvs,v=.ref a/\H a=some (.dK kvs)/\∀ ob,∃ Pv:Nat->L2.St->Hp->Prop,Pv 0 σ (upd H a (.d6 ob (.dK kvs))) /\
 (∀ j τ H2,Pv j τ H2->H2 a=some (.d6 ob (.dK kvs))) /\
 (∀ j k u τ H2,kvs[j]? = some (k,u)->Pv j τ H2->g (kV k) τ H2 fun τ3 H3=>tb { D with nx:=Pv (j+1),ct:=Pv (j+1),bk:=fun τ4 H4=>∃ ob',H4 a=some (.d6 ob' (.dK kvs))/\D.nx τ4 (upd H4 a (.dK kvs)),rt:=fun r H4=>∃ ob',H4 a=some (.d6 ob' (.dK kvs))/\D.rt r (upd H4 a (.dK kvs)) } τ3 H3) /\
 (∀ τ H2,Pv kvs.length τ H2->D.nx τ (upd H2 a (.dK kvs)))
theorem yS {pins:List (Addr × Obj)} {σ : L2.St} {H:Hp} {s:Shared} {a:Addr} {ob:Obj} {kvs:List (Key × V)} (I:Inv X pins σ H s) (nf:NF X a) (e:H a=some (.d6 ob (.dK kvs))):Inv X pins σ (upd H a (.dK kvs)) s:=by
 obtain⟨z,hd,vs,rel,dd⟩:=kK I.aN (.inr ⟨ob,e⟩)
 exact I.swap nf e (fun _ h=>nomatch h) (fun _ h=>nomatch h) (iY z hd rel dd)
theorem xK {tg l:Expr} {body:List Stmt} {i:Nat} {g:TG} {tb:TS} {pos:Pos} (hp:PassesOwn (model X.prog X.w) X.A X.env X.xe) (hc:X.calm=true) (hl:PE X l (oZ i)) (hg:PG X tg g) (hb:iP X body tb)
  (hs:∀ x,foldedSetIterable l X.env x=pure x:=by intro _;rfl):PS X (.For tg l body [] pos) (zv i g tb):=by
 intro pins s σ H D I h
 obtain⟨v,hv,a,kvs,rfl,ha,h⟩:=h
 have nf:=I.nf ha
 refine bf (eR hp hc (xJ hl) hg hb hs pins s σ H { nx:=fun τ H2=>∃ ob,H2 a=some (.d6 ob (.dK kvs))/\D.nx τ (upd H2 a (.dK kvs)),rt:=fun r H2=>∃ ob,H2 a=some (.d6 ob (.dK kvs))/\D.rt r (upd H2 a (.dK kvs)),bk:=D.bk,ct:=D.ct } I ?_) fun f s' q=>?_
 ·refine⟨_,hv,a,kvs,rfl,ha,fun ob _=>?_⟩
  obtain⟨Pv,p0,pf,ps,pe⟩:=h ob
  refine⟨fun j m τ H2=>m=kvs.length - j/\j<=kvs.length/\Pv j τ H2,⟨kvs.length,by simp,Nat.zero_le _,p0⟩,?_⟩
  rintro j m τ H2 ⟨rfl,hj,p⟩
  by_cases hlt:j < kvs.length
  ·refine .inr ⟨⟨pf j τ H2 p,hlt⟩,Pv (j+1),fun τ' H' p'=>⟨kvs.length - (j+1),by omega,rfl,hlt,p'⟩,fun x H' y=>?_⟩
   obtain⟨e1,k,u,e2,e3⟩:=y
   subst e1 e3
   exact ps j k u τ _ e2 p
  ·have e:j=kvs.length:=by omega
   subst e
   exact .inl ⟨⟨pf _ τ H2 p,Nat.le_refl _⟩,ob,pf _ τ H2 p,pe τ H2 p⟩
 ·cases f with
  | next =>
   obtain⟨τ,H2,I2,ob,e,q⟩:=q
   exact⟨τ,_,yS I2 nf e,q⟩
  | brk=>exact q
  | cont=>exact q
  | ret u =>
   obtain⟨r,τ,H2,I2,rr,ob,e,q⟩:=q
   exact⟨r,τ,_,yS I2 nf e,rr,q⟩
end
def LT (H:Hp) (d:Addr) (T:Str->Sx) (m:Nat):Prop:=∃ kvs ks,H d=some (.dK kvs)/\Tb 0 H kvs ks T/\(∀ x ∈ ks,T x ≠ bN)/\ks.length<=m
theorem LT.aI {H H':Hp} {d:Addr} {T:Str->Sx} {m:Nat} (h:LT H d T m) (hd:∀ o,H d=some o->H' d=some o) (k:∀ p xs,H p=some (.tup xs)->H' p=some (.tup xs)):LT H' d T m:=by
 obtain⟨kvs,ks,h1,h2,h3,h4⟩:=h
 exact⟨kvs,ks,hd _ h1,h2.aI k,h3,h4⟩
theorem LT.same {H H':Hp} {d:Addr} {T:Str->Sx} {m:Nat} (h:LT H d T m) (s:ao H H'):LT H' d T m:=h.aI (fun o e=>s _ _ e) fun p xs e=>s _ _ e
theorem LT.get {H:Hp} {T:Str->Sx} {kvs:List (Key × V)} {ks:List Str} {t:Addr} (tb:Tb 0 H kvs ks T) (cl:∀ x ∈ ks,T x ≠ bN) (ht:H t=some (.tup [.aS,.aS])) (x:Str):∃ v,(bM kvs (Sum.inr x)).getD (.ref t)=v/\SH H v (T x):=by
 rcases tb.val x with ⟨a,b,_⟩ | ⟨v,a,b,c⟩
 ·exact⟨_,by rw [a];rfl,t,rfl,by rw [b];exact ht⟩
 ·refine⟨v,by rw [a];rfl,?_⟩
  rcases b with b | ⟨_,b⟩
  ·exact b
  ·exact absurd b (cl x c)
theorem oq {T:Str->Sx} {x:Str} (h:T x=bN):bI T x bN=T:=by
 funext y
 unfold bI
 by_cases e:y=x
 ·rw [if_pos e,e,h]
 ·rw [if_neg e]
theorem uM {T:Str->Sx} {x:Str} {s t:Sx}:bI (bI T x s) x t=bI T x t:=by
 funext y
 unfold bI
 by_cases e:y=x
 ·rw [if_pos e,if_pos e]
 ·rw [if_neg e,if_neg e,if_neg e]
theorem ou (k j:Key):∀ kvs:List (Key × V),bM (d9 kvs k) j=if j=k then none else bM kvs j
 | []=>by simp [d9,bM]
 | p :: r=>by
  have ih:=ou k j r
  by_cases e:p.1=k
  ·rw [nX e,ih]
   by_cases z:j=k
   ·rw [if_pos z,if_pos z]
   ·rw [if_neg z,if_neg z,cB (p:=p) (fun w:p.1=j=>z (w.symm.trans e))]
  ·rw [nY e]
   by_cases w:p.1=j
   ·rw [cK w,cK w,if_neg (fun z=>e (w.trans z))]
   ·rw [cB w,cB w,ih]
theorem Tb.drop {aA:Addr} {H:Hp} {kvs:List (Key × V)} {ks:List Str} {T:Str->Sx} (h:Tb aA H kvs ks T) (x:Str):Tb aA H (d9 kvs (Sum.inr x)) (ks.filter fun y=>decide (y ≠ x)) (bI T x bN) where
 keys:=by
  have go:∀ (kvs:List (Key × V)) (ks:List Str),kvs.map (·.1)=ks.map Sum.inr->(d9 kvs (Sum.inr x)).map (·.1)=(ks.filter fun y=>decide (y ≠ x)).map Sum.inr:=by
   intro kvs
   induction kvs with
   | nil =>
    intro ks e
    cases ks with
    | nil=>rfl
    | cons a b=>simp at e
   | cons p r ih =>
    intro ks e
    cases ks with
    | nil=>simp at e
    | cons a b =>
     rw [List.map_cons,List.map_cons] at e
     injection e with e1 e2
     by_cases z:a=x
     ·rw [nX (by rw [e1,z]),List.filter_cons_of_neg (by simp [z])]
      exact ih b e2
     ·rw [nY (fun w=>z (Sum.inr.inj (e1.symm.trans w))),List.filter_cons_of_pos (by simp [z]),List.map_cons,List.map_cons,ih b e2,e1]
  exact go kvs ks h.keys
 nd:=h.nd.filter _
 val:=fun y=>by
  rw [ou]
  unfold bI
  by_cases e:y=x
  ·subst e
   rw [if_pos rfl,if_pos rfl]
   exact .inl ⟨rfl,rfl,by simp⟩
  ·rw [if_neg (fun z=>e (Sum.inr.inj z)),if_neg e]
   rcases h.val y with ⟨a,b,c⟩ | ⟨v,a,b,c⟩
   ·exact .inl ⟨a,b,fun z=>c (List.mem_filter.mp z).1⟩
   ·exact .inr ⟨v,a,b,List.mem_filter.mpr ⟨c,by simp [e]⟩⟩
theorem uN {kvs:List (Key × V)} {k:Key} {v:V} {j:Nat} (nd:(kvs.map (·.1)).Nodup) (h:kvs[j]? = some (k,v)):putK (kvs.take j) k v=kvs.take (j+1):=by
 have hj:j < kvs.length:=(List.getElem?_eq_some_iff.mp h).1
 have hn:¬ k ∈ (kvs.take j).map (·.1):=fun hm=>by
  have hs:(kvs.take (j+1)).map (·.1)=(kvs.take j).map (·.1) ++ [k]:=by
   rw [List.take_add_one,h,List.map_append];rfl
  have nd2:((kvs.take (j+1)).map (·.1)).Nodup:=by
   rw [List.map_take]
   exact nd.sublist (List.take_sublist _ _)
  rw [hs,List.nodup_append] at nd2
  exact nd2.2.2 k hm k (by simp) rfl
 have hv:bM (kvs.take j) k=none:=by
  cases e:bM (kvs.take j) k with
  | none=>rfl
  | some u=>exact absurd (xq e) hn
 rw [vC _ hv,List.take_add_one,h]
 rfl
def kU:Sp:=fun vs H Q _=>∃ (d:Addr) (T:Str->Sx),vs = [.ref d]/\LT H d T 63/\∀ v H',FV H' v T->ao H H'->Q v H'
def nu:Sp:=fun vs H Q _=>∃ (d:Addr) (T:Str->Sx) (m:Nat) (x:Str) (sv:V) (s:Sx),vs = [.ref d,.str x,sv]/\LT H d T m/\m<=60/\SH H sv s/\∀ d' H',LT H' d' (bI T x s) (m+1)->ao H H'->Q (.ref d') H'
def Sound (T:Str->Sx) (w:Str->Int):Prop:=∀ x,bY (w x) (T x).1 (T x).2=true
theorem Sound.step {T:Str->Sx} {w:Str->Int} (h:Sound T w) (x:Str) {n:Int} {s:Sx} (hs:bY n s.1 s.2=true):Sound (bI T x s) (en w x n):=fun y=>by
 unfold bI en
 by_cases e:y=x
 ·rw [if_pos e,if_pos e];exact hs
 ·rw [if_neg e,if_neg e];exact h y
theorem ow {w:Str->Int} {x:Str}:en w x (w x)=w:=by
 funext y
 unfold en
 by_cases e:y=x
 ·rw [if_pos e,e]
 ·rw [if_neg e]
theorem xM {n k:Int} {s:Sx} (h:bY n s.1 s.2=true):bY (n+k) (uJ s k).1 (uJ s k).2=true:=by
 obtain⟨a,b⟩:=s
 cases a <;> cases b <;> simp [bY,uJ,uI] at h ⊢ <;> omega
def eO (lo lo2:Option Int):Bool:=match lo2,lo with
 | none,_=>true
 | some _,none=>false
 | some a,some b=>decide (a<=b)
def dG (hi hi2:Option Int):Bool:=match hi2,hi with
 | none,_=>true
 | some _,none=>false
 | some a,some b=>decide (b<=a)
def cR (s t:Sx):Bool:=eO s.1 t.1 && dG s.2 t.2
def fW (T:Str->Sx) (m:Nat):Prop:=∀ ss:List Str,(∀ x ∈ ss,T x ≠ bN)->ss.Nodup->ss.length<=m
def nv (aA:Addr):Sp:=fun vs H Q _=>∃ (fv:V) (x:Str) (T:Str->Sx),vs = [fv,.str x]/\FV H fv T/\∀ v H',SV aA H' v (T x)->ao H H'->Q v H'
def jj (aA:Addr):Sp:=fun vs H Q _=>∃ (fv sv:V) (x:Str) (T:Str->Sx) (s:Sx),vs = [fv,.str x,sv]/\FV H fv T/\SV aA H sv s/\fW T 62/\∀ v H',FV H' v (bI T x s)->ao H H'->Q v H'
def jc (K:PySem.W.Frag):Sp:=fun vs H Q _=>∃ (p q:Addr) (s t:Sx),vs = [.ref p,.ref q]/\aw K H p [vO s.1,vO s.2]/\aw K H q [vO t.1,vO t.2]/\Q (.bl (cR s t)) H
def lU:Sp:=fun vs H Q _=>∃ (fv:V) (d:Addr) (kvs:List (Key × V)) (w:Str->Int) (T:Str->Sx),vs = [fv,.ref d]/\FV H fv T/\H d=some (.dK kvs)/\DW kvs w/\fW T 63/\∀ b H',(b=true ↔ Sound T w)->ao H H'->Q (.bl b) H'
def lV:Sp:=fun vs H Q _=>∃ (fv gv:V) (T U:Str->Sx),vs = [fv,gv]/\FV H fv T/\FV H gv U/\fW T 63/\∀ b H',(b=true ↔ ∀ x,cR (U x) (T x)=true)->ao H H'->Q (.bl b) H'
theorem uO {T:Str->Sx} {w:Str->Int} {ss:List Str} (hm:∀ x,x ∈ ss ↔ T x ≠ bN):(ss.map fun x=>bY (w x) (T x).1 (T x).2).all id=true ↔ Sound T w:=by
 rw [List.all_eq_true]
 constructor
 ·intro h x
  by_cases e:T x=bN
  ·rw [e];rfl
  ·exact h _ (List.mem_map.mpr ⟨x,(hm x).mpr e,rfl⟩)
 ·intro h b hb
  obtain⟨x,_,rfl⟩:=List.mem_map.mp hb
  exact h x
theorem ny (s:Sx):cR s bN=true:=by
 obtain⟨a,b⟩:=s
 cases a <;> cases b <;> rfl
theorem uP {T U:Str->Sx} {ss:List Str} (hm:∀ x,x ∈ ss ↔ T x ≠ bN):(ss.map fun x=>cR (U x) (T x)).all id=true ↔ ∀ x,cR (U x) (T x)=true:=by
 rw [List.all_eq_true]
 constructor
 ·intro h x
  by_cases e:T x=bN
  ·rw [e];exact ny _
  ·exact h _ (List.mem_map.mpr ⟨x,(hm x).mpr e,rfl⟩)
 ·intro h b hb
  obtain⟨x,_,rfl⟩:=List.mem_map.mp hb
  exact h x
section
variable {X:Cx}
end
theorem wb (s:Sx):cR s s=true:=by
 obtain⟨a,b⟩:=s
 cases a <;> cases b <;> simp [cR,eO,dG]
theorem LT.yT {H:Hp} {d b:Addr} {T:Str->Sx} {m:Nat} (h:LT H d T m) (B:bR H b):d ≠ b:=by
 obtain⟨kvs,ks,g1,_⟩:=h
 obtain⟨x,y,e,_⟩:=B
 exact bQ g1 e (by intro z;cases z)
theorem LT.fix {H H':Hp} {d b:Addr} {T:Str->Sx} {m:Nat} (h:LT H d T m) (B:bR H b) (X:Fix b H H'):LT H' d T m :=
 h.aI (fun o e=>X d o e (h.yT B)) fun p zs e=>X p _ e (B.eT e)
theorem LT.up {H:Hp} {d:Addr} {T:Str->Sx} {m n:Nat} (h:LT H d T m) (le:m<=n):LT H d T n:=by
 obtain⟨kvs,ks,g1,g2,g3,g4⟩:=h
 exact⟨kvs,ks,g1,g2,g3,Nat.le_trans g4 le⟩
def kW (K:PySem.W.Frag):Sp:=fun vs H Q _=>∃ (n:Int) (q:Addr) (lo hi:Option Int),vs = [.int n,.ref q]/\aw K H q [vO lo,vO hi]/\Q (.bl (bY n lo hi)) H
def ir (K:PySem.W.Frag) (F:Option Int->Option Int->Int->Rs):Sp:=fun vs H Q _=>∃ (p:Addr) (n:Int) (lo hi:Option Int),vs = [.ref p,.int n]/\aw K H p [vO lo,vO hi]/\∀ v H',RV H' v (F lo hi n)->ao H H'->Q v H'
def nz (K:PySem.W.Frag):Sp:=fun vs H Q _=>∃ (p:Addr) (w:Str) (n:Int) (side:Bool) (lo hi:Option Int),vs = [.ref p,.str w,.int n,.bl side]/\aw K H p [vO lo,vO hi]/\∀ v H',RV H' v (fj w lo hi n side)->ao H H'->Q v H'
def dJ (T:Str->Sx) (b:Bool) (x:Str) (n:Int) (side:Bool):Rs:=fj (wT b) (T x).1 (T x).2 n side
def iu (T:Str->Sx):End->List (Option (Str->Sx))
 | .stop=>[]
 | .go _=>[some T]
 | .cY b x n _ _=>[(dJ T b x n true).map (bI T x),(dJ T b x n false).map (bI T x)]
def BV (H:Hp) (u:V):Option (Str->Sx)->Prop
 | none=>u=.aS
 | some T=>FV H u T
theorem BV.same {H H':Hp} {u:V} {o:Option (Str->Sx)} (h:BV H u o) (s:ao H H'):BV H' u o:=by
 cases o with
 | none=>exact h
 | some T=>exact FV.same h s
theorem BV.aI {H H':Hp} {u:V} {o:Option (Str->Sx)} (h:BV H u o) (k:∀ p xs,H p=some (.tup xs)->H' p=some (.tup xs)):BV H' u o:=by
 cases o with
 | none=>exact h
 | some T=>exact FV.aI h k
def bJ (H:Hp) (us:List V) (os:List (Option (Str->Sx))):Prop:=Paired (BV H) us os
def df (T:Str->Sx) (e:End):List (Nat × (Str->Sx)):=((cM e).zip (iu T e)).filterMap fun p=>p.2.map fun U=>(p.1,U)
def lW (aA:Addr):Sp:=fun vs H Q _=>∃ (fv:V) (ea:Addr) (T:Str->Sx) (e:End),vs = [fv,.ref ea]/\FV H fv T/\H ea=some (.tup (iZ e))/\fW T 62 /\
 ∀ (t:Addr) (us:List V) (H':Hp),H' t=some (.tup us)->bJ H' us (iu T e)->ao H H'->Q (.ref t) H'
def PV (H:Hp) (v:V) (p:Nat × (Str->Sx)):Prop:=∃ q u,v=.ref q/\H q=some (.tup [.int p.1,u])/\FV H u p.2
theorem PV.aI {H H':Hp} {v:V} {p:Nat × (Str->Sx)} (h:PV H v p) (k:∀ p xs,H p=some (.tup xs)->H' p=some (.tup xs)):PV H' v p:=by
 obtain⟨q,u,e,h1,h2⟩:=h
 exact⟨q,u,e,k _ _ h1,h2.aI k⟩
def jW (H:Hp) (vs:List V) (ps:List (Nat × (Str->Sx))):Prop:=Paired (PV H) vs ps
theorem jW.aI {H H':Hp} (k:∀ p xs,H p=some (.tup xs)->H' p=some (.tup xs)):∀ {vs:List V} {ps:List (Nat × (Str->Sx))},jW H vs ps->jW H' vs ps
 | _,_,.nil=>.nil
 | _,_,.cons h t=>.cons (h.aI k) (jW.aI k t)
theorem bJ.aI {H H':Hp} (k:∀ p xs,H p=some (.tup xs)->H' p=some (.tup xs)):∀ {vs:List V} {ps:List (Option (Str->Sx))},bJ H vs ps->bJ H' vs ps
 | _,_,.nil=>.nil
 | _,_,.cons h t=>.cons (h.aI k) (bJ.aI k t)
theorem jW.same {H H':Hp} {vs:List V} {ps:List (Nat × (Str->Sx))} (h:jW H vs ps) (s:ao H H'):jW H' vs ps:=h.aI fun p xs e=>s _ _ e
theorem bJ.same {H H':Hp} {vs:List V} {ps:List (Option (Str->Sx))} (h:bJ H vs ps) (s:ao H H'):bJ H' vs ps:=h.aI fun p xs e=>s _ _ e
def nB (aA:Addr):Sp:=fun vs H Q _=>∃ (fv:V) (ea:Addr) (T:Str->Sx) (e:End),vs = [fv,.ref ea]/\FV H fv T/\H ea=some (.tup (iZ e))/\fW T 62 /\
 ∀ (t:Addr) (vs:List V) (H':Hp),H' t=some (.tup vs)->jW H' vs (df T e)->ao H H'->Q (.ref t) H'
theorem xN {T:Str->Sx} {e:End} (h:(cM e).length < 2):iu T e=(cM e).map fun _=>some T:=by
 cases e with
 | stop=>rfl
 | go p=>rfl
 | cY b x n p q=>exact absurd h (by show ¬ 2 < 2;omega)
theorem se {H:Hp} {fv:V} {T:Str->Sx} (h:FV H fv T):∀ l:List Nat,bJ H (List.replicate l.length fv) (l.map fun _=>some T)
 | []=>.nil
 | _ :: l=>.cons h (se h l)
def lH (H:Hp) (vs:List V) (rs:List Rs):Prop:=Paired (RV H) vs rs
theorem lH.same {H H':Hp} (s:ao H H'):∀ {vs:List V} {rs:List Rs},lH H vs rs->lH H' vs rs
 | _,_,.nil=>.nil
 | _,_,.cons h t=>.cons (h.same s) (lH.same s t)
theorem lH.put {H:Hp} {l:Addr} {xs:List V} {o:HO} (hl:H l=some (.lst xs)):∀ {vs:List V} {rs:List Rs},lH H vs rs->lH (upd H l o) vs rs
 | _,_,.nil=>.nil
 | _,_,.cons h t=>.cons (h.put hl) (lH.put hl t)
theorem RV.sv {aA:Addr} {H:Hp} {v:V} {s:Sx} (h:RV H v (some s)):SV aA H v s:=by
 obtain⟨a,b⟩:=s
 obtain⟨p,e,h⟩:=h
 exact .inl ⟨p,e,h⟩
def ql (ss:List Str):PyData:=.tuple (ss.map fun x=>.tuple [.str x,.tuple [.int 0,.int 0]])
def nE:Sp:=fun vs H Q _=>∃ (plv:V) (ps:List Piece) (xs:List Str) (m:Nat),vs = [plv]/\bC H plv (hV ps)/\dD xs m ps/\xs.length < 64/\(bF ps).length<=4000 /\
 ∀ (v:V) (ss:List Str) (H':Hp),bC H' v (ql ss)->ss.Perm (de (bF ps))->sortedS ss=true->ao H H'->Q v H'
theorem il:∀ ss:List Str,cm (ss.map fun x=>PyData.tuple [.str x,.tuple [.int 0,.int 0]])=true
 | []=>rfl
 | x :: ss=>by
  show (true && cm (ss.map fun x=>PyData.tuple [.str x,.tuple [.int 0,.int 0]]))=true
  rw [il ss];rfl
theorem uQ {T:Str->Sx} {e:End} {i k:Nat} {o:Option (Str->Sx)} (h1:(cM e)[i]? = some k) (h2:(iu T e)[i]? = some o) :
  (((cM e).zip (iu T e)).take (i+1)).filterMap (fun p=>p.2.map fun U=>(p.1,U))=(((cM e).zip (iu T e)).take i).filterMap (fun p=>p.2.map fun U=>(p.1,U))++(o.map fun U=>(k,U)).toList:=by
 have hz:((cM e).zip (iu T e))[i]? = some (k,o):=by rw [List.getElem?_zip_eq_some];exact⟨h1,h2⟩
 rw [List.take_add_one,hz,List.filterMap_append]
 cases o <;> rfl
theorem ip {α β : Type} {F:α->β->Prop} {l:List α} {m:List β} (h:Paired F l m) {i:Nat} {x:α} (e:l[i]? = some x):∃ y,m[i]? = some y/\F x y:=LS.jN h e
theorem fK {α β : Type} {F:α->β->Prop}:∀ {l l':List α} {m m':List β},Paired F l m->Paired F l' m'->Paired F (l++l') (m++m')
 | _,_,_,_,.nil,h=>h
 | _,_,_,_,.cons r t,h=>.cons r (fK t h)
section
variable {prog:Program} {w:World} {A:Around} {E:Value->Shared->Prop} {s:Shared}
end
section
variable {X:Cx}
end
section
variable {X:Cx}
end
section
variable {prog:Program} {w:World} {A:Around} {E:Value->Shared->Prop} {s:Shared}
end
section
variable {X:Cx}
end
section
variable {X:Cx}
end
section
variable {P:Program} {w:World} {K:PySem.W.Frag} {mg:Str->Option Value} {base:Heap}
end
section
variable {P:Program} {w:World} {C r m d:Addr} {H H':Hp} {ms:List (PyData × Addr)}
end
section
variable (P:Program) (w:World) (C:Addr)
end
def T0:Str->Sx:=fun _=>bN
def FD (T:Str->Sx) (d:PyData):Prop:=∃ ss:List Str,om ss/\(∀ x,x ∈ ss ↔ T x ≠ bN)/\d=uG T ss
theorem FD.fv {H:Hp} {v:V} {T:Str->Sx} {d:PyData} (h:FD T d) (r:bC H v d):FV H v T:=by
 obtain⟨ss,srt,hm,rfl⟩:=h
 obtain⟨p,xs,rfl,hp,r⟩:=bC.cn r
 exact⟨p,xs,ss,rfl,hp,srt,hm,r⟩
theorem FD.zero:FD T0 (.tuple []):=⟨[],⟨List.Pairwise.nil,List.nodup_nil⟩,fun x=>⟨fun h=>(nomatch h),fun h=>absurd rfl h⟩,rfl⟩
section
variable (tops:Nat->Prop) (most:Nat)
end
structure cy (xs:List Str) (T:Str->Sx):Prop where
 sup:∀ x,T x ≠ bN->x ∈ xs
 le:∀ x,iy (T x).1 (T x).2
theorem cy.zero {xs:List Str}:cy xs T0:=⟨fun x h=>absurd rfl h,fun x=>True.intro⟩
theorem cy.set {xs:List Str} {T:Str->Sx} (h:cy xs T) {x:Str} {s:Sx} (hx:x ∈ xs) (hs:iy s.1 s.2):cy xs (bI T x s):=by
 refine⟨fun y hy=>?_,fun y=>?_⟩
 ·unfold bI at hy
  by_cases e:y=x
  ·rw [e];exact hx
  ·rw [if_neg e] at hy;exact h.sup y hy
 ·unfold bI
  by_cases e:y=x
  ·rw [if_pos e];exact hs
  ·rw [if_neg e];exact h.le y
theorem xO {w:Str} {lo hi:Option Int} {n:Int} {side:Bool} {s:Sx} (le:iy lo hi) (h:fj w lo hi n side=some s):iy s.1 s.2:=by
 unfold fj at h
 split at h
 ·unfold kP at h
  split at h
  ·unfold ft at h
   cases lo with
   | none=>cases h;exact True.intro
   | some l =>
    dsimp only at h
    split at h
    ·cases h
    ·cases h;show l<=je hi n;omega
  ·unfold gH at h
   cases hi with
   | none=>cases h;exact True.intro
   | some l =>
    dsimp only at h
    split at h
    ·cases h
    ·cases h;show jf lo n<=l;omega
 ·unfold rS at h
  split at h
  ·unfold mH at h
   split at h
   ·cases h;exact Int.le_refl n
   ·cases h
  ·unfold i0 at h
   split at h
   ·next h1 =>
    split at h
    ·cases h
    ·next h2 =>
     cases h
     subst h1
     cases hi with
     | none=>exact True.intro
     | some b =>
      have:n<=b:=le
      have:¬ b=n:=fun z=>h2 (by rw [z])
      show n+1<=b
      omega
   ·next h1 =>
    split at h
    ·next h2 =>
     cases h
     subst h2
     cases lo with
     | none=>exact True.intro
     | some a =>
      have:a<=n:=le
      have:¬ a=n:=fun z=>h1 (by rw [z])
      show a<=n - 1
      omega
    ·cases h;exact le
theorem cy.AA {xs:List Str} {T:Str->Sx} (h:cy xs T) {d:cc} (hd:fq xs d):cy xs (nq T d):=by
 refine h.set hd.name ?_
 cases d with
 | put x n=>exact Int.le_refl n
 | copy x y=>exact h.le y
 | add x n =>
  have:=h.le x
  show iy (uI (T x).1 n) (uI (T x).2 n)
  cases e1:(T x).1 with
  | none=>exact True.intro
  | some a=>cases e2:(T x).2 with
   | none=>exact True.intro
   | some b =>
    rw [e1,e2] at this
    have:a<=b:=this
    show a+n<=b+n
    omega
 | read x=>exact True.intro
 | tell x=>exact h.le x
theorem cy.nF {xs:List Str}:∀ {ds:List cc} {T:Str->Sx},cy xs T->(∀ d ∈ ds,fq xs d)->cy xs (cE T ds)
 | [],_,h,_=>h
 | d :: ds,T,h,hd=>cy.nF (ds:=ds) (h.AA (hd d (List.mem_cons_self ..))) fun e he=>hd e (List.mem_cons_of_mem _ he)
theorem nG {xs:List Str} {c:Nat} {T:Str->Sx} {e:End} (h:cy xs T) (he:mD xs c e):∀ p ∈ df T e,p.1 < c/\cy xs p.2:=fun p hp=>by
 unfold df at hp
 obtain⟨⟨k,o⟩,ho,hm⟩:=List.mem_filterMap.mp hp
 have hz:=List.of_mem_zip ho
 cases e with
 | stop=>cases hz.1
 | go q =>
  rw [List.mem_singleton.mp hz.2] at hm
  cases hm
  exact⟨by rw [List.mem_singleton.mp hz.1];exact he,h⟩
 | cY b x n q r =>
  have hk:k < c:=by
   rcases List.mem_cons.mp hz.1 with z | z
   ·rw [z];exact he.2.2.1
   ·rw [List.mem_singleton.mp z];exact he.2.2.2
  have key:∀ side,o=(dJ T b x n side).map (bI T x)->p.1 < c/\cy xs p.2:=fun side eo=>by
   dsimp only at hm
   rw [eo] at hm
   cases z:dJ T b x n side with
   | none=>rw [z] at hm;cases hm
   | some s =>
    rw [z] at hm
    cases hm
    exact⟨hk,h.set he.1 (xO (h.le x) z)⟩
  rcases List.mem_cons.mp hz.2 with z | z
  ·exact key true z
  ·exact key false (List.mem_singleton.mp z)
theorem wc {xs:List Str} {T:Str->Sx} {e:End} (h:cy xs T):((df T e).length=1\/(df T e).length=(cM e).length)/\(df T e).length<=2:=by
 cases e with
 | stop=>exact⟨.inr rfl,Nat.zero_le _⟩
 | go q=>exact⟨.inl rfl,by show 1<=2;decide⟩
 | cY b x n q r =>
  have e:df T (.cY b x n q r)=((dJ T b x n true).map fun s=>(q,bI T x s)).toList++((dJ T b x n false).map fun s=>(r,bI T x s)).toList:=by
   unfold df
   show ([(q,(dJ T b x n true).map (bI T x)),(r,(dJ T b x n false).map (bI T x))].filterMap fun p=>p.2.map fun U=>(p.1,U))=_
   cases dJ T b x n true <;> cases dJ T b x n false <;> rfl
  rw [e]
  cases e1:dJ T b x n true with
  | none=>cases e2:dJ T b x n false with
   | none=>exact (vI (h.le x) e1 e2).elim
   | some s=>exact⟨.inl rfl,by show 1<=2;decide⟩
  | some s=>cases e2:dJ T b x n false with
   | none=>exact⟨.inl rfl,by show 1<=2;decide⟩
   | some s=>exact⟨.inr rfl,Nat.le_refl 2⟩
theorem cy.bc {xs:List Str} {T:Str->Sx} (h:cy xs T):fW T xs.length:=fun ss hs nd=>sub_len nd fun x hx=>h.sup x (hs x hx)
open Classical in
noncomputable def startT (ps:List Piece):Str->Sx:=fun x=>if x ∈ bF ps then (some 0,some 0) else bN
theorem we {ps:List Piece} {ss:List Str} (hp:ss.Perm (LS.de (bF ps))) (hs:sortedS ss=true):FD (startT ps) (ql ss):=by
 have hm:∀ x,x ∈ ss ↔ x ∈ bF ps:=fun x=>hp.mem_iff.trans LS.oa
 refine⟨ss,⟨ko hs,hp.nodup_iff.mpr (LS.qg _)⟩,fun x=>?_,?_⟩
 ·rw [hm]
  unfold startT
  by_cases h:x ∈ bF ps
  ·rw [if_pos h];exact⟨fun _ z=>(by cases z),fun _=>h⟩
  ·rw [if_neg h];exact⟨fun z=>absurd z h,fun z=>absurd rfl z⟩
 ·unfold ql uG
  congr 1
  refine List.map_congr_left fun x hx=>?_
  unfold dF startT
  rw [if_pos ((hm x).mp hx)]
  rfl
theorem wg {ps:List Piece} {xs:List Str} {m:Nat} (ok:dD xs m ps):cy xs (startT ps):=by
 refine⟨fun x hx=>?_,fun x=>?_⟩
 ·unfold startT at hx
  by_cases h:x ∈ bF ps
  ·exact og ok x h
  ·rw [if_neg h] at hx;exact absurd rfl hx
 ·unfold startT
  split
  ·exact Int.le_refl 0
  ·exact True.intro
section
variable {prog:Program} {w:World} {A:Around} {E:Value->Shared->Prop} {s:Shared}
end
section
variable {X:Cx}
end
open Classical in
noncomputable def lX (T:Str->Sx) (ss:List Str):Str->Sx:=fun x=>if x ∈ ss then T x else bN
theorem wj {T:Str->Sx} {ss:List Str} {x:Str}:bI (lX T ss) x (T x)=lX T (ss ++ [x]):=by
 funext y
 unfold bI lX
 by_cases e:y=x
 ·rw [if_pos e,if_pos (by rw [e];exact List.mem_append_right _ (List.mem_singleton.mpr rfl)),e]
 ·rw [if_neg e]
  by_cases h:y ∈ ss
  ·rw [if_pos h,if_pos (List.mem_append_left _ h)]
  ·rw [if_neg h,if_neg (fun z=>(List.mem_append.mp z).elim h fun w=>e (List.mem_singleton.mp w))]
theorem wk {T:Str->Sx} {ss:List Str} (h:∀ x,x ∈ ss ↔ T x ≠ bN):lX T ss=T:=by
 funext x
 unfold lX
 by_cases z:x ∈ ss
 ·rw [if_pos z]
 ·rw [if_neg z]
  exact (Classical.byContradiction fun w=>z ((h x).mpr fun e=>w e.symm))
theorem qm {H:Hp} {v:V} {o:Option Int} (h:bC H v (dO o)):v=vO o:=by
 cases o with
 | none=>cases h;rfl
 | some i=>cases h;rfl
theorem wm {H:Hp} {v:V} {s:Sx} (h:bC H v (dS s)):SH H v s:=by
 obtain⟨p,zs,rfl,hp,r⟩:=bC.cn h
 obtain⟨y1,t1,rfl,q1,r⟩:=r.cons_inv
 obtain⟨y2,t2,rfl,q2,r⟩:=r.cons_inv
 have z:=r.nil_inv
 subst z
 rw [qm q1,qm q2] at hp
 exact⟨p,rfl,hp⟩
section
variable {tops:Nat->Prop} {most:Nat}
end
section
variable {X:Cx}
end
def yU (e:End) (w:Str->Int):Option Nat:=match e with
 | .stop=>none
 | .go p=>some p
 | .cY b x n p q=>some (if gS b (w x) n=true then p else q)
theorem uR (S:RS) (e:End):kO S e=match yU e S.w with
  | none=>{ S with word := "stop" }
  | some p=>{ S with bW:=p,place:=0,cx:=S.cx ++ [p] }:=by
 cases e <;> rfl
theorem sY {w:Str->Int}:Sound T0 w:=fun x=>rfl
theorem Sound.qo {T:Str->Sx} {w w':Str->Int} {d:cc} (h:Sound T w) (hw:w' = match d with
  | .put x n=>en w x n
  | .copy x y=>en w x (w y)
  | .add x n=>en w x (w x+n)
  | .tell _=>w
  | .read x=>en w x (w' x)):Sound (nq T d) w':=by
 cases d with
 | put x n=>rw [hw];exact h.step x (n:=n) (s:=(some n,some n)) (by simp [bY])
 | copy x y=>rw [hw];exact h.step x (h y)
 | add x n=>rw [hw];exact h.step x (xM (h x))
 | tell x =>
  rw [hw]
  have:=h.step x (n:=w x) (s:=T x) (h x)
  rw [ow] at this
  exact this
 | read x=>rw [hw];exact h.step x (s:=bN) rfl
theorem xP {b:Bool} {lo hi:Option Int} {n u:Int} (h:bY u lo hi=true):∃ s,fj (wT b) lo hi n (gS b u n)=some s/\bY u s.1 s.2=true:=by
 cases b with
 | true =>
  have ew:(wT true:Str) = "less" := rfl
  unfold fj
  rw [if_pos ew]
  unfold kP gS
  rw [if_pos rfl]
  by_cases hu:u < n
  ·rw [if_pos (decide_eq_true hu)]
   unfold ft je
   cases lo <;> cases hi <;> simp only [bY,Bool.and_eq_true,Bool.true_and,Bool.and_true,decide_eq_true_eq] at h ⊢
   ·exact⟨_,rfl,by simp [bY];omega⟩
   ·rename_i hh
    refine⟨_,rfl,?_⟩
    exact⟨rfl,decide_eq_true (by split <;> omega)⟩
   ·rw [if_neg (by omega)];refine⟨_,rfl,?_⟩;simp only [Bool.and_eq_true,decide_eq_true_eq];omega
   ·rename_i l hh
    rw [if_neg (by split <;> omega)]
    refine⟨_,rfl,?_⟩
    simp only [Bool.and_eq_true,decide_eq_true_eq]
    refine⟨h.1,?_⟩
    split <;> omega
  ·rw [if_neg (fun z=>hu (of_decide_eq_true z))]
   unfold gH jf
   cases lo <;> cases hi <;> simp only [bY,Bool.and_eq_true,Bool.true_and,Bool.and_true,decide_eq_true_eq] at h ⊢
   ·exact⟨_,rfl,by simp [bY];omega⟩
   ·rw [if_neg (by omega)];refine⟨_,rfl,?_⟩;simp only [Bool.and_eq_true,decide_eq_true_eq];omega
   ·rename_i l
    refine⟨_,rfl,?_⟩
    exact⟨decide_eq_true (by split <;> omega),rfl⟩
   ·rw [if_neg (by split <;> omega)]
    refine⟨_,rfl,?_⟩
    simp only [Bool.and_eq_true,decide_eq_true_eq]
    refine⟨?_,h.2⟩
    split <;> omega
 | false =>
  have ew:¬ (wT false:Str) = "less" := by decide +kernel
  unfold fj
  rw [if_neg ew]
  unfold rS
  have ea:gS false u n=decide (u=n):=rfl
  rw [ea]
  by_cases hu:u=n
  ·subst hu
   rw [if_pos (decide_eq_true rfl)]
   unfold mH
   rw [if_pos h]
   exact⟨_,rfl,by simp [bY]⟩
  ·rw [if_neg (fun z=>hu (of_decide_eq_true z))]
   unfold i0
   by_cases h1:lo=some n
   ·subst h1
    by_cases h2:hi=some n
    ·subst h2
     simp only [bY,Bool.and_eq_true,decide_eq_true_eq] at h
     omega
    ·rw [if_pos rfl,if_neg h2]
     refine⟨_,rfl,?_⟩
     simp only [bY,Bool.and_eq_true,decide_eq_true_eq] at h ⊢
     exact⟨by omega,h.2⟩
   ·rw [if_neg h1]
    by_cases h2:hi=some n
    ·subst h2
     rw [if_pos rfl]
     refine⟨_,rfl,?_⟩
     simp only [bY,Bool.and_eq_true,decide_eq_true_eq] at h ⊢
     exact⟨h.1,by omega⟩
    ·rw [if_neg h2]
     exact⟨_,rfl,h⟩
theorem Sound.cut {T:Str->Sx} {w:Str->Int} (h:Sound T w) {x:Str} {s:Sx} (hs:bY (w x) s.1 s.2=true):Sound (bI T x s) w:=by
 have:=h.step x hs
 rw [ow] at this
 exact this
theorem wo {T:Str->Sx} {b:Bool} {x:Str} {n:Int} {q r:Nat}:df T (.cY b x n q r)=((dJ T b x n true).map fun s=>(q,bI T x s)).toList++((dJ T b x n false).map fun s=>(r,bI T x s)).toList:=by
 unfold df
 show ([(q,(dJ T b x n true).map (bI T x)),(r,(dJ T b x n false).map (bI T x))].filterMap fun p=>p.2.map fun U=>(p.1,U))=_
 cases dJ T b x n true <;> cases dJ T b x n false <;> rfl
theorem sZ {T:Str->Sx} {ds:List cc} {d:cc}:cE T (ds ++ [d])=nq (cE T ds) d:=by
 unfold cE
 rw [List.foldl_append]
 rfl
theorem gW {X:Cx} {e1 e2 e3 e4 e5 e6 e7:Expr} {t1 t2 t3 t4 t5 t6 t7:TE} (h1:PE X e1 t1) (h2:PE X e2 t2) (h3:PE X e3 t3) (h4:PE X e4 t4) (h5:PE X e5 t5) (h6:PE X e6 t6) (h7:PE X e7 t7)
  (s1:starEach [e1,e2,e3,e4,e5,e6,e7] X.env=(false,eval e1 X.env) :: starEach [e2,e3,e4,e5,e6,e7] X.env:=by rfl) (s2:starEach [e2,e3,e4,e5,e6,e7] X.env=(false,eval e2 X.env) :: starEach [e3,e4,e5,e6,e7] X.env:=by rfl) (s3:starEach [e3,e4,e5,e6,e7] X.env=(false,eval e3 X.env) :: starEach [e4,e5,e6,e7] X.env:=by rfl) (s4:starEach [e4,e5,e6,e7] X.env=(false,eval e4 X.env) :: starEach [e5,e6,e7] X.env:=by rfl) (s5:starEach [e5,e6,e7] X.env=(false,eval e5 X.env) :: starEach [e6,e7] X.env:=by rfl) (s6:starEach [e6,e7] X.env=(false,eval e6 X.env) :: starEach [e7] X.env:=by rfl) (s7:starEach [e7] X.env=(false,eval e7 X.env) :: starEach [] X.env:=by rfl) :
  PA X [e1,e2,e3,e4,e5,e6,e7] (bZ t1 (bZ t2 (bZ t3 (bZ t4 (bZ t5 (bZ t6 (bZ t7 gh))))))):=(aa h1 (aa h2 (aa h3 (aa h4 (aa h5 (aa h6 (aa h7 af s7) s6) s5) s4) s3) s2) s1)
abbrev cF:=List (Option (Str->Sx))
def Met (tab:cF) (ld:Nat × (Str->Sx)):Prop:=∃ T,tab[ld.1]? = some (some T)/\∀ x,cR (ld.2 x) (T x)=true
def nH (tab:cF) (o:Option (Str->Sx)) (p:Piece):Prop:=∀ T,o=some T->∀ ld ∈ df (cE T p.1) p.2,Met tab ld
structure fw (ps:List Piece) (tab:cF):Prop where
 len:tab.length=ps.length
 zero:∃ T,tab[0]? = some (some T)/\Sound T fun _=>0
 met:∀ (k:Nat) (p:Piece) (o:Option (Str->Sx)),ps[k]? = some p->tab[k]? = some o->nH tab o p
theorem uS {a b:Option Int} {n:Int}:(match a with | none=>true | some a=>decide (a<=n))=true->eO a b=true->(match b with | none=>true | some a=>decide (a<=n))=true:=by
 intro hl h
 cases b with
 | none=>rfl
 | some b =>
  cases a with
  | none=>cases h
  | some a =>
   have h1:b<=a:=of_decide_eq_true h
   have h2:a<=n:=of_decide_eq_true hl
   exact decide_eq_true (by omega)
theorem tf {a b:Option Int} {n:Int}:(match a with | none=>true | some a=>decide (n<=a))=true->dG a b=true->(match b with | none=>true | some a=>decide (n<=a))=true:=by
 intro hl h
 cases b with
 | none=>rfl
 | some b =>
  cases a with
  | none=>cases h
  | some a =>
   have h1:a<=b:=of_decide_eq_true h
   have h2:n<=a:=of_decide_eq_true hl
   exact decide_eq_true (by omega)
theorem wq {s t:Sx} {n:Int} (h:cR s t=true) (hl:bY n s.1 s.2=true):bY n t.1 t.2=true:=by
 unfold cR at h
 unfold bY at hl ⊢
 rw [Bool.and_eq_true] at h hl ⊢
 exact⟨uS hl.1 h.1,tf hl.2 h.2⟩
theorem Sound.wide {T U:Str->Sx} {w:Str->Int} (h:Sound T w) (hu:∀ x,cR (T x) (U x)=true):Sound U w:=fun x=>wq (hu x) (h x)
theorem tj {a b c:Option Int} (h:eO a b=true) (g:eO b c=true):eO a c=true:=by
 cases c with
 | none=>rfl
 | some c =>
  cases b with
  | none=>cases g
  | some b =>
   cases a with
   | none=>cases h
   | some a =>
    have h1:b<=a:=of_decide_eq_true h
    have h2:c<=b:=of_decide_eq_true g
    exact decide_eq_true (by omega)
theorem qQ {a b c:Option Int} (h:dG a b=true) (g:dG b c=true):dG a c=true:=by
 cases c with
 | none=>rfl
 | some c =>
  cases b with
  | none=>cases g
  | some b =>
   cases a with
   | none=>cases h
   | some a =>
    have h1:a<=b:=of_decide_eq_true h
    have h2:b<=c:=of_decide_eq_true g
    exact decide_eq_true (by omega)
theorem uT {a b c:Sx} (h:cR a b=true) (g:cR b c=true):cR a c=true:=by
 unfold cR at h g ⊢
 rw [Bool.and_eq_true] at h g ⊢
 exact⟨tj h.1 g.1,qQ h.2 g.2⟩
def kq (ps:List Piece) (tab:cF) (S:RS):Prop:=∃ T p,tab[S.bW]? = some (some T)/\ps[S.bW]? = some p/\Sound (cE T (p.1.take S.place)) S.w
theorem wu {T:Str->Sx} {w:Str->Int} (h:Sound T w) {e:End} {q:Nat} (hn:yU e w=some q):∃ U,(q,U) ∈ df T e/\Sound U w:=by
 cases e with
 | stop=>cases hn
 | go p =>
  have hn:some p=some q:=hn
  cases hn
  exact⟨T,List.mem_singleton.mpr rfl,h⟩
 | cY b x n p r =>
  obtain⟨s,hs,hl⟩:=xP (b:=b) (n:=n) (h x)
  have hn:some (if gS b (w x) n=true then p else r)=some q:=hn
  rw [wo]
  by_cases ha:gS b (w x) n=true
  ·rw [if_pos ha] at hn
   cases hn
   rw [ha] at hs
   have hs:dJ T b x n true=some s:=hs
   exact⟨bI T x s,List.mem_append_left _ (by rw [hs];exact List.mem_singleton.mpr rfl),h.cut hl⟩
  ·rw [if_neg ha] at hn
   cases hn
   rw [Bool.not_eq_true] at ha
   rw [ha] at hs
   have hs:dJ T b x n false=some s:=hs
   exact⟨bI T x s,List.mem_append_right _ (by rw [hs];exact List.mem_singleton.mpr rfl),h.cut hl⟩
theorem kq.step {ps:List Piece} {tab:cF} {nums:List Int} {S:RS} (hs:fw ps tab) (h:kq ps tab S):kq ps tab (fI ps nums S):=by
 obtain⟨T,⟨ds,e⟩,a1,a2,a6⟩:=h
 have a6:Sound (cE T (ds.take S.place)) S.w:=a6
 cases hd:ds[S.place]? with
 | some dd =>
  rw [nZ a2 hd]
  have htk:ds.take (S.place+1)=ds.take S.place ++ [dd]:=by rw [List.take_add_one,hd];rfl
  have nx:∀ w',Sound (nq (cE T (ds.take S.place)) dd) w'->Sound (cE T (ds.take (S.place+1))) w':=fun w' hw=>by rw [htk,sZ];exact hw
  cases dd with
  | put x n=>exact⟨T,(ds,e),a1,a2,nx _ (Sound.qo (d:=.put x n) a6 rfl)⟩
  | copy x y=>exact⟨T,(ds,e),a1,a2,nx _ (Sound.qo (d:=.copy x y) a6 rfl)⟩
  | add x n=>exact⟨T,(ds,e),a1,a2,nx _ (Sound.qo (d:=.add x n) a6 rfl)⟩
  | tell x=>exact⟨T,(ds,e),a1,a2,nx _ (Sound.qo (d:=.tell x) a6 rfl)⟩
  | read x =>
   unfold oS
   cases hn:nums[S.taken]? with
   | none=>exact⟨T,(ds,e),a1,a2,a6⟩
   | some n =>
    refine⟨T,(ds,e),a1,a2,nx _ (Sound.qo (d:=.read x) a6 ?_)⟩
    show en S.w x n=en S.w x (en S.w x n x)
    congr 1
    unfold en
    rw [if_pos rfl]
 | none =>
  rw [pS a2 hd,uR]
  have hge:ds.length<=S.place:=List.getElem?_eq_none_iff.mp hd
  have a7:=a6
  rw [List.take_of_length_le hge] at a6
  cases hx:yU e S.w with
  | none=>exact⟨T,(ds,e),a1,a2,a7⟩
  | some q =>
   obtain⟨U,hU,sU⟩:=wu a6 hx
   obtain⟨T',t1,t2⟩:=hs.met _ _ _ a2 a1 T rfl _ hU
   have t1:tab[q]? = some (some T'):=t1
   have hq:q < ps.length:=by rw [<-hs.len];exact (List.getElem?_eq_some_iff.mp t1).1
   refine⟨T',ps[q],t1,by simp [hq],?_⟩
   show Sound (cE T' (ps[q].1.take 0)) S.w
   rw [List.take_zero]
   exact sU.wide t2
theorem kq.walk {ps:List Piece} {tab:cF} {nums:List Int} (hs:fw ps tab) (h0:0 < ps.length):∀ n,kq ps tab (dt ps nums n (fu 0 fun _=>0))
 | 0=>by
  obtain⟨T,t1,t2⟩:=hs.zero
  exact⟨T,ps[0],t1,by show ps[0]? = _;simp [h0],by show Sound (cE T (ps[0].1.take 0)) _;rw [List.take_zero];exact t2⟩
 | n+1=>by
  have ih:=kq.walk hs h0 n (nums:=nums)
  show kq ps tab (lB ps nums _)
  unfold lB
  split
  ·exact ih.step hs
  ·exact ih
def eI (s t:Sx):Sx:=(if cR t (s.1,none)=true then s.1 else none,if cR t (none,s.2)=true then s.2 else none)
def ox (T U:Str->Sx):Str->Sx:=fun x=>eI (T x) (U x)
theorem sf (s t:Sx):cR s (eI s t)=true:=by
 unfold cR eI
 rw [Bool.and_eq_true]
 constructor
 ·dsimp only
  split
  ·cases s.1 <;> simp [eO]
  ·rfl
 ·dsimp only
  split
  ·cases s.2 <;> simp [dG]
  ·rfl
theorem wx (s t:Sx):cR t (eI s t)=true:=by
 unfold eI
 show (eO t.1 _ && dG t.2 _)=true
 rw [Bool.and_eq_true]
 constructor
 ·dsimp only
  split
  ·rename_i h
   unfold cR at h
   rw [Bool.and_eq_true] at h
   exact h.1
  ·rfl
 ·dsimp only
  split
  ·rename_i h
   unfold cR at h
   rw [Bool.and_eq_true] at h
   exact h.2
  ·rfl
theorem uU (t:Sx):eI bN t=bN:=by
 unfold eI bN
 simp
theorem zw {s:Sx} (t:Sx) (h:iy s.1 s.2):iy (eI s t).1 (eI s t).2:=by
 unfold eI
 dsimp only
 split <;> split <;> first | exact h | exact True.intro | (cases s.1 <;> exact True.intro)
theorem cy.op {xs:List Str} {T U:Str->Sx} (h:cy xs T):cy xs (ox T U):=⟨fun x hx=>h.sup x fun e=>hx (by unfold ox;rw [e,uU]),fun x=>zw _ (h.le x)⟩
def qp (o:Option Int):Nat:=if o.isSome=true then 1 else 0
def hX (s:Sx):Nat:=qp s.1+qp s.2
theorem wy (s:Sx):hX s<=2:=by
 unfold hX qp
 split <;> split <;> omega
theorem sg (s t:Sx):hX (eI s t)<=hX s:=by
 have key:∀ (c:Bool) (o:Option Int),qp (if c=true then o else none)<=qp o:=fun c o=>by cases c <;> cases o <;> simp [qp]
 exact Nat.add_le_add (key _ _) (key _ _)
theorem uV {s t:Sx} (h:cR t s=false):hX (eI s t) < hX s:=by
 unfold cR at h
 have key:∀ a b:Option Int,eO a b=false->∃ k,b=some k:=fun a b h=>by cases b with | none=>cases h | some k=>exact⟨k,rfl⟩
 have key2:∀ a b:Option Int,dG a b=false->∃ k,b=some k:=fun a b h=>by cases b with | none=>cases h | some k=>exact⟨k,rfl⟩
 have e1:cR t (s.1,none)=eO t.1 s.1:=by unfold cR;simp [dG]
 have e2:cR t (none,s.2)=dG t.2 s.2:=by unfold cR;simp [eO]
 unfold hX eI qp
 rw [e1,e2]
 dsimp only
 cases h1:eO t.1 s.1 with
 | false =>
  obtain⟨k,hk⟩:=key _ _ h1
  rw [hk]
  simp
  split <;> simp <;> (try split) <;> omega
 | true =>
  rw [h1,Bool.true_and] at h
  obtain⟨k,hk⟩:=key2 _ _ h
  rw [h,hk]
  simp
def gK (xs:List Str) (T:Str->Sx):Nat:=(xs.map fun x=>hX (T x)).sum
theorem qq:∀ (xs:List Str) (T:Str->Sx),gK xs T<=2 * xs.length
 | [],T=>Nat.le_refl _
 | x :: xs,T=>by
  have:=qq xs T
  have h:=wy (T x)
  unfold gK at this ⊢
  simp only [List.map_cons,List.sum_cons,List.length_cons]
  omega
theorem qr:∀ (xs:List Str) (T U:Str->Sx),gK xs (ox T U)<=gK xs T
 | [],T,U=>Nat.le_refl _
 | x :: xs,T,U=>by
  have:=qr xs T U
  have h:=sg (T x) (U x)
  unfold gK at this ⊢
  simp only [List.map_cons,List.sum_cons]
  show hX (eI (T x) (U x))+_<=_
  omega
theorem mS:∀ (xs:List Str) (T U:Str->Sx) (y:Str),y ∈ xs->cR (U y) (T y)=false->gK xs (ox T U) < gK xs T
 | [],T,U,y,h,_=>nomatch h
 | x :: xs,T,U,y,h,hw=>by
  have h1:=sg (T x) (U x)
  have h2:=qr xs T U
  unfold gK at h2 ⊢
  simp only [List.map_cons,List.sum_cons]
  show hX (eI (T x) (U x))+_ < _
  rcases List.mem_cons.mp h with e | e
  ·subst e
   have:=uV hw
   omega
  ·have:=mS xs T U y e hw
   unfold gK at this
   omega
def qt (xs:List Str):Option (Str->Sx)->Nat
 | none=>2 * xs.length+1
 | some T=>gK xs T
def jA (xs:List Str) (tab:cF):Nat:=(tab.map (qt xs)).sum
theorem si (xs:List Str):∀ (tab:cF) (k:Nat) (o o':Option (Str->Sx)),tab[k]? = some o->jA xs (tab.set k o')+qt xs o=jA xs tab+qt xs o'
 | [],k,o,o',h=>by simp at h
 | f :: tab,0,o,o',h=>by
  cases h
  simp only [jA,List.set_cons_zero,List.map_cons,List.sum_cons]
  omega
 | f :: tab,k+1,o,o',h=>by
  have ih:=si xs tab k o o' h
  simp only [jA,List.set_cons_succ,List.map_cons,List.sum_cons] at ih ⊢
  omega
def i3 (o:Option (Str->Sx)) (U:Str->Sx):Str->Sx:=match o with
 | none=>U
 | some T=>ox T U
theorem tm (o:Option (Str->Sx)) (U:Str->Sx) (x:Str):cR (U x) (i3 o U x)=true:=by
 cases o with
 | none=>exact wb _
 | some T=>exact wx _ _
theorem Met.up {tab:cF} {k:Nat} {o:Option (Str->Sx)} {U:Str->Sx} (hk:tab[k]? = some o) {ld:Nat × (Str->Sx)} (h:Met tab ld):Met (tab.set k (some (i3 o U))) ld:=by
 obtain⟨T,h1,h2⟩:=h
 by_cases e:ld.1=k
 ·rw [e,hk] at h1
  cases h1
  refine⟨_,by rw [e,List.getElem?_set_self (List.getElem?_eq_some_iff.mp hk).1],fun x=>?_⟩
  exact uT (h2 x) (sf _ _)
 ·exact⟨T,by rw [List.getElem?_set_ne (fun z=>e z.symm)];exact h1,h2⟩
theorem Met.new {tab:cF} {k:Nat} {o:Option (Str->Sx)} {U:Str->Sx} (hk:tab[k]? = some o):Met (tab.set k (some (i3 o U))) (k,U) :=
 ⟨_,List.getElem?_set_self (List.getElem?_eq_some_iff.mp hk).1,tm o U⟩
theorem xQ {xs:List Str} {tab:cF} {k:Nat} {o:Option (Str->Sx)} {U:Str->Sx} (hk:tab[k]? = some o) (ho:∀ T,o=some T->cy xs T) (hm:¬ Met tab (k,U)):jA xs (tab.set k (some (i3 o U))) < jA xs tab:=by
 have h:=si xs tab k o (some (i3 o U)) hk
 have hl:qt xs (some (i3 o U)) < qt xs o:=by
  cases o with
  | none=>have:=qq xs U;show gK xs U < 2 * xs.length+1;omega
  | some T =>
   have:∃ y,cR (U y) (T y)=false:=by
    by_cases hz:∃ y,cR (U y) (T y)=false
    ·exact hz
    ·exact absurd ⟨T,hk,fun x=>by
      cases hb:cR (U x) (T x) with
      | true=>rfl
      | false=>exact absurd ⟨x,hb⟩ hz⟩ hm
   obtain⟨y,hy⟩:=this
   have hy2:T y ≠ bN:=fun e=>by rw [e,ny] at hy;cases hy
   exact mS xs T U y ((ho T rfl).sup y hy2) hy
 omega
def yV (J:It) (n:Nat) (js:List Nat) (g:TG) (ct:TT) (tk tv:TE) (acc:Addr) (σ : St) (H1:Hp) (Q:VK):Prop :=
 ∃ W:Nat->Nat->List (Key × V)->St->Hp->Prop,(∃ m,W 0 m [] (ij n js σ) (upd H1 acc (.dK [])))/\∀ i m ys τ H2,W i m ys τ H2->H2 acc=some (.dK ys)/\ys.length < sizeLine /\
  ((J.stop i H2/\Q (.ref acc) H2)\/(J.go i H2/\∃ N:List (Key × V)->St->Hp->Prop,(∀ ys' τ' H',N ys' τ' H'->∃ m',m' < m/\W (i+1) m' ys' τ' H')/\∀ x H3,J.rD i H2 x H3->g x τ H3 fun τ1 H4=>ct τ1 H4 fun b H5 =>
   if b=true then tk τ1 H5 fun x1 H6=>tv τ1 H6 fun y H7=>∃ k,x1=kV k/\H7 acc=some (.dK ys)/\N (putK ys k y) τ1 (upd H7 acc (.dK (putK ys k y))) else N ys τ1 H5))
def AB (n:Nat) (js:List Nat) (wi:TI) (g:TG) (ct:TT) (tk tv:TE):TE:=fun σ H Q=>wi σ H fun J H1=>∀ acc,H1 acc=none->yV J n js g ct tk tv acc σ H1 Q
section
variable {X:Cx} {pos:Pos}
theorem j0 {prog:Program} {w:World} {A:Around} {R:Result->Shared->Prop} {s:Shared} {kx vx target iter:Expr} {ifs:List Expr} {scope:Scope} {pos:Pos} {it:Value} {D:Addr} {env:Env} (I:Nat->Shared->Prop)
  (turn:∀ n s,I n s->wpAny (model prog w) A (pyNext it) (fun r s₁=>match r with
   | none=>R (.ok .next) s₁
   | some v=>wpAny (model prog w) A (letOwnedTupleGo target it v) (fun _ s₁'=>wpAny (model prog w) A (assign target env v) (fun _ s₂ =>
     wpAny (model prog w) A (forIn ifs true fun c r=>if r=true then do let ok <-isTrue c env (eval c env);pure (ForInStep.yield ok) else pure (ForInStep.yield r)) (fun ok s₃ =>
      if ok=true then wpAny (model prog w) A (eval kx env) (fun kv s₄=>wpAny (model prog w) A (eval vx env) (fun vv s₅ =>
       wpAny (model prog w) A (dictSet D kv vv) (fun _ s₆=>∃ m,m < n/\I m s₆) (fun _ _=>False) s₅) (fun _ _=>False) s₄) (fun _ _=>False) s₃
      else ∃ m,m < n/\I m s₃) (fun _ _=>False) s₂) (fun _ _=>False) s₁') (fun _ _=>False) s₁) (fun _ _=>False) s)
  (n:Nat) (h:I n s) :
  codeAny (model prog w) A (.compLoop (.DictComp kx vx [⟨target,iter,ifs,0⟩] scope pos) 0 it (.ref D) env) R s:=by
 refine codeAny_loop rfl I (fun n s hI=>?_) n h
 show wpAny _ A ((compTurn (.DictComp kx vx [⟨target,iter,ifs,0⟩] scope pos) 0 it (.ref D) env).onRaise (fun x=>do noteFrame x env;theTreesLotGoes x)) _ _ s
 refine wpAny_noted ?_
 rw [compTurn_dict]
 refine wpAny_bind (wpAny_standAt (wpAny_bind (wpAny_mono (turn n s hI) (fun r s₁ h₁=>?_) fun _ _ h'=>h'.elim)))
 cases r with
 | none=>exact wpAny_pure h₁
 | some v =>
  refine wpAny_bind (wpAny_mono h₁ (fun _ s₁' h₁'=>?_) fun _ _ h'=>h'.elim)
  refine wpAny_bind (wpAny_mono h₁' (fun _ s₂ h₂=>wpAny_bind (wpAny_mono h₂ (fun ok s₃ h₃=>?_) fun _ _ h'=>h'.elim)) fun _ _ h'=>h'.elim)
  cases ok with
  | false=>exact wpAny_pure ⟨rfl,h₃⟩
  | true =>
   exact wpAny_bind (wpAny_bind (wpAny_mono h₃ (fun kv s₄ h₄=>wpAny_bind (wpAny_holding (wpAny_mono h₄ (fun vv s₅ h₅=>wpAny_bind (wpAny_standAt (wpAny_holding (wpAny_mono h₅ (fun _ s₆ h₆=>wpAny_pure ⟨rfl,h₆⟩) fun _ _ h'=>h'.elim)))) fun _ _ h'=>h'.elim))) fun _ _ h'=>h'.elim))
theorem xR {pins:List (Addr × Obj)} {σ : St} {H:Hp} {s:Shared} {E:Value->Shared->Prop} {tg kx vx iter:Expr} {ifs:List Expr} {scope:Scope} {g:TG} {ct:TT} {tk tv:TE} {ts fr:List Str} {js:List Nat}
    {it:Addr} {fp:List Addr} {tn:Nat->Heap->Prop} {J:It} {Q:VK} {RR:Value->Addr->Result->Shared->Prop}
    (hc:X.calm=true) (hkind:scope.kind=.function) (hcell:∀ y ∈ scope.names,y.2 ≠ .cell) (hfree:∀ y ∈ scope.names,y.2=.free->X.env.kindOf y.1=some .cell\/X.env.kindOf y.1=some .free)
    (hfr:gi X scope fr js) (htg:∀ C fp s₁ H₁,PG (cX X scope C (ts++fr) fp s₁ H₁) tg g) (hct:∀ C fp s₁ H₁,pF (cX X scope C (ts++fr) fp s₁ H₁) ifs ct) (htk:∀ C fp s₁ H₁,PE (cX X scope C (ts++fr) fp s₁ H₁) kx tk) (htv:∀ C fp s₁ H₁,PE (cX X scope C (ts++fr) fp s₁ H₁) vx tv)
    (I:Inv X pins σ H s) (T:Turn X.prog X.w X.K tg J fp it tn) (st:tn 0 s.heap) (hfp:∀ b ∈ fp,gO X pins H b)
    (h:∀ acc,H acc=none->yV J ts.length js g ct tk tv acc σ H Q)
    (hRR:∀ acc C H' s' m,Inv X pins σ H' s'->s'.heap.Ns C m->H' C=none->s.heap.objs.size<=C->Q (.ref acc) H'->RR (.ref acc) C (.ok .next) s') :
    wpAny (model X.prog X.w) X.A newDict (fun acc s₃=>wpAny (model X.prog X.w) X.A (newFunctionEnv scope X.env.globals (ig X.env.cells scope.names []) [] X.env.qual none .none (some X.env)) (fun cenv s₄ =>
      codeAny (model X.prog X.w) X.A (.compStart (.DictComp kx vx [⟨tg,iter,ifs,0⟩] scope pos) 0 (.ref it) acc { cenv with scope:=relabel scope X.env }) (RR acc cenv.locals) s₄) E s₃) E s:=by
  have hf:∀ y ∈ scope.names,y.2=.free->∃ c,X.env.cells.lookup y.1=some c:=fun y hy e=>I.ok.has y.1 (hfree y hy e)
  have ag:∀ x c,(ig X.env.cells scope.names []).lookup x=some c->X.env.cells.lookup x=some c:=i6 scope.names [] hf fun x c e=>by simp at e
  have hlt:∀ b ∈ fp,b < s.heap.objs.size:=fun b hb=>by
    obtain⟨o,e,_⟩:=T.obj _ _ st b hb
    exact Heap.lt_size e
  refine wpAny_newObj_type (wpAny_newFunctionEnv hcell (by intro y hy;simp at hy) (fun h₁ hns₁ hsb₁=>?_) hkind)
  dsimp only at hns₁ hsb₁ ⊢
  have hnew:(s.heap.push { cls:=.type "dict",dict:=none,data:=.dict #[] }).DictOf (aQ X.prog X.w) s.heap.objs.size []:=Heap.DictOf.new s.heap
  generalize hH2:s.heap.push { cls:=.type "dict",dict:=none,data:=.dict #[] }=G2 at hns₁ hsb₁ hnew ⊢
  have hC:G2.objs.size=s.heap.objs.size+1:=by rw [<-hH2,Heap.size_push]
  have hDC:s.heap.objs.size ≠ G2.objs.size:=by rw [hC];exact Nat.ne_of_lt (Nat.lt_succ_self _)
  have hCle:s.heap.objs.size<=G2.objs.size:=by rw [hC];exact Nat.le_succ _
  have below:∀ b,b < s.heap.objs.size->b ≠ G2.objs.size/\b ≠ s.heap.objs.size:=fun b hb=>⟨by rw [hC];exact Nat.ne_of_lt (Nat.lt_succ_of_lt hb),Nat.ne_of_lt hb⟩
  have old:∀ b o,s.heap.get? b=some o->h₁.get? b=some o:=fun b o e=>hsb₁.extBut b o (below b (Heap.lt_size e)).1 (Heap.get?_push_of_some _ (hH2 ▸ Heap.get?_push_of_some _ e))
  have hacc:h₁.DictOf (aQ X.prog X.w) s.heap.objs.size []:=hnew.at fun o e=>hsb₁.extBut _ _ hDC (Heap.get?_push_of_some _ e)
  have nD:H s.heap.objs.size=none:=I.aN.fresh (Nat.le_refl _)
  have nC:H G2.objs.size=none:=I.aN.fresh hCle
  obtain⟨W,⟨m0,w0⟩,turn⟩:=h s.heap.objs.size nD
  generalize hXb:cX X scope G2.objs.size (ts++fr) fp s H=Xb
  have Ib:∀ tk,Inv Xb [] (ij ts.length js σ) (upd H s.heap.objs.size (.dK [])) { s with heap:=h₁,toks:=tk }:=by
    intro tk
    subst hXb
    refine⟨ud I hkind hcell hf hCle hfp hlt,rfl,I.bare,Un.laid old (Nat.le_refl _) nD,⟨_,hns₁,fun i x v e1 e2 e3=>?_⟩,fun x c e=>?_,?_,fun x c e=>?_,fun p hp=>absurd (show p ∈ ([]:List (Addr × Obj)) from hp) (by simp),I.aN.laid old (Nat.le_refl _) (iY (Nat.zero_le _) (beq_eq_false_iff_ne.mpr (Ne.symm (Nat.ne_of_lt I.big))) .nil hacc),?_⟩
    · have hi:ts.length<=i:=by
        refine Nat.le_of_not_lt fun hi=>?_
        unfold ij at e2
        rw [List.getElem?_append_left (by simpa using hi),List.getElem?_replicate] at e2
        split at e2 <;> cases e2
      have e1':fr[i - ts.length]? = some x:=by
        have e1'':(ts++fr)[i]? = some x:=e1
        rw [List.getElem?_append_right hi] at e1''
        exact e1''
      unfold ij at e2
      rw [List.getElem?_append_right (by simpa using hi),List.length_replicate,List.getElem?_map] at e2
      cases ej:js[i - ts.length]? with
      | none=>rw [ej] at e2;cases e2
      | some j =>
        rw [ej] at e2
        have e2':σ.getD j none=some v:=by simpa using e2
        obtain⟨q1,q2,q3⟩:=hfr.get e1' ej
        have e2'':σ[j]? = some (some v):=by
          rw [List.getD_eq_getElem?_getD] at e2'
          cases ez:σ[j]? with
          | none=>rw [ez] at e2';cases e2'
          | some z=>rw [ez] at e2';rw [show z=some v from e2']
        obtain⟨m,hn,hl⟩:=I.loc
        obtain⟨u,r,l⟩:=hl j x v q1 e2'' (by
          rcases q2 with q2 | q2
          · exact .inr (.inl q2)
          · exact .inr (.inr q2))
        refine⟨u,r,.inr ⟨iV q3,?_⟩⟩
        rcases l with ⟨l,_⟩ | ⟨_,c,lc,lv⟩
        · rcases q2 with q2 | q2 <;> (rw [l] at q2;cases q2)
        · obtain⟨c',hc'⟩:=kJ (cells:=X.env.cells) scope.names [] (.inl (PySem.mem_of_lookup q3))
          have:=ag x c' hc'
          rw [lc] at this
          cases this
          obtain⟨o,ho,hd⟩:=lv
          exact⟨c,hc',o,old _ _ ho,hd⟩
    · obtain⟨v,o,ho,hd⟩:=I.cell x c (ag x c e)
      exact⟨v,o,old _ _ ho,hd⟩
    · show upd H s.heap.objs.size (.dK []) G2.objs.size=none
      rw [av hDC.symm];exact nC
    · obtain⟨v,o,ho,hd⟩:=I.cell x c (ag x c e)
      rw [av (Nat.ne_of_lt (Heap.lt_size ho))]
      exact I.d7 x c (ag x c e)
    · show (ij ts.length js σ).length=(ts++fr).length
      unfold ij
      rw [List.length_append,List.length_replicate,List.length_map,List.length_append,hfr.len]
  have fpB:∀ {H':Hp},(∀ b ∈ fp,H' b=none)->∀ b ∈ fp,gO Xb [] H' b:=fun {H'} hn b hb=>by
    subst hXb
    obtain⟨h1,h2,h3,h4,h5,h6⟩:=hfp b hb
    refine⟨hn b hb,(below b (hlt b hb)).1,fun z=>?_,.inl hb,fun x c e=>h5 x c (ag x c e),fun p hp=>absurd (show p ∈ ([]:List (Addr × Obj)) from hp) (by simp)⟩
    rcases List.mem_cons.mp (I.j5 b z) with z | z
    · exact h2 z
    · exact h3 z
  have fin:∀ {τ : St} {H':Hp} {s':Shared},Inv Xb [] τ H' s'->Q (.ref s.heap.objs.size) H'->RR (.ref s.heap.objs.size) G2.objs.size (.ok .next) s':=fun {τ H' s'} Jb q=>by
    subst hXb
    obtain⟨m,hn,_⟩:=Jb.loc
    refine hRR _ _ H' s' m (I.wR (ch:=fp) Jb.os Jb.base Jb.aN Jb.bare fun b hb=>?_) hn Jb.free hCle q
    obtain⟨h1,h2,h3,h4,h5,h6⟩:=hfp b hb
    exact⟨h4,h2,h5,h6⟩
  have loop:∀ tk,codeAny (model X.prog X.w) X.A (.compLoop (.DictComp kx vx [⟨tg,iter,ifs,0⟩] scope pos) 0 (.ref it) (.ref s.heap.objs.size) (compEnvC scope (ig X.env.cells scope.names []) G2.objs.size X.env))
        (RR (.ref s.heap.objs.size) G2.objs.size) { s with heap:=h₁,toks:=tk }:=by
    intro tk
    refine j0 (fun n s'=>∃ i ys τ H',Inv Xb [] τ H' s'/\tn i s'.heap/\(∀ b ∈ fp,H' b=none)/\W i n ys τ H') ?_ m0 ⟨0,[],_,_,Ib tk,T.keep _ _ _ st fun b hb o e=>old b o e,fun b hb=>?_,w0⟩
    · rintro n s3 ⟨i,ys,τ,H3,I3,st3,fr3,w3⟩
      have htg':=htg G2.objs.size fp s H
      have hct':=hct G2.objs.size fp s H
      have htk':=htk G2.objs.size fp s H
      have htv':=htv G2.objs.size fp s H
      rw [hXb] at htg' hct' htk' htv'
      have eP:Xb.prog=X.prog:=by subst hXb;rfl
      have ew:Xb.w=X.w:=by subst hXb;rfl
      have eK:Xb.K=X.K:=by subst hXb;rfl
      have eA:Xb.A=X.A:=by subst hXb;rfl
      have ec:Xb.calm=true:=by subst hXb;exact hc
      have ee:Xb.env=compEnvC scope (ig X.env.cells scope.names []) G2.objs.size X.env:=by subst hXb;rfl
      have ex:Xb.xe=fun _ _=>False:=by subst hXb;rfl
      rw [<-eP,<-ew,<-eA,<-ee]
      obtain⟨ha,hl,turn'⟩:=turn i n ys τ H3 w3
      rcases turn' with ⟨stop,q⟩ | ⟨go,N,hN,step⟩
      · have hd:=T.done Xb eP ew eK ec i [] s3 τ H3 (fun _ _=>False) I3 (fpB fr3) st3 stop
        rw [<-eP,<-ew] at hd
        refine wpAny_mono hd (fun r s4 hr4=>?_) fun _ _ z=>z
        obtain⟨hr,I4⟩:=hr4
        subst hr
        exact fin I4 q
      · have hd:=T.item Xb eP ew eK ec i [] s3 τ H3 (fun _ _=>False) I3 (fpB fr3) st3 go
        rw [<-eP,<-ew] at hd
        refine wpAny_mono hd (fun r s4 hr4=>?_) fun _ _ z=>z
        obtain⟨u,hr,h4⟩:=hr4
        subst hr
        refine wpAny_mono h4 (fun _ s5 ⟨x,H5,I5,r5,y5,st5,fr5⟩=>?_) fun _ _ z=>z
        have I5':=I5.pinned (fpB fr5) (T.obj _ _ st5)
        have keepT:∀ {σ7:St} {H7:Hp} {s7:Shared},Inv Xb ([] ++ jq fp s5.heap) σ7 H7 s7->tn (i+1) s7.heap/\∀ b ∈ fp,H7 b=none:=fun {σ7 H7 s7} I7=>by
          refine⟨T.keep _ _ _ st5 fun b hb o e=>(I7.pin (b,o) (List.mem_append_right _ (List.mem_append_right _ (fD hb e)))).1,fun b hb=>?_⟩
          obtain⟨o,e,d⟩:=T.obj _ _ st5 b hb
          exact (I7.pin (b,o) (List.mem_append_right _ (List.mem_append_right _ (fD hb e)))).2.1
        refine wpAny_mono (htg' _ s5 τ H5 x u _ I5' r5 (step x H5 y5)) (fun _ s6 ⟨τ6,H6,I6,q6⟩=>?_) (fun _ _ z=>by rw [ex] at z;exact z)
        refine wpAny_mono (hct' _ s6 τ6 H6 _ I6 q6) (fun ok s7 ⟨H7,I7,q7⟩=>?_) (fun _ _ z=>by rw [ex] at z;exact z)
        cases ok with
        | false =>
          have q7':N ys τ6 H7:=by rw [if_neg (by simp)] at q7;exact q7
          rw [if_neg (by simp)]
          obtain⟨m',hm,w7⟩:=hN _ _ _ q7'
          exact⟨m',hm,i+1,ys,τ6,H7,I7.gg,(keepT I7).1,(keepT I7).2,w7⟩
        | true =>
          rw [if_pos rfl] at q7 ⊢
          refine wpAny_mono (htk' _ s7 τ6 H7 _ I7 q7) (fun kv s8 ⟨x8,H8,I8,r8,q8⟩=>?_) (fun _ _ z=>by rw [ex] at z;exact z)
          refine wpAny_mono (htv' _ s8 τ6 H8 _ I8 q8) (fun v s9 ⟨y,H9,I9,r9,k,ek,ha9,n9⟩=>?_) (fun _ _ z=>by rw [ex] at z;exact z)
          subst ek
          obtain⟨z,hd,vs,rel,dd⟩:=kL I9.aN ha9
          have hz:vs.length<=sizeLine:=by rw [<-rel.length];exact z
          have hl9:(putK ys k y).length<=sizeLine:=by have:=dZ ys k y;omega
          refine wpAny_dictSet_pairs (hsz:=hz) (i7 r8) dd fun h' dd' hs=>?_
          have he:∃ q,h'.get? s.heap.objs.size=some q:=let ⟨q,_,_,hq,_⟩:=dd';⟨q,hq⟩
          have I10:=fun tk=>kM (t':=tk) I9 (by rw [ha9];exact True.intro) hs he (iY hl9 hd (rel.put k r9) dd')
          obtain⟨m',hm,w8⟩:=hN _ _ _ n9
          exact⟨m',hm,i+1,_,τ6,_,(I10 (s9.toks+1)).gg,(keepT (I10 (s9.toks+1))).1,(keepT (I10 (s9.toks+1))).2,w8⟩
    · rw [av (Nat.ne_of_lt (hlt b hb))]
      exact (hfp b hb).1
  exact codeAny_compStart_dict (loop _) (T.self _ 0 _ _ _ (T.keep _ _ _ st fun b hb o e=>old b o e) (loop _))
theorem wz {tg kx vx iter:Expr} {ifs:List Expr} {scope:Scope} {wi:TI} {g:TG} {ct:TT} {tk tv:TE} (ts fr:List Str) (js:List Nat)
  (hc:X.calm=true) (hi:PI X tg iter wi) (hkind:scope.kind=.function) (hcell:∀ y ∈ scope.names,y.2 ≠ .cell) (hnames:∀ y ∈ scope.names,y.2=.local->scope.names.lookup y.1=some .local)
  (hfree0:∀ y ∈ scope.names,y.2=.free->y.1 ∈ fr) (hfr:gi X scope fr js)
  (htg:∀ C fp s₁ H₁,PG (cX X scope C (ts++fr) fp s₁ H₁) tg g) (hct:∀ C fp s₁ H₁,pF (cX X scope C (ts++fr) fp s₁ H₁) ifs ct) (htk:∀ C fp s₁ H₁,PE (cX X scope C (ts++fr) fp s₁ H₁) kx tk) (htv:∀ C fp s₁ H₁,PE (cX X scope C (ts++fr) fp s₁ H₁) vx tv)
  (hs:∀ x,foldedSetIterable iter X.env x=pure x:=by intro _;rfl):PE X (.DictComp kx vx [⟨tg,iter,ifs,0⟩] scope pos) (AB ts.length js wi g ct tk tv):=by
 have hfree:∀ y ∈ scope.names,y.2=.free->X.env.kindOf y.1=some .cell\/X.env.kindOf y.1=some .free:=fun y hy e=>hfr.mem (hfree0 y hy e)
 intro pins s σ H Q I h
 rw [arm_eval_DictComp]
 refine wpAny_comprehension_free (use:=none) rfl hs (jF fun y hy e=>I.ok.has y.1 (hfree y hy e)) hkind hnames (bf (hi pins s σ H _ I h) fun xv s1 h1=>bf h1 fun itv s2 h2=>?_)
 obtain⟨it,fp,tn,J,H2,e,I2,T,st2,f2,hW⟩:=h2
 subst e
 refine xR (RR:=fun acc C=>compPost (model X.prog X.w) X.A X.xe none (EP X pins σ Q) acc C) hc hkind hcell hfree hfr htg hct htk htv I2 T st2 f2 hW ?_
 intro acc C H' s' m I' hn hC hle q
 exact⟨m,hn,fun h' hsb=>⟨.ref acc,H',I2.pG I' hC hle hsb,rfl,q⟩⟩
end
theorem yW {K:PySem.W.Frag} {a acc:Addr} {xs:List V} {n:Nat} {js:List Nat} {g:TG} {ct:TT} {tk tv:TE} {σ : St} {H1:Hp} {Q:VK} (Pv:Nat->List (Key × V)->St->Hp->Prop) (h0:Pv 0 [] (ij n js σ) (upd H1 acc (.dK [])))
  (hl:∀ i ys τ H,i<=xs.length->Pv i ys τ H->aw K H a xs/\H acc=some (.dK ys)/\ys.length < sizeLine)
  (hs:∀ i x ys τ H,xs[i]? = some x->Pv i ys τ H->g x τ H fun τ1 H4=>ct τ1 H4 fun b H5=>if b=true then tk τ1 H5 fun x1 H6=>tv τ1 H6 fun y H7=>∃ k,x1=kV k/\H7 acc=some (.dK ys)/\Pv (i+1) (putK ys k y) τ1 (upd H7 acc (.dK (putK ys k y))) else Pv (i+1) ys τ1 H5)
  (hd:∀ ys τ H,Pv xs.length ys τ H->Q (.ref acc) H) :
  yV (o5 K a) n js g ct tk tv acc σ H1 Q:=by
 refine⟨fun i m ys τ H=>m=xs.length - i/\i<=xs.length/\Pv i ys τ H,⟨xs.length,by simp,Nat.zero_le _,h0⟩,?_⟩
 rintro i m ys τ H ⟨rfl,hi,p⟩
 obtain⟨q,q2,q3⟩:=hl i ys τ H hi p
 refine⟨q2,q3,?_⟩
 by_cases hlt:i < xs.length
 ·refine .inr ⟨⟨xs,xs[i],q,by simp [hlt]⟩,Pv (i+1),fun ys' τ' H' p'=>⟨xs.length - (i+1),by omega,rfl,hlt,p'⟩,fun x H' y=>?_⟩
  obtain⟨e,y⟩:=y
  subst e
  exact hs i x ys τ _ (y xs q) p
 ·have e:i=xs.length:=by omega
  subst e
  exact .inl ⟨⟨xs,q,Nat.le_refl _⟩,hd ys τ H p⟩
section
variable {X:Cx}
theorem yX:tY X (fun x i H Q=>sC X.K x i H Q\/vt X.K x i H Q):=by
 intro value slice pins s σ H x y v u Q I rx ry h e
 rcases h with h | h
 ·exact bH value slice pins s σ H x y v u Q I rx ry h e
 ·exact aO value slice pins s σ H x y v u Q I rx ry h e
end
section
variable {X:Cx}
def xS:V->List V->Hp->VK->Prop:=fun x vs H Q=>∃ (l:Addr) (xs:List V) (y z:V) (i:Nat),x=.ref l/\vs = [y]/\H l=some (.lst xs)/\gd y=true/\xs.all gd=true/\xs[i]? = some z/\kc z y=true/\(∀ (j:Nat) (z':V),j < i->xs[j]? = some z'->kc z' y=false)/\Q (.int (i:Nat)) H
theorem uW:ua X "list.index" xS:=by
 intro pins s σ H x vs v us Q I rx rv h
 obtain⟨l,xs,y,z,i,rfl,rfl,hH,fy,fs,hi,hz,hlt,q⟩:=h
 cases rx
 obtain⟨u,rfl,ru⟩:=rv.one
 obtain⟨z',its,n,r,hl,e⟩:=I.jE hH
 have hlen:xs.length=its.length:=r.length
 have hil:i < xs.length:=(List.getElem?_eq_some_iff.mp hi).1
 have key:∀ (m:Nat) (w:V) (hm:m < its.length),xs[m]? = some w->ic y its[m] = kc w y:=fun m w hm hw=>by
  obtain⟨u',hu',ru'⟩:=r.get hw
  rw [List.getElem?_eq_getElem hm] at hu'
  cases hu'
  exact o9 ru' (by rw [List.all_eq_true] at fs;exact fs w (List.mem_of_getElem? hw))
 refine call_meets F.slot_list_index ⟨_,e,rfl⟩ F.entry_list_index (F.args_list_index_2 _ _)
  (SeqAt.list_indexAt l its.toArray n none #[] u (ic y) i (by rw [List.size_toArray];omega) (by have:=jr;omega) ?_ ?_) ⟨e,fun w hw=>gP ru fy r fs w (by simpa using hw),?_⟩
 ·rw [show its.toArray[i]'(by rw [List.size_toArray];omega)=its[i]'(by omega) from rfl,key i z (by omega) hi]
  exact hz
 ·intro m hm hmi
  have hm':m < its.length:=by rw [List.size_toArray] at hm;exact hm
  have hx:xs[m]? = some xs[m]:=by simp
  rw [show its.toArray[m] = its[m]'hm' from rfl,key m _ hm' hx]
  exact hlt m _ hmi hx
 ·exact⟨.int _,H,I.xa,⟨_,rfl⟩,q⟩
end
theorem uX (b:Bool):∀ bs:List Bool,pd (.bl b) (bs.map V.bl)=decide (b ∈ bs)
 | []=>rfl
 | c :: r=>by
  have ih:=uX b r
  unfold pd at ih ⊢
  rw [List.map_cons,List.any_cons,ih]
  show ((c == b) || _)=_
  cases b <;> cases c <;> simp
theorem lY:∀ bs:List Bool,(bs.map V.bl).all gd=true
 | []=>rfl
 | _ :: r=>lY r
theorem mT:∀ {bs:List Bool},true ∈ bs->∃ i:Nat,bs[i]? = some true/\∀ j:Nat,j < i->bs[j]? = some false
 | [],h=>nomatch h
 | true :: r,_=>⟨0,rfl,fun j h=>absurd h (Nat.not_lt_zero _)⟩
 | false :: r,h=>by
  obtain⟨i,h1,h2⟩:=mT (bs:=r) (by simpa using h)
  exact⟨i+1,h1,fun j hj=>by cases j with | zero=>rfl | succ j=>exact h2 j (by omega)⟩
def jP (bs:List Bool):Nat:=(bs.map fun b=>if b=true then 1 else 0).sum
theorem qu:∀ bs:List Bool,jP bs<=bs.length
 | []=>Nat.le_refl _
 | b :: r=>by
  have:=qu r
  unfold jP at this ⊢
  simp only [List.map_cons,List.sum_cons,List.length_cons]
  split <;> omega
theorem oy:∀ (bs:List Bool) (i:Nat),bs[i]? = some true->jP (bs.set i false)+1=jP bs
 | [],i,h=>by simp at h
 | b :: r,0,h=>by cases h;simp [jP];omega
 | b :: r,i+1,h=>by
  have:=oy r i h
  unfold jP at this ⊢
  simp only [List.set_cons_succ,List.map_cons,List.sum_cons]
  omega
theorem fz {α β : Type} {F:α->β->Prop}:∀ {l:List α} {m:List β},Paired F l m->∀ {i:Nat} {y:β},m[i]? = some y->∃ x,l[i]? = some x/\F x y
 | _,_,.nil,i,y,h=>by simp at h
 | _,_,.cons f t,0,y,h=>by cases h;exact⟨_,rfl,f⟩
 | _,_,.cons f t,i+1,y,h=>fz t h
theorem dY {α β : Type} {F:α->β->Prop}:∀ {l:List α} {m:List β},Paired F l m->l.length=m.length
 | _,_,.nil=>rfl
 | _,_,.cons f t=>congrArg (· + 1) (dY t)
theorem iC {α β : Type} {F:α->β->Prop} {x:α} {y:β} (f:F x y):∀ {l:List α} {m:List β} (i:Nat),Paired F l m->Paired F (l.set i x) (m.set i y)
 | _,_,_,.nil=>.nil
 | _,_,0,.cons _ t=>.cons f t
 | _,_,i+1,.cons g t=>.cons g (iC f i t)
def TabOk (xs:List Str) (tab:cF):Prop:=∀ T,some T ∈ tab->cy xs T
def ku:Sp:=fun vs H Q _=>∃ (fv:V) (p:Addr) (ws:List V) (ds:List cc) (T:Str->Sx) (xs:List Str),vs = [fv,.ref p]/\FV H fv T/\H p=some (.tup ws)/\bu H ws (ds.map d8)/\cy xs T/\(∀ d ∈ ds,fq xs d)/\xs.length < 64/\∀ v H',FV H' v (cE T ds)->ao H H'->Q v H'
def kX:Sp:=fun vs H Q _=>∃ (lv:V) (ta:Addr) (us:List V) (tab:cF) (k:Nat) (U:Str->Sx),vs = [lv,.ref ta]/\PV H lv (k,U)/\(H ta=some (.lst us)\/H ta=some (.tup us))/\bJ H us tab/\k < tab.length/\(∀ T,some T ∈ tab->fW T 63) /\
 ∀ b H',(b=true ↔ Met tab (k,U))->ao H H'->Q (.bl b) H'
def hZ:Sp:=fun vs H Q _=>∃ (fv:V) (pc da ea:Addr) (ws:List V) (ds:List cc) (e:End) (T:Str->Sx) (xs:List Str),vs = [fv,.ref pc]/\FV H fv T/\H pc=some (.tup [.ref da,.ref ea])/\H da=some (.tup ws)/\bu H ws (ds.map d8)/\H ea=some (.tup (iZ e))/\cy xs T/\(∀ d ∈ ds,fq xs d)/\xs.length<=62 /\
 ∀ (t:Addr) (vs:List V) H',H' t=some (.tup vs)->jW H' vs (df (cE T ds) e)->ao H H'->Q (.ref t) H'
def iw:Sp:=fun vs H Q _=>∃ (ev:V) (pc da ea ta:Addr) (ws us:List V) (ds:List cc) (e:End) (o:Option (Str->Sx)) (tab:cF) (xs:List Str),vs = [ev,.ref pc,.ref ta]/\BV H ev o/\H pc=some (.tup [.ref da,.ref ea])/\H da=some (.tup ws)/\bu H ws (ds.map d8)/\H ea=some (.tup (iZ e))/\H ta=some (.tup us)/\bJ H us tab/\(∀ T,o=some T->cy xs T)/\TabOk xs tab/\(∀ d ∈ ds,fq xs d)/\mD xs tab.length e/\xs.length<=62 /\
 ∀ b H',(b=true ↔ nH tab o (ds,e))->ao H H'->Q (.bl b) H'
def lZ:Sp:=fun vs H Q _=>∃ (plv:V) (ta:Addr) (us:List V) (tab:cF) (ps:List Piece) (xs:List Str) (m:Nat),vs = [plv,.ref ta]/\bC H plv (hV ps)/\dD xs m ps/\0 < ps.length/\ps.length<=1000/\H ta=some (.tup us)/\bJ H us tab/\TabOk xs tab/\xs.length<=62/\0 < tab.length/\tab.length<=1000 /\
 ∀ b H',(b=true ↔ fw ps tab)->ao H H'->Q (.bl b) H'
def ma (K:PySem.W.Frag):Sp:=fun vs H Q _=>∃ (p q:Addr) (s t:Sx),vs = [.ref p,.ref q]/\aw K H p [vO s.1,vO s.2]/\aw K H q [vO t.1,vO t.2]/\∀ v H',SH H' v (eI s t)->ao H H'->Q v H'
def ky:Sp:=fun vs H Q _=>∃ (ev fv:V) (o:Option (Str->Sx)) (U:Str->Sx),vs = [ev,fv]/\BV H ev o/\FV H fv U/\(∀ T,o=some T->fW T 63)/\fW U 63/\∀ v H',FV H' v (i3 o U)->ao H H'->Q v H'
def me:Sp:=fun vs H Q _=>∃ (plv:V) (ps:List Piece) (xs:List Str) (m:Nat),vs = [plv]/\bC H plv (hV ps)/\dD xs m ps/\0 < ps.length/\ps.length<=400/\xs.length<=62/\(bF ps).length<=4000 /\
 ∀ (t:Addr) (us:List V) (tab:cF) H',H' t=some (.tup us)->bJ H' us tab->TabOk xs tab->fw ps tab->ao H H'->Q (.ref t) H'
structure fA (xs:List Str) (ps:List Piece) (tab:cF) (bs:List Bool) (ex:Option Nat):Prop where
 len:tab.length=ps.length
 jl:bs.length=ps.length
 ok:TabOk xs tab
 zero:∃ T,tab[0]? = some (some T)/\Sound T fun _=>0
 wait:∀ k:Nat,bs[k]? = some true->∃ T,tab[k]? = some (some T)
 met:∀ (k:Nat) (p:Piece) (o:Option (Str->Sx)),ps[k]? = some p->tab[k]? = some o->bs[k]? = some false->some k ≠ ex->nH tab o p
theorem eB {n i:Nat} (h:i < n):kb n (i:Int)=some i:=by
 unfold kb
 simp
 omega
theorem qw {H:Hp}:∀ n:Nat,bJ H (List.replicate n .aS) (List.replicate n none)
 | 0=>.nil
 | n+1=>.cons rfl (qw n)
theorem qR (ps:List Piece):Sound (startT ps) fun _=>0:=fun x=>by
 unfold startT
 split <;> rfl
theorem nI (bs:List Bool) (k:Nat) (b:Bool):(bs.map V.bl).set k (.bl b)=(bs.set k b).map V.bl:=by rw [List.map_set]
theorem qx {α : Type} {n k:Nat} {a b:α} (h:(List.replicate n a)[k]? = some b):b=a:=by
 rw [List.getElem?_replicate] at h
 split at h
 ·cases h;rfl
 ·cases h
theorem fA.start {xs:List Str} {ps:List Piece} {T:Str->Sx} (hp:0 < ps.length) (hT:cy xs T) (hs:Sound T fun _=>0):fA xs ps ((List.replicate ps.length none).set 0 (some T)) ((List.replicate ps.length false).set 0 true) none:=by
 have h0:((List.replicate ps.length none).set 0 (some T))[0]? = some (some T):=List.getElem?_set_self (by rw [List.length_replicate];exact hp)
 refine⟨by simp,by simp,fun U hU=>?_,⟨T,h0,hs⟩,fun k hk=>?_,fun k p o h1 h2 h3 _=>?_⟩
 ·rcases List.mem_or_eq_of_mem_set hU with h | h
  ·have:=(List.mem_replicate.mp h).2
   cases this
  ·cases h;exact hT
 ·by_cases e:0=k
  ·subst e;exact⟨T,h0⟩
  ·rw [List.getElem?_set_ne e] at hk
   have:=qx hk
   cases this
 ·by_cases e:0=k
  ·subst e
   rw [List.getElem?_set_self (by rw [List.length_replicate];exact hp)] at h3
   cases h3
  ·rw [List.getElem?_set_ne e] at h2
   rw [qx h2]
   exact fun T h=>(nomatch h)
theorem fA.off {xs:List Str} {ps:List Piece} {tab:cF} {bs:List Bool} (I:fA xs ps tab bs none) {k:Nat} (hk:bs[k]? = some true):fA xs ps tab (bs.set k false) (some k):=by
 refine⟨I.len,by rw [List.length_set];exact I.jl,I.ok,I.zero,fun j hj=>?_,fun j p o h1 h2 h3 h4=>?_⟩
 ·by_cases e:k=j
  ·subst e
   exact I.wait k hk
  ·rw [List.getElem?_set_ne e] at hj
   exact I.wait j hj
 ·have e:k ≠ j:=fun e=>h4 (by rw [e])
  rw [List.getElem?_set_ne e] at h3
  exact I.met j p o h1 h2 h3 (fun z=>nomatch z)
theorem fA.on {xs:List Str} {ps:List Piece} {tab:cF} {bs:List Bool} {k:Nat} {p:Piece} {T:Str->Sx} (I:fA xs ps tab bs (some k)) (hp:ps[k]? = some p) (hT:bs[k]? = some false->tab[k]? = some (some T)) (hm:∀ ld ∈ df (cE T p.1) p.2,Met tab ld):fA xs ps tab bs none:=by
 refine⟨I.len,I.jl,I.ok,I.zero,I.wait,fun j p' o h1 h2 h3 _=>?_⟩
 by_cases e:k=j
 ·subst e
  rw [hp] at h1
  cases h1
  rw [hT h3] at h2
  cases h2
  exact fun T' h=>by cases h;exact hm
 ·exact I.met j p' o h1 h2 h3 (fun z=>e (Option.some.inj z).symm)
theorem fA.yY {xs:List Str} {ps:List Piece} {tab:cF} {bs:List Bool} (I:fA xs ps tab bs none) (h:¬ true ∈ bs):fw ps tab:=by
 refine⟨I.len,I.zero,fun k p o h1 h2=>I.met k p o h1 h2 ?_ (fun z=>nomatch z)⟩
 have hk:k < bs.length:=by rw [I.jl];exact (List.getElem?_eq_some_iff.mp h1).1
 have e:bs[k]? = some bs[k]:=by simp [hk]
 cases hb:bs[k] with
 | false=>rw [e,hb]
 | true=>exact absurd (hb ▸ List.getElem_mem hk) h
theorem fA.put {xs:List Str} {ps:List Piece} {tab:cF} {bs:List Bool} {ex:Option Nat} (I:fA xs ps tab bs ex) {k:Nat} {o:Option (Str->Sx)} {U:Str->Sx} (hk:tab[k]? = some o) (hU:cy xs U):fA xs ps (tab.set k (some (i3 o U))) (bs.set k true) ex:=by
 have hkl:k < tab.length:=(List.getElem?_eq_some_iff.mp hk).1
 have wok:cy xs (i3 o U):=by
  cases o with
  | none=>exact hU
  | some T=>exact (I.ok T (List.mem_of_getElem? hk)).op
 refine⟨by rw [List.length_set];exact I.len,by rw [List.length_set];exact I.jl,fun T hT=>?_,?_,fun j hj=>?_,fun j p o' hp ho hb hx=>?_⟩
 ·rcases List.mem_or_eq_of_mem_set hT with h | h
  ·exact I.ok T h
  ·cases h;exact wok
 ·obtain⟨T,h1,h2⟩:=I.zero
  by_cases e:k=0
  ·subst e
   rw [hk] at h1
   cases h1
   exact⟨_,List.getElem?_set_self hkl,h2.wide fun x=>sf _ _⟩
  ·exact⟨T,by rw [List.getElem?_set_ne e];exact h1,h2⟩
 ·by_cases e:k=j
  ·subst e
   exact⟨_,List.getElem?_set_self hkl⟩
  ·rw [List.getElem?_set_ne e] at hj ⊢
   exact I.wait j hj
 ·by_cases e:k=j
  ·subst e
   rw [List.getElem?_set_self (by rw [I.jl,<-I.len];exact hkl)] at hb
   cases hb
  ·rw [List.getElem?_set_ne e] at ho hb
   exact fun T hT ld hl=>(I.met j p o' hp ho hb hx T hT ld hl).up hk
theorem wA {T U:Str->Sx}:(fun x=>if T x=bN then bN else eI (T x) (U x))=ox T U:=by
 funext x
 unfold ox
 by_cases e:T x=bN
 ·rw [if_pos e,e,uU]
 ·rw [if_neg e]
theorem tq {ps:List Piece} {tab:cF} {T:Str->Sx} {bs:List Bool} (hl:tab.length=ps.length) (h0:tab[0]? = some (some T)) (hs:Sound T fun _=>0) (hb:bs.length=ps.length) (hp:∀ (k:Nat) (b:Bool) (p:Piece) (o:Option (Str->Sx)),bs[k]? = some b->ps[k]? = some p->tab[k]? = some o->(b=true ↔ nH tab o p)):bs.all id=true ↔ fw ps tab:=by
 rw [List.all_eq_true]
 constructor
 ·intro h
  refine⟨hl,⟨T,h0,hs⟩,fun k p o hk ho=>?_⟩
  have hlt:k < bs.length:=by rw [hb];exact (List.getElem?_eq_some_iff.mp hk).1
  have e:bs[k]? = some bs[k]:=by simp [hlt]
  exact (hp k _ p o e hk ho).mp (h _ (List.mem_of_getElem? e))
 ·intro h b hb'
  obtain⟨k,hk,e⟩:=List.getElem_of_mem hb'
  have hkp:k < ps.length:=by omega
  have e1:bs[k]? = some b:=by rw [List.getElem?_eq_getElem hk,e]
  have e2:ps[k]? = some ps[k]:=by simp [hkp]
  have e3:tab[k]? = some (tab[k]'(by omega)):=List.getElem?_eq_getElem _
  exact (hp k b _ _ e1 e2 e3).mpr (h.met k _ _ e2 e3)
theorem wB {tab:cF} {T:Str->Sx} {ds:List cc} {e:End} {bs:List Bool} (hp:Paired (fun (b:Bool) ld=>(b=true ↔ Met tab ld)) bs (df (cE T ds) e)):bs.all id=true ↔ nH tab (some T) (ds,e):=by
 have go:∀ {bs:List Bool} {ls:List (Nat × (Str->Sx))},Paired (fun (b:Bool) ld=>(b=true ↔ Met tab ld)) bs ls->(bs.all id=true ↔ ∀ ld ∈ ls,Met tab ld):=by
  intro bs ls h
  induction h with
  | nil=>exact⟨fun _ ld h=>(nomatch h),fun _=>rfl⟩
  | @cons b ld bs ls hb _ ih =>
   rw [List.all_cons,Bool.and_eq_true,ih]
   show (b=true/\_) ↔ _
   rw [hb]
   exact⟨fun h l hl=>(List.mem_cons.mp hl).elim (fun e=>e ▸ h.1) (h.2 l),fun h=>⟨h ld (List.mem_cons_self ..),fun l hl=>h l (List.mem_cons_of_mem _ hl)⟩⟩
 rw [go hp]
 exact⟨fun h T' e'=>by cases e';exact h,fun h=>h T rfl⟩
section
variable {X:Cx}
def yZ:V->List V->Hp->VK->Prop:=fun x vs H Q=>∃ (l:Addr) (xs:List V) (z:Int) (k:Nat) (y:V),x=.ref l/\vs = [.int z,y]/\z=(k:Int)/\H l=some (.lst xs)/\k<=xs.length/\xs.length < 1000000/\Q .aS (upd H l (.lst (xs.take k++y :: xs.drop k)))
theorem wC:ua X "list.insert" yZ:=by
 intro pins s σ H x vs v us Q I rx rv h
 obtain⟨l,xs,zi,k,y,rfl,rfl,hzk,hH,hk,hz,q⟩:=h
 cases rx
 cases rv with
 | cons ru1 rv1 =>
  obtain⟨u2,rfl,ru2⟩:=vals1 rv1
  obtain⟨t,rfl⟩:=ru1
  obtain⟨z,its,n,r,hl,e⟩:=I.jE hH
  have hfit:¬ (!Builtin.List.listFitsIndex zi)=true:=by
   rw [fitsIndex_both (by omega) (by omega)]
   exact Bool.false_ne_true
  have hsz:its.toArray.size<=sizeLine:=by rw [List.size_toArray];omega
  have M:=AutoSeq1.list_insert_list_int_val_1 l its.toArray n zi t u2 hfit hsz
  refine call_meets F.slot_list_insert ⟨_,e,rfl⟩ F.entry_list_insert (F.args_list_insert_3 _ _ _) M ⟨e,?_⟩
  have ek:(if zi < 0 then (zi+(its.toArray.size:Int)).toNat else min zi.toNat its.toArray.size)=k:=by
   rw [if_neg (by omega),List.size_toArray]
   omega
  have ex:(its.toArray.extract 0 k).push u2++its.toArray.extract k=(its.take k++u2 :: its.drop k).toArray:=by
   apply Array.toList_inj.mp
   simp
   rw [List.take_of_length_le (by rw [List.length_drop];exact Nat.le_refl _)]
  refine⟨.aS,_,I.sE (its':=its.take k++u2 :: its.drop k) hH e ?_ ((r.take k).append (.cons ru2 (r.drop k))) ?_,rfl,q⟩
  ·show (its.toArray.extract 0 (if zi < 0 then (zi+(its.toArray.size:Int)).toNat else min zi.toNat its.toArray.size)).push u2++its.toArray.extract (if zi < 0 then (zi+(its.toArray.size:Int)).toNat else min zi.toNat its.toArray.size)=_
   rw [ek,ex]
  ·rw [List.length_append,List.length_cons,List.length_take,List.length_drop]
   have:sizeLine=16777216\/1000000 < sizeLine:=.inr (by decide)
   omega
end
section
variable {X:Cx}
theorem jQ {es r:List Expr} {x1} {pos:Pos} {t1:TE} {t2:TA} (h1:PE X (.Tuple es x1 pos) t1) (h2:PA X r t2):PA X (.Tuple es x1 pos :: r) (bZ t1 t2):=aa h1 h2 rfl
theorem mf {c} {k} {r:List Expr} {pos:Pos} {t1:TE} {t2:TA} (h1:PE X (.Constant c k pos) t1) (h2:PA X r t2):PA X (.Constant c k pos :: r) (bZ t1 t2):=aa h1 h2 rfl
theorem Ah {k2 k3:Nat} {x2} {p3 p4 p5:Pos}:PE X (.Tuple [.Constant (.int 0) k2 p3,.Constant (.int 2) k3 p4] x2 p5) (iS (bZ (tC (.int 0)) (bZ (tC (.int 2)) gh))):=bg (mf ai (mf ai af))
theorem Ai {k1:Nat} {es:List Expr} {x2 x3} {p2 p5 p6:Pos} {t:TE} (h:PE X (.Tuple es x2 p5) t):PE X (.Tuple [.Constant (.str "zz") k1 p2,.Tuple es x2 p5] x3 p6) (iS (bZ (tC (.str "zz")) (bZ t gh))):=bg (mf bp (jQ h af))
theorem Aj {es:List Expr} {x2 x3} {p5 p6:Pos} {t:TE} (h:PE X (.Tuple es x2 p5) t):PE X (.Tuple [.Tuple es x2 p5] x3 p6) (iS (bZ t gh)):=bg (jQ h af)
theorem zx {k1 k2 k3:Nat} {x2 x3} {p2 p3 p4 p5 p6:Pos}:PE X (.Tuple [.Constant (.str "zz") k1 p2,.Tuple [.Constant (.int 0) k2 p3,.Constant (.int 2) k3 p4] x2 p5] x3 p6) (iS (bZ (tC (.str "zz")) (bZ (iS (bZ (tC (.int 0)) (bZ (tC (.int 2)) gh))) gh))):=Ai Ah
theorem zy {k1 k2 k3:Nat} {x2 x3 x4} {p2 p3 p4 p5 p6 p7:Pos}:PE X (.Tuple [.Tuple [.Constant (.str "zz") k1 p2,.Tuple [.Constant (.int 0) k2 p3,.Constant (.int 2) k3 p4] x2 p5] x3 p6] x4 p7) (iS (bZ (iS (bZ (tC (.str "zz")) (bZ (iS (bZ (tC (.int 0)) (bZ (tC (.int 2)) gh))) gh))) gh)):=Aj zx
theorem Ak {es:List Expr} {x1 x2} {p1 p5 p6:Pos} {t:TE} (h:PE X (.Tuple es x2 p5) t):PE X (.List [.Tuple [] x1 p1,.Tuple es x2 p5] p6) (vo (bZ (iS gh) (bZ t gh))):=cu (jQ (bg af) (jQ h af))
theorem y0 {a b e:Expr} {p:Pos} {line:Nat} {env:Env}:swapsWithSole [.Subscript a b p] e line env=pure false:=by
 cases e <;> rfl
theorem y3 {a b e:Expr} {p:Pos} {env:Env}:swappedStores [.Subscript a b p] e env=pure none:=by
 cases e <;> rfl
theorem kY {a b e:Expr} {te:TE} {g:TG} {p pos:Pos} (he:PE X e te) (hg:PG X (.Subscript a b p) g):PS X (.Assign [.Subscript a b p] e pos) (o4 te g):=cg he hg y0 y3 rfl
theorem xT {es:List Expr} {x1 x2} {a b i:Expr} {p1 p2 p3 p4 p5 p6:Pos} {t ti:TE} {g:TG} (h:PE X (.Tuple es x2 p2) t) (hi:PE X i ti) (hs:rL i) (hg:PG X (.Subscript a b p6) g) :
  iP X [.Assign [.Subscript a b p6] (.Subscript (.List [.Tuple [] x1 p1,.Tuple es x2 p2] p3) i p4) p5] (o4 (tT (sC X.K) (vo (bZ (iS gh) (bZ t gh))) ti) g) :=
 ar (kY (aF bH (Ak h) hi hs) hg)
end
def jR:Sp:=fun vs H Q _=>∃ (fv:V) (T:Str->Sx) (m:Nat),vs = [fv]/\FV H fv T/\fW T m/\m<=60/\∀ d' H',H d' = none->LT H' d' T m->ao H H'->Q (.ref d') H'
def kA:Sp:=fun vs H Q _=>∃ (b:Addr) (fv:V) (T:Str->Sx) (xs:List Str),vs = [.ref b,fv]/\bR H b/\FV H fv T/\cy xs T/\("zz" : Str) ∈ xs/\xs.length<=50/\∀ v T' H',FV H' v T'->cy xs T'->bR H' b->Fix b H H'->Q v H'
def kB:Sp:=fun vs H Q _=>∃ (b ta:Addr) (us:List V) (tab:cF) (xs:List Str),vs = [.ref b,.ref ta]/\bR H b/\H ta=some (.tup us)/\bJ H us tab/\TabOk xs tab/\("zz" : Str) ∈ xs/\xs.length<=50/\0 < tab.length/\tab.length<=400 /\
 ∀ (t:Addr) (us':List V) (tab':cF) H',H' t=some (.tup us')->bJ H' us' tab'->TabOk xs tab'->0 < tab'.length->tab'.length<=400->bR H' b->Fix b H H'->Q (.ref t) H'
def mh:Sp:=fun vs H Q _=>∃ (fv:V) (d:Addr) (kvs:List (Key × V)) (w:Str->Int) (T:Str->Sx),vs = [fv,.ref d]/\FV H fv T/\H d=some (.dK kvs)/\DW kvs w/\Sound T w/\fW T 63/\∀ H',ao H H'->Q (.bl true) H'
def jm:Sp:=fun vs H Q _=>∃ (np ta:Addr) (plv:V) (n:Nat) (nums:List Int) (ps:List Piece) (us:List V) (tab:cF),vs = [plv,.ref ta,.ref np,.int n]/\bC H plv (hV ps)/\jv ps/\0 < ps.length/\H ta=some (.tup us)/\bJ H us tab/\fw ps tab/\(∀ T,some T ∈ tab->fW T 63)/\H np=some (.tup (nums.map V.int))/\n<=2000/\∀ H',ao H H'->Q (.bl true) H'
theorem bJ.qy {H H':Hp} {b:Addr} {us:List V} {tab:cF} (h:bJ H us tab) (B:bR H b) (X:Fix b H H'):bJ H' us tab:=h.aI fun p zs e=>X p _ e (B.eT e)
theorem dM.zz {H H':Hp} {st d tl bl:Addr} {S:RS} {m:Nat} (h:dM H st d tl bl S m) (s:ao H H'):dM H' st d tl bl S m:=by
 obtain⟨h1,⟨kvs,h2,h3,h4⟩,h5,h6,h7,h8⟩:=h
 exact⟨s _ _ h1,⟨kvs,s _ _ h2,h3,h4⟩,s _ _ h5,s _ _ h6,h7,h8⟩
theorem lI {α β : Type} {F:α->β->Prop}:∀ {l:List α} {m:List β} (k:Nat),Paired F l m->Paired F (l.take k) (m.take k)
 | _,_,0,_=>.nil
 | _,_,_+1,.nil=>.nil
 | _,_,k+1,.cons f t=>.cons f (lI k t)
theorem lJ {α β : Type} {F:α->β->Prop}:∀ {l:List α} {m:List β} (k:Nat),Paired F l m->Paired F (l.drop k) (m.drop k)
 | _,_,0,h=>h
 | _,_,_+1,.nil=>.nil
 | _,_,k+1,.cons _ t=>lJ k t
theorem TabOk.set {xs:List Str} {tab:cF} (h:TabOk xs tab) (k:Nat) {o:Option (Str->Sx)} (ho:∀ T,o=some T->cy xs T):TabOk xs (tab.set k o):=fun T hT=>by
 rcases List.mem_or_eq_of_mem_set hT with a | a
 ·exact h T a
 ·exact ho T a.symm
def qA:Str->Sx:=bI T0 "zz" (some 0,some 2)
theorem zA {H:Hp} {t3 t2 t1:Addr} (h3:H t3=some (.tup [.ref t2])) (h2:H t2=some (.tup [.str "zz",.ref t1])) (h1:H t1=some (.tup [.int 0,.int 2])):FV H (.ref t3) qA:=by
 refine⟨t3,_,["zz"],rfl,h3,⟨List.pairwise_singleton _ _,by simp⟩,fun x=>?_,?_⟩
 ·rw [List.mem_singleton]
  unfold qA bI
  by_cases e:x=("zz" : Str)
  ·rw [if_pos e];exact⟨fun _ z=>(by cases z),fun _=>e⟩
  ·rw [if_neg e];exact⟨fun z=>absurd z e,fun z=>absurd rfl z⟩
 ·have e:qA "zz" = (some 0,some 2):=by unfold qA bI;rw [if_pos rfl]
  refine .cons (.tup h2 (.cons (.str _) (.cons ?_ .nil))) .nil
  rw [e]
  exact .tup h1 (.cons (.int _) (.cons (.int _) .nil))
theorem zB {xs:List Str} (h:("zz" : Str) ∈ xs):cy xs qA:=cy.zero.set h (show (0:Int)<=2 by decide)
theorem uY {c:Bool} {A B C:Prop} (hz:C) (hx:C->c=true->A):if c=true then A else (if false=true then B else C):=by
 cases c
 ·exact hz
 ·exact hx hz rfl
theorem zC {c:Bool} {A B C:Prop} (ha:A) (hy:A->c=false->C):if c=true then (if true=true then A else B) else C:=by
 cases c
 ·exact hy ha rfl
 ·exact ha
theorem jX {α β : Type} {F:α->β->Prop}:∀ {l:List α} {m:List β} (i:Nat),Paired F l m->Paired F (l.eraseIdx i) (m.eraseIdx i)
 | _,_,_,.nil=>.nil
 | _,_,0,.cons _ t=>t
 | _,_,i+1,.cons f t=>.cons f (jX i t)
theorem qS {xs:List Str} {m:Nat} {ps:List Piece} (ok:dD xs m ps) (h0:0 < ps.length):fw ps (List.replicate ps.length (some T0)):=by
 have hat:∀ k,k < ps.length->(List.replicate ps.length (some T0))[k]? = some (some T0):=fun k hk=>by rw [List.getElem?_replicate,if_pos hk]
 refine⟨List.length_replicate,⟨T0,hat 0 h0,sY⟩,fun k p o hk ho=>?_⟩
 rw [qx ho]
 intro T e ld hl
 cases e
 have hm:=List.mem_of_getElem? hk
 exact⟨T0,hat _ (nG (cy.zero.nF (ok.jH p hm).2) (ok.ends p hm) ld hl).1,fun x=>ny _⟩
theorem dD.AD {xs:List Str} {m:Nat} {ps:List Piece} (h:dD xs m ps) (ys:List Str):dD (xs++ys) m ps:=by
 have l:∀ {x},x ∈ xs->x ∈ xs++ys:=fun h=>List.mem_append_left _ h
 refine⟨fun p hp=>⟨(h.jH p hp).1,fun d hd=>?_⟩,fun p hp=>?_⟩
 ·have:=(h.jH p hp).2 d hd
  cases d with
  | put x n=>exact⟨l this.1,this.2⟩
  | copy x y=>exact⟨l this.1,l this.2⟩
  | add x n=>exact⟨l this.1,this.2⟩
  | read x=>exact l this
  | tell x=>exact l this
 ·have:=h.ends p hp
  obtain⟨ds,e⟩:=p
  cases e with
  | stop=>exact True.intro
  | go q=>exact this
  | cY b x n q r=>exact⟨l this.1,this.2⟩
end L2
namespace My
open PySem PySem.Spec PyProof.Rows L2
def top (i:Nat):Stmt:=PySem.Challenge.pw_ledpast_k34_whole_tables_hold.main.body.getD i (.Pass ⟨0,0,0,0⟩)
structure Bl (mg:Str->Option Value):Prop where
 len:mg "len" = none
 zip:mg "zip" = none
 tuple:mg "tuple" = none
 sorted:mg "sorted" = none
 set:mg "set" = none
 dict:mg "dict" = none
 min:mg "min" = none
 max:mg "max" = none
 range:mg "range" = none
 list:mg "list" = none
 int:mg "int" = none
 all:mg "all" = none
abbrev dh:Stmt:=top 3
theorem mi:aP ["thing", "kinds", "wanted"] ["thing", "kinds", "wanted"] (au dh):=⟨rfl,rfl,rfl,by decide +kernel,rfl,by decide +kernel,by decide +kernel⟩
abbrev gm:Stmt:=top 5
theorem tu:aP ["end"] ["end"] (au gm):=⟨rfl,rfl,rfl,by decide +kernel,rfl,by decide +kernel,by decide +kernel⟩
abbrev fL:Stmt:=top 4
theorem fZ:aP ["plan", "names", "deeds", "end", "deed"] ["plan"] (au fL):=⟨rfl,rfl,rfl,by decide +kernel,rfl,by decide +kernel,by decide +kernel⟩
abbrev gn:Stmt:=top 7
theorem jS:aP ["number", "stretch", "low", "high"] ["number", "stretch"] (au gn):=⟨rfl,rfl,rfl,by decide +kernel,rfl,by decide +kernel,by decide +kernel⟩
abbrev eC:Stmt:=top 9
theorem gf:aP ["stretch", "number", "low", "high", "top"] ["stretch", "number"] (au eC):=⟨rfl,rfl,rfl,by decide +kernel,rfl,by decide +kernel,by decide +kernel⟩
abbrev eZ:Stmt:=top 10
theorem gM:aP ["stretch", "number", "low", "high", "bottom"] ["stretch", "number"] (au eZ):=⟨rfl,rfl,rfl,by decide +kernel,rfl,by decide +kernel,by decide +kernel⟩
abbrev gr:Stmt:=top 11
theorem tw:aP ["stretch", "number"] ["stretch", "number"] (au gr):=⟨rfl,rfl,rfl,by decide +kernel,rfl,by decide +kernel,by decide +kernel⟩
abbrev dP:Stmt:=top 12
theorem gX:aP ["stretch", "number", "low", "high"] ["stretch", "number"] (au dP):=⟨rfl,rfl,rfl,by decide +kernel,rfl,by decide +kernel,by decide +kernel⟩
abbrev gu:Stmt:=top 13
theorem tD:aP ["stretch", "word", "number", "side"] ["stretch", "word", "number", "side"] (au gu):=⟨rfl,rfl,rfl,by decide +kernel,rfl,by decide +kernel,by decide +kernel⟩
abbrev fb:Stmt:=top 8
theorem fB:aP ["one", "other", "low", "high", "low_fits", "high_fits"] ["one", "other"] (au fb):=⟨rfl,rfl,rfl,by decide +kernel,rfl,by decide +kernel,by decide +kernel⟩
abbrev fM:Stmt:=top 16
theorem qT:aP ["stretches"] ["stretches"] (au fM):=⟨rfl,rfl,rfl,by decide +kernel,rfl,by decide +kernel,by decide +kernel⟩
abbrev iI:Stmt:=top 17
theorem wF:aP ["facts", "name"] ["facts", "name"] (au iI):=⟨rfl,rfl,rfl,by decide +kernel,rfl,by decide +kernel,by decide +kernel⟩
abbrev eD:Stmt:=top 18
theorem jY:aP ["facts", "name", "stretch", "stretches"] ["facts", "name", "stretch"] (au eD):=⟨rfl,rfl,rfl,by decide +kernel,rfl,by decide +kernel,by decide +kernel⟩
abbrev iJ:Stmt:=top 19
theorem wG:aP ["facts", "worths"] ["facts", "worths"] (au iJ):=⟨rfl,rfl,rfl,by decide +kernel,rfl,by decide +kernel,by decide +kernel⟩
abbrev gY:Stmt:=top 20
theorem oz:aP ["facts", "others", "stretches"] ["facts", "others"] (au gY):=⟨rfl,rfl,rfl,by decide +kernel,rfl,by decide +kernel,by decide +kernel⟩
abbrev iK:Stmt:=top 21
theorem mj:aP ["stretch", "number", "low", "high"] ["stretch", "number"] (au iK):=⟨rfl,rfl,rfl,by decide +kernel,rfl,by decide +kernel,by decide +kernel⟩
abbrev cU:Stmt:=top 22
theorem iz:aP ["stretches", "deed", "word", "name"] ["stretches", "deed"] (au cU):=⟨rfl,rfl,rfl,by decide +kernel,rfl,by decide +kernel,by decide +kernel⟩
abbrev gZ:Stmt:=top 23
theorem kC:aP ["facts", "deeds", "stretches", "deed"] ["facts", "deeds"] (au gZ):=⟨rfl,rfl,rfl,by decide +kernel,rfl,by decide +kernel,by decide +kernel⟩
abbrev dz:Stmt:=top 24
theorem cN:aP ["facts", "end", "ways", "word", "name", "number", "stretch", "parts"] ["facts", "end"] (au dz):=⟨rfl,rfl,rfl,by decide +kernel,rfl,by decide +kernel,by decide +kernel⟩
abbrev iL:Stmt:=top 25
theorem qB:aP ["facts", "end", "beyond"] ["facts", "end"] (au iL):=⟨rfl,rfl,rfl,by decide +kernel,rfl,by decide +kernel,by decide +kernel⟩
abbrev iM:Stmt:=top 26
theorem wH:aP ["plan"] ["plan"] (au iM):=⟨rfl,rfl,rfl,by decide +kernel,rfl,by decide +kernel,by decide +kernel⟩
abbrev hG:Stmt:=top 28
theorem oA:aP ["lead", "table", "entry"] ["lead", "table"] (au hG):=⟨rfl,rfl,rfl,by decide +kernel,rfl,by decide +kernel,by decide +kernel⟩
abbrev eE:Stmt:=top 29
theorem ix:aP ["entry", "piece", "deeds", "end"] ["entry", "piece"] (au eE):=⟨rfl,rfl,rfl,by decide +kernel,rfl,by decide +kernel,by decide +kernel⟩
abbrev dA:Stmt:=top 30
theorem mU:aP ["entry", "piece", "table"] ["entry", "piece", "table"] (au dA):=⟨rfl,rfl,rfl,by decide +kernel,rfl,by decide +kernel,by decide +kernel⟩
abbrev hJ:Stmt:=top 31
theorem uZ:aP ["plan", "table"] ["plan", "table"] (au hJ):=⟨rfl,rfl,rfl,by decide +kernel,rfl,by decide +kernel,by decide +kernel⟩
abbrev hR:Stmt:=top 32
theorem kF:aP ["stretch", "other", "low", "high"] ["stretch", "other"] (au hR):=⟨rfl,rfl,rfl,by decide +kernel,rfl,by decide +kernel,by decide +kernel⟩
abbrev gx:Stmt:=top 33
theorem mV:aP ["entry", "facts", "stretches"] ["entry", "facts"] (au gx):=⟨rfl,rfl,rfl,by decide +kernel,rfl,by decide +kernel,by decide +kernel⟩
abbrev fN:Stmt:=top 34
theorem fc:aP ["plan", "table", "waits", "at", "lead", "way"] ["plan"] (au fN):=⟨rfl,rfl,rfl,by decide +kernel,rfl,by decide +kernel,by decide +kernel⟩
abbrev gy:Stmt:=top 36
theorem jT:aP ["script", "k", "cell"] ["script", "k"] (au gy):=⟨rfl,rfl,rfl,by decide +kernel,rfl,by decide +kernel,by decide +kernel⟩
abbrev fO:Stmt:=top 37
theorem lK:aP ["bag", "many", "found"] ["bag", "many"] (au fO):=⟨rfl,rfl,rfl,by decide +kernel,rfl,by decide +kernel,by decide +kernel⟩
abbrev fe:Stmt:=top 38
theorem cW:aP ["bag", "letters", "many", "base", "at", "names", "k", "name"] ["bag"] (au fe):=⟨rfl,rfl,rfl,by decide +kernel,rfl,by decide +kernel,by decide +kernel⟩
abbrev eF:Stmt:=top 39
theorem oG:aP ["bag"] ["bag"] (au eF):=⟨rfl,rfl,rfl,by decide +kernel,rfl,by decide +kernel,by decide +kernel⟩
abbrev fP:Stmt:=top 40
theorem jn:aP ["bag", "names", "word", "name"] ["bag", "names"] (au fP):=⟨rfl,rfl,rfl,by decide +kernel,rfl,by decide +kernel,by decide +kernel⟩
abbrev gB:Stmt:=top 41
theorem iD:aP ["bag", "names", "count", "way", "word", "name"] ["bag", "names", "count"] (au gB):=⟨rfl,rfl,rfl,by decide +kernel,rfl,by decide +kernel,by decide +kernel⟩
abbrev fQ:Stmt:=top 42
theorem ff:aP ["bag", "count", "most", "names", "pieces", "k", "many", "end"] ["bag", "count", "most"] (au fQ):=⟨rfl,rfl,rfl,by decide +kernel,rfl,by decide +kernel,by decide +kernel⟩
abbrev fg:Stmt:=top 43
theorem qC:aP ["bag", "most"] ["bag", "most"] (au fg):=⟨rfl,rfl,rfl,by decide +kernel,rfl,by decide +kernel,by decide +kernel⟩
abbrev fR:Stmt:=top 44
theorem bK:aP ["plan", "state", "numbers", "piece", "place", "worths", "taken", "told", "word", "been", "deeds", "end", "deed", "worth", "there", "yes"] ["plan", "state", "numbers"] (au fR):=⟨rfl,rfl,rfl,by decide +kernel,rfl,by decide +kernel,by decide +kernel⟩
abbrev fh:Stmt:=top 45
theorem kG:aP ["bag", "many"] ["bag"] (au fh):=⟨rfl,rfl,rfl,by decide +kernel,rfl,by decide +kernel,by decide +kernel⟩
abbrev fS:Stmt:=top 46
theorem jo:aP ["facts", "name", "stretch", "more", "other"] ["facts", "name", "stretch"] (au fS):=⟨rfl,rfl,rfl,by decide +kernel,rfl,by decide +kernel,by decide +kernel⟩
abbrev fT:Stmt:=top 47
theorem qU:aP ["facts"] ["facts"] (au fT):=⟨rfl,rfl,rfl,by decide +kernel,rfl,by decide +kernel,by decide +kernel⟩
abbrev dB:Stmt:=top 48
theorem fk:aP ["facts", "table", "name", "stretch"] ["facts"] (au dB):=⟨rfl,rfl,rfl,by decide +kernel,rfl,by decide +kernel,by decide +kernel⟩
abbrev cC:Stmt:=top 49
theorem aW:aP ["bag", "facts", "table", "names", "name", "low", "high", "way"] ["bag", "facts"] (au cC):=⟨rfl,rfl,rfl,by decide +kernel,rfl,by decide +kernel,by decide +kernel⟩
abbrev cD:Stmt:=top 50
theorem dH:aP ["bag", "table", "some", "at", "way"] ["bag", "table"] (au cD):=⟨rfl,rfl,rfl,by decide +kernel,rfl,by decide +kernel,by decide +kernel⟩
abbrev fi:Stmt:=top 51
theorem gN:aP ["facts", "worths", "name", "stretch", "number"] ["facts", "worths"] (au fi):=⟨rfl,rfl,rfl,by decide +kernel,rfl,by decide +kernel,by decide +kernel⟩
abbrev cV:Stmt:=top 52
theorem ef:aP ["plan", "table", "numbers", "steps", "state", "k"] ["plan", "table", "numbers", "steps"] (au cV):=⟨rfl,rfl,rfl,by decide +kernel,rfl,by decide +kernel,by decide +kernel⟩
abbrev iE:Stmt:=top 53
theorem gc:aP ["script", "first", "plan", "table", "k", "bag", "other", "j", "numbers"] ["script"] (au iE):=⟨rfl,rfl,rfl,by decide +kernel,rfl,by decide +kernel,by decide +kernel⟩
section
variable {P:Program} {w:World} {K:PySem.W.Frag} {mg:Str->Option Value} {base:Heap}
theorem ml {f:Addr} {fd:FuncData} (F:bX K "parts_of_kind" "parts_of_kind" dh f fd) (Z:Bl mg)  : bB P w K mg base bT 1 f fd ["thing", "kinds", "wanted"] (kR K):=by
 refine F.ok (k:=0) mi (fun vs H Q E h=>?_) (fun cdv A outer s H vs Q E hr h=>?_)
 ·obtain⟨t,s,v0,xs,ks,w,rfl,_⟩:=h
  rfl
 ·obtain⟨t,s,v0,xs,ks,w,rfl,ht,hs,hl,q⟩:=h
  refine⟨_,(ar (aC (cS ["part", "kind"] ["wanted"] [2] rfl (pW rfl Z.zip (aa (vq xu (pv 0) (xl ai) xk) (aa (pv 1) af))) rfl (by decide +kernel) (by decide +kernel) (by decide +kernel) ⟨⟨rfl,.inl rfl,rfl⟩,True.intro⟩ (fun _ _ _ _=>(iG (K:=K) (n:=2) rfl (cf (n:=2) rfl (aG (aB (i:=0) (show ((["part", "kind"]:List Str)++(["wanted"]:List Str)).Nodup by decide +kernel) rfl (Or.inl rfl) (hf:=Or.inr rfl)) (aG (aB (i:=1) (show ((["part", "kind"]:List Str)++(["wanted"]:List Str)).Nodup by decide +kernel) rfl (Or.inl rfl) (hf:=Or.inr rfl)) bU))))) (fun _ _ _ _=>(m7 (aJ bG (pv 1) (pv 2) (aK _)))) (fun _ _ _ _=>(pv 0))))),?_⟩
  refine⟨_,rfl,_,rfl,t,_,rfl,aw.of ht,fun hw=>?_,fun _ p np=>?_⟩
  ·exfalso
   obtain⟨h1,_⟩:=hw
   simp [HT.bS] at h1
  ·have ec:lN (v0 :: xs) (some 1) none=xs:=by simp [lN,HT.bS]
   rw [ec]
   have sp:=ao.new (o:=.tup xs) np
   refine⟨_,rfl,p,s,rfl,⟨_,aw.of ae⟩,⟨_,hs.same sp⟩,fun acc na=>?_⟩
   refine pX (K:=K) (a:=p) (b:=s) (xs:=xs) (ys:=ks.map V.str) (fun i zs τ H'=>∃ (c1 c2:Option V),τ = [c1,c2,some (.str w)]/\zs=ja w xs ks i/\H' acc=some (.lst zs)/\H' p=some (.tup xs)/\ao H H') ?_ ?_ ?_ ?_
   ·exact⟨none,none,rfl,rfl,ae,ao.new na _ _ ae,sp.trans (ao.new na)⟩
   ·rintro i zs τ H4 hi ⟨c1,c2,rfl,rfl,ha,hp4,s4⟩
    exact⟨aw.of hp4,hs.same s4,ha,cL (by have:=ur (w:=w) (xs:=xs) (ks:=ks) (i:=i);omega)⟩
   ·rintro i x y zs τ H4 u hx hy hu ⟨c1,c2,rfl,rfl,ha,hp4,s4⟩
    obtain⟨k,rfl,hk⟩:∃ k,y=V.str k/\ks[i]? = some k:=by
     rw [List.getElem?_map] at hy
     cases e:ks[i]? with
     | none=>rw [e] at hy;cases hy
     | some k=>rw [e] at hy;exact⟨k,(Option.some.inj hy).symm,rfl⟩
    have su:=ao.new (o:=.tup [x,.str k]) hu
    refine⟨u,_,rfl,aw.of ae,rfl,_,_,rfl,_,_,rfl,rfl,?_⟩
    refine⟨_,rfl,_,rfl,rfl,_,rfl,?_⟩
    have hn:=sL (w:=w) hx hk
    by_cases hkw:k=w
    ·rw [if_pos hkw] at hn
     refine cb (decide_eq_true (congrArg V.str hkw)) ?_
     refine⟨_,rfl,su _ _ ha,_,_,rfl,hn.symm,ae,?_,?_⟩
     ·rw [av (bQ hp4 ha (by intro z;cases z))]
      exact su _ _ hp4
     ·exact (s4.trans su).put (sp.free na)
    ·rw [if_neg hkw,List.append_nil] at hn
     refine aV (decide_eq_false fun z=>hkw (V.str.inj z)) ?_
     exact⟨_,_,rfl,hn.symm,su _ _ ha,su _ _ hp4,s4.trans su⟩
   ·rintro zs τ H4 ⟨c1,c2,rfl,rfl,ha,hp4,s4⟩
    rw [uq] at ha
    exact q acc H4 ha s4
theorem tE {f:Addr} {fd:FuncData} (F:bX K "ways_on" "ways_on" gm f fd) (Z:Bl mg) {aE s0 s1 s2 s3:Addr} (GE:pY K mg aE s0 s1 s2 s3) (O_parts_of_kind:Own P w K mg base "parts_of_kind" 1 ["thing", "kinds", "wanted"] (kR K)):bB P w K mg base bT 3 f fd ["end"] mK:=by
 refine F.ok (k:=2) tu (fun vs H Q E h=>?_) (fun cdv A outer s H vs Q E hr h=>?_)
 ·obtain⟨ea,e,rfl,_⟩:=h
  rfl
 ·obtain⟨ea,e,rfl,he,q⟩:=h
  refine⟨_,(ar (aC (bh bL rfl Z.tuple cJ (aa (ay O_parts_of_kind (hr.mono (by decide)) rfl (aa (pv 0) (aa (ni GE.tab rfl (aF aO (pv 0) ai (fun _ _=>rfl)) (fun _ _=>rfl)) (aa bp af)))) af)))),?_⟩
  obtain⟨xs,ev,hl,hp⟩:=uu e
  rw [ev] at he
  obtain⟨s,hs,ks⟩:=GE.at_ e
  refine⟨_,rfl,_,rfl,ea,_,0,_,rfl,rfl,aw.of he,bP,_,s,rfl,hs,ea,s,_,xs,kE e, "piece",rfl,he,.inr ks,hl,fun l H1 hl1 s1=>?_⟩
  rw [hp] at hl1
  exact⟨l,_,rfl,.inl ⟨aU.of hl1,fun t ht=>q t _ ae (s1.trans (ao.new ht))⟩⟩
theorem qV {f:Addr} {fd:FuncData} (F:bX K "names_of" "names_of" fL f fd) (Z:Bl mg) {aD d0 d1 d2 d3 d4:Addr} (GD:oV K mg aD d0 d1 d2 d3 d4) {aE s0 s1 s2 s3:Addr} (GE:pY K mg aE s0 s1 s2 s3) (O_parts_of_kind:Own P w K mg base "parts_of_kind" 1 ["thing", "kinds", "wanted"] (kR K)):bB P w K mg base bT 3 f fd ["plan"] kn:=by
 refine F.ok (k:=2) fZ (fun vs H Q E h=>?_) (fun cdv A outer s H vs Q E hr h=>?_)
 ·obtain⟨plv,ps,xs,m,rfl,_⟩:=h
  rfl
 ·obtain⟨plv,ps,xs,m,rfl,hp,pok,hx64,hal,q⟩:=h
  refine⟨_,(ah (aH (i:=1) fZ.nd rfl (Or.inl rfl) (cu af))
   (ah (eR PassesOwn.never rfl (eh (pv 0)) (cf rfl (aG (aB (i:=2) fZ.nd rfl (Or.inl rfl)) (aG (aB (i:=3) fZ.nd rfl (Or.inl rfl)) bU)))
   (ah (eR PassesOwn.never rfl (eh (pv 2)) (aB (i:=4) fZ.nd rfl (Or.inl rfl))
   (ar (eY (gF PySem.F.plainAttrs_list PySem.F.slot_list_extend PySem.F.type_list_extend nT (pv 1) (aa (ay O_parts_of_kind (hr.mono (by decide)) rfl (aa (pv 4) (aa (ni GD.tab rfl (aF aO (pv 4) ai (fun _ _=>rfl)) (fun _ _=>rfl)) (aa bp af)))) af)))))
   (ar (eY (gF PySem.F.plainAttrs_list PySem.F.slot_list_extend PySem.F.type_list_extend nT (pv 1) (aa (ay O_parts_of_kind (hr.mono (by decide)) rfl (aa (pv 3) (aa (ni GE.tab rfl (aF aO (pv 3) ai (fun _ _=>rfl)) (fun _ _=>rfl)) (aa bp af)))) af))))))
   (ar (aC (bh bL rfl Z.tuple cJ (aa (ba (oB rfl) rfl Z.sorted i9 (aa (bh (uE rfl) rfl Z.set yP (aa (pv 1) af)) af)) af)))))),?_⟩
  obtain⟨pp,vs,rfl,e1,r⟩:=bC.cn hp
  have hl:=r.len
  refine⟨(by show 0<=sizeLine;decide),fun nm nn=>?_⟩
  have s0:=ao.new (o:=.lst []) nn
  have big:∀ (i:Nat) (ys:List Str),ys.length<=4000->(ys.map V.str).length<=sizeLine:=fun i ys h=>by rw [List.length_map];exact Nat.le_trans h (by decide)
  refine⟨_,rfl,pp,rfl,⟨_,aw.of (s0 _ _ e1)⟩,iF (K:=K) (a:=pp) (xs:=vs) (fun i σ H'=>∃ (u1 u2 u3:Option V),σ = [some (.ref pp),some (.ref nm),u1,u2,u3]/\H' nm=some (.lst ((bF (ps.take i)).map V.str))/\ao H H') ?_ ?_ ?_ ?_⟩
  ·exact⟨_,_,_,rfl,ae,s0⟩
  ·rintro i σ H1 hi ⟨u1,u2,u3,rfl,h1,s1⟩
   exact aw.of (s1 _ _ e1)
  ·rintro i x σ H1 hi ⟨u1,u2,u3,rfl,h1,s1⟩
   have hlt:i < ps.length:=by
    have:=(List.getElem?_eq_some_iff.mp hi).1
    rw [hl,List.length_map] at this
    exact this
   have hpi:ps[i]? = some ps[i]:=by simp [hlt]
   generalize ps[i] = pe at hpi
   obtain⟨ds,e⟩:=pe
   have hnext:=oh (f:=pNames) hpi
   have hsz:(bF (ps.take (i+1))).length<=4000:=Nat.le_trans (jV (f:=pNames) (i+1)) hal
   have hsz':(bF (ps.take i)).length+((ds.flatMap dn).length+(i2 e).length)<=4000:=by
    have z:=congrArg List.length hnext
    unfold bF at hsz ⊢
    rw [z] at hsz
    simp only [List.length_append,pNames] at hsz
    omega
   obtain⟨p',xs',pc,da,ea,ws,ep,e1',el',hx',e2,e3,r3,e4⟩:=jL hp hpi
   cases ep
   rw [e1] at e1'
   cases e1'
   rw [hi] at hx'
   cases hx'
   refine⟨pc,_,rfl,aw.of (s1 _ _ e2),rfl,_,_,rfl,_,_,rfl,rfl,?_⟩
   refine⟨_,rfl,da,rfl,⟨_,aw.of (s1 _ _ e3)⟩,iF (K:=K) (a:=da) (xs:=ws) (fun j σ H'=>∃ (u3:Option V),σ = [some (.ref pp),some (.ref nm),some (.ref da),some (.ref ea),u3]/\H' nm=some (.lst ((bF (ps.take i)++(ds.take j).flatMap dn).map V.str))/\ao H H') ?_ ?_ ?_ ?_⟩
   ·exact⟨_,rfl,by simpa using h1,s1⟩
   ·rintro j σ H2 hj ⟨u3',rfl,h2,s2⟩
    exact aw.of (s2 _ _ e3)
   ·rintro j y σ H2 hj ⟨u3',rfl,h2,s2⟩
    have hjl:j < ds.length:=by
     have:=(List.getElem?_eq_some_iff.mp hj).1
     rw [r3.len,List.length_map] at this
     exact this
    have hdj:ds[j]? = some ds[j]:=by simp [hjl]
    generalize ds[j] = dd at hdj
    obtain⟨v,hv,rd⟩:=r3.get (i:=j) (d:=d8 dd) (by rw [List.getElem?_map,hdj];rfl)
    rw [hj] at hv
    cases hv
    obtain⟨dp,rfl,hdp⟩:=ng rd
    have hdp2:=s2 _ _ hdp
    obtain⟨zs,ez,hzl,hpk⟩:=sT dd
    rw [ez] at hdp2
    obtain⟨s,hs,ks⟩:=GD.at_ dd
    have hnj:=oh (f:=dn) hdj
    have hsj:((ds.take (j+1)).flatMap dn).length<=(ds.flatMap dn).length:=jV (f:=dn) (j+1)
    refine dm ?_
    refine⟨_,rfl,.inl ⟨rfl,_,aU.of h2⟩,_,rfl,_,rfl,dp,_,0,_,rfl,rfl,aw.of hdp2,bP,_,s,rfl,hs,dp,s,_,zs,kD dd, "name",rfl,hdp2,.inr ks,hzl,fun l H3 hl3 s3=>?_⟩
    rw [hpk] at hl3
    have h3:=s3 _ _ h2
    refine⟨nm,l,_,_,rfl,rfl,h3,hl3,?_,?_⟩
    ·rw [List.length_map,List.length_map,List.length_append]
     rw [hnj,List.length_append] at hsj
     exact Nat.le_trans (show _<=4000 by omega) (by decide)
    ·refine⟨_,rfl,?_,(s2.trans s3).put nn⟩
     rw [ae,hnj,<-List.append_assoc];simp only [List.map_append]
   ·rintro σ H2 ⟨u3',rfl,h2,s2⟩
    rw [show ws.length=ds.length by rw [r3.len,List.length_map],List.take_length] at h2
    have e42:=s2 _ _ e4
    obtain⟨zs,ez,hzl,hpk⟩:=sV e
    rw [ez] at e42
    obtain⟨s,hs,ks⟩:=GE.at_ e
    refine⟨_,rfl,.inl ⟨rfl,_,aU.of h2⟩,_,rfl,_,rfl,ea,_,0,_,rfl,rfl,aw.of e42,bP,_,s,rfl,hs,ea,s,_,zs,kE e, "name",rfl,e42,.inr ks,hzl,fun l H3 hl3 s3=>?_⟩
    rw [hpk] at hl3
    have h3:=s3 _ _ h2
    refine⟨nm,l,_,_,rfl,rfl,h3,hl3,?_,?_⟩
    ·rw [List.length_map,List.length_map,List.length_append]
     exact Nat.le_trans (show _<=4000 by omega) (by decide)
    ·refine⟨_,_,_,rfl,?_,(s2.trans s3).put nn⟩
     rw [ae,<-List.map_append]
     unfold bF at hnext ⊢
     rw [hnext]
     simp only [pNames,List.append_assoc]
  ·rintro σ H1 ⟨u1,u2,u3,rfl,h1,s1⟩
   rw [show vs.length=ps.length by rw [hl,List.length_map],List.take_length] at h1
   have hk:aU K H1 nm (((bF ps).map (Sum.inr:Str->Key)).map kV):=by rw [xH];exact aU.of h1
   refine⟨_,rfl,nm,(bF ps).map Sum.inr,rfl,hk,(by rw [List.length_map];show _+1 < 4096;omega),fun sa hsa=>?_⟩
   have hf:=wa pok
   refine⟨sa,LS.de (bF ps),rfl,(by rw [ae,sW]),(by omega),fun l ss hperm hsort hn=>?_⟩
   have s2:=ao.new (o:=qd P w sa (LS.de ((bF ps).map (Sum.inr:Str->Key)))) hsa
   refine⟨l,_,rfl,.inl ⟨aU.of ae,fun t ht=>?_⟩⟩
   exact q t ss _ ae hperm hsort (by rw [hperm.length_eq];omega) (((s1.trans s2).trans (ao.new hn)).trans (ao.new ht))
theorem tF {f:Addr} {fd:FuncData} (F:bX K "lies_in" "lies_in" gn f fd) (Z:Bl mg)  : bB P w K mg base bT 1 f fd ["number", "stretch"] (kW K):=by
 refine F.ok (k:=0) jS (fun vs H Q E h=>?_) (fun cdv A outer s H vs Q E hr h=>?_)
 ·obtain⟨n,q,lo,hi,rfl,_⟩:=h
  rfl
 ·obtain⟨n,q,lo,hi,rfl,hq,k⟩:=h
  refine⟨_,(ah (cg (pv 1) (cf rfl (aG (aB (i:=2) jS.nd rfl (Or.inl rfl)) (aG (aB (i:=3) jS.nd rfl (Or.inl rfl)) bU))))
   (ar (aC (j7 (mr (h9 (dQ (pv 2))) (fY (fF oQ (pv 2) (pv 0) (aK _)))) (fY (mr (h9 (dQ (pv 3))) (fY (fF oQ (pv 0) (pv 3) (aK _))))))))),?_⟩
  refine⟨_,rfl,q,_,rfl,hq,rfl,_,_,rfl,_,_,rfl,rfl,?_⟩
  cases lo with
  | none =>
   refine⟨_,rfl,_,rfl,bA ⟨_,rfl,bA ?_⟩⟩
   cases hi with
   | none=>exact⟨_,rfl,_,rfl,bA k⟩
   | some b =>
    refine⟨_,rfl,_,rfl,bw ⟨_,rfl,_,rfl,_,_,rfl,rfl,?_⟩⟩
    simpa only [bY,Bool.true_and] using k
  | some a =>
   refine⟨_,rfl,_,rfl,bw ⟨_,rfl,_,rfl,_,_,rfl,rfl,_,rfl,?_⟩⟩
   cases hx:decide (a<=n) with
   | false=>exact bw (by have k':=k;simp only [bY,hx,Bool.false_and] at k';exact k')
   | true =>
    refine bA ?_
    cases hi with
    | none=>exact⟨_,rfl,_,rfl,bA (by have k':=k;simp only [bY,hx,Bool.true_and] at k';exact k')⟩
    | some b =>
     refine⟨_,rfl,_,rfl,bw ⟨_,rfl,_,rfl,_,_,rfl,rfl,?_⟩⟩
     have k':=k
     simp only [bY,hx,Bool.true_and] at k'
     exact k'
theorem oH {f:Addr} {fd:FuncData} (F:bX K "part_below" "part_below" eC f fd) (Z:Bl mg)  : bB P w K mg base bT 1 f fd ["stretch", "number"] (ir K ft):=by
 refine F.ok (k:=0) gf (fun vs H Q E h=>?_) (fun cdv A outer s H vs Q E hr h=>?_)
 ·obtain⟨p,n,lo,hi,rfl,_⟩:=h
  rfl
 ·obtain⟨p,n,lo,hi,rfl,hp,q⟩:=h
  refine⟨_,(ah (cg (pv 0) (cf rfl (aG (aB (i:=2) gf.nd rfl (Or.inl rfl)) (aG (aB (i:=3) gf.nd rfl (Or.inl rfl)) bU))))
   (ah (aH (i:=4) gf.nd rfl (Or.inl rfl) (eJ (di (dQ (pv 3))) (aZ gC (pv 1) ai) (ba (j9 rfl) rfl Z.min pC (aa (pv 3) (aa (aZ gC (pv 1) ai) af)))))
   (ah (aY (PW.pt (fX (di (eW (pv 2))) (eX (aJ kH (pv 2) (pv 4) (aK _)))))
   (ar (aC cq))
   aR)
   (ar (aC (bg (aa (pv 2) (aa (pv 4) af)))))))),?_⟩
  refine⟨_,rfl,p,_,rfl,hp,rfl,_,_,rfl,_,_,rfl,rfl,?_⟩
  cases hi with
  | none =>
   refine⟨_,rfl,_,rfl,bA ⟨_,rfl,_,_,rfl,rfl,?_⟩⟩
   cases lo with
   | none =>
    refine⟨_,rfl,_,rfl,bw (bw ⟨_,rfl,_,rfl,ln2,fun l hl=>?_⟩)⟩
    exact q _ _ ⟨l,rfl,ae⟩ (ao.new hl)
   | some i =>
    refine⟨_,rfl,_,rfl,bA ⟨_,rfl,_,rfl,_,_,rfl,rfl,_,rfl,?_⟩⟩
    refine cA (fun hc=>?_) (fun hc=>?_)
    ·have hlt:je none n < i:=of_decide_eq_true hc
     exact q _ _ (by simp only [ft];rw [if_pos hlt];rfl) (ao.refl H)
    ·have hlt:¬ je none n < i:=fun z=>hc (decide_eq_true z)
     refine⟨_,rfl,_,rfl,ln2,fun l hl=>?_⟩
     exact q _ _ (by simp only [ft];rw [if_neg hlt];exact⟨l,rfl,ae⟩) (ao.new hl)
  | some j =>
   refine⟨_,rfl,_,rfl,bw ⟨_,rfl,_,rfl,_,_,rfl,rfl,_,_,rfl,?_⟩⟩
   cases lo with
   | none =>
    refine⟨_,rfl,_,rfl,bw (bw ⟨_,rfl,_,rfl,ln2,fun l hl=>?_⟩)⟩
    exact q _ _ ⟨l,rfl,ae⟩ (ao.new hl)
   | some i =>
    refine⟨_,rfl,_,rfl,bA ⟨_,rfl,_,rfl,_,_,rfl,rfl,_,rfl,?_⟩⟩
    refine cA (fun hc=>?_) (fun hc=>?_)
    ·have hlt:je (some j) n < i:=of_decide_eq_true hc
     exact q _ _ (by simp only [ft];rw [if_pos hlt];rfl) (ao.refl H)
    ·have hlt:¬ je (some j) n < i:=fun z=>hc (decide_eq_true z)
     refine⟨_,rfl,_,rfl,ln2,fun l hl=>?_⟩
     exact q _ _ (by simp only [ft];rw [if_neg hlt];exact⟨l,rfl,ae⟩) (ao.new hl)
theorem qD {f:Addr} {fd:FuncData} (F:bX K "part_from" "part_from" eZ f fd) (Z:Bl mg)  : bB P w K mg base bT 1 f fd ["stretch", "number"] (ir K gH):=by
 refine F.ok (k:=0) gM (fun vs H Q E h=>?_) (fun cdv A outer s H vs Q E hr h=>?_)
 ·obtain⟨p,n,lo,hi,rfl,_⟩:=h
  rfl
 ·obtain⟨p,n,lo,hi,rfl,hp,q⟩:=h
  refine⟨_,(ah (cg (pv 0) (cf rfl (aG (aB (i:=2) gM.nd rfl (Or.inl rfl)) (aG (aB (i:=3) gM.nd rfl (Or.inl rfl)) bU))))
   (ah (aH (i:=4) gM.nd rfl (Or.inl rfl) (eJ (di (dQ (pv 2))) (pv 1) (ba (tW rfl) rfl Z.max yu (aa (pv 2) (aa (pv 1) af)))))
   (ah (aY (PW.pt (fX (di (eW (pv 3))) (eX (aJ kH (pv 4) (pv 3) (aK _)))))
   (ar (aC cq))
   aR)
   (ar (aC (bg (aa (pv 4) (aa (pv 3) af)))))))),?_⟩
  refine⟨_,rfl,p,_,rfl,hp,rfl,_,_,rfl,_,_,rfl,rfl,?_⟩
  cases lo with
  | none =>
   refine⟨_,rfl,_,rfl,bA ⟨_,rfl,?_⟩⟩
   cases hi with
   | none =>
    refine⟨_,rfl,_,rfl,bw (bw ⟨_,rfl,_,rfl,ln2,fun l hl=>?_⟩)⟩
    exact q _ _ ⟨l,rfl,ae⟩ (ao.new hl)
   | some j =>
    refine⟨_,rfl,_,rfl,bA ⟨_,rfl,_,rfl,_,_,rfl,rfl,_,rfl,?_⟩⟩
    refine cA (fun hc=>?_) (fun hc=>?_)
    ·have hlt:j < jf none n:=of_decide_eq_true hc
     exact q _ _ (by simp only [gH];rw [if_pos hlt];rfl) (ao.refl H)
    ·have hlt:¬ j < jf none n:=fun z=>hc (decide_eq_true z)
     refine⟨_,rfl,_,rfl,ln2,fun l hl=>?_⟩
     exact q _ _ (by simp only [gH];rw [if_neg hlt];exact⟨l,rfl,ae⟩) (ao.new hl)
  | some i =>
   refine⟨_,rfl,_,rfl,bw ⟨_,rfl,_,rfl,_,_,rfl,?_⟩⟩
   cases hi with
   | none =>
    refine⟨_,rfl,_,rfl,bw (bw ⟨_,rfl,_,rfl,ln2,fun l hl=>?_⟩)⟩
    exact q _ _ ⟨l,rfl,ae⟩ (ao.new hl)
   | some j =>
    refine⟨_,rfl,_,rfl,bA ⟨_,rfl,_,rfl,_,_,rfl,rfl,_,rfl,?_⟩⟩
    refine cA (fun hc=>?_) (fun hc=>?_)
    ·have hlt:j < jf (some i) n:=of_decide_eq_true hc
     exact q _ _ (by simp only [gH];rw [if_pos hlt];rfl) (ao.refl H)
    ·have hlt:¬ j < jf (some i) n:=fun z=>hc (decide_eq_true z)
     refine⟨_,rfl,_,rfl,ln2,fun l hl=>?_⟩
     exact q _ _ (by simp only [gH];rw [if_neg hlt];exact⟨l,rfl,ae⟩) (ao.new hl)
theorem tG {f:Addr} {fd:FuncData} (F:bX K "part_at" "part_at" gr f fd) (Z:Bl mg) (O_lies_in:Own P w K mg base "lies_in" 1 ["number", "stretch"] (kW K)):bB P w K mg base bT 2 f fd ["stretch", "number"] (ir K mH):=by
  refine F.ok (k:=1) tw (fun vs H Q E h=>?_) (fun cdv A outer s H vs Q E hr h=>?_)
  · obtain⟨p,n,lo,hi,rfl,_⟩:=h
    rfl
  · obtain⟨p,n,lo,hi,rfl,hp,q⟩:=h
    refine⟨_,(ah (aY (fm (ay O_lies_in (hr.mono (by decide)) rfl (aa (pv 1) (aa (pv 0) af))))
      (ar (aC (bg (aa (pv 1) (aa (pv 1) af)))))
      aR)
      (ar (aC cq))),?_⟩
    refine⟨_,rfl,_,rfl,n,p,lo,hi,rfl,hp,_,rfl,?_⟩
    refine cA (fun hc=>?_) (fun hc=>?_)
    · refine⟨_,rfl,_,rfl,ln2,fun l hl=>?_⟩
      exact q _ _ (by simp only [mH,if_pos hc];exact⟨l,rfl,ae⟩) (ao.new hl)
    · exact q _ _ (by simp only [mH,if_neg hc];rfl) (ao.refl H)
theorem nJ {f:Addr} {fd:FuncData} (F:bX K "part_beside" "part_beside" dP f fd) (Z:Bl mg)  : bB P w K mg base bT 1 f fd ["stretch", "number"] (ir K i0):=by
 refine F.ok (k:=0) gX (fun vs H Q E h=>?_) (fun cdv A outer s H vs Q E hr h=>?_)
 ·obtain⟨p,n,lo,hi,rfl,_⟩:=h
  rfl
 ·obtain⟨p,n,lo,hi,rfl,hp,q⟩:=h
  refine⟨_,(ah (cg (pv 0) (cf rfl (aG (aB (i:=2) gX.nd rfl (Or.inl rfl)) (aG (aB (i:=3) gX.nd rfl (Or.inl rfl)) bU))))
   (ah (aY (PW.pt (fX (aJ bG (pv 2) (pv 1) (aK _)) (eX (aJ bG (pv 3) (pv 1) (aK _)))))
   (ar (aC cq))
   aR)
   (ah (aY (aJ bG (pv 2) (pv 1) (aK _))
   (ar (aC (bg (aa (aZ cH (pv 1) ai) (aa (pv 3) af)))))
   aR)
   (ah (aY (aJ bG (pv 3) (pv 1) (aK _))
   (ar (aC (bg (aa (pv 2) (aa (aZ gC (pv 1) ai) af)))))
   aR)
   (ar (aC (bg (aa (pv 2) (aa (pv 3) af))))))))),?_⟩
  refine⟨_,rfl,p,_,rfl,hp,rfl,_,_,rfl,_,_,rfl,rfl,?_⟩
  refine⟨_,rfl,_,rfl,kh,_,rfl,?_⟩
  rw [mI]
  refine cA (fun hc=>?_) (fun hc=>?_)
  ·have h1:lo=some n:=of_decide_eq_true hc
   refine⟨_,rfl,_,rfl,kh,_,rfl,?_⟩
   rw [mI]
   refine cA (fun hd=>?_) (fun hd=>?_)
   ·have h2:hi=some n:=of_decide_eq_true hd
    exact q _ _ (by simp only [i0,if_pos h1,if_pos h2];rfl) (ao.refl H)
   ·have h2:¬ hi=some n:=fun z=>hd (decide_eq_true z)
    refine⟨_,rfl,_,rfl,kh,_,rfl,?_⟩
    rw [mI,hc]
    refine bA ⟨_,rfl,_,_,rfl,rfl,_,rfl,ln2,fun l hl=>?_⟩
    exact q _ _ (by simp only [i0,if_pos h1,if_neg h2];exact⟨l,rfl,ae⟩) (ao.new hl)
  ·have h1:¬ lo=some n:=fun z=>hc (decide_eq_true z)
   refine bw ?_
   refine⟨_,rfl,_,rfl,kh,_,rfl,?_⟩
   rw [mI,show decide (lo=some n)=false from decide_eq_false h1]
   refine bw ?_
   refine⟨_,rfl,_,rfl,kh,_,rfl,?_⟩
   rw [mI]
   refine cA (fun hd=>?_) (fun hd=>?_)
   ·have h2:hi=some n:=of_decide_eq_true hd
    refine⟨_,rfl,_,rfl,_,_,rfl,rfl,ln2,fun l hl=>?_⟩
    exact q _ _ (by simp only [i0,if_neg h1,if_pos h2];exact⟨l,rfl,ae⟩) (ao.new hl)
   ·have h2:¬ hi=some n:=fun z=>hd (decide_eq_true z)
    refine⟨_,rfl,_,rfl,ln2,fun l hl=>?_⟩
    exact q _ _ (by simp only [i0,if_neg h1,if_neg h2];exact⟨l,rfl,ae⟩) (ao.new hl)
theorem tH {f:Addr} {fd:FuncData} (F:bX K "part_of" "part_of" gu f fd) (Z:Bl mg) (O_part_below:Own P w K mg base "part_below" 1 ["stretch", "number"] (ir K ft)) (O_part_from:Own P w K mg base "part_from" 1 ["stretch", "number"] (ir K gH)) (O_part_at:Own P w K mg base "part_at" 2 ["stretch", "number"] (ir K mH)) (O_part_beside:Own P w K mg base "part_beside" 1 ["stretch", "number"] (ir K i0)):bB P w K mg base bT 3 f fd ["stretch", "word", "number", "side"] (nz K):=by
 refine F.ok (k:=2) tD (fun vs H Q E h=>?_) (fun cdv A outer s H vs Q E hr h=>?_)
 ·obtain⟨p,w,n,side,lo,hi,rfl,_⟩:=h
  rfl
 ·obtain⟨p,w,n,side,lo,hi,rfl,hp,q⟩:=h
  refine⟨_,(ah (aY (aJ bG (pv 1) bp (aK _))
   (ar (aC (eJ (fm (pv 3)) (ay O_part_below (hr.mono (by decide)) rfl (aa (pv 0) (aa (pv 2) af))) (ay O_part_from (hr.mono (by decide)) rfl (aa (pv 0) (aa (pv 2) af))))))
   aR)
   (ar (aC (eJ (fm (pv 3)) (ay O_part_at (hr.mono (by decide)) rfl (aa (pv 0) (aa (pv 2) af))) (ay O_part_beside (hr.mono (by decide)) rfl (aa (pv 0) (aa (pv 2) af))))))),?_⟩
  refine⟨_,rfl,rfl,_,rfl,?_⟩
  by_cases hw:w = "less"
  ·subst hw
   rw [uj]
   refine bA ⟨_,rfl,_,rfl,?_⟩
   cases side with
   | true=>exact bA ⟨_,rfl,_,rfl,p,n,lo,hi,rfl,hp,fun v H1 r s1=>q v H1 (by simp only [fj,kP,if_true];exact r) s1⟩
   | false=>exact bw ⟨_,rfl,_,rfl,p,n,lo,hi,rfl,hp,fun v H1 r s1=>q v H1 (by simp only [fj,kP,if_true,Bool.false_eq_true,if_false];exact r) s1⟩
  ·have e:decide (V.str w=V.str "less")=false:=decide_eq_false fun z=>hw (V.str.inj z)
   rw [e]
   refine bw ⟨_,rfl,_,rfl,?_⟩
   cases side with
   | true=>exact bA ⟨_,rfl,_,rfl,p,n,lo,hi,rfl,hp,fun v H1 r s1=>q v H1 (by simp only [fj,rS,if_neg hw,if_true];exact r) s1⟩
   | false=>exact bw ⟨_,rfl,_,rfl,p,n,lo,hi,rfl,hp,fun v H1 r s1=>q v H1 (by simp only [fj,rS,if_neg hw,Bool.false_eq_true,if_false];exact r) s1⟩
theorem qE {f:Addr} {fd:FuncData} (F:bX K "is_within" "is_within" fb f fd) (Z:Bl mg)  : bB P w K mg base bT 1 f fd ["one", "other"] (jc K):=by
 refine F.ok (k:=0) fB (fun vs H Q E h=>?_) (fun cdv A outer s H vs Q E hr h=>?_)
 ·obtain⟨p,q,s,t,rfl,_⟩:=h
  rfl
 ·obtain⟨p,q,s,t,rfl,hp,hq,k⟩:=h
  refine⟨_,(ah (cg (pv 1) (cf rfl (aG (aB (i:=2) fB.nd rfl (Or.inl rfl)) (aG (aB (i:=3) fB.nd rfl (Or.inl rfl)) bU))))
   (ah (aH (i:=4) fB.nd rfl (Or.inl rfl) (mr (h9 (dQ (pv 2))) (fY (j7 (h9 (eW (aF aO (pv 0) ai (fun _ _=>rfl)))) (fY (fF oQ (pv 2) (aF aO (pv 0) ai (fun _ _=>rfl)) (aK _)))))))
   (ah (aH (i:=5) fB.nd rfl (Or.inl rfl) (mr (h9 (dQ (pv 3))) (fY (j7 (h9 (eW (aF aO (pv 0) ai (fun _ _=>rfl)))) (fY (fF oQ (aF aO (pv 0) ai (fun _ _=>rfl)) (pv 3) (aK _)))))))
   (ar (aC (j7 (pv 4) (fY (pv 5)))))))),?_⟩
  obtain⟨lo,hi⟩:=s
  obtain⟨lo2,hi2⟩:=t
  have k:Q (.bl (eO lo lo2 && dG hi hi2)) H:=k
  refine⟨_,rfl,q,_,rfl,hq,rfl,_,_,rfl,_,_,rfl,rfl,?_⟩
  cases lo2 with
  | none =>
   refine⟨_,rfl,_,rfl,bA ?_⟩
   cases hi2 with
   | none =>
    refine⟨_,rfl,_,rfl,bA ?_⟩
    exact⟨_,rfl,_,rfl,bA ⟨_,rfl,k⟩⟩
   | some b =>
    refine⟨_,rfl,_,rfl,bw ?_⟩
    refine⟨_,rfl,p,_,1,_,rfl,rfl,hp,cv,_,rfl,?_⟩
    cases hi with
    | none=>exact bw ⟨_,rfl,_,rfl,bA ⟨_,rfl,k⟩⟩
    | some c =>
     refine bA ⟨_,rfl,p,_,1,_,rfl,rfl,hp,cv,_,rfl,_,_,rfl,rfl,?_⟩
     exact⟨_,rfl,_,rfl,bA ⟨_,rfl,k⟩⟩
  | some a =>
   refine⟨_,rfl,_,rfl,bw ?_⟩
   refine⟨_,rfl,p,_,0,_,rfl,rfl,hp,bP,_,rfl,?_⟩
   cases lo with
   | none =>
    refine bw ?_
    cases hi2 with
    | none =>
     refine⟨_,rfl,_,rfl,bA ?_⟩
     exact⟨_,rfl,_,rfl,bw k⟩
    | some b =>
     refine⟨_,rfl,_,rfl,bw ?_⟩
     refine⟨_,rfl,p,_,1,_,rfl,rfl,hp,cv,_,rfl,?_⟩
     cases hi with
     | none=>exact bw ⟨_,rfl,_,rfl,bw k⟩
     | some c =>
      refine bA ⟨_,rfl,p,_,1,_,rfl,rfl,hp,cv,_,rfl,_,_,rfl,rfl,?_⟩
      exact⟨_,rfl,_,rfl,bw k⟩
   | some a' =>
    refine bA ⟨_,rfl,_,rfl,p,_,0,_,rfl,rfl,hp,bP,_,_,rfl,rfl,?_⟩
    cases hi2 with
    | none =>
     refine⟨_,rfl,_,rfl,bA ?_⟩
     refine⟨_,rfl,_,rfl,?_⟩
     cases hx:decide (a<=a') with
     | true=>exact bA ⟨_,rfl,by have k':=k;simp only [eO,dG,hx] at k';exact k'⟩
     | false=>exact bw (by have k':=k;simp only [eO,dG,hx] at k';exact k')
    | some b =>
     refine⟨_,rfl,_,rfl,bw ?_⟩
     refine⟨_,rfl,p,_,1,_,rfl,rfl,hp,cv,_,rfl,?_⟩
     cases hi with
     | none =>
      refine bw ⟨_,rfl,_,rfl,?_⟩
      cases hx:decide (a<=a') with
      | true=>exact bA ⟨_,rfl,by have k':=k;simp only [eO,dG,hx] at k';exact k'⟩
      | false=>exact bw (by have k':=k;simp only [eO,dG,hx] at k';exact k')
     | some c =>
      refine bA ⟨_,rfl,p,_,1,_,rfl,rfl,hp,cv,_,rfl,_,_,rfl,rfl,?_⟩
      refine⟨_,rfl,_,rfl,?_⟩
      cases hx:decide (a<=a') with
      | true=>exact bA ⟨_,rfl,by have k':=k;simp only [eO,dG,hx,Bool.true_and] at k';exact k'⟩
      | false=>exact bw (by have k':=k;simp only [eO,dG,hx,Bool.false_and] at k';exact k')
theorem qW {f:Addr} {fd:FuncData} (F:bX K "facts_of" "facts_of" fM f fd) (Z:Bl mg) {aA:Addr} (GA:gI K mg aA)  : bB P w K mg base bT 1 f fd ["stretches"] (ik aA):=by
 refine F.ok (k:=0) qT (fun vs H Q E h=>?_) (fun cdv A outer s H vs Q E hr h=>?_)
 ·obtain⟨d,kvs,ks,T,rfl,_⟩:=h
  rfl
 ·obtain⟨d,kvs,ks,T,rfl,hd,tb,hl,q⟩:=h
  refine⟨_,(ar (aC (bh bL rfl Z.tuple cJ (aa (cS ["name"] ["stretches"] [0] rfl (mZ (ba (i1 rfl) rfl Z.sorted i9 (aa (pv 0) af))) rfl (by decide +kernel) (by decide +kernel) (by decide +kernel) ⟨⟨rfl,.inl rfl,rfl⟩,True.intro⟩ (fun _ _ _ _=>(aB (i:=0) (show ((["name"]:List Str)++(["stretches"]:List Str)).Nodup by decide +kernel) rfl (Or.inl rfl) (hf:=Or.inr rfl))) (fun _ _ _ _=>(m7 (aJ (yQ (aA:=aA) hr.units GA) (kN (cz hr) (pv 1) (pv 0) (fun _ _=>rfl)) (fC (v:=.ref aA) rfl GA.lC rfl) (aK _)))) (fun _ _ _ _=>(bg (aa (pv 0) (aa (kN (cz hr) (pv 1) (pv 0) (fun _ _=>rfl)) af))))) af)))),?_⟩
  refine⟨_,rfl,d,kvs,ks,rfl,hd,tb.keys,hl,fun l ss hp hs hn=>?_⟩
  have srt:om ss:=⟨ko hs,hp.nodup_iff.mpr tb.nd⟩
  have hl1:(upd H l (.lst (ss.map V.str))) l=some (.lst (ss.map V.str)):=ae
  have s1:ao H (upd H l (.lst (ss.map V.str))):=ao.new hn
  have hssl:ss.length < 64:=by rw [hp.length_eq];exact hl
  generalize (upd H l (.lst (ss.map V.str)))=H1 at hl1 s1
  refine⟨l,rfl,⟨_,aU.of hl1⟩,fun acc na=>?_⟩
  refine m8 (K:=K) (a:=l) (xs:=ss.map V.str) (fun i ys τ H'=>∃ c:Option V,τ = [c,some (.ref d)]/\bu H' ys (((ss.take i).filter fun x=>!decide (T x=bN)).map (dF T))/\H' acc=some (.lst ys)/\ao H1 H') ?_ ?_ ?_ ?_
  ·exact⟨none,rfl,.nil,ae,ao.new na⟩
  ·rintro i ys τ H2 hi ⟨c,rfl,r,ha,s2⟩
   refine⟨aU.of (s2 _ _ hl1),ha,?_⟩
   have h1:=r.len
   rw [List.length_map] at h1
   have h2:=List.length_filter_le (fun x=>!decide (T x=bN)) (ss.take i)
   have h3:=List.length_take_le i ss
   have h4:(ss.take i).length<=ss.length:=by rw [List.length_take];omega
   exact bD (by omega)
  ·rintro i x ys τ H2 hi ⟨c,rfl,r,ha,s2⟩
   obtain⟨y,hy,rfl⟩:∃ y,ss[i]? = some y/\x=V.str y:=by
    rw [List.getElem?_map] at hi
    cases e:ss[i]? with
    | none=>rw [e] at hi;cases hi
    | some k=>rw [e] at hi;exact⟨k,rfl,(Option.some.inj hi).symm⟩
   have hym:y ∈ ks:=hp.mem_iff.mp (List.mem_of_getElem? hy)
   have tk:ss.take (i+1)=ss.take i ++ [y]:=by rw [List.take_add_one,hy];rfl
   obtain⟨v,ev,sv,_⟩:∃ v,bM kvs (Sum.inr y)=some v/\SV aA H v (T y)/\y ∈ ks:=by
    rcases tb.val y with ⟨_,_,c⟩ | h
    ·exact absurd hym c
    ·exact h
   have sv2:SV aA H2 v (T y):=sv.aI fun p xs e=>s2 _ _ (s1 _ _ e)
   have hd2:H2 d=some (.dK kvs):=s2 _ _ (s1 _ _ hd)
   have dg:cP H2 d (.str y) (some v):=by
    have:=cP.k (k:=Sum.inr y) hd2
    rw [ev] at this
    exact this
   refine dm ?_
   refine⟨_,rfl,_,rfl,d,v,rfl,dg,T y,sv2,rfl,_,rfl,?_⟩
   by_cases hT:T y=bN
   ·refine aV (by rw [decide_eq_true hT];rfl) ?_
    refine⟨_,rfl,?_,ha,s2⟩
    rw [tk,List.filter_append,List.filter_cons_of_neg (by rw [decide_eq_true hT];decide),List.filter_nil,List.append_nil]
    exact r
   ·refine cb (by rw [decide_eq_false hT];rfl) ?_
    refine⟨_,rfl,_,rfl,_,rfl,d,v,rfl,dg,ln2,fun t nt=>?_⟩
    have s3:=ao.new (o:=.tup [.str y,v]) nt
    have ht:(upd H2 t (.tup [.str y,v])) t=some (.tup [.str y,v]):=ae
    generalize (upd H2 t (.tup [.str y,v]))=H3 at s3 ht
    have sh:SH H3 v (T y):=by
     rcases sv2 with h | ⟨_,h⟩
     ·exact h.aI fun p xs e=>s3 _ _ e
     ·exact absurd h hT
    have ha3:=s3 _ _ ha
    refine⟨ha3,_,rfl,?_,ae,(s2.trans s3).put na⟩
    rw [tk,List.filter_append,List.filter_cons_of_pos (by rw [decide_eq_false hT];rfl),List.filter_nil,List.map_append]
    refine bu.app ((r.same s3 (gJ T _)).put ha3 (gJ T _)) ?_
    refine bC.aI (H:=H3) (fun p zs e=>by rw [av (bQ e ha3 (by intro z;cases z))];exact e) (.tup ht (.cons (.str y) (.cons sh.rd .nil))) ?_
    have:=gJ T [y]
    simpa [cm] using this
  ·rintro ys τ H2 ⟨c,rfl,r,ha,s2⟩
   rw [List.length_map,List.take_length] at r
   refine⟨acc,ys,rfl,.inl ⟨aU.of ha,fun t nt=>?_⟩⟩
   refine q _ _ ⟨t,ys,_,rfl,ae,srt.filter _,fun x=>?_,r.same (ao.new nt) (gJ T _)⟩ ((s1.trans s2).trans (ao.new nt))
   rw [List.mem_filter]
   constructor
   ·rintro⟨_,h⟩ e
    rw [decide_eq_true e] at h
    cases h
   ·intro h
    refine⟨?_,by rw [decide_eq_false h];rfl⟩
    rcases tb.val x with ⟨_,a,_⟩ | ⟨_,_,_,a⟩
    ·exact absurd a h
    ·exact hp.mem_iff.mpr a
theorem wI {f:Addr} {fd:FuncData} (F:bX K "known" "known" iI f fd) (Z:Bl mg) {aA:Addr} (GA:gI K mg aA)  : bB P w K mg base bT 1 f fd ["facts", "name"] (nv aA):=by
 refine F.ok (k:=0) wF (fun vs H Q E h=>?_) (fun cdv A outer s H vs Q E hr h=>?_)
 ·obtain⟨fv,x,T,rfl,_⟩:=h
  rfl
 ·obtain⟨fv,x,T,rfl,hf,q⟩:=h
  refine⟨_,(ar (aC (cO (cz hr) (bh (dX rfl) rfl Z.dict jw (aa (pv 0) af)) (pv 1) (fC (v:=.ref aA) rfl GA.lC rfl) ⟨rfl,rfl,rfl,rfl⟩))),?_⟩
  obtain⟨fp,xs,ss,rfl,hfp,srt,hmem,rf⟩:=hf
  obtain⟨kvs,l1,l2,l3,tb⟩:=FV.tb aA srt hmem rf
  refine⟨_,rfl,fp,xs,kvs,rfl,hfp,l1,l2,l3,fun d nd=>?_⟩
  obtain⟨v,ev,sv⟩:=tb.getD x
  exact⟨d,rfl,.inl ⟨kvs,.inl ae⟩,_,rfl,_,v,cP.k (k:=Sum.inr x) ae,ev,q v _ (sv.aI fun p zs e=>ao.new nd _ _ e) (ao.new nd)⟩
theorem oJ {f:Addr} {fd:FuncData} (F:bX K "with_known" "with_known" eD f fd) (Z:Bl mg) {aA:Addr} (GA:gI K mg aA) (O_facts_of:Own P w K mg base "facts_of" 1 ["stretches"] (ik aA)):bB P w K mg base bT 2 f fd ["facts", "name", "stretch"] (jj aA):=by
 refine F.ok (k:=1) jY (fun vs H Q E h=>?_) (fun cdv A outer s H vs Q E hr h=>?_)
 ·obtain⟨fv,sv,x,T,s,rfl,_⟩:=h
  rfl
 ·obtain⟨fv,sv,x,T,s,rfl,hf,hs,bc,q⟩:=h
  refine⟨_,(ah (aH (i:=3) jY.nd rfl (Or.inl rfl) (bh (dX rfl) rfl Z.dict jw (aa (pv 0) af)))
   (ah (fH (cz hr) (pv 3) (pv 1) (pv 2) rfl)
   (ar (aC (ay O_facts_of (hr.mono (by decide)) rfl (aa (pv 3) af)))))),?_⟩
  obtain⟨fp,xs,ss,rfl,hfp,srt,hmem,rf⟩:=hf
  obtain⟨kvs,l1,l2,l3,tb⟩:=FV.tb aA srt hmem rf
  have hssl:ss.length<=62:=bc ss (fun x hx=>(hmem x).mp hx) srt.nd
  have kl:kvs.length=ss.length:=by have:=congrArg List.length tb.keys;simpa using this
  refine⟨_,rfl,fp,xs,kvs,rfl,hfp,l1,l2,l3,fun d nd=>?_⟩
  have k1:∀ p zs,H p=some (.tup zs)->(upd H d (.dK kvs)) p=some (.tup zs):=fun p zs e=>ao.new nd _ _ e
  refine⟨_,rfl,_,rfl,_,rfl,d,_,rfl,gR.k (k:=Sum.inr x) ae (bD (by omega)),?_⟩
  obtain⟨ks2,t2,k2,m2⟩:=(tb.aI k1).put x (hs.aI k1)
  have hd1:(upd H d (.dK kvs)) d=some (.dK kvs):=ae
  refine⟨_,rfl,d,_,ks2,_,rfl,ae,t2.aI (fun p zs e=>by rw [av (bQ e hd1 (by intro z;cases z))];exact e),(by omega),fun v H2 f2 s2=>q v H2 f2 (((ao.new nd).put nd).trans s2)⟩
theorem wJ {f:Addr} {fd:FuncData} (F:bX K "holds" "holds" iJ f fd) (Z:Bl mg) (O_lies_in:Own P w K mg base "lies_in" 1 ["number", "stretch"] (kW K)):bB P w K mg base bT 2 f fd ["facts", "worths"] lU:=by
 refine F.ok (k:=1) wG (fun vs H Q E h=>?_) (fun cdv A outer s H vs Q E hr h=>?_)
 ·obtain⟨fv,d,kvs,w,T,rfl,_⟩:=h
  rfl
 ·obtain⟨fv,d,kvs,w,T,rfl,hf,hd,dw,bc,q⟩:=h
  refine⟨_,(ar (aC (ba (jb rfl) rfl Z.all mQ (aa (cS ["name", "stretch"] ["worths"] [1] rfl (eh (pv 0)) rfl (by decide +kernel) (by decide +kernel) (by decide +kernel) ⟨⟨rfl,.inl rfl,rfl⟩,True.intro⟩ (fun _ _ _ _=>(iG (K:=K) (n:=2) rfl (cf (n:=2) rfl (aG (aB (i:=0) (show ((["name", "stretch"]:List Str)++(["worths"]:List Str)).Nodup by decide +kernel) rfl (Or.inl rfl) (hf:=Or.inr rfl)) (aG (aB (i:=1) (show ((["name", "stretch"]:List Str)++(["worths"]:List Str)).Nodup by decide +kernel) rfl (Or.inl rfl) (hf:=Or.inr rfl)) bU))))) (fun _ _ _ _=>du) (fun _ _ _ _=>(ay O_lies_in (hr.mono (by decide)) rfl (aa (cO (cz hr) (pv 2) (pv 0) ai ⟨rfl,rfl,rfl,rfl⟩) (aa (pv 1) af))))) af)))),?_⟩
  obtain⟨fp,xs,ss,rfl,hfp,srt,hmem,rf⟩:=hf
  refine⟨_,rfl,fp,rfl,⟨_,aw.of hfp⟩,fun acc na=>?_⟩
  refine ju (K:=K) (a:=fp) (xs:=xs) (fun i ys τ H'=>∃ c1 c2:Option V,τ = [c1,c2,some (.ref d)]/\ys=((ss.take i).map fun y=>bY (w y) (T y).1 (T y).2).map V.bl/\H' acc=some (.lst ys)/\ao H H') ?_ ?_ ?_ ?_
  ·exact⟨none,none,rfl,rfl,ae,ao.new na⟩
  ·rintro i ys τ H1 hi ⟨c1,c2,rfl,rfl,ha,s1⟩
   refine⟨aw.of (s1 _ _ hfp),ha,?_⟩
   rw [List.length_map,List.length_map,List.length_take]
   have h1:=bc ss (fun x hx=>(hmem x).mp hx) srt.nd
   exact bD (by omega)
  ·rintro i x ys τ H1 hi ⟨c1,c2,rfl,rfl,ha,s1⟩
   have hil:i < ss.length:=by
    have:=(List.getElem?_eq_some_iff.mp hi).1
    rw [rf.len,List.length_map] at this
    exact this
   have hyi:ss[i]? = some ss[i]:=by simp [hil]
   generalize ss[i] = y at hyi
   obtain⟨v,hv,rd⟩:=rf.get (i:=i) (d:=dF T y) (by rw [List.getElem?_map,hyi];rfl)
   rw [hi] at hv
   cases hv
   obtain⟨t,q2,rfl,ht,hq2⟩:=mR rd
   refine⟨t,_,rfl,aw.of (s1 _ _ ht),rfl,_,_,rfl,_,_,rfl,rfl,?_⟩
   refine iX ?_
   refine bA ?_
   refine⟨_,rfl,d,rfl,.inl ⟨kvs,.inl (s1 _ _ hd)⟩,_,rfl,_,_,cP.k (k:=Sum.inr y) (s1 _ _ hd),dw y,_,rfl,w y,q2,(T y).1,(T y).2,rfl,aw.of (s1 _ _ hq2),?_⟩
   refine⟨ha,_,_,rfl,?_,ae,s1.put na⟩
   rw [List.take_add_one,hyi,Option.toList_some,List.map_append,List.map_append]
   rfl
  ·rintro ys τ H1 ⟨c1,c2,rfl,rfl,ha,s1⟩
   have hxl:xs.length=ss.length:=by rw [rf.len,List.length_map]
   rw [hxl,List.take_length] at ha
   refine⟨acc,_,rfl,aU.of ha,?_⟩
   exact q _ H1 (uO hmem) s1
theorem u0 {f:Addr} {fd:FuncData} (F:bX K "covers" "covers" gY f fd) (Z:Bl mg) {aA:Addr} (GA:gI K mg aA) (O_is_within:Own P w K mg base "is_within" 1 ["one", "other"] (jc K)):bB P w K mg base bT 2 f fd ["facts", "others"] lV:=by
 refine F.ok (k:=1) oz (fun vs H Q E h=>?_) (fun cdv A outer s H vs Q E hr h=>?_)
 ·obtain⟨fv,gv,T,U,rfl,_⟩:=h
  rfl
 ·obtain⟨fv,gv,T,U,rfl,hf,hg,bc,q⟩:=h
  refine⟨_,(ah (aH (i:=2) oz.nd rfl (Or.inr rfl) (bh (dX rfl) rfl Z.dict jw (aa (pv 1) af)))
   (ar (aC (ba (jb rfl) rfl Z.all mQ (aa (cS ["name", "stretch"] ["stretches"] [2] rfl (eh (pv 0)) rfl (by decide +kernel) (by decide +kernel) (by decide +kernel) ⟨⟨rfl,.inl rfl,rfl⟩,True.intro⟩ (fun _ _ _ _=>(iG (K:=K) (n:=2) rfl (cf (n:=2) rfl (aG (aB (i:=0) (show ((["name", "stretch"]:List Str)++(["stretches"]:List Str)).Nodup by decide +kernel) rfl (Or.inl rfl) (hf:=Or.inr rfl)) (aG (aB (i:=1) (show ((["name", "stretch"]:List Str)++(["stretches"]:List Str)).Nodup by decide +kernel) rfl (Or.inl rfl) (hf:=Or.inr rfl)) bU))))) (fun _ _ _ _=>du) (fun _ _ _ _=>(ay O_is_within (hr.mono (by decide)) rfl (aa (cO (cz hr) (pv 2) (pv 0) (fC (v:=.ref aA) rfl GA.lC rfl) ⟨rfl,rfl,rfl,rfl⟩) (aa (pv 1) af))))) af))))),?_⟩
  obtain⟨fp,xs,ss,rfl,hfp,srt,hmem,rf⟩:=hf
  obtain⟨gp,ys0,ss0,rfl,hgp,srt0,hmem0,rg⟩:=hg
  obtain⟨kvs,l1,l2,l3,tb⟩:=FV.tb aA srt0 hmem0 rg
  refine⟨_,rfl,gp,ys0,kvs,rfl,hgp,l1,l2,l3,fun d nd=>?_⟩
  have s0:=ao.new (o:=.dK kvs) nd
  have hd0:(upd H d (.dK kvs)) d=some (.dK kvs):=ae
  have rf2:=rf.same s0 (gJ T ss)
  have hfp2:=s0 _ _ hfp
  have tb2:=tb.aI fun p zs e=>s0 _ _ e
  generalize (upd H d (.dK kvs))=HH at s0 hd0 rf2 hfp2 tb2
  refine⟨_,rfl,fp,rfl,⟨_,aw.of hfp2⟩,fun acc na=>?_⟩
  refine ju (K:=K) (a:=fp) (xs:=xs) (fun i ys τ H'=>∃ c1 c2:Option V,τ = [c1,c2,some (.ref d)]/\ys=((ss.take i).map fun y=>cR (U y) (T y)).map V.bl/\H' acc=some (.lst ys)/\ao HH H') ?_ ?_ ?_ ?_
  ·exact⟨none,none,rfl,rfl,ae,ao.new na⟩
  ·rintro i ys τ H1 hi ⟨c1,c2,rfl,rfl,ha,s1⟩
   refine⟨aw.of (s1 _ _ hfp2),ha,?_⟩
   rw [List.length_map,List.length_map,List.length_take]
   have h1:=bc ss (fun x hx=>(hmem x).mp hx) srt.nd
   exact bD (by omega)
  ·rintro i x ys τ H1 hi ⟨c1,c2,rfl,rfl,ha,s1⟩
   have hil:i < ss.length:=by
    have:=(List.getElem?_eq_some_iff.mp hi).1
    rw [rf2.len,List.length_map] at this
    exact this
   have hyi:ss[i]? = some ss[i]:=by simp [hil]
   generalize ss[i] = y at hyi
   obtain⟨v,hv,rd⟩:=rf2.get (i:=i) (d:=dF T y) (by rw [List.getElem?_map,hyi];rfl)
   rw [hi] at hv
   cases hv
   obtain⟨t,q2,rfl,ht,hq2⟩:=mR rd
   refine⟨t,_,rfl,aw.of (s1 _ _ ht),rfl,_,_,rfl,_,_,rfl,rfl,?_⟩
   refine iX ?_
   refine bA ?_
   obtain⟨u,eu,su⟩:=(tb2.aI fun p zs e=>s1 _ _ e).getD y
   obtain⟨qa,rfl,hqa⟩:=su.sq GA
   refine⟨_,rfl,d,rfl,.inl ⟨kvs,.inl (s1 _ _ hd0)⟩,_,rfl,_,_,cP.k (k:=Sum.inr y) (s1 _ _ hd0),eu,_,rfl,qa,q2,U y,T y,rfl,hqa,aw.of (s1 _ _ hq2),?_⟩
   refine⟨ha,_,_,rfl,?_,ae,s1.put na⟩
   rw [List.take_add_one,hyi,Option.toList_some,List.map_append,List.map_append]
   rfl
  ·rintro ys τ H1 ⟨c1,c2,rfl,rfl,ha,s1⟩
   have hxl:xs.length=ss.length:=by rw [rf2.len,List.length_map]
   rw [hxl,List.take_length] at ha
   refine⟨acc,_,rfl,aU.of ha,?_⟩
   exact q _ H1 (uP hmem) (s0.trans s1)
theorem wK {f:Addr} {fd:FuncData} (F:bX K "moved" "moved" iK f fd) (Z:Bl mg)  : bB P w K mg base bT 1 f fd ["stretch", "number"] (nr K):=by
 refine F.ok (k:=0) mj (fun vs H Q E h=>?_) (fun cdv A outer s H vs Q E hr h=>?_)
 ·obtain⟨p,s,n,rfl,_⟩:=h
  rfl
 ·obtain⟨p,s,n,rfl,hp,q⟩:=h
  refine⟨_,(ah (cg (pv 0) (cf rfl (aG (aB (i:=2) mj.nd rfl (Or.inl rfl)) (aG (aB (i:=3) mj.nd rfl (Or.inl rfl)) bU))))
   (ar (aC (bg (aa (eJ (di (dQ (pv 2))) cq (aZ cH (pv 2) (pv 1))) (aa (eJ (di (dQ (pv 3))) cq (aZ cH (pv 3) (pv 1))) af)))))),?_⟩
  obtain⟨lo,hi⟩:=s
  refine⟨_,rfl,p,_,rfl,hp,rfl,_,_,rfl,_,_,rfl,rfl,?_⟩
  cases lo with
  | none =>
   refine⟨_,rfl,_,rfl,bA ?_⟩
   cases hi with
   | none=>exact⟨_,rfl,_,rfl,bA ⟨ln2,fun t nt=>q _ _ ⟨t,rfl,ae⟩ (ao.new nt)⟩⟩
   | some b=>exact⟨_,rfl,_,rfl,bw ⟨_,rfl,_,rfl,_,_,rfl,rfl,ln2,fun t nt=>q _ _ ⟨t,rfl,ae⟩ (ao.new nt)⟩⟩
  | some a =>
   refine⟨_,rfl,_,rfl,bw ⟨_,rfl,_,rfl,_,_,rfl,rfl,?_⟩⟩
   cases hi with
   | none=>exact⟨_,rfl,_,rfl,bA ⟨ln2,fun t nt=>q _ _ ⟨t,rfl,ae⟩ (ao.new nt)⟩⟩
   | some b=>exact⟨_,rfl,_,rfl,bw ⟨_,rfl,_,rfl,_,_,rfl,rfl,ln2,fun t nt=>q _ _ ⟨t,rfl,ae⟩ (ao.new nt)⟩⟩
theorem lh {f:Addr} {fd:FuncData} (F:bX K "stretch_behind" "stretch_behind" cU f fd) (Z:Bl mg) {aA:Addr} (GA:gI K mg aA) (O_moved:Own P w K mg base "moved" 1 ["stretch", "number"] (nr K)):bB P w K mg base bT 2 f fd ["stretches", "deed"] (jO aA):=by
  refine F.ok (k:=1) iz (fun vs H Q E h=>?_) (fun cdv A outer s H vs Q E hr h=>?_)
  · obtain⟨d,w,kvs,ks,T,dd,rfl,_⟩:=h
    rfl
  · obtain⟨d,w,kvs,ks,T,dd,rfl,hd,tb,hw,q⟩:=h
    refine⟨_,(ah (cQ (tQ (i:=2) (j:=3) rfl iz.nd rfl rfl (by decide) rfl rfl (aa (aF aO (pv 1) ai (fun _ _=>rfl)) (aa (aF aO (pv 1) ai (fun _ _=>rfl)) af)) rfl))
      (ah (aY (aJ bG (pv 2) bp (aK _))
      (ar (aC (bg (aa (aF aO (pv 1) ai (fun _ _=>rfl)) (aa (aF aO (pv 1) ai (fun _ _=>rfl)) af)))))
      aR)
      (ah (aY (aJ bG (pv 2) bp (aK _))
      (ar (aC (cO (cz hr) (pv 0) (aF aO (pv 1) ai (fun _ _=>rfl)) (fC (v:=.ref aA) rfl GA.lC rfl) ⟨rfl,rfl,rfl,rfl⟩)))
      aR)
      (ah (aY (aJ bG (pv 2) bp (aK _))
      (ar (aC (ay O_moved (hr.mono (by decide)) rfl (aa (cO (cz hr) (pv 0) (pv 3) (fC (v:=.ref aA) rfl GA.lC rfl) ⟨rfl,rfl,rfl,rfl⟩) (aa (aF aO (pv 1) ai (fun _ _=>rfl)) af)))))
      aR)
      (ah (aY (aJ bG (pv 2) bp (aK _))
      (ar (aC (fC (v:=.ref aA) rfl GA.lC rfl)))
      aR)
      (ar (aC (cO (cz hr) (pv 0) (pv 3) (fC (v:=.ref aA) rfl GA.lC rfl) ⟨rfl,rfl,rfl,rfl⟩)))))))),?_⟩
    cases dd
    case put x n =>
      refine⟨fun σ' H'=>σ' = [some (.ref d),some (.ref w),some (.str "put"),some (.str x)]/\H=H',⟨_,rfl,w,_,0,_,rfl,rfl,aw.of hw,bP,_,rfl,w,_,1,_,rfl,rfl,aw.of hw,cv,_,_,rfl,rfl,rfl⟩,?_⟩
      rintro σ' H' ⟨rfl,rfl⟩
      refine⟨_,rfl,rfl,_,rfl,?_⟩
      refine cb (show decide (V.str "put" = V.str "put")=true by decide +kernel) ?_
      exact⟨_,rfl,w,_,2,_,rfl,rfl,aw.of hw,at2,_,rfl,w,_,2,_,rfl,rfl,aw.of hw,at2,ln2,fun t nt=>q _ _ (.inl ⟨t,rfl,ae⟩) (ao.new nt)⟩
    case copy x y =>
      refine⟨fun σ' H'=>σ' = [some (.ref d),some (.ref w),some (.str "copy"),some (.str x)]/\H=H',⟨_,rfl,w,_,0,_,rfl,rfl,aw.of hw,bP,_,rfl,w,_,1,_,rfl,rfl,aw.of hw,cv,_,_,rfl,rfl,rfl⟩,?_⟩
      rintro σ' H' ⟨rfl,rfl⟩
      refine⟨_,rfl,rfl,_,rfl,?_⟩
      refine aV (show decide (V.str "copy" = V.str "put")=false by decide +kernel) ?_
      refine⟨_,rfl,rfl,_,rfl,?_⟩
      refine cb (show decide (V.str "copy" = V.str "copy")=true by decide +kernel) ?_
      obtain⟨v,ev,sv⟩:=tb.getD y
      exact⟨_,rfl,d,rfl,.inl ⟨kvs,.inl hd⟩,_,rfl,w,_,2,_,rfl,rfl,aw.of hw,at2,_,v,cP.k (k:=Sum.inr y) hd,ev,q _ _ sv (ao.refl H)⟩
    case add x n =>
      refine⟨fun σ' H'=>σ' = [some (.ref d),some (.ref w),some (.str "add"),some (.str x)]/\H=H',⟨_,rfl,w,_,0,_,rfl,rfl,aw.of hw,bP,_,rfl,w,_,1,_,rfl,rfl,aw.of hw,cv,_,_,rfl,rfl,rfl⟩,?_⟩
      rintro σ' H' ⟨rfl,rfl⟩
      refine⟨_,rfl,rfl,_,rfl,?_⟩
      refine aV (show decide (V.str "add" = V.str "put")=false by decide +kernel) ?_
      refine⟨_,rfl,rfl,_,rfl,?_⟩
      refine aV (show decide (V.str "add" = V.str "copy")=false by decide +kernel) ?_
      refine⟨_,rfl,rfl,_,rfl,?_⟩
      refine cb (show decide (V.str "add" = V.str "add")=true by decide +kernel) ?_
      obtain⟨v,ev,sv⟩:=tb.getD x
      obtain⟨qa,rfl,hqa⟩:=sv.sq GA
      exact⟨_,rfl,d,rfl,.inl ⟨kvs,.inl hd⟩,_,rfl,_,_,cP.k (k:=Sum.inr x) hd,ev,_,rfl,w,_,2,_,rfl,rfl,aw.of hw,at2,qa,T x,n,rfl,hqa,fun v H' sh s1=>q _ _ (.inl sh) s1⟩
    case read x =>
      refine⟨fun σ' H'=>σ' = [some (.ref d),some (.ref w),some (.str "read"),some (.str x)]/\H=H',⟨_,rfl,w,_,0,_,rfl,rfl,aw.of hw,bP,_,rfl,w,_,1,_,rfl,rfl,aw.of hw,cv,_,_,rfl,rfl,rfl⟩,?_⟩
      rintro σ' H' ⟨rfl,rfl⟩
      refine⟨_,rfl,rfl,_,rfl,?_⟩
      refine aV (show decide (V.str "read" = V.str "put")=false by decide +kernel) ?_
      refine⟨_,rfl,rfl,_,rfl,?_⟩
      refine aV (show decide (V.str "read" = V.str "copy")=false by decide +kernel) ?_
      refine⟨_,rfl,rfl,_,rfl,?_⟩
      refine aV (show decide (V.str "read" = V.str "add")=false by decide +kernel) ?_
      refine⟨_,rfl,rfl,_,rfl,?_⟩
      refine cb (show decide (V.str "read" = V.str "read")=true by decide +kernel) ?_
      exact q _ _ (.inr ⟨rfl,rfl⟩) (ao.refl H)
    case tell x =>
      refine⟨fun σ' H'=>σ' = [some (.ref d),some (.ref w),some (.str "tell"),some (.str x)]/\H=H',⟨_,rfl,w,_,0,_,rfl,rfl,aw.of hw,bP,_,rfl,w,_,1,_,rfl,rfl,aw.of hw,cv,_,_,rfl,rfl,rfl⟩,?_⟩
      rintro σ' H' ⟨rfl,rfl⟩
      refine⟨_,rfl,rfl,_,rfl,?_⟩
      refine aV (show decide (V.str "tell" = V.str "put")=false by decide +kernel) ?_
      refine⟨_,rfl,rfl,_,rfl,?_⟩
      refine aV (show decide (V.str "tell" = V.str "copy")=false by decide +kernel) ?_
      refine⟨_,rfl,rfl,_,rfl,?_⟩
      refine aV (show decide (V.str "tell" = V.str "add")=false by decide +kernel) ?_
      refine⟨_,rfl,rfl,_,rfl,?_⟩
      refine aV (show decide (V.str "tell" = V.str "read")=false by decide +kernel) ?_
      obtain⟨v,ev,sv⟩:=tb.getD x
      exact⟨_,rfl,d,rfl,.inl ⟨kvs,.inl hd⟩,_,rfl,_,v,cP.k (k:=Sum.inr x) hd,ev,q _ _ sv (ao.refl H)⟩
theorem u7 {f:Addr} {fd:FuncData} (F:bX K "behind" "behind" gZ f fd) (Z:Bl mg) {aA:Addr} (GA:gI K mg aA) (O_stretch_behind:Own P w K mg base "stretch_behind" 2 ["stretches", "deed"] (jO aA)) (O_facts_of:Own P w K mg base "facts_of" 1 ["stretches"] (ik aA)):bB P w K mg base bT 3 f fd ["facts", "deeds"] ku:=by
 refine F.ok (k:=2) kC (fun vs H Q E h=>?_) (fun cdv A outer s H vs Q E hr h=>?_)
 ·obtain⟨fv,p,ws,ds,T,pool,rfl,_⟩:=h
  rfl
 ·obtain⟨fv,p,ws,ds,T,pool,rfl,hf,hp,r,tok,dok,h64,q⟩:=h
  refine⟨_,(ah (aH (i:=2) kC.nd rfl (Or.inl rfl) (bh (dX rfl) rfl Z.dict jw (aa (pv 0) af)))
   (ah (eR PassesOwn.never rfl (eh (pv 1)) (aB (i:=3) kC.nd rfl (Or.inl rfl))
   (ar (fH (cz hr) (pv 2) (aF aO (pv 3) ai (fun _ _=>rfl)) (ay O_stretch_behind (hr.mono (by decide)) rfl (aa (pv 2) (aa (pv 3) af))) rfl)))
   (ar (aC (ay O_facts_of (hr.mono (by decide)) rfl (aa (pv 2) af)))))),?_⟩
  obtain⟨fp,xs,ss,rfl,hfp,srt,hmem,rf⟩:=hf
  obtain⟨kvs,l1,l2,l3,tb⟩:=FV.tb aA srt hmem rf
  have hssl:∀ x ∈ ss,x ∈ pool:=fun x hx=>tok.sup x ((hmem x).mp hx)
  refine⟨_,rfl,fp,xs,kvs,rfl,hfp,l1,l2,l3,fun d nd=>?_⟩
  have tb1:Tb aA (upd H d (.dK kvs)) kvs ss T:=tb.aI fun p xs e=>ao.new nd _ _ e
  refine⟨_,rfl,p,rfl,⟨_,aw.of (ao.new nd _ _ hp)⟩,iF (K:=K) (a:=p) (xs:=ws) (fun i σ H'=>∃ (c:Option V) (kvs':List (Key × V)) (ks':List Str),σ = [some (.ref fp),some (.ref p),some (.ref d),c]/\H' d=some (.dK kvs')/\Tb aA H' kvs' ks' (cE T (ds.take i))/\(∀ y ∈ ks',y ∈ pool)/\ao H H') ?_ ?_ ?_ ?_⟩
  ·exact⟨none,kvs,ss,rfl,ae,tb1,hssl,ao.new nd⟩
  ·rintro i σ H1 hi ⟨c,kvs1,ks1,rfl,h1,t1,k1,s1⟩
   exact aw.of (s1 _ _ hp)
  ·rintro i x σ H1 hi ⟨c,kvs1,ks1,rfl,h1,t1,k1,s1⟩
   have hil:i < ds.length:=by
    have:=(List.getElem?_eq_some_iff.mp hi).1
    rw [r.len,List.length_map] at this
    exact this
   have hdi:ds[i]? = some ds[i]:=by simp [hil]
   generalize ds[i] = dd at hdi
   obtain⟨v,hv,rd⟩:=r.get (i:=i) (d:=d8 dd) (by rw [List.getElem?_map,hdi];rfl)
   rw [hi] at hv
   cases hv
   obtain⟨dp,rfl,hdp⟩:=ng rd
   have tk:cE T (ds.take (i+1))=nq (cE T (ds.take i)) dd:=by
    unfold cE
    rw [List.take_add_one,hdi,Option.toList_some,List.foldl_append]
    rfl
   refine dm ?_
   refine⟨_,rfl,_,rfl,d,dp,kvs1,ks1,_,dd,rfl,h1,t1,s1 _ _ hdp,fun v H2 sv s2=>?_⟩
   have h2:=s2 _ _ h1
   have kl:kvs1.length=ks1.length:=by have:=congrArg List.length t1.keys;simpa using this
   have kl2:=sub_len t1.nd k1
   refine⟨_,rfl,_,rfl,dp,_,1,_,rfl,rfl,aw.of (s2 _ _ (s1 _ _ hdp)),vK dd,d,_,rfl,gR.k (k:=Sum.inr (kQ dd)) h2 (bD (by omega)),?_⟩
   obtain⟨ks2,t2,_,k2⟩:=(t1.aI fun p xs e=>s2 _ _ e).put (kQ dd) sv
   have hdn:kQ dd ∈ pool:=(dok dd (List.mem_of_getElem? hdi)).name
   refine⟨_,_,ks2,rfl,ae,?_,(fun y hy=>((k2 y).mp hy).elim (k1 y) fun e=>e ▸ hdn),(s1.trans s2).put nd⟩
   rw [tk]
   exact t2.aI fun p xs e=>by rw [av (bQ e h2 (by intro z;cases z))];exact e
  ·rintro σ H1 ⟨c,kvs1,ks1,rfl,h1,t1,k1,s1⟩
   have hwl:ws.length=ds.length:=by rw [r.len,List.length_map]
   rw [hwl,List.take_length] at t1
   refine⟨_,rfl,d,kvs1,ks1,_,rfl,h1,t1,(by have:=sub_len t1.nd k1;omega),fun v H2 f2 s2=>q v H2 f2 (s1.trans s2)⟩
theorem mW {f:Addr} {fd:FuncData} (F:bX K "known_beyond" "known_beyond" dz f fd) (Z:Bl mg) {aA:Addr} (GA:gI K mg aA) (O_ways_on:Own P w K mg base "ways_on" 3 ["end"] mK) (O_known:Own P w K mg base "known" 1 ["facts", "name"] (nv aA)) (O_part_of:Own P w K mg base "part_of" 3 ["stretch", "word", "number", "side"] (nz K)) (O_with_known:Own P w K mg base "with_known" 2 ["facts", "name", "stretch"] (jj aA)):bB P w K mg base bT 4 f fd ["facts", "end"] (lW aA):=by
  refine F.ok (k:=3) cN (fun vs H Q E h=>?_) (fun cdv A outer s H vs Q E hr h=>?_)
  · obtain⟨fv,ea,T,e,rfl,_⟩:=h
    rfl
  · obtain⟨fv,ea,T,e,rfl,hf,he,bc,q⟩:=h
    refine⟨_,(ah (aH (i:=2) cN.nd rfl (Or.inl rfl) (ay O_ways_on (hr.mono (by decide)) rfl (aa (pv 1) af)))
      (ah (aY (aJ i4 (ba br rfl Z.len cI (aa (pv 2) af)) ai (aK _))
      (ar (aC (bh bL rfl Z.tuple cJ (aa (cS ["way"] ["facts"] [0] rfl (eh (pv 2)) rfl (by decide +kernel) (by decide +kernel) (by decide +kernel) ⟨⟨rfl,.inl rfl,rfl⟩,True.intro⟩ (fun _ _ _ _=>(aB (i:=0) (show ((["way"]:List Str)++(["facts"]:List Str)).Nodup by decide +kernel) rfl (Or.inl rfl) (hf:=Or.inr rfl))) (fun _ _ _ _=>du) (fun _ _ _ _=>(pv 1))) af))))
      aR)
      (ah (cQ (cg (bg (aa (aF aO (pv 1) ai (fun _ _=>rfl)) (aa (aF aO (pv 1) ai (fun _ _=>rfl)) (aa (aF aO (pv 1) ai (fun _ _=>rfl)) af)))) (cf rfl (aG (aB (i:=3) cN.nd rfl (Or.inr rfl)) (aG (aB (i:=4) cN.nd rfl (Or.inr rfl)) (aG (aB (i:=5) cN.nd rfl (Or.inr rfl)) bU))))))
      (ah (aH (i:=6) cN.nd rfl (Or.inr rfl) (ay O_known (hr.mono (by decide)) rfl (aa (pv 0) (aa (pv 4) af))))
      (ah (pH (i:=7) ["side"] ["stretch", "word", "number"] [6,3,5] rfl cN.nd rfl rfl rfl (eh (bg (aa dE (aa dE af)))) rfl (by decide +kernel) (by decide +kernel) (by decide +kernel) ⟨⟨rfl,.inl rfl,rfl⟩,⟨⟨rfl,.inl rfl,rfl⟩,⟨⟨rfl,.inl rfl,rfl⟩,True.intro⟩⟩⟩ (fun _ _ _ _=>(aB (i:=0) (show ((["side"]:List Str)++(["stretch", "word", "number"]:List Str)).Nodup by decide +kernel) rfl (Or.inl rfl) (hf:=Or.inr rfl))) (fun _ _ _ _=>du) (fun _ _ _ _=>(ay O_part_of (hr.mono (by decide)) rfl (aa (pv 1) (aa (pv 2) (aa (pv 3) (aa (pv 0) af)))))))
      (ar (aC (bh bL rfl Z.tuple cJ (aa (cS ["part"] ["facts", "name"] [0,4] rfl (mZ (pv 7)) rfl (by decide +kernel) (by decide +kernel) (by decide +kernel) ⟨⟨rfl,.inl rfl,rfl⟩,⟨⟨rfl,.inl rfl,rfl⟩,True.intro⟩⟩ (fun _ _ _ _=>(aB (i:=0) (show ((["part"]:List Str)++(["facts", "name"]:List Str)).Nodup by decide +kernel) rfl (Or.inl rfl) (hf:=Or.inr rfl))) (fun _ _ _ _=>du) (fun _ _ _ _=>(eJ (di (dQ (pv 0))) cq (ay O_with_known (hr.mono (by decide)) rfl (aa (pv 1) (aa (pv 2) (aa (pv 0) af))))))) af))))))))),?_⟩
    refine⟨_,rfl,ea,e,rfl,he,fun wt H1 hw s1=>?_⟩
    have he1:=s1 _ _ he
    have hf1:=hf.same s1
    refine⟨_,rfl,wt,_,rfl,.inr (aw.of hw),_,_,rfl,rfl,_,rfl,?_⟩
    by_cases hl:(cM e).length < 2
    · refine cb (decide_eq_true (by rw [List.length_map];omega)) ?_
      refine⟨_,rfl,wt,rfl,⟨_,aw.of hw⟩,fun acc na=>?_⟩
      refine ju (K:=K) (a:=wt) (xs:=(cM e).map fun k=>V.int (k:Nat)) (fun i zs τ H'=>∃ c:Option V,τ = [c,some fv]/\zs=List.replicate i fv/\H' acc=some (.lst zs)/\ao H1 H') ?_ ?_ ?_ ?_
      · exact⟨none,rfl,rfl,ae,ao.new na⟩
      · rintro i zs τ H2 hi ⟨c,rfl,rfl,ha,s2⟩
        refine⟨aw.of (s2 _ _ hw),ha,?_⟩
        rw [List.length_replicate]
        rw [List.length_map] at hi
        exact bD (by omega)
      · rintro i x zs τ H2 hi ⟨c,rfl,rfl,ha,s2⟩
        refine dm ?_
        refine iX ?_
        refine bA ?_
        refine⟨_,rfl,ha,_,rfl,?_,ae,s2.put na⟩
        rw [<-List.replicate_succ']
      · rintro zs τ H2 ⟨c,rfl,rfl,ha,s2⟩
        rw [List.length_map] at ha
        refine⟨acc,_,rfl,.inl ⟨aU.of ha,fun t nt=>?_⟩⟩
        refine q t _ _ ae ?_ ((s1.trans s2).trans (ao.new nt))
        rw [xN hl]
        exact se (hf1.same (s2.trans (ao.new nt))) _
    · refine aV (decide_eq_false (by rw [List.length_map];omega)) ?_
      cases e with
      | stop=>exact absurd (by show 0 < 2;omega) hl
      | go p=>exact absurd (by show 1 < 2;omega) hl
      | cY b x n p r =>
        refine⟨fun σ' H'=>σ' = [some fv,some (.ref ea),some (.ref wt),some (.str (wT b)),some (.str x),some (.int n),none,none]/\ao H1 H',?_,?_⟩
        · refine⟨_,rfl,ea,_,0,_,rfl,rfl,aw.of he1,bP,_,rfl,ea,_,1,_,rfl,rfl,aw.of he1,cv,_,rfl,ea,_,2,_,rfl,rfl,aw.of he1,at2,pE,fun tt htt=>?_⟩
          exact⟨tt,_,rfl,aw.of ae,rfl,_,_,rfl,_,_,rfl,_,_,rfl,rfl,rfl,ao.new htt⟩
        rintro σ' H2 ⟨rfl,s2⟩
        refine⟨_,rfl,_,rfl,fv,x,T,rfl,hf1.same s2,fun sv H3 hsv s3=>?_⟩
        obtain⟨sp,rfl,hsp⟩:=hsv.sq GA
        have s13:=s2.trans s3
        refine⟨ln2,fun st hst=>⟨st,rfl,⟨_,aw.of ae⟩,fun acc na=>?_⟩⟩
        have s4:=ao.new (o:=.tup [.bl true,.bl false]) hst
        have hst4:(upd H3 st (.tup [.bl true,.bl false])) st=some (.tup [.bl true,.bl false]):=ae
        generalize (upd H3 st (.tup [.bl true,.bl false]))=H4 at s4 hst4 na
        refine ju (K:=K) (a:=st) (xs:=[.bl true,.bl false]) (fun i zs τ H'=>∃ c:Option V,τ = [c,some (.ref sp),some (.str (wT b)),some (.int n)]/\lH H' zs ([dJ T b x n true,dJ T b x n false].take i)/\H' acc=some (.lst zs)/\ao H4 H') ?_ ?_ ?_ ?_
        · exact⟨none,rfl,.nil,ae,ao.new na⟩
        · rintro i zs τ H5 hi ⟨c,rfl,rv,ha,s5⟩
          refine⟨aw.of (s5 _ _ hst4),ha,?_⟩
          have h1:=Paired.length rv
          rw [List.length_take] at h1
          exact bD (by rw [h1];exact Nat.le_trans (Nat.min_le_right _ _) (by show 2<=1000;decide))
        · rintro i y zs τ H5 hi ⟨c,rfl,rv,ha,s5⟩
          obtain⟨side,rfl,hsd⟩:∃ side:Bool,y=.bl side/\[dJ T b x n true,dJ T b x n false][i]? = some (dJ T b x n side):=by
            match i,hi with
            | 0,hi=>cases hi;exact⟨true,rfl,rfl⟩
            | 1,hi=>cases hi;exact⟨false,rfl,rfl⟩
            | i+2,hi=>simp at hi
          refine dm ?_
          refine iX ?_
          refine bA ?_
          refine⟨_,rfl,_,rfl,_,rfl,_,rfl,sp,wT b,n,side,_,_,rfl,hsp.same (s4.trans s5),fun v H6 r6 s6=>?_⟩
          have ha6:=s6 _ _ ha
          refine⟨ha6,_,rfl,?_,ae,(s5.trans s6).put na⟩
          rw [List.take_add_one,hsd]
          exact fK ((rv.same s6).put ha6) (.cons (RV.put r6 ha6) .nil)
        · rintro zs τ H5 ⟨c,rfl,rv,ha,s5⟩
          have s15:=s13.trans (s4.trans s5)
          have rv:lH H5 zs [dJ T b x n true,dJ T b x n false]:=rv
          have rvl:zs.length=2:=Paired.length rv
          refine⟨_,rfl,acc,rfl,⟨_,aU.of ha⟩,fun ac2 na2=>?_⟩
          refine m8 (K:=K) (a:=acc) (xs:=zs) (fun i us τ H'=>∃ c:Option V,τ = [c,some fv,some (.str x)]/\bJ H' us ((iu T (.cY b x n p r)).take i)/\H' ac2=some (.lst us)/\ao H5 H') ?_ ?_ ?_ ?_
          · exact⟨none,rfl,.nil,ae,ao.new na2⟩
          · rintro i us τ H6 hi ⟨c,rfl,bv,ha2,s6⟩
            refine⟨aU.of (s6 _ _ ha),ha2,?_⟩
            have h1:=Paired.length bv
            rw [List.length_take] at h1
            exact bD (by rw [h1];exact Nat.le_trans (Nat.min_le_right _ _) (by show 2<=1000;decide))
          · rintro i y us τ H6 hi ⟨c,rfl,bv,ha2,s6⟩
            obtain⟨rs,hrs,hry⟩:=ip rv hi
            have hb:(iu T (.cY b x n p r))[i]? = some (rs.map (bI T x)):=by
              show ([dJ T b x n true,dJ T b x n false].map fun z:Rs=>Option.map (bI T x) z)[i]? = _
              rw [List.getElem?_map,hrs];rfl
            refine dm ?_
            refine iX ?_
            refine bA ?_
            cases rs with
            | none =>
              cases (show y=V.aS from hry)
              refine⟨_,rfl,_,rfl,bA ?_⟩
              refine⟨ha2,_,rfl,?_,ae,s6.put na2⟩
              rw [List.take_add_one,hb]
              refine fK (bv.aI fun p zs e=>?_) (.cons rfl .nil)
              rw [av (bQ e ha2 (by intro z;cases z))];exact e
            | some s =>
              have hsv6:SV aA H6 y s:=RV.sv (hry.same s6)
              obtain⟨yp,rfl,hyp⟩:∃ yp,y=.ref yp/\True:=by
                obtain⟨a1,b1⟩:=s
                obtain⟨yp,e,_⟩:=hry
                exact⟨yp,e,trivial⟩
              refine⟨_,rfl,_,rfl,bw ?_⟩
              refine⟨_,rfl,_,rfl,_,rfl,fv,.ref yp,x,T,s,rfl,hf1.same (s13.trans (s4.trans (s5.trans s6))),hsv6,bc,fun v H7 f7 s7=>?_⟩
              have ha7:=s7 _ _ ha2
              refine⟨ha7,_,rfl,?_,ae,(s6.trans s7).put na2⟩
              rw [List.take_add_one,hb]
              have kt:∀ p zs,H7 p=some (.tup zs)->(upd H7 ac2 (.lst (us ++ [v]))) p=some (.tup zs):=fun p zs e=>by rw [av (bQ e ha7 (by intro z;cases z))];exact e
              exact fK ((bv.same s7).aI kt) (.cons (FV.aI f7 kt) .nil)
          · rintro us τ H6 ⟨c,rfl,bv,ha2,s6⟩
            rw [rvl] at bv
            refine⟨ac2,_,rfl,.inl ⟨aU.of ha2,fun t nt=>?_⟩⟩
            exact q t _ _ ae (bJ.same (show bJ H6 us (iu T (.cY b x n p r)) from bv) (ao.new nt)) ((s1.trans (s15.trans s6)).trans (ao.new nt))
theorem wL {f:Addr} {fd:FuncData} (F:bX K "leads" "leads" iL f fd) (Z:Bl mg) (O_known_beyond:Own P w K mg base "known_beyond" 4 ["facts", "end"] (lW aA)) (O_ways_on:Own P w K mg base "ways_on" 3 ["end"] mK):bB P w K mg base bT 5 f fd ["facts", "end"] (nB aA):=by
  refine F.ok (k:=4) qB (fun vs H Q E h=>?_) (fun cdv A outer s H vs Q E hr h=>?_)
  · obtain⟨fv,ea,T,e,rfl,_⟩:=h
    rfl
  · obtain⟨fv,ea,T,e,rfl,hf,he,bc,q⟩:=h
    refine⟨_,(ah (aH (i:=2) qB.nd rfl (Or.inl rfl) (ay O_known_beyond (hr.mono (by decide)) rfl (aa (pv 0) (aa (pv 1) af))))
      (ar (aC (bh bL rfl Z.tuple cJ (aa (cS ["way", "there"] [] [] rfl (pW rfl Z.zip (aa (ay O_ways_on (hr.mono (by decide)) rfl (aa (pv 1) af)) (aa (pv 2) af))) rfl (by decide +kernel) (by decide +kernel) (by decide +kernel) True.intro (fun _ _ _ _=>(iG (K:=K) (n:=2) rfl (cf (n:=2) rfl (aG (aB (i:=0) (show ((["way", "there"]:List Str)++([]:List Str)).Nodup by decide +kernel) rfl (Or.inl rfl) (hf:=Or.inr rfl)) (aG (aB (i:=1) (show ((["way", "there"]:List Str)++([]:List Str)).Nodup by decide +kernel) rfl (Or.inl rfl) (hf:=Or.inr rfl)) bU))))) (fun _ _ _ _=>(m7 (di (eW (pv 1))))) (fun _ _ _ _=>(bg (aa (pv 0) (aa (pv 1) af))))) af))))),?_⟩
    refine⟨_,rfl,_,rfl,fv,ea,T,e,rfl,hf,he,bc,fun bt us H1 hb bv s1=>?_⟩
    refine⟨_,rfl,ea,e,rfl,s1 _ _ he,fun wt H2 hw s2=>?_⟩
    have hb2:=s2 _ _ hb
    have bv2:=bv.same s2
    refine⟨_,rfl,wt,bt,rfl,⟨_,aw.of hw⟩,⟨_,aw.of hb2⟩,fun acc na=>?_⟩
    refine pX (K:=K) (a:=wt) (b:=bt) (xs:=(cM e).map fun k=>V.int (k:Nat)) (ys:=us) (fun i zs τ H'=>∃ (c1 c2:Option V),τ = [c1,c2]/\jW H' zs ((((cM e).zip (iu T e)).take i).filterMap fun p=>p.2.map fun U=>(p.1,U))/\zs.length<=i/\H' acc=some (.lst zs)/\ao H2 H') ?_ ?_ ?_ ?_
    · exact⟨none,none,rfl,.nil,Nat.le_refl _,ae,ao.new na⟩
    · rintro i zs τ H3 hi ⟨c1,c2,rfl,pv,hz,ha,s3⟩
      refine⟨aw.of (s3 _ _ hw),aw.of (s3 _ _ hb2),ha,?_⟩
      have h1:i<=(cM e).length:=by rw [List.length_map] at hi;omega
      have h2:(cM e).length<=2:=by cases e <;> (show _<=2) <;> simp [cM]
      exact bD (by omega)
    · rintro i x y zs τ H3 u hx hy hu ⟨c1,c2,rfl,pv,hz,ha,s3⟩
      obtain⟨k,hk,rfl⟩:∃ k,(cM e)[i]? = some k/\x=V.int (k:Nat):=by
        rw [List.getElem?_map] at hx
        cases z:(cM e)[i]? with
        | none=>rw [z] at hx;cases hx
        | some k=>rw [z] at hx;exact⟨k,rfl,(Option.some.inj hx).symm⟩
      obtain⟨o,ho,hyo⟩:=ip bv2 hy
      have hnext:=uQ (T:=T) hk ho
      have su:=ao.new (o:=.tup [.int (k:Nat),y]) hu
      have hu4:(upd H3 u (.tup [.int (k:Nat),y])) u=some (.tup [.int (k:Nat),y]):=ae
      generalize (upd H3 u (.tup [.int (k:Nat),y]))=H4 at su hu4
      refine⟨u,_,rfl,aw.of hu4,rfl,_,_,rfl,_,_,rfl,rfl,?_⟩
      refine⟨_,rfl,_,rfl,?_⟩
      cases o with
      | none =>
        cases (show y=V.aS from hyo)
        refine bw ?_
        refine⟨_,_,rfl,?_,Nat.le_succ_of_le hz,su _ _ ha,s3.trans su⟩
        rw [hnext]
        simpa using pv.same su
      | some U =>
        obtain⟨yp,zsy,ssy,rfl,_⟩:=id hyo
        refine bA ?_
        refine⟨_,rfl,_,rfl,ln2,fun t nt=>?_⟩
        have s5:=ao.new (o:=.tup [.int (k:Nat),.ref yp]) nt
        have ht:(upd H4 t (.tup [.int (k:Nat),.ref yp])) t=some (.tup [.int (k:Nat),.ref yp]):=ae
        generalize (upd H4 t (.tup [.int (k:Nat),.ref yp]))=H5 at s5 ht
        have ha5:=s5 _ _ (su _ _ ha)
        have kt:∀ p ws,H5 p=some (.tup ws)->(upd H5 acc (.lst (zs ++ [V.ref t]))) p=some (.tup ws):=fun p ws e=>by rw [av (bQ e ha5 (by intro z;cases z))];exact e
        refine⟨ha5,_,_,rfl,?_,(by rw [List.length_append];show _+1<=_;omega),ae,(s3.trans (su.trans s5)).put na⟩
        rw [hnext]
        exact fK ((pv.same (su.trans s5)).aI kt) (.cons ⟨t,.ref yp,rfl,kt _ _ ht,FV.aI (FV.same hyo (s3.trans (su.trans s5))) kt⟩ .nil)
    · rintro zs τ H3 ⟨c1,c2,rfl,pv,hz,ha,s3⟩
      have hm:min ((cM e).map fun k=>V.int (k:Nat)).length us.length=((cM e).zip (iu T e)).length:=by
        rw [List.length_zip,List.length_map,Paired.length bv2]
      rw [hm,List.take_length] at pv
      refine⟨acc,_,rfl,.inl ⟨aU.of ha,fun t nt=>?_⟩⟩
      exact q t zs _ ae (jW.same (show jW H3 zs (df T e) from pv) (ao.new nt)) (((s1.trans s2).trans s3).trans (ao.new nt))
theorem wM {f:Addr} {fd:FuncData} (F:bX K "start" "start" iM f fd) (Z:Bl mg) (O_names_of:Own P w K mg base "names_of" 3 ["plan"] kn):bB P w K mg base bT 4 f fd ["plan"] nE:=by
 refine F.ok (k:=3) wH (fun vs H Q E h=>?_) (fun cdv A outer s H vs Q E hr h=>?_)
 ·obtain⟨plv,ps,xs,m,rfl,_⟩:=h
  rfl
 ·obtain⟨plv,ps,xs,m,rfl,hp,pok,hx,hal,q⟩:=h
  refine⟨_,(ar (aC (bh bL rfl Z.tuple cJ (aa (cS ["name"] [] [] rfl (eh (ay O_names_of (hr.mono (by decide)) rfl (aa (pv 0) af))) rfl (by decide +kernel) (by decide +kernel) (by decide +kernel) True.intro (fun _ _ _ _=>(aB (i:=0) (show ((["name"]:List Str)++([]:List Str)).Nodup by decide +kernel) rfl (Or.inl rfl) (hf:=Or.inr rfl))) (fun _ _ _ _=>du) (fun _ _ _ _=>(bg (aa (pv 0) (aa (bg (aa ai (aa ai af))) af))))) af)))),?_⟩
  refine⟨_,rfl,plv,ps,xs,m,rfl,hp,pok,hx,hal,fun nt ss H1 hnt hperm hsort hsl s1=>?_⟩
  refine⟨nt,rfl,⟨_,aw.of hnt⟩,fun acc na=>?_⟩
  refine ju (K:=K) (a:=nt) (xs:=ss.map V.str) (fun i zs τ H'=>∃ c:Option V,τ = [c]/\bu H' zs ((ss.take i).map fun x=>.tuple [.str x,.tuple [.int 0,.int 0]])/\H' acc=some (.lst zs)/\ao H1 H') ?_ ?_ ?_ ?_
  ·exact⟨none,rfl,.nil,ae,ao.new na⟩
  ·rintro i zs τ H2 hi ⟨c,rfl,r,ha,s2⟩
   refine⟨aw.of (s2 _ _ hnt),ha,?_⟩
   have h1:=r.len
   rw [List.length_map,List.length_take] at h1
   exact bD (by omega)
  ·rintro i x zs τ H2 hi ⟨c,rfl,r,ha,s2⟩
   obtain⟨y,hy,rfl⟩:∃ y,ss[i]? = some y/\x=V.str y:=by
    rw [List.getElem?_map] at hi
    cases e:ss[i]? with
    | none=>rw [e] at hi;cases hi
    | some k=>rw [e] at hi;exact⟨k,rfl,(Option.some.inj hi).symm⟩
   refine dm ?_
   refine iX ?_
   refine bA ?_
   refine⟨_,rfl,ln2,fun t1 n1=>⟨ln2,fun t2 n2=>?_⟩⟩
   have q1:=ao.new (o:=.tup [.int 0,.int 0]) n1
   have q2:=ao.new (o:=.tup [.str y,.ref t1]) n2
   have ha3:=q2 _ _ (q1 _ _ ha)
   have kt:∀ p ws,(upd (upd H2 t1 (.tup [.int 0,.int 0])) t2 (.tup [.str y,.ref t1])) p=some (.tup ws)->(upd (upd (upd H2 t1 (.tup [.int 0,.int 0])) t2 (.tup [.str y,.ref t1])) acc (.lst (zs ++ [V.ref t2]))) p=some (.tup ws):=fun p ws e=>by rw [av (bQ e ha3 (by intro z;cases z))];exact e
   refine⟨ha3,_,rfl,?_,ae,((s2.trans q1).trans q2).put na⟩
   rw [List.take_add_one,hy,List.map_append]
   exact (((r.same q1 (il _)).same q2 (il _)).aI kt (il _)).app (.tup (kt _ _ ae) (.cons (.str _) (.cons (.tup (kt _ _ (q2 _ _ ae)) (.cons (.int _) (.cons (.int _) .nil))) .nil)))
  ·rintro zs τ H2 ⟨c,rfl,r,ha,s2⟩
   rw [List.length_map,List.take_length] at r
   refine⟨acc,_,rfl,.inl ⟨aU.of ha,fun t ht=>?_⟩⟩
   exact q (.ref t) ss _ (.tup ae (r.same (ao.new ht) (il _))) hperm hsort ((s1.trans s2).trans (ao.new ht))
theorem u9 {f:Addr} {fd:FuncData} (F:bX K "is_met" "is_met" hG f fd) (Z:Bl mg) (O_covers:Own P w K mg base "covers" 2 ["facts", "others"] lV):bB P w K mg base bT 3 f fd ["lead", "table"] kX:=by
 refine F.ok (k:=2) oA (fun vs H Q E h=>?_) (fun cdv A outer s H vs Q E hr h=>?_)
 ·obtain⟨lv,ta,us,tab,k,U,rfl,_⟩:=h
  rfl
 ·obtain⟨lv,ta,us,tab,k,U,rfl,hl,hta,hb,hk,bc,q⟩:=h
  refine⟨_,(ah (aH (i:=2) oA.nd rfl (Or.inl rfl) (aF yX (pv 1) (aF aO (pv 0) ai (fun _ _=>rfl)) (fun _ _=>rfl)))
   (ar (aC (j7 (h9 (eW (pv 2))) (fY (ay O_covers (hr.mono (by decide)) rfl (aa (pv 2) (aa (aF aO (pv 0) ai (fun _ _=>rfl)) af)))))))),?_⟩
  obtain⟨lq,u,rfl,hlq,hu⟩:=hl
  have hlq:H lq=some (.tup [.int (k:Nat),u]):=hlq
  have hu:FV H u U:=hu
  have aN:tab[k]? = some tab[k]:=by simp [hk]
  generalize tab[k] = o at aN
  obtain⟨ev,hev,bo⟩:=fz hb aN
  have fin:∀ {Q':VK},Q' ev H->(fun x i H Q=>sC K x i H Q\/vt K x i H Q) (.ref ta) (.int (k:Nat)) H Q':=fun {Q'} h=>by
   rcases hta with hta | hta
   ·exact .inl ⟨ta,_,_,_,rfl,rfl,aU.of hta,bE hev,h⟩
   ·exact .inr ⟨ta,_,_,_,rfl,rfl,aw.of hta,bE hev,h⟩
  refine⟨_,rfl,_,rfl,lq,_,0,_,rfl,rfl,aw.of hlq,bP,fin ?_⟩
  cases o with
  | none =>
   have bo:ev=.aS:=bo
   subst bo
   refine⟨_,rfl,_,rfl,aV rfl ?_⟩
   refine q false H ⟨(fun h=>nomatch h),fun ⟨T,h,_⟩=>?_⟩ (ao.refl H)
   have h:tab[k]? = some (some T):=h
   rw [aN] at h
   cases h
  | some T =>
   have bo:FV H ev T:=bo
   have hne:decide (ev=V.aS)=false:=by
    obtain⟨p,_,_,rfl,_⟩:=bo
    rfl
   refine⟨_,rfl,_,rfl,cb (by rw [hne];rfl) ?_⟩
   refine⟨_,rfl,_,rfl,lq,_,1,_,rfl,rfl,aw.of hlq,cv,ev,u,T,U,rfl,bo,hu,bc T (List.mem_of_getElem? aN),fun b H1 hb1 s1=>?_⟩
   refine q b H1 (hb1.trans ⟨fun h=>⟨T,aN,h⟩,fun ⟨T',h,h'⟩=>?_⟩) s1
   have h:tab[k]? = some (some T'):=h
   rw [aN] at h
   cases h
   exact h'
theorem oK {f:Addr} {fd:FuncData} (F:bX K "leads_from" "leads_from" eE f fd) (Z:Bl mg) (O_leads:Own P w K mg base "leads" 5 ["facts", "end"] (nB aA)) (O_behind:Own P w K mg base "behind" 3 ["facts", "deeds"] ku):bB P w K mg base bT 6 f fd ["entry", "piece"] hZ:=by
 refine F.ok (k:=5) ix (fun vs H Q E h=>?_) (fun cdv A outer s H vs Q E hr h=>?_)
 ·obtain⟨fv,pc,da,ea,ws,ds,e,T,xs,rfl,_⟩:=h
  rfl
 ·obtain⟨fv,pc,da,ea,ws,ds,e,T,xs,rfl,hf,hpc,hda,hws,hea,tok,dok,h62,q⟩:=h
  refine⟨_,(ah (cg (pv 1) (cf rfl (aG (aB (i:=2) ix.nd rfl (Or.inl rfl)) (aG (aB (i:=3) ix.nd rfl (Or.inl rfl)) bU))))
   (ar (aC (ay O_leads (hr.mono (by decide)) rfl (aa (ay O_behind (hr.mono (by decide)) rfl (aa (pv 0) (aa (pv 2) af))) (aa (pv 3) af)))))),?_⟩
  refine⟨_,rfl,pc,_,rfl,aw.of hpc,rfl,_,_,rfl,_,_,rfl,rfl,?_⟩
  refine⟨_,rfl,_,rfl,fv,da,ws,ds,T,xs,rfl,hf,hda,hws,tok,dok,(by omega),fun v H1 f1 s1=>?_⟩
  have bc:fW (cE T ds) 62:=fun ss a b=>Nat.le_trans ((tok.nF dok).bc ss a b) h62
  refine⟨_,rfl,v,ea,_,e,rfl,f1,s1 _ _ hea,bc,fun t vs H2 ht hv s2=>?_⟩
  exact q t vs H2 ht hv (s1.trans s2)
theorem mX {f:Addr} {fd:FuncData} (F:bX K "entry_stands" "entry_stands" dA f fd) (Z:Bl mg) (O_is_met:Own P w K mg base "is_met" 3 ["lead", "table"] kX) (O_leads_from:Own P w K mg base "leads_from" 6 ["entry", "piece"] hZ):bB P w K mg base bT 7 f fd ["entry", "piece", "table"] iw:=by
 refine F.ok (k:=6) mU (fun vs H Q E h=>?_) (fun cdv A outer s H vs Q E hr h=>?_)
 ·obtain⟨ev,pc,da,ea,ta,ws,us,ds,e,o,tab,xs,rfl,_⟩:=h
  rfl
 ·obtain⟨ev,pc,da,ea,ta,ws,us,ds,e,o,tab,xs,rfl,bo,hpc,hda,hws,hea,hta,hb,tok,tabok,dok,eok,h62,q⟩:=h
  refine⟨_,(ar (aC (mr (h9 (dQ (pv 0))) (fY (ba (jb rfl) rfl Z.all mQ (aa (cS ["lead"] ["table"] [2] rfl (eh (ay O_leads_from (hr.mono (by decide)) rfl (aa (pv 0) (aa (pv 1) af)))) rfl (by decide +kernel) (by decide +kernel) (by decide +kernel) ⟨⟨rfl,.inl rfl,rfl⟩,True.intro⟩ (fun _ _ _ _=>(aB (i:=0) (show ((["lead"]:List Str)++(["table"]:List Str)).Nodup by decide +kernel) rfl (Or.inl rfl) (hf:=Or.inr rfl))) (fun _ _ _ _=>du) (fun _ _ _ _=>(ay O_is_met (hr.mono (by decide)) rfl (aa (pv 0) (aa (pv 1) af))))) af)))))),?_⟩
  refine⟨_,rfl,_,rfl,?_⟩
  cases o with
  | none =>
   have bo:ev=.aS:=bo
   subst bo
   refine cb rfl ?_
   exact q true H ⟨fun _ T e=>(nomatch e),fun _=>rfl⟩ (ao.refl H)
  | some T =>
   have bo:FV H ev T:=bo
   have hne:decide (ev=V.aS)=false:=by
    obtain⟨p,_,_,rfl,_⟩:=bo
    rfl
   have tok:=tok T rfl
   refine aV hne ?_
   refine⟨_,rfl,_,rfl,ev,pc,da,ea,ws,ds,e,T,xs,rfl,bo,hpc,hda,hws,hea,tok,dok,h62,fun t vs H1 ht hv s1=>?_⟩
   refine⟨t,rfl,⟨_,aw.of ht⟩,fun acc na=>?_⟩
   have hld:∀ ld ∈ df (cE T ds) e,ld.1 < tab.length:=fun ld h=>(nG (tok.nF dok) eok ld h).1
   generalize hls:df (cE T ds) e=ls at hv hld
   refine ju (K:=K) (a:=t) (xs:=vs) (fun i ys τ H'=>∃ (c1:Option V) (bs:List Bool),τ = [c1,some (.ref ta)]/\ys=bs.map V.bl/\H' acc=some (.lst ys)/\Paired (fun (b:Bool) ld=>(b=true ↔ Met tab ld)) bs (ls.take i)/\ao H1 H') ?_ ?_ ?_ ?_
   ·exact⟨none,[],rfl,rfl,ae,.nil,ao.new na⟩
   ·rintro i ys τ H2 hi ⟨c1,bs,rfl,rfl,h1,h2,h3⟩
    refine⟨aw.of (h3 _ _ ht),h1,cL ?_⟩
    have l1:=dY h2
    have l2:=dY hv
    have l3:=(wc (e:=e) (tok.nF dok)).2
    rw [List.length_take] at l1
    rw [hls] at l3
    rw [List.length_map]
    omega
   ·rintro i x ys τ H2 hx ⟨c1,bs,rfl,rfl,h1,h2,h3⟩
    obtain⟨ld,hld1,pv⟩:=L2.ip hv hx
    have hlt:=hld ld (List.mem_of_getElem? hld1)
    change ∃ v,_/\_
    refine⟨_,rfl,_,rfl,x,ta,us,tab,ld.1,ld.2,rfl,(PV.aI pv fun p zs e=>h3 _ _ e),.inr (h3 _ _ (s1 _ _ hta)),(bJ.same hb s1).same h3,hlt,(fun T hT=>fun ss a b=>Nat.le_trans ((tabok T hT).bc ss a b) (by omega)),fun b H3 hb3 s3=>?_⟩
    refine⟨s3 _ _ h1,_,bs ++ [b],rfl,(by rw [List.map_append];rfl),ae,?_,(h3.trans s3).put na⟩
    rw [List.take_add_one,hld1]
    exact LS.ji (F:=fun (b:Bool) ld=>(b=true ↔ Met tab ld)) hb3 h2
   ·rintro ys τ H2 ⟨c1,bs,rfl,rfl,h1,h2,h3⟩
    rw [dY hv,List.take_of_length_le (Nat.le_refl _),<-hls] at h2
    refine⟨acc,bs,rfl,aU.of h1,?_⟩
    exact q _ H2 (wB h2) (s1.trans h3)
theorem va {f:Addr} {fd:FuncData} (F:bX K "stands" "stands" hJ f fd) (Z:Bl mg) (O_holds:Own P w K mg base "holds" 2 ["facts", "worths"] lU) (O_entry_stands:Own P w K mg base "entry_stands" 7 ["entry", "piece", "table"] iw):bB P w K mg base bT 8 f fd ["plan", "table"] lZ:=by
  refine F.ok (k:=7) uZ (fun vs H Q E h=>?_) (fun cdv A outer s H vs Q E hr h=>?_)
  · obtain⟨plv,ta,us,tab,ps,xs,m,rfl,_⟩:=h
    rfl
  · obtain⟨plv,ta,us,tab,ps,xs,m,rfl,hp,ok,hp0,hp1,hta,hb,tabok,h62,ht0,ht1,q⟩:=h
    refine⟨_,(ah (aY (aJ zd (ba br rfl Z.len cI (aa (pv 1) af)) (ba br rfl Z.len cI (aa (pv 0) af)) (aK _))
      (ar (aC dE))
      aR)
      (ah (aY (PW.pt (oN (di (dQ (aF aO (pv 1) ai (fun _ _=>rfl)))) (mq (j6 (fm (ay O_holds (hr.mono (by decide)) rfl (aa (aF aO (pv 1) ai (fun _ _=>rfl)) (aa jK af))))))))
      (ar (aC dE))
      aR)
      (ar (aC (ba (jb rfl) rfl Z.all mQ (aa (cS ["entry", "piece"] ["table"] [1] rfl (pW rfl Z.zip (aa (pv 1) (aa (pv 0) af))) rfl (by decide +kernel) (by decide +kernel) (by decide +kernel) ⟨⟨rfl,.inl rfl,rfl⟩,True.intro⟩ (fun _ _ _ _=>(iG (K:=K) (n:=2) rfl (cf (n:=2) rfl (aG (aB (i:=0) (show ((["entry", "piece"]:List Str)++(["table"]:List Str)).Nodup by decide +kernel) rfl (Or.inl rfl) (hf:=Or.inr rfl)) (aG (aB (i:=1) (show ((["entry", "piece"]:List Str)++(["table"]:List Str)).Nodup by decide +kernel) rfl (Or.inl rfl) (hf:=Or.inr rfl)) bU))))) (fun _ _ _ _=>du) (fun _ _ _ _=>(ay O_entry_stands (hr.mono (by decide)) rfl (aa (pv 0) (aa (pv 1) (aa (pv 2) af)))))) af)))))),?_⟩
    obtain⟨pp,pvs,rfl,hpp,rpv⟩:=bC.cn hp
    have hpl:pvs.length=ps.length:=by rw [rpv.len,List.length_map]
    have hul:=dY hb
    refine⟨_,rfl,ta,_,rfl,.inr (aw.of hta),_,rfl,pp,_,rfl,.inr (aw.of hpp),rfl,_,rfl,?_⟩
    refine cA (fun hc=>?_) (fun hc=>?_)
    · have hne:tab.length ≠ ps.length:=fun e=>by
        have hc:(!decide (V.int (us.length:Nat)=V.int (pvs.length:Nat)))=true:=hc
        rw [hul,hpl,e] at hc
        simp at hc
      exact q false H ⟨(fun h=>nomatch h),fun h=>absurd h.len hne⟩ (ao.refl H)
    have hl:tab.length=ps.length:=by
      by_cases e:tab.length=ps.length
      · exact e
      · exfalso
        refine hc ?_
        show (!decide (V.int (us.length:Nat)=V.int (pvs.length:Nat)))=true
        rw [hul,hpl,decide_eq_false fun z=>e (by have:=V.int.inj z;omega)]
        rfl
    have h0:tab[0]? = some tab[0]:=by simp [ht0]
    generalize tab[0] = o at h0
    obtain⟨ev,hev,bo⟩:=fz hb h0
    refine⟨_,rfl,ta,_,0,_,rfl,rfl,aw.of hta,bE (j:=0) hev,_,rfl,?_⟩
    cases o with
    | none =>
      have bo:ev=.aS:=bo
      subst bo
      refine cb rfl (bA ?_)
      refine q false H ⟨(fun h=>nomatch h),fun h=>?_⟩ (ao.refl H)
      obtain⟨T,h,_⟩:=h.zero
      rw [h0] at h
      cases h
    | some T =>
      have bo:FV H ev T:=bo
      have hne:decide (ev=V.aS)=false:=by
        obtain⟨p,_,_,rfl,_⟩:=bo
        rfl
      have fewA:∀ T,some T ∈ tab->fW T 63:=fun T hT=>fun ss a b=>Nat.le_trans ((tabok T hT).bc ss a b) (by omega)
      refine aV hne ?_
      refine⟨_,rfl,ta,_,0,_,rfl,rfl,aw.of hta,bE (j:=0) hev,fun d nd=>⟨ev,d,[],fun _=>0,T,rfl,FV.same bo (ao.new nd),ae,(fun x=>rfl),fewA T (List.mem_of_getElem? h0),fun b H1 hb1 s1=>?_⟩⟩
      have s1:=(ao.new (o:=.dK []) nd).trans s1
      refine⟨_,rfl,?_⟩
      cases b with
      | false =>
        refine bA ?_
        refine q false H1 ⟨(fun h=>nomatch h),fun h=>?_⟩ s1
        obtain⟨T',h,hs⟩:=h.zero
        rw [h0] at h
        cases h
        exact hb1.mpr hs
      | true =>
        refine bw ?_
        have hs:=hb1.mp rfl
        refine⟨_,rfl,_,rfl,ta,pp,rfl,⟨_,aw.of (s1 _ _ hta)⟩,⟨_,aw.of (s1 _ _ hpp)⟩,fun acc na=>?_⟩
        refine pX (K:=K) (a:=ta) (b:=pp) (xs:=us) (ys:=pvs) (fun i zs τ H'=>∃ (c1 c2:Option V) (bs:List Bool),τ = [c1,c2,some (.ref ta)]/\zs=bs.map V.bl/\bs.length=i/\H' acc=some (.lst zs)/\(∀ (k:Nat) (b:Bool) (p:Piece) (o:Option (Str->Sx)),bs[k]? = some b->ps[k]? = some p->tab[k]? = some o->(b=true ↔ nH tab o p))/\ao H1 H') ?_ ?_ ?_ ?_
        · exact⟨none,none,[],rfl,rfl,rfl,ae,(fun k b p o h=>by simp at h),ao.new na⟩
        · rintro i zs τ H2 hi ⟨c1,c2,bs,rfl,rfl,g1,g2,g3,g4⟩
          have s2:=s1.trans g4
          exact⟨aw.of (s2 _ _ hta),aw.of (s2 _ _ hpp),g2,cL (by rw [List.length_map];omega)⟩
        · rintro i x y zs τ H2 u hx hy hu ⟨c1,c2,bs,rfl,rfl,g1,g2,g3,g4⟩
          have su:=ao.new (o:=.tup [x,y]) hu
          have s2:=(s1.trans g4).trans su
          refine⟨u,_,rfl,aw.of ae,rfl,_,_,rfl,_,_,rfl,rfl,?_⟩
          obtain⟨o,ho,bx⟩:=L2.ip hb hx
          have hil:i < ps.length:=by
            have:=(List.getElem?_eq_some_iff.mp hy).1
            omega
          have hpi:ps[i]? = some ps[i]:=by simp [hil]
          generalize ps[i] = pce at hpi
          obtain⟨ds,e⟩:=pce
          obtain⟨p',xs',pc,da,ea,ws,ep,e1',el',hx',e2,e3,r3,e4⟩:=jL hp hpi
          cases ep
          rw [hpp] at e1'
          cases e1'
          rw [hy] at hx'
          cases hx'
          have hm:=List.mem_of_getElem? hpi
          have eok:=ok.ends _ hm
          rw [<-hl] at eok
          generalize (upd H2 u (.tup [x,.ref pc]))=H3 at su s2 ⊢
          change ∃ v,_/\_
          refine⟨_,rfl,_,rfl,_,rfl,x,pc,da,ea,ta,ws,us,ds,e,o,tab,xs,rfl,BV.same bx s2,s2 _ _ e2,s2 _ _ e3,r3.same s2 (dN ds),s2 _ _ e4,s2 _ _ hta,bJ.same hb s2,(fun T h=>tabok T (h ▸ List.mem_of_getElem? ho)),tabok,(ok.jH _ hm).2,eok,h62,fun b H4 hb4 s4=>?_⟩
          refine⟨s4 _ _ (su _ _ g2),_,_,bs ++ [b],rfl,(by rw [List.map_append];rfl),(by rw [List.length_append,g1];rfl),ae,fun k b' p o' h1 h2 h3=>?_,((g4.trans su).trans s4).put na⟩
          by_cases hk:k=i
          · subst hk
            rw [List.getElem?_append_right (by omega),g1,Nat.sub_self] at h1
            cases h1
            rw [hpi] at h2
            cases h2
            rw [ho] at h3
            cases h3
            exact hb4
          · have hkl:k < bs.length:=by
              have:=(List.getElem?_eq_some_iff.mp h1).1
              rw [List.length_append] at this
              simp at this
              omega
            rw [List.getElem?_append_left hkl] at h1
            exact g3 k b' p o' h1 h2 h3
        · rintro zs τ H2 ⟨c1,c2,bs,rfl,rfl,g1,g2,g3,g4⟩
          refine⟨acc,bs,rfl,aU.of g2,?_⟩
          exact q _ H2 (tq hl h0 hs (by omega) g3) (s1.trans g4)
theorem vb {f:Addr} {fd:FuncData} (F:bX K "opened" "opened" hR f fd) (Z:Bl mg) (O_is_within:Own P w K mg base "is_within" 1 ["one", "other"] (jc K)):bB P w K mg base bT 2 f fd ["stretch", "other"] (ma K):=by
 refine F.ok (k:=1) kF (fun vs H Q E h=>?_) (fun cdv A outer s H vs Q E hr h=>?_)
 ·obtain⟨p,q0,s,t,rfl,_⟩:=h
  rfl
 ·obtain⟨p,q0,s,t,rfl,hp,hq,q⟩:=h
  refine⟨_,(ah (cg (pv 0) (cf rfl (aG (aB (i:=2) kF.nd rfl (Or.inl rfl)) (aG (aB (i:=3) kF.nd rfl (Or.inl rfl)) bU))))
   (ar (aC (bg (aa (eJ (fm (ay O_is_within (hr.mono (by decide)) rfl (aa (pv 1) (aa (bg (aa (pv 2) (aa cq af))) af)))) (pv 2) cq) (aa (eJ (fm (ay O_is_within (hr.mono (by decide)) rfl (aa (pv 1) (aa (bg (aa cq (aa (pv 3) af))) af)))) (pv 3) cq) af)))))),?_⟩
  refine⟨_,rfl,p,_,rfl,hp,rfl,_,_,rfl,_,_,rfl,rfl,?_⟩
  refine⟨_,rfl,_,rfl,ln2,fun t1 n1=>⟨q0,t1,t,(s.1,none),rfl,hq.same (ao.new n1),aw.of ae,_,rfl,?_⟩⟩
  have s1:=ao.new (o:=.tup [vO s.1,.aS]) n1
  cases hc:cR t (s.1,none) with
  | true =>
   refine bA ⟨_,rfl,?_⟩
   refine⟨_,rfl,_,rfl,ln2,fun t2 n2=>⟨q0,t2,t,(none,s.2),rfl,(hq.same s1).same (ao.new n2),aw.of ae,_,rfl,?_⟩⟩
   have s2:=s1.trans (ao.new (o:=.tup [.aS,vO s.2]) n2)
   cases hd:cR t (none,s.2) with
   | true =>
    refine bA ⟨_,rfl,ln2,fun t3 n3=>?_⟩
    have e:eI s t=(s.1,s.2):=by unfold eI;rw [hc,hd];rfl
    exact q _ _ ⟨t3,rfl,by rw [e];exact ae⟩ (s2.trans (ao.new n3))
   | false =>
    refine bw ⟨ln2,fun t3 n3=>?_⟩
    have e:eI s t=(s.1,none):=by unfold eI;rw [hc,hd];rfl
    exact q _ _ ⟨t3,rfl,by rw [e];exact ae⟩ (s2.trans (ao.new n3))
  | false =>
   refine bw ?_
   refine⟨_,rfl,_,rfl,ln2,fun t2 n2=>⟨q0,t2,t,(none,s.2),rfl,(hq.same s1).same (ao.new n2),aw.of ae,_,rfl,?_⟩⟩
   have s2:=s1.trans (ao.new (o:=.tup [.aS,vO s.2]) n2)
   cases hd:cR t (none,s.2) with
   | true =>
    refine bA ⟨_,rfl,ln2,fun t3 n3=>?_⟩
    have e:eI s t=(none,s.2):=by unfold eI;rw [hc,hd];rfl
    exact q _ _ ⟨t3,rfl,by rw [e];exact ae⟩ (s2.trans (ao.new n3))
   | false =>
    refine bw ⟨ln2,fun t3 n3=>?_⟩
    have e:eI s t=(none,none):=by unfold eI;rw [hc,hd];rfl
    exact q _ _ ⟨t3,rfl,by rw [e];exact ae⟩ (s2.trans (ao.new n3))
theorem tI {f:Addr} {fd:FuncData} (F:bX K "widened" "widened" gx f fd) (Z:Bl mg) {aA:Addr} (GA:gI K mg aA) (O_facts_of:Own P w K mg base "facts_of" 1 ["stretches"] (ik aA)) (O_opened:Own P w K mg base "opened" 2 ["stretch", "other"] (ma K)):bB P w K mg base bT 3 f fd ["entry", "facts"] ky:=by
 refine F.ok (k:=2) mV (fun vs H Q E h=>?_) (fun cdv A outer s H vs Q E hr h=>?_)
 ·obtain⟨ev,fv,o,U,rfl,_⟩:=h
  rfl
 ·obtain⟨ev,fv,o,U,rfl,bo,hf,bc,fewU,q⟩:=h
  refine⟨_,(ah (aY (di (dQ (pv 0)))
   (ar (aC (pv 1)))
   aR)
   (ah (aH (i:=2) mV.nd rfl (Or.inr rfl) (bh (dX rfl) rfl Z.dict jw (aa (pv 1) af)))
   (ar (aC (ay O_facts_of (hr.mono (by decide)) rfl (aa (wz ["name", "stretch"] ["stretches"] [2] rfl (eh (pv 0)) rfl (by decide +kernel) (by decide +kernel) (by decide +kernel) ⟨⟨rfl,.inl rfl,rfl⟩,True.intro⟩ (fun _ _ _ _=>(iG (K:=K) (n:=2) rfl (cf (n:=2) rfl (aG (aB (i:=0) (show ((["name", "stretch"]:List Str)++(["stretches"]:List Str)).Nodup by decide +kernel) rfl (Or.inl rfl) (hf:=Or.inr rfl)) (aG (aB (i:=1) (show ((["name", "stretch"]:List Str)++(["stretches"]:List Str)).Nodup by decide +kernel) rfl (Or.inl rfl) (hf:=Or.inr rfl)) bU))))) (fun _ _ _ _=>du) (fun _ _ _ _=>(pv 0)) (fun _ _ _ _=>(ay O_opened (hr.mono (by decide)) rfl (aa (pv 1) (aa (cO (cz hr) (pv 2) (pv 0) (fC (v:=.ref aA) rfl GA.lC rfl) ⟨rfl,rfl,rfl,rfl⟩) af))))) af)))))),?_⟩
  refine⟨_,rfl,_,rfl,?_⟩
  cases o with
  | none =>
   have bo:ev=.aS:=bo
   subst bo
   refine cb rfl ?_
   exact⟨_,rfl,q fv H hf (ao.refl H)⟩
  | some T =>
   have bo:FV H ev T:=bo
   have hne:decide (ev=V.aS)=false:=by
    obtain⟨p,_,_,rfl,_⟩:=bo
    rfl
   refine aV hne ?_
   obtain⟨fp,fxs,ss,rfl,hfp,srt,hmem,rf⟩:=hf
   obtain⟨kvs,l1,l2,l3,tb⟩:=FV.tb aA srt hmem rf
   refine⟨_,rfl,fp,fxs,kvs,rfl,hfp,l1,l2,l3,fun d nd=>?_⟩
   have s1:=ao.new (o:=.dK kvs) nd
   have hd:(upd H d (.dK kvs)) d=some (.dK kvs):=ae
   have tb1:=tb.aI fun p zs e=>s1 _ _ e
   have bo1:=FV.same bo s1
   generalize (upd H d (.dK kvs))=H1 at s1 hd tb1 bo1
   obtain⟨ep,exs,es,rfl,hep,esrt,emem,erf⟩:=bo1
   refine dm ?_
   refine⟨_,rfl,ep,rfl,⟨_,aw.of hep⟩,fun acc na=>?_⟩
   have hel:exs.length=es.length:=by rw [erf.len,List.length_map]
   have hes:es.length<=63:=bc T rfl es (fun x hx=>(emem x).mp hx) esrt.nd
   refine yW (K:=K) (a:=ep) (xs:=exs) (fun i kv τ H'=>∃ (c1 c2:Option V) (ks:List Str) (W:Str->Sx),τ = [c1,c2,some (.ref d)]/\H' acc=some (.dK kv)/\Tb aA H' kv ks W/\ks.length<=i/\(∀ x,W x=if x ∈ es.take i then eI (T x) (U x) else bN)/\ao H1 H') ?_ ?_ ?_ ?_
   ·refine⟨none,none,[],fun _=>bN,rfl,ae,⟨rfl,List.nodup_nil,fun x=>.inl ⟨rfl,rfl,by simp⟩⟩,Nat.le_refl _,(fun x=>by simp),ao.new na⟩
   ·rintro i kv τ H2 hi ⟨c1,c2,ks,W,rfl,h1,h2,h3,h4,h5⟩
    have kl:kv.length=ks.length:=by have:=congrArg List.length h2.keys;simpa using this
    exact⟨aw.of (h5 _ _ hep),h1,cL (by omega)⟩
   ·rintro i x kv τ H2 hx ⟨c1,c2,ks,W,rfl,h1,h2,h3,h4,h5⟩
    have hi:i < es.length:=by
     have:=(List.getElem?_eq_some_iff.mp hx).1
     omega
    have hye:es[i]? = some es[i]:=by simp [hi]
    generalize es[i] = y at hye
    obtain⟨v,hv,rd⟩:=erf.get (i:=i) (d:=dF T y) (by rw [List.getElem?_map,hye];rfl)
    rw [hx] at hv
    cases hv
    obtain⟨t1,q1,rfl,ht1,hq1⟩:=mR rd
    refine⟨t1,_,rfl,aw.of (h5 _ _ ht1),rfl,_,_,rfl,_,_,rfl,rfl,?_⟩
    obtain⟨u,eu,su⟩:=(tb1.aI fun p zs e=>h5 _ _ e).getD y
    obtain⟨qa,rfl,hqa⟩:=su.sq GA
    refine iX ?_
    refine bA ?_
    refine⟨_,rfl,_,rfl,_,rfl,d,rfl,.inl ⟨kvs,.inl (h5 _ _ hd)⟩,_,rfl,_,_,cP.k (k:=Sum.inr y) (h5 _ _ hd),eu,q1,qa,T y,U y,rfl,aw.of (h5 _ _ hq1),hqa,fun v H3 sh s3=>?_⟩
    have h1':=s3 _ _ h1
    obtain⟨ks2,t2,k2,m2⟩:=(h2.aI fun p zs e=>s3 _ _ e).put y (.inl sh)
    refine⟨Sum.inr y,rfl,h1',_,_,ks2,_,rfl,ae,t2.aI (fun p zs e=>by rw [av (bQ e h1' (by intro z;cases z))];exact e),by omega,fun x=>?_,(h5.trans s3).put na⟩
    unfold bI
    rw [List.take_add_one,hye]
    by_cases hxy:x=y
    ·rw [if_pos hxy,if_pos (List.mem_append_right _ (by rw [hxy];exact List.mem_singleton.mpr rfl)),hxy]
    ·rw [if_neg hxy,h4 x]
     have:(x ∈ es.take i++(some y).toList) ↔ x ∈ es.take i:=by simp [hxy]
     simp only [this]
   ·rintro kv τ H2 ⟨c1,c2,ks,W,rfl,h1,h2,h3,h4,h5⟩
    refine⟨acc,kv,ks,W,rfl,h1,h2,(by omega),fun v H3 f3 s3=>?_⟩
    refine q v H3 ?_ ((s1.trans h5).trans s3)
    have e:W=ox T U:=by
     rw [<-wA]
     funext x
     rw [h4 x,hel,List.take_of_length_le (Nat.le_refl _)]
     by_cases hx:T x=bN
     ·rw [if_pos hx,if_neg (fun h=>(emem x).mp h hx)]
     ·rw [if_neg hx,if_pos ((emem x).mpr hx)]
    rw [e] at f3
    exact f3
theorem qX {f:Addr} {fd:FuncData} (F:bX K "table_of" "table_of" fN f fd) (Z:Bl mg) (O_start:Own P w K mg base "start" 4 ["plan"] nE) (O_leads_from:Own P w K mg base "leads_from" 6 ["entry", "piece"] hZ) (O_is_met:Own P w K mg base "is_met" 3 ["lead", "table"] kX) (O_widened:Own P w K mg base "widened" 3 ["entry", "facts"] ky):bB P w K mg base bT 8 f fd ["plan"] me:=by
  refine F.ok (k:=7) fc (fun vs H Q E h=>?_) (fun cdv A outer s H vs Q E hr h=>?_)
  · obtain⟨plv,ps,xs,m,rfl,_⟩:=h
    rfl
  · obtain⟨plv,ps,xs,m,rfl,hp,ok,hp0,hp4,h62,hal,q⟩:=h
    refine⟨_,(ah (aH (i:=1) fc.nd rfl (Or.inl rfl) (aZ pB (cu (aa cq af)) (ba br rfl Z.len cI (aa (pv 0) af))))
      (ah (aH (i:=2) fc.nd rfl (Or.inl rfl) (aZ pB (cu (aa dE af)) (ba br rfl Z.len cI (aa (pv 0) af))))
      (ah (cg (ay O_start (hr.mono (by decide)) rfl (aa (pv 0) af)) (eQ (pv 1) ai set_list))
      (ah (cg dE (eQ (pv 2) ai set_list))
      (ah (vh PassesOwn.never (aJ t9 dE (pv 2) (by with_unfolding_all rfl))
      (ah (aH (i:=3) fc.nd rfl (Or.inl rfl) (gF PySem.F.plainAttrs_list PySem.F.slot_list_index PySem.F.type_list_index uW (pv 2) (aa dE af)))
      (ah (cg dE (eQ (pv 2) (pv 3) set_list))
      (ar (eR PassesOwn.never rfl (eh (ay O_leads_from (hr.mono (by decide)) rfl (aa (aF bH (pv 1) (pv 3) (fun _ _=>rfl)) (aa (aF aO (pv 0) (pv 3) (fun _ _=>rfl)) af)))) (aB (i:=4) fc.nd rfl (Or.inl rfl))
      (ar (aY (j6 (fm (ay O_is_met (hr.mono (by decide)) rfl (aa (pv 4) (aa (pv 1) af)))))
      (ah (aH (i:=5) fc.nd rfl (Or.inl rfl) (aF aO (pv 4) ai (fun _ _=>rfl)))
      (ah (cg (ay O_widened (hr.mono (by decide)) rfl (aa (aF bH (pv 1) (pv 5) (fun _ _=>rfl)) (aa (aF aO (pv 4) ai (fun _ _=>rfl)) af))) (eQ (pv 1) (pv 5) set_list))
      (ar (cg dE (eQ (pv 2) (pv 5) set_list)))))
      aR)))))))
      (ar (aC (bh bL rfl Z.tuple cJ (aa (pv 1) af))))))))),?_⟩
    obtain⟨pp,pvs,rfl,hpp,rpv⟩:=bC.cn hp
    have hpl:pvs.length=ps.length:=by rw [rpv.len,List.length_map]
    refine⟨pD,fun p0 n0=>?_⟩
    have s0:=ao.new (o:=.lst [.aS]) n0
    refine⟨_,rfl,pp,_,rfl,.inr (aw.of (s0 _ _ hpp)),p0,_,_,rfl,rfl,ae,(by omega),(by omega),?_,fun tl ntl=>?_⟩
    · show 1 * _<=_
      exact Nat.le_of_lt (bD (by omega))
    have e1:(List.replicate ((pvs.length:Int)).toNat [V.aS]).flatten=List.replicate ps.length V.aS:=by rw [hpl,Int.toNat_natCast,List.flatten_replicate_singleton]
    have s1:=s0.trans (ao.new (o:=.lst (List.replicate ((pvs.length:Int)).toNat [V.aS]).flatten) ntl)
    have htl1:(upd (upd H p0 (.lst [.aS])) tl (.lst (List.replicate ((pvs.length:Int)).toNat [V.aS]).flatten)) tl=some (.lst (List.replicate ps.length V.aS)):=by rw [ae,e1]
    have ntl0:H tl=none:=s0.free ntl
    generalize (upd (upd H p0 (.lst [.aS])) tl (.lst (List.replicate ((pvs.length:Int)).toNat [V.aS]).flatten))=H1 at s1 htl1
    refine dm ?_
    refine⟨pD,fun p1 n1=>?_⟩
    have s1b:=ao.new (o:=.lst [.bl false]) n1
    refine⟨_,rfl,pp,_,rfl,.inr (aw.of (s1b _ _ (s1 _ _ hpp))),p1,_,_,rfl,rfl,ae,(by omega),(by omega),?_,fun wl nwl=>?_⟩
    · show 1 * _<=_
      exact Nat.le_of_lt (bD (by omega))
    have e2:(List.replicate ((pvs.length:Int)).toNat [V.bl false]).flatten=(List.replicate ps.length false).map V.bl:=by rw [hpl,Int.toNat_natCast,List.flatten_replicate_singleton,List.map_replicate]
    have s2:=s1b.trans (ao.new (o:=.lst (List.replicate ((pvs.length:Int)).toNat [V.bl false]).flatten) nwl)
    have hwl2:(upd (upd H1 p1 (.lst [.bl false])) wl (.lst (List.replicate ((pvs.length:Int)).toNat [V.bl false]).flatten)) wl=some (.lst ((List.replicate ps.length false).map V.bl)):=by rw [ae,e2]
    have nwl1:H1 wl=none:=s1b.free nwl
    have nwl0:H wl=none:=s1.free nwl1
    have ntw:tl ≠ wl:=aT htl1 nwl1
    have s02:=s1.trans s2
    have htl2:=s2 _ _ htl1
    generalize (upd (upd H1 p1 (.lst [.bl false])) wl (.lst (List.replicate ((pvs.length:Int)).toNat [V.bl false]).flatten))=H2 at s2 hwl2 s02 htl2
    refine dm ?_
    refine⟨_,rfl,.ref pp,ps,xs,m,rfl,hp.same s02 (cw ps),ok,(by omega),hal,fun sv ss H3 rsv hperm hsort s3=>?_⟩
    have htl3:=s3 _ _ htl2
    have hwl3:=s3 _ _ hwl2
    have fs:FV H3 sv (startT ps):=(we hperm hsort).fv rsv
    refine⟨_,rfl,tl,_,0,0,rfl,rfl,htl3,eB (by rw [List.length_replicate];exact hp0),?_⟩
    refine⟨_,rfl,wl,_,0,0,rfl,rfl,(by rw [av ntw.symm];exact hwl3),eB (by rw [List.length_map,List.length_replicate];exact hp0),?_⟩
    rw [nI]
    have kt:∀ p zs,H3 p=some (.tup zs)->(upd (upd H3 tl (.lst ((List.replicate ps.length V.aS).set 0 sv))) wl (.lst (((List.replicate ps.length false).set 0 true).map V.bl))) p=some (.tup zs):=fun p zs e=>by
      rw [av (bQ e hwl3 (by intro z;cases z)),av (bQ e htl3 (by intro z;cases z))];exact e
    have bv4:bJ (upd (upd H3 tl (.lst ((List.replicate ps.length V.aS).set 0 sv))) wl (.lst (((List.replicate ps.length false).set 0 true).map V.bl))) ((List.replicate ps.length V.aS).set 0 sv) ((List.replicate ps.length none).set 0 (some (startT ps))) :=
      iC (F:=BV _) (show BV _ sv (some (startT ps)) from FV.aI fs kt) 0 (qw _)
    have htl4:(upd (upd H3 tl (.lst ((List.replicate ps.length V.aS).set 0 sv))) wl (.lst (((List.replicate ps.length false).set 0 true).map V.bl))) tl=some (.lst ((List.replicate ps.length V.aS).set 0 sv)):=by rw [av ntw,ae]
    have hwl4:(upd (upd H3 tl (.lst ((List.replicate ps.length V.aS).set 0 sv))) wl (.lst (((List.replicate ps.length false).set 0 true).map V.bl))) wl=some (.lst (((List.replicate ps.length false).set 0 true).map V.bl)):=ae
    have s04:ao H (upd (upd H3 tl (.lst ((List.replicate ps.length V.aS).set 0 sv))) wl (.lst (((List.replicate ps.length false).set 0 true).map V.bl))):=((s02.trans s3).put ntl0).put nwl0
    generalize (upd (upd H3 tl (.lst ((List.replicate ps.length V.aS).set 0 sv))) wl (.lst (((List.replicate ps.length false).set 0 true).map V.bl)))=H4 at bv4 htl4 hwl4 s04
    clear kt fs htl3 hwl3 rsv s3
    have bc:∀ {tab:cF},TabOk xs tab->∀ T,some T ∈ tab->fW T 63:=fun {tab} h T hT=>fun ss a b=>Nat.le_trans ((h T hT).bc ss a b) (by omega)
    refine⟨fun mm σ H'=>∃ (us:List V) (tab:cF) (bs:List Bool) (u1 u2 u3:Option V),σ = [some (.ref pp),some (.ref tl),some (.ref wl),u1,u2,u3]/\H' tl=some (.lst us)/\bJ H' us tab/\H' wl=some (.lst (bs.map V.bl))/\fA xs ps tab bs none/\mm=jA xs tab * (ps.length+1)+jP bs/\ao H H',⟨_,_,_,_,_,_,_,rfl,htl4,bv4,hwl4,fA.start hp0 (wg ok) (qR ps),rfl,s04⟩,?_⟩
    rintro mm σ H5 ⟨us,tab,bs,u1,u2,u3,rfl,htl5,bv5,hwl5,I5,rfl,s5⟩
    refine⟨_,rfl,wl,_,rfl,.inl (aU.of hwl5),rfl,lY bs,_,rfl,?_⟩
    have hin:pd (V.bl true) (bs.map V.bl)=decide (true ∈ bs):=uX true bs
    by_cases ht:true ∈ bs
    · refine cb (by show pd (V.bl true) (bs.map V.bl)=true;rw [hin];exact decide_eq_true ht) ?_
      obtain⟨at_,ha1,ha2⟩:=mT ht
      have hal:at_ < ps.length:=by rw [<-I5.jl];exact (List.getElem?_eq_some_iff.mp ha1).1
      refine⟨fun σ' H'=>∃ (us:List V) (tab':cF) (bs':List Bool) (u1 u2 u3:Option V),σ' = [some (.ref pp),some (.ref tl),some (.ref wl),u1,u2,u3]/\H' tl=some (.lst us)/\bJ H' us tab'/\H' wl=some (.lst (bs'.map V.bl))/\fA xs ps tab' bs' none/\((tab' = tab/\bs' = bs.set at_ false)\/jA xs tab' < jA xs tab)/\ao H H',fun σ' H' h=>?_,?_⟩
      · obtain⟨us',tab',bs',v1,v2,v3,rfl,a1,a2,a3,a4,a5,a6⟩:=h
        refine⟨_,?_,us',tab',bs',v1,v2,v3,rfl,a1,a2,a3,a4,rfl,a6⟩
        rcases a5 with ⟨rfl,rfl⟩ | a5
        · have:=oy bs at_ ha1
          omega
        · have h1:=qu bs'
          rw [a4.jl] at h1
          have h2:(jA xs tab' + 1) * (ps.length+1)<=jA xs tab * (ps.length+1):=Nat.mul_le_mul_right _ a5
          rw [Nat.succ_mul] at h2
          omega
      refine⟨_,rfl,.inl ⟨rfl,_,aU.of hwl5⟩,wl,_,.bl true,.bl true,at_,rfl,rfl,hwl5,rfl,lY bs,(by rw [List.getElem?_map,ha1];rfl),rfl,(fun j z hj hz=>by rw [List.getElem?_map,ha2 j hj] at hz;cases hz;rfl),?_⟩
      refine⟨_,rfl,_,rfl,wl,_,_,at_,rfl,rfl,hwl5,eB (by rw [List.length_map,I5.jl];exact hal),?_⟩
      rw [nI]
      have I6:=I5.off ha1
      have htl6:(upd H5 wl (.lst ((bs.set at_ false).map V.bl))) tl=some (.lst us):=by rw [av ntw];exact htl5
      have hwl6:(upd H5 wl (.lst ((bs.set at_ false).map V.bl))) wl=some (.lst ((bs.set at_ false).map V.bl)):=ae
      have bv6:bJ (upd H5 wl (.lst ((bs.set at_ false).map V.bl))) us tab:=bJ.aI (fun p zs e=>by rw [av (bQ e hwl5 (by intro z;cases z))];exact e) bv5
      have s6:ao H (upd H5 wl (.lst ((bs.set at_ false).map V.bl))):=s5.put nwl0
      generalize (upd H5 wl (.lst ((bs.set at_ false).map V.bl)))=H6 at htl6 hwl6 bv6 s6
      obtain⟨T,hT⟩:=I5.wait at_ ha1
      obtain⟨ev,hev,bo⟩:=fz bv6 hT
      have bo:FV H6 ev T:=bo
      have tok:=I5.ok T (List.mem_of_getElem? hT)
      have hpi:ps[at_]? = some ps[at_]:=by simp [hal]
      generalize ps[at_] = pce at hpi
      obtain⟨ds,e⟩:=pce
      have rp6:=hp.same s6 (cw ps)
      obtain⟨p',xs',pc,da,ea,ws,ep,e1',el',hx',e2',e3',r3,e4⟩:=jL rp6 hpi
      cases ep
      rw [s6 _ _ hpp] at e1'
      cases e1'
      have hm:=List.mem_of_getElem? hpi
      have dok:=(ok.jH _ hm).2
      have eok:=ok.ends _ hm
      refine⟨_,rfl,_,rfl,tl,_,_,_,rfl,rfl,aU.of htl6,bE hev,_,rfl,_,rfl,pp,_,_,_,rfl,rfl,aw.of (s6 _ _ hpp),bE hx',ev,pc,da,ea,ws,ds,e,T,xs,rfl,bo,e2',e3',r3,e4,tok,dok,h62,fun lt lvs H7 hlt hlv s7=>?_⟩
      have hlok:∀ ld ∈ df (cE T ds) e,ld.1 < ps.length/\cy xs ld.2:=fun ld h=>nG (tok.nF dok) eok ld h
      generalize hls:df (cE T ds) e=ls at hlv hlok
      have htl7:=s7 _ _ htl6
      have hwl7:=s7 _ _ hwl6
      have bv7:=bJ.same bv6 s7
      have s07:=s6.trans s7
      have nlt:lt ≠ tl:=bQ hlt htl7 (by intro z;cases z)
      have nlw:lt ≠ wl:=bQ hlt hwl7 (by intro z;cases z)
      refine⟨lt,rfl,⟨_,aw.of hlt⟩,?_⟩
      refine iF (K:=K) (a:=lt) (xs:=lvs) (fun j σ H'=>∃ (us':List V) (tab':cF) (bs':List Bool) (u4 u5:Option V),σ = [some (.ref pp),some (.ref tl),some (.ref wl),some (.int (at_:Nat)),u4,u5]/\H' tl=some (.lst us')/\bJ H' us' tab'/\H' wl=some (.lst (bs'.map V.bl))/\fA xs ps tab' bs' (some at_)/\(∀ ld ∈ ls.take j,Met tab' ld)/\(bs'[at_]? = some false->tab'[at_]? = some (some T))/\((tab' = tab/\bs' = bs.set at_ false)\/jA xs tab' < jA xs tab)/\(∀ p zs,H7 p=some (.tup zs)->H' p=some (.tup zs))/\ao H H') ?_ ?_ ?_ ?_
      · exact⟨us,tab,bs.set at_ false,_,_,rfl,htl7,bv7,hwl7,I6,(fun ld h=>by simp at h),(fun _=>hT),.inl ⟨rfl,rfl⟩,(fun p zs e=>e),s07⟩
      · rintro j σ H8 hj ⟨us',tab',bs',u4,u5,rfl,g1,g2,g3,g4,g5,g6,g7,g8,g9⟩
        exact aw.of (g8 _ _ hlt)
      · rintro j x σ H8 hx ⟨us',tab',bs',u4,u5,rfl,g1,g2,g3,g4,g5,g6,g7,g8,g9⟩
        obtain⟨ld,hld,pv⟩:=L2.ip hlv hx
        obtain⟨hk,hU⟩:=hlok ld (List.mem_of_getElem? hld)
        have pv8:=PV.aI pv g8
        obtain⟨k,U⟩:=ld
        have hk:k < ps.length:=hk
        have hU:cy xs U:=hU
        have htk:ls.take (j+1)=ls.take j ++ [(k,U)]:=by rw [List.take_add_one,hld];rfl
        have hkt:k < tab'.length:=by rw [g4.len];exact hk
        refine dm ?_
        refine⟨_,rfl,_,rfl,x,tl,us',tab',k,U,rfl,pv8,.inl g1,g2,hkt,bc g4.ok,fun b H9 hb9 s9=>⟨_,rfl,?_⟩⟩
        cases b with
        | true =>
          refine aV rfl ?_
          refine⟨us',tab',bs',_,_,rfl,s9 _ _ g1,bJ.same g2 s9,s9 _ _ g3,g4,fun ld h=>?_,g6,g7,(fun p zs e=>s9 _ _ (g8 p zs e)),g9.trans s9⟩
          rw [htk] at h
          rcases List.mem_append.mp h with h | h
          · exact g5 ld h
          · rw [List.mem_singleton.mp h];exact hb9.mp rfl
        | false =>
          refine cb rfl ?_
          obtain⟨lq,u,rfl,hlq,hu⟩:=PV.aI pv8 fun p zs e=>s9 _ _ e
          have hlq:H9 lq=some (.tup [.int (k:Nat),u]):=hlq
          have hu:FV H9 u U:=hu
          have nm:¬ Met tab' (k,U):=fun h=>by have:=hb9.mpr h;cases this
          have aN:tab'[k]? = some tab'[k]:=by simp [hkt]
          generalize tab'[k] = o at aN
          obtain⟨ev2,hev2,bo2⟩:=fz g2 aN
          have bo2:=BV.same bo2 s9
          have htl9:=s9 _ _ g1
          refine⟨_,rfl,lq,_,0,_,rfl,rfl,aw.of hlq,bP,?_⟩
          refine⟨_,rfl,_,rfl,tl,_,_,_,rfl,rfl,aU.of htl9,bE hev2,_,rfl,lq,_,1,_,rfl,rfl,aw.of hlq,cv,ev2,u,o,U,rfl,bo2,hu,(fun T h=>bc g4.ok T (h ▸ List.mem_of_getElem? aN)),(fun ss a b=>Nat.le_trans (hU.bc ss a b) (by omega)),fun v H10 f10 s10=>?_⟩
          have htl10:=s10 _ _ htl9
          have hwl10:=s10 _ _ (s9 _ _ g3)
          have hul:=dY g2
          refine⟨_,rfl,_,rfl,tl,_,_,k,rfl,rfl,htl10,eB (by rw [hul];exact hkt),?_⟩
          refine⟨_,rfl,_,rfl,wl,_,_,k,rfl,rfl,(by rw [av ntw.symm];exact hwl10),eB (by rw [List.length_map,g4.jl];exact hk),?_⟩
          rw [nI]
          have kt:∀ p zs,H10 p=some (.tup zs)->(upd (upd H10 tl (.lst (us'.set k v))) wl (.lst ((bs'.set k true).map V.bl))) p=some (.tup zs):=fun p zs e=>by
            rw [av (bQ e hwl10 (by intro z;cases z)),av (bQ e htl10 (by intro z;cases z))];exact e
          have pw:=xQ (xs:=xs) aN (fun T h=>g4.ok T (h ▸ List.mem_of_getElem? aN)) nm
          refine⟨us'.set k v,tab'.set k (some (i3 o U)),bs'.set k true,_,_,rfl,(by rw [av ntw,ae]),?_,ae,g4.put aN hU,fun ld h=>?_,fun h=>?_,.inr ?_,(fun p zs e=>kt p zs (s10 _ _ (s9 _ _ (g8 p zs e)))),(((g9.trans s9).trans s10).put ntl0).put nwl0⟩
          · exact iC (F:=BV _) (show BV _ v (some (i3 o U)) from FV.aI f10 kt) k (bJ.aI kt (bJ.same (bJ.same g2 s9) s10))
          · rw [htk] at h
            rcases List.mem_append.mp h with h | h
            · exact (g5 ld h).up aN
            · rw [List.mem_singleton.mp h];exact Met.new aN
          · by_cases ek:k=at_
            · subst ek
              rw [List.getElem?_set_self (by rw [g4.jl];exact hk)] at h
              cases h
            · rw [List.getElem?_set_ne ek] at h ⊢
              exact g6 h
          · rcases g7 with ⟨rfl,_⟩ | g7
            · exact pw
            · omega
      · rintro σ H8 ⟨us',tab',bs',u4,u5,rfl,g1,g2,g3,g4,g5,g6,g7,g8,g9⟩
        have hll:=dY hlv
        rw [hll,List.take_of_length_le (Nat.le_refl _),<-hls] at g5
        exact⟨us',tab',bs',_,_,_,rfl,g1,g2,g3,g4.on hpi g6 g5,g7,g9⟩
    · refine aV (by show pd (V.bl true) (bs.map V.bl)=false;rw [hin];exact decide_eq_false ht) ?_
      refine⟨_,rfl,tl,_,rfl,.inl ⟨aU.of htl5,fun t nt=>?_⟩⟩
      exact q t us tab _ ae (bJ.same bv5 (ao.new nt)) I5.ok (I5.yY ht) (s5.trans (ao.new nt))
theorem tJ {f:Addr} {fd:FuncData} (F:bX K "_law_bag" "_law_bag" gy f fd) (Z:Bl mg)  : bB P w K mg base bT 1 f fd ["script", "k"] (sH K):=by
 refine F.ok (k:=0) jT (fun vs H Q E h=>?_) (fun cdv A outer s H vs Q E hr h=>?_)
 ·obtain⟨a,ns,k,rfl,_⟩:=h
  rfl
 ·obtain⟨a,ns,k,rfl,hS,hk,q⟩:=h
  refine⟨_,(ah (aH (i:=2) jT.nd rfl (Or.inl rfl) ai)
   (ah (aY (aJ i4 (pv 1) (ba br rfl Z.len cI (aa (pv 0) af)) (aK _))
   (ar (aH (i:=2) jT.nd rfl (Or.inl rfl) (aZ iR (aF bH (pv 0) (pv 1) (fun _ _=>rfl)) (aZ xp (aZ mw ai ai) (aZ mw ai ai)))))
   aR)
   (ah (aY (aJ i4 (pv 2) (aZ mw ai ai) (aK _))
   (ar (aC (cu (aa ai (aa (aZ cH ai (aZ iR (aZ cH (aZ iQ (pv 2) ai) (aZ iQ ai (pv 1))) ai)) af)))))
   aR)
   (ar (aC (cu (aa (pv 2) (aa (aZ cH ai (aZ iR (aZ cH (pv 2) (pv 1)) ai)) af)))))))),?_⟩
  refine⟨_,rfl,_,rfl,_,_,rfl,.inl hS,_,_,rfl,rfl,_,rfl,?_⟩
  refine cA (fun hc=>?_) (fun hc=>?_)
  ·have hl:k < ((ns.map V.int).length:Nat):=of_decide_eq_true hc
   obtain⟨v,hv,hm⟩:=sG hk hl
   obtain⟨z,_,rfl⟩:=List.mem_map.mp hm
   refine⟨_,rfl,_,rfl,_,_,_,_,rfl,rfl,hS,hv,10,60,rfl,rfl,⟨by decide,by decide,by decide⟩,10,60,rfl,rfl,⟨by decide,by decide,by decide⟩,_,_,rfl,rfl,(by unfold IntMulOk;decide +kernel),_,_,rfl,rfl,(show (0:Int) < 10 ^ (60:Int).toNat * 10 ^ (60:Int).toNat by decide +kernel),?_⟩
   refine⟨_,rfl,10,18,rfl,rfl,⟨by decide,by decide,by decide⟩,_,_,rfl,rfl,_,rfl,?_⟩
   refine cA (fun hd=>?_) (fun hd=>?_)
   ·refine⟨_,rfl,_,_,rfl,rfl,.inr ⟨by decide,by decide⟩,_,rfl,_,_,rfl,rfl,.inl ⟨by decide,by decide⟩,_,_,rfl,rfl,_,_,rfl,rfl,(show (0:Int) < 2147483646 by decide),_,_,rfl,rfl,ln2,fun p hp=>?_⟩
    exact q p _ hp ⟨_,_,ae,by omega,by omega⟩ (ao.new hp)
   ·refine⟨_,rfl,_,rfl,_,rfl,_,_,rfl,rfl,_,_,rfl,rfl,(show (0:Int) < 2147483646 by decide),_,_,rfl,rfl,ln2,fun p hp=>?_⟩
    exact q p _ hp ⟨_,_,ae,by omega,by omega⟩ (ao.new hp)
  ·refine⟨_,rfl,10,18,rfl,rfl,⟨by decide,by decide,by decide⟩,_,_,rfl,rfl,_,rfl,?_⟩
   refine cA (fun hd=>?_) (fun hd=>?_)
   ·refine⟨_,rfl,_,_,rfl,rfl,.inr ⟨by decide,by decide⟩,_,rfl,_,_,rfl,rfl,.inl ⟨by decide,by decide⟩,_,_,rfl,rfl,_,_,rfl,rfl,(show (0:Int) < 2147483646 by decide),_,_,rfl,rfl,ln2,fun p hp=>?_⟩
    exact q p _ hp ⟨_,_,ae,by omega,by omega⟩ (ao.new hp)
   ·refine⟨_,rfl,_,rfl,_,rfl,_,_,rfl,rfl,_,_,rfl,rfl,(show (0:Int) < 2147483646 by decide),_,_,rfl,rfl,ln2,fun p hp=>?_⟩
    exact q p _ hp ⟨_,_,ae,by omega,by omega⟩ (ao.new hp)
theorem qY {f:Addr} {fd:FuncData} (F:bX K "_law_take" "_law_take" fO f fd) (Z:Bl mg)  : bB P w K mg base bT 1 f fd ["bag", "many"] eU:=by
 refine F.ok (k:=0) lK (fun vs H Q E h=>?_) (fun cdv A outer s H vs Q E hr h=>?_)
 ·obtain⟨b,m,rfl,_⟩:=h
  rfl
 ·obtain⟨b,m,rfl,⟨x,y,hb,h0,h1⟩,hm,q⟩:=h
  refine⟨_,(ah (aY (aJ kH (aF bH (pv 0) ai (fun _ _=>rfl)) ai (aK _))
   (ah (aH (i:=2) lK.nd rfl (Or.inl rfl) (aZ iR (aF bH (pv 0) ai (fun _ _=>rfl)) (pv 1)))
   (ah (cg (aZ vA (aF bH (pv 0) ai (fun _ _=>rfl)) (pv 1)) (eQ (pv 0) ai set_list))
   (ar (aC (pv 2)))))
   aR)
   (ah (cg (aZ iR (aZ iQ (aF bH (pv 0) ai (fun _ _=>rfl)) ai) ai) (eQ (pv 0) ai set_list))
   (ar (aC (aZ iR (aZ rF (aZ iR (aZ iQ (aF bH (pv 0) ai (fun _ _=>rfl)) (aF bH (pv 0) ai (fun _ _=>rfl))) ai) ai) (pv 1)))))),?_⟩
  refine⟨_,rfl,b,_,0,_,rfl,rfl,aU.of hb,bP,_,_,rfl,rfl,_,rfl,?_⟩
  refine cA (fun hc=>?_) (fun hc=>?_)
  ·refine⟨_,rfl,b,_,0,_,rfl,rfl,aU.of hb,bP,_,rfl,_,_,rfl,rfl,hm.1,?_⟩
   refine⟨_,rfl,b,_,0,_,rfl,rfl,aU.of hb,bP,_,rfl,_,_,rfl,rfl,hm,_,rfl,b,_,0,0,rfl,rfl,hb,rfl,?_⟩
   refine⟨_,rfl,?_⟩
   exact q _ _ (Int.emod_nonneg _ (by have:=hm.1;omega)) (Int.emod_lt_of_pos _ hm.1) ⟨_,_,ae,h0,h1⟩ Fix.wX
  ·refine⟨_,rfl,b,_,1,_,rfl,rfl,aU.of hb,cv,_,_,rfl,rfl,.inr ⟨by decide,by decide⟩,_,_,rfl,rfl,(show (0:Int) < 2147483647 by decide),_,rfl,b,_,1,1,rfl,rfl,hb,rfl,?_⟩
   refine⟨_,rfl,b,_,1,_,rfl,rfl,aU.of ae,cv,_,rfl,b,_,1,_,rfl,rfl,aU.of ae,cv,_,_,rfl,rfl,.inl ⟨by omega,by omega⟩,_,_,rfl,rfl,(show (0:Int) < 2147483629 by decide),_,_,rfl,rfl,⟨by decide,by decide⟩,_,rfl,_,_,rfl,rfl,hm.1,?_⟩
   exact q _ _ (Int.emod_nonneg _ (by have:=hm.1;omega)) (Int.emod_lt_of_pos _ hm.1) ⟨_,_,ae,by omega,by omega⟩ Fix.wX
theorem qF {f:Addr} {fd:FuncData} (F:bX K "_law_names" "_law_names" fe f fd) (Z:Bl mg) (O_law_take:Own P w K mg base "_law_take" 1 ["bag", "many"] eU):bB P w K mg base bT 2 f fd ["bag"] m9:=by
  refine F.ok (k:=1) cW (fun vs H Q E h=>?_) (fun cdv A outer s H vs Q E hr h=>?_)
  · obtain⟨b,rfl,_⟩:=h
    rfl
  · obtain⟨b,rfl,hB,q⟩:=h
    refine⟨_,(ah (aH (i:=1) cW.nd rfl (Or.inr rfl) bp)
      (ah (aH (i:=2) cW.nd rfl (Or.inl rfl) (aZ cH ai (ay O_law_take (hr.mono (by decide)) rfl (aa (pv 0) (aa ai af)))))
      (ah (pH (i:=3) ["k"] ["letters", "bag"] [1,0] rfl cW.nd rfl rfl rfl (eG rfl Z.range (aa (aZ cH ai (ay O_law_take (hr.mono (by decide)) rfl (aa (pv 0) (aa ai af)))) af)) rfl (by decide +kernel) (by decide +kernel) (by decide +kernel) ⟨⟨rfl,.inl rfl,rfl⟩,⟨⟨rfl,.inl rfl,rfl⟩,True.intro⟩⟩ (fun _ _ _ _=>(aB (i:=0) (show ((["k"]:List Str)++(["letters", "bag"]:List Str)).Nodup by decide +kernel) rfl (Or.inl rfl) (hf:=Or.inr rfl))) (fun _ _ _ _=>du) (fun _ _ _ _=>(aF tZ (pv 1) (ay O_law_take (hr.mono (by decide)) rfl (aa (pv 2) (aa ai af))) (fun _ _=>rfl))))
      (ah (aH (i:=4) cW.nd rfl (Or.inl rfl) (ay O_law_take (hr.mono (by decide)) rfl (aa (pv 0) (aa (ba br rfl Z.len cI (aa (pv 3) af)) af))))
      (ah (aH (i:=5) cW.nd rfl (Or.inl rfl) (cu af))
      (ah (eR PassesOwn.never rfl (eG rfl Z.range (aa (pv 2) af)) (aB (i:=6) cW.nd rfl (Or.inl rfl))
      (ah (aH (i:=7) cW.nd rfl (Or.inl rfl) (bh kd rfl Z.list rM (aa (pv 3) af)))
      (ah (cg (aF tZ (pv 1) (ay O_law_take (hr.mono (by decide)) rfl (aa (pv 0) (aa ai af))) (fun _ _=>rfl)) (eQ (pv 7) (pv 4) set_list))
      (ar (aY (aJ ph (gF PySem.F.plainAttrs_str PySem.F.slot_str_join PySem.F.type_str_join rP bp (aa (pv 7) af)) (pv 5) (by with_unfolding_all rfl))
      (ar (eY (gF PySem.F.plainAttrs_list PySem.F.slot_list_append PySem.F.type_list_append ie (pv 5) (aa (gF PySem.F.plainAttrs_str PySem.F.slot_str_join PySem.F.type_str_join rP bp (aa (pv 7) af)) af))))
      aR)))))
      (ar (aC (pv 5))))))))),?_⟩
    refine⟨_,rfl,b,4,rfl,hB,⟨by decide,by decide +kernel⟩,fun m H1 m0 m1 B1 X1=>⟨_,_,rfl,rfl,?_⟩⟩
    refine⟨_,rfl,b,8,rfl,B1,⟨by decide,by decide +kernel⟩,fun k H2 k0 k1 B2 X2=>⟨_,_,rfl,rfl,_,rfl,(by omega),(by omega),fun acc na=>?_⟩⟩
    refine lO (lo:=0) (fun i ys τ H'=>∃ (v:Option V) (cs:List Nat),τ = [v,some (.str mE),some (.ref b)]/\ys=(cs.map one).map V.str/\cs.length=i/\(∀ c ∈ cs,97<=c/\c<=122)/\H' acc=some (.lst ys)/\bR H' b/\Fix b H2 H') ?_ ?_ ?_ ?_
    · exact⟨none,[],rfl,rfl,rfl,(fun _ h=>nomatch h),ae,B2.new na,Fix.new na⟩
    · rintro i ys τ H' hi ⟨v,cs,rfl,rfl,hl,_,ha,_⟩
      refine⟨ha,?_⟩
      rw [List.length_map,List.length_map]
      exact bD (by omega)
    · rintro i ys τ H' hi ⟨v,cs,rfl,rfl,hl,hc,ha,B',X'⟩
      refine dm ?_
      refine iX ?_
      refine bA ?_
      refine⟨_,rfl,_,rfl,b,26,rfl,B',⟨by decide,by decide +kernel⟩,fun r H3 r0 r1 B3 X3=>?_⟩
      obtain⟨c,hat,c0,c1⟩:=ue r0 r1
      have hab:acc ≠ b:=B2.dU na
      have ha3:=X3 acc _ ha hab
      refine⟨mE,r,c,rfl,rfl,rQ,hat,ha3,_,cs ++ [c],rfl,?_,?_,?_,ae,?_,?_⟩
      · rw [List.map_append,List.map_append];rfl
      · rw [List.length_append,hl];rfl
      · intro d hd
        rcases List.mem_append.mp hd with hd | hd
        · exact hc d hd
        · rw [List.mem_singleton.mp hd];exact⟨c0,c1⟩
      · obtain⟨x,y,e,z⟩:=B3
        exact⟨x,y,by rw [av hab.symm];exact e,z⟩
      · intro d o hd nd
        rw [av (aT hd na)]
        exact (X'.trans X3) d o hd nd
    · rintro ys τ H3 ⟨v,cs,rfl,rfl,hl,hc,ha,B3,X3⟩
      have hab:acc ≠ b:=B2.dU na
      have hl1:1<=cs.length:=by omega
      have hl8:cs.length<=8:=by omega
      have F3:Fix b H H3:=(X1.trans X2).trans X3
      have el:(((cs.map one).map V.str).length:Int)=cs.length:=by simp
      refine⟨_,rfl,_,rfl,acc,_,rfl,.inl (aU.of ha),b,_,rfl,B3,⟨by omega,eV (by omega) (by omega)⟩,fun at_ H4 t0 t1 B4 X4=>?_⟩
      refine⟨(by show 0<=sizeLine;decide),fun nl nn=>?_⟩
      have hnb:nl ≠ b:=B4.dU nn
      have ha4:H4 acc=some (.lst ((cs.map one).map V.str)):=X4 acc _ ha hab
      have hna:nl ≠ acc:=fun z=>by rw [z,ha4] at nn;cases nn
      have F4:Fix b H H4:=F3.trans X4
      refine⟨_,rfl,_,rfl,(by omega),(by omega),ib (lo:=0) (fun i σ H'=>∃ (u1 u2:Option V) (xs:List Str),σ = [some (.ref b),some (.str mE),some (.int (1+m)),some (.ref acc),some (.int at_),some (.ref nl),u1,u2] /\
        H' nl=some (.lst (xs.map V.str))/\xs.length<=i/\(0 < i->xs ≠ [])/\(∀ x ∈ xs,mC x)/\H' acc=some (.lst ((cs.map one).map V.str))/\bR H' b/\Fix b H H') ?_ ?_ ?_⟩
      · exact⟨_,_,[],rfl,ae,Nat.le_refl _,(fun h=>absurd h (Nat.lt_irrefl _)),(fun _ h=>nomatch h),(by rw [av hna.symm];exact ha4),B4.new nn,F4.trans (Fix.new nn)⟩
      · rintro i σ H' hi ⟨u1,u2,xs,rfl,hn,hx,hx0,aN,ha',B',X'⟩
        refine⟨_,rfl,acc,_,rfl,.inl (aU.of ha'),fun nm mm=>?_⟩
        have nmb:nm ≠ b:=B'.dU mm
        have nma:nm ≠ acc:=fun z=>by rw [z,ha'] at mm;cases mm
        have nmn:nm ≠ nl:=fun z=>by rw [z,hn] at mm;cases mm
        refine⟨_,rfl,_,rfl,b,26,rfl,B'.new mm,⟨by decide,by decide +kernel⟩,fun r H5 r0 r1 B5 X5=>?_⟩
        obtain⟨c,hat,c0,c1⟩:=ue r0 r1
        have h5:H5 nm=some (.lst ((cs.map one).map V.str)):=X5 nm _ ae nmb
        have hn5:H5 nl=some (.lst (xs.map V.str)):=X5 nl _ (by rw [av nmn.symm];exact hn) hnb
        have ha5:H5 acc=some (.lst ((cs.map one).map V.str)):=X5 acc _ (by rw [av nma.symm];exact ha') hab
        obtain⟨j,rfl⟩:∃ j:Nat,at_=j:=⟨at_.toNat,by omega⟩
        have hj:j < cs.length:=by omega
        have hix:kb ((cs.map one).map V.str).length (j:Int)=some j:=by
          unfold kb
          rw [if_pos (by omega),if_pos (by rw [el];omega)]
          simp
        refine⟨mE,r,c,rfl,rfl,rQ,hat,_,rfl,_,rfl,nm,_,(j:Int),j,rfl,rfl,h5,hix,?_⟩
        have eset:((cs.map one).map V.str).set j (.str ⟨#[c]⟩)=((cs.set j c).map one).map V.str:=by
          rw [List.map_set,List.map_set];rfl
        rw [eset]
        have hc':∀ d ∈ cs.set j c,97<=d/\d<=122:=fun d hd=>by
          rcases List.mem_or_eq_of_mem_set hd with hd | hd
          · exact hc d hd
          · rw [hd];exact⟨c0,c1⟩
        have hjl:(((cs.set j c).map one).map (·.length)).sum+((cs.set j c).map one).length * (Str.ofString "").length<=16777216:=by
          have e1:(Str.ofString "").length=0:=by decide +kernel
          have e2:∀ l:List Nat,((l.map one).map (·.length)).sum=l.length:=by
            intro l
            induction l with
            | nil=>rfl
            | cons a l ih=>simp only [List.map_cons,List.sum_cons,ih,List.length_cons];show 1+l.length=_;omega
          rw [e1,e2,List.length_set]
          omega
        have nk:mC (Txt.join (Str.ofString "") ((cs.set j c).map one)):=by
          rw [vB]
          have ej:=L2.join_ones (cs.set j c)
          have eL:(Txt.join Str.empty ((cs.set j c).map one)).length=(cs.set j c).length:=by
            have:=congrArg List.length ej
            rw [Array.length_toList] at this
            exact this
          refine⟨?_,?_,?_⟩
          · rw [eL,List.length_set];exact hl1
          · rw [eL,List.length_set];exact hl8
          · rw [ej];exact hc'
        have n6:upd H5 nm (.lst (((cs.set j c).map one).map V.str)) nl=some (.lst (xs.map V.str)):=by rw [av nmn.symm];exact hn5
        have a6:upd H5 nm (.lst (((cs.set j c).map one).map V.str)) acc=some (.lst ((cs.map one).map V.str)):=by rw [av nma.symm];exact ha5
        have B6:bR (upd H5 nm (.lst (((cs.set j c).map one).map V.str))) b:=by
          obtain⟨x,y,e,z⟩:=B5
          exact⟨x,y,by rw [av nmb.symm];exact e,z⟩
        have F6:Fix b H (upd H5 nm (.lst (((cs.set j c).map one).map V.str))):=fun d o hd nd=>by
          have h1:=X' d o hd nd
          have nd':d ≠ nm:=fun z=>by rw [z,mm] at h1;cases h1
          rw [av nd']
          exact X5 d o (by rw [av nd'];exact h1) nd
        have flat:(xs.map V.str).all gd=true:=by
          rw [List.all_eq_true]
          intro v hv
          obtain⟨x,_,rfl⟩:=List.mem_map.mp hv
          rfl
        refine⟨rfl,_,rfl,_,nm,_,rfl,rfl,aU.of ae,hjl,_,rfl,nl,_,rfl,.inl (aU.of n6),rfl,flat,_,rfl,?_⟩
        refine cA (fun hin=>?_) (fun hin=>?_)
        · refine⟨_,rfl,.inl ⟨rfl,_,aU.of n6⟩,rfl,_,rfl,_,nm,_,rfl,rfl,aU.of ae,hjl,nl,_,_,rfl,rfl,n6,?_,?_⟩
          · rw [List.length_map]
            have:i < 4:=by omega
            exact bD (by omega)
          · refine⟨_,_,xs ++ [_],rfl,(by rw [ae,List.map_append];rfl),(by rw [List.length_append];exact Nat.succ_le_succ hx),(fun _=>by simp),?_,(by rw [av hna.symm];exact a6),?_,?_⟩
            · intro x hxm
              rcases List.mem_append.mp hxm with hxm | hxm
              · exact aN x hxm
              · rw [List.mem_singleton.mp hxm];exact nk
            · obtain⟨x,y,e,z⟩:=B6
              exact⟨x,y,by rw [av hnb.symm];exact e,z⟩
            · intro d o hd nd
              have h1:=F6 d o hd nd
              have nd':d ≠ nl:=fun z=>by
                have h2:=F4 d o hd nd
                rw [z,nn] at h2
                cases h2
              rw [av nd']
              exact h1
        · have hx':xs ≠ []:=by
            intro e
            subst e
            exact hin rfl
          exact⟨_,_,xs,rfl,n6,Nat.le_succ_of_le hx,fun _=>hx',aN,a6,B6,F6⟩
      · rintro σ H' ⟨u1,u2,xs,rfl,hn,hx,hx0,aN,ha',B',X'⟩
        refine⟨_,rfl,?_⟩
        have hm:(1+m).toNat<=4:=by omega
        have hm0:0 < (1+m).toNat:=by omega
        exact q nl xs H' ⟨hn,hnb,hx0 hm0,by omega,aN⟩ (Nat.le_trans hx hm) B' X'
theorem oM {f:Addr} {fd:FuncData} (F:bX K "_law_number" "_law_number" eF f fd) (Z:Bl mg) (O_law_take:Own P w K mg base "_law_take" 1 ["bag", "many"] eU):bB P w K mg base bT 2 f fd ["bag"] iW:=by
  refine F.ok (k:=1) oG (fun vs H Q E h=>?_) (fun cdv A outer s H vs Q E hr h=>?_)
  · obtain⟨b,rfl,_⟩:=h
    rfl
  · obtain⟨b,rfl,hB,q⟩:=h
    refine⟨_,(ah (aY (aJ bG (ay O_law_take (hr.mono (by decide)) rfl (aa (pv 0) (aa ai af))) ai (aK _))
      (ar (aC (aZ iQ (aZ gC (aZ gC (aZ mw ai ai) ai) (ay O_law_take (hr.mono (by decide)) rfl (aa (pv 0) (aa ai af)))) (aZ gC ai (aZ iQ ai (ay O_law_take (hr.mono (by decide)) rfl (aa (pv 0) (aa ai af))))))))
      aR)
      (ar (aC (aZ gC (ay O_law_take (hr.mono (by decide)) rfl (aa (pv 0) (aa ai af))) ai)))),?_⟩
    refine⟨_,rfl,b,8,rfl,hB,⟨by decide,by decide +kernel⟩,fun r H1 r0 r1 B1 X1=>⟨rfl,_,rfl,?_⟩⟩
    refine cA (fun hc=>?_) (fun hc=>?_)
    · refine⟨10,40,rfl,rfl,⟨by decide,by decide,by decide⟩,_,_,rfl,rfl,?_⟩
      refine⟨_,rfl,b,3,rfl,B1,⟨by decide,by decide +kernel⟩,fun r2 H2 r20 r21 B2 X2=>⟨_,_,rfl,rfl,?_⟩⟩
      refine⟨_,rfl,b,2,rfl,B2,⟨by decide,by decide +kernel⟩,fun r3 H3 r30 r31 B3 X3=>?_⟩
      refine⟨_,_,rfl,rfl,.inl ⟨by decide,by decide⟩,_,_,rfl,rfl,_,_,rfl,rfl,.inr ⟨by omega,by omega⟩,?_⟩
      refine q _ H3 ?_ B3 ((X1.trans X2).trans X3)
      have e:(10:Int) ^ (40:Int).toNat=10 ^ 40:=by decide +kernel
      rw [e]
      obtain rfl | rfl:r3=0\/r3=1:=by omega
      · rw [show (1:Int) - 2 * 0=1 by decide,Int.mul_one];unfold jG;omega
      · rw [show (1:Int) - 2 * 1 = -1 by decide,Int.mul_neg,Int.mul_one];unfold jG;omega
    · refine⟨_,rfl,b,8,rfl,B1,⟨by decide,by decide +kernel⟩,fun r2 H2 r20 r21 B2 X2=>⟨_,_,rfl,rfl,?_⟩⟩
      exact q _ H2 (by unfold jG;omega) B2 (X1.trans X2)
theorem qZ {f:Addr} {fd:FuncData} (F:bX K "_law_deed" "_law_deed" fP f fd) (Z:Bl mg) (O_law_take:Own P w K mg base "_law_take" 1 ["bag", "many"] eU) (O_law_number:Own P w K mg base "_law_number" 2 ["bag"] iW):bB P w K mg base bT 3 f fd ["bag", "names"] pK:=by
  refine F.ok (k:=2) jn (fun vs H Q E h=>?_) (fun cdv A outer s H vs Q E hr h=>?_)
  · obtain⟨b,l,xs,rfl,_⟩:=h
    rfl
  · obtain⟨b,l,xs,rfl,hB,hN,q⟩:=h
    refine⟨_,(ah (aH (i:=2) jn.nd rfl (Or.inl rfl) (aF bH (cu (gW bp bp bp bp bp bp bp)) (ay O_law_take (hr.mono (by decide)) rfl (aa (pv 0) (aa ai af))) (fun _ _=>rfl)))
      (ah (aH (i:=3) jn.nd rfl (Or.inl rfl) (aF bH (pv 1) (ay O_law_take (hr.mono (by decide)) rfl (aa (pv 0) (aa (ba br rfl Z.len cI (aa (pv 1) af)) af))) (fun _ _=>rfl)))
      (ah (aY (aJ bG (pv 2) bp (aK _))
      (ar (aC (bg (aa (pv 2) (aa (pv 3) (aa (aF bH (pv 1) (ay O_law_take (hr.mono (by decide)) rfl (aa (pv 0) (aa (ba br rfl Z.len cI (aa (pv 1) af)) af))) (fun _ _=>rfl)) af))))))
      aR)
      (ah (aY (PW.pt (oN (aJ bG (pv 2) bp (aK _)) (mq (aJ bG (pv 2) bp (aK _)))))
      (ar (aC (bg (aa (pv 2) (aa (pv 3) (aa (ay O_law_number (hr.mono (by decide)) rfl (aa (pv 0) af)) af))))))
      aR)
      (ar (aC (bg (aa (pv 2) (aa (pv 3) af))))))))),?_⟩
    refine⟨ke,fun l0 m0=>?_⟩
    refine⟨_,rfl,b,7,rfl,hB.new m0,⟨by decide,by decide +kernel⟩,fun r H1 r0 r1 B1 X1=>?_⟩
    have h0:H1 l0=some (.lst [.str "put",.str "copy",.str "add",.str "read",.str "tell",.str "tell",.str "add"]):=X1 l0 _ ae (hB.dU m0)
    have F1:Fix b H H1:=(Fix.new m0).trans X1
    have N1:=hN.fix F1
    have hw:∃ w:Str,(w = "put" \/ w = "copy" \/ w = "add" \/ w = "read" \/ w = "tell")/\fo [V.str "put",.str "copy",.str "add",.str "read",.str "tell",.str "tell",.str "add"] r=some (V.str w):=by
      obtain rfl | rfl | rfl | rfl | rfl | rfl | rfl:r=0\/r=1\/r=2\/r=3\/r=4\/r=5\/r=6:=by omega
      · exact⟨_,.inl rfl,bE (j:=0) rfl⟩
      · exact⟨_,.inr (.inl rfl),bE (j:=1) rfl⟩
      · exact⟨_,.inr (.inr (.inl rfl)),bE (j:=2) rfl⟩
      · exact⟨_,.inr (.inr (.inr (.inl rfl))),bE (j:=3) rfl⟩
      · exact⟨_,.inr (.inr (.inr (.inr rfl))),bE (j:=4) rfl⟩
      · exact⟨_,.inr (.inr (.inr (.inr rfl))),bE (j:=5) rfl⟩
      · exact⟨_,.inr (.inr (.inl rfl)),bE (j:=6) rfl⟩
    obtain⟨w,hw,hat⟩:=hw
    refine⟨l0,_,r,_,rfl,rfl,aU.of h0,hat,?_⟩
    obtain⟨p0,p1⟩:=N1.pos
    refine⟨_,rfl,_,rfl,_,rfl,l,_,rfl,.inl (aU.of N1.at_),b,_,rfl,B1,⟨p0,eV p0 p1⟩,fun r2 H2 r20 r21 B2 X2=>?_⟩
    have N2:=N1.fix X2
    obtain⟨x,hx,hxm⟩:=jJ r20 r21
    refine⟨l,_,r2,_,rfl,rfl,aU.of N2.at_,hx,?_⟩
    refine⟨_,rfl,rfl,_,rfl,?_⟩
    rcases hw with rfl | rfl | rfl | rfl | rfl
    ·
      rw [show decide (V.str "put" = V.str "copy")=false by decide +kernel]
      refine bw ⟨_,rfl,rfl,_,rfl,?_⟩
      rw [show decide (V.str "put" = V.str "put")=true by decide +kernel]
      refine bA (bA ⟨_,rfl,_,rfl,_,rfl,b,rfl,B2,fun n H3 nk B3 X3=>⟨pE,fun t mt=>?_⟩⟩)
      exact q _ (.put x n) _ (.tup ae (.cons (.str _) (.cons (.str _) (.cons (.int _) .nil)))) ⟨hxm,nk⟩ (B3.new mt) (((F1.trans X2).trans X3).trans (Fix.new mt))
    ·
      rw [show decide (V.str "copy" = V.str "copy")=true by decide +kernel]
      obtain⟨p0,p1⟩:=N2.pos
      refine bA ⟨_,rfl,_,rfl,_,rfl,_,rfl,_,rfl,l,_,rfl,.inl (aU.of N2.at_),b,_,rfl,B2,⟨p0,eV p0 p1⟩,fun r3 H3 r30 r31 B3 X3=>?_⟩
      have N3:=N2.fix X3
      obtain⟨y,hy,hym⟩:=jJ r30 r31
      refine⟨l,_,r3,_,rfl,rfl,aU.of N3.at_,hy,pE,fun t mt=>?_⟩
      exact q _ (.copy x y) _ (.tup ae (.cons (.str _) (.cons (.str _) (.cons (.str _) .nil)))) ⟨hxm,hym⟩ (B3.new mt) (((F1.trans X2).trans X3).trans (Fix.new mt))
    ·
      rw [show decide (V.str "add" = V.str "copy")=false by decide +kernel]
      refine bw ⟨_,rfl,rfl,_,rfl,?_⟩
      rw [show decide (V.str "add" = V.str "put")=false by decide +kernel]
      refine bw ⟨_,rfl,rfl,_,rfl,?_⟩
      rw [show decide (V.str "add" = V.str "add")=true by decide +kernel]
      refine bA ⟨_,rfl,_,rfl,_,rfl,b,rfl,B2,fun n H3 nk B3 X3=>⟨pE,fun t mt=>?_⟩⟩
      exact q _ (.add x n) _ (.tup ae (.cons (.str _) (.cons (.str _) (.cons (.int _) .nil)))) ⟨hxm,nk⟩ (B3.new mt) (((F1.trans X2).trans X3).trans (Fix.new mt))
    ·
      rw [show decide (V.str "read" = V.str "copy")=false by decide +kernel]
      refine bw ⟨_,rfl,rfl,_,rfl,?_⟩
      rw [show decide (V.str "read" = V.str "put")=false by decide +kernel]
      refine bw ⟨_,rfl,rfl,_,rfl,?_⟩
      rw [show decide (V.str "read" = V.str "add")=false by decide +kernel]
      refine bw ⟨_,rfl,_,rfl,ln2,fun t mt=>?_⟩
      exact q _ (.read x) _ (.tup ae (.cons (.str _) (.cons (.str _) .nil))) hxm (B2.new mt) ((F1.trans X2).trans (Fix.new mt))
    ·
      rw [show decide (V.str "tell" = V.str "copy")=false by decide +kernel]
      refine bw ⟨_,rfl,rfl,_,rfl,?_⟩
      rw [show decide (V.str "tell" = V.str "put")=false by decide +kernel]
      refine bw ⟨_,rfl,rfl,_,rfl,?_⟩
      rw [show decide (V.str "tell" = V.str "add")=false by decide +kernel]
      refine bw ⟨_,rfl,_,rfl,ln2,fun t mt=>?_⟩
      exact q _ (.tell x) _ (.tup ae (.cons (.str _) (.cons (.str _) .nil))) hxm (B2.new mt) ((F1.trans X2).trans (Fix.new mt))
theorem tK {f:Addr} {fd:FuncData} (F:bX K "_law_end" "_law_end" gB f fd) (Z:Bl mg) (O_law_take:Own P w K mg base "_law_take" 1 ["bag", "many"] eU) (O_law_number:Own P w K mg base "_law_number" 2 ["bag"] iW):bB P w K mg base bT 3 f fd ["bag", "names", "count"] pL:=by
  refine F.ok (k:=2) iD (fun vs H Q E h=>?_) (fun cdv A outer s H vs Q E hr h=>?_)
  · obtain⟨b,l,xs,c,rfl,_⟩:=h
    rfl
  · obtain⟨b,l,xs,c,rfl,hB,hN,c0,c1,q⟩:=h
    refine⟨_,(ah (aH (i:=3) iD.nd rfl (Or.inl rfl) (ay O_law_take (hr.mono (by decide)) rfl (aa (pv 0) (aa ai af))))
      (ah (aY (aJ bG (pv 3) ai (aK _))
      (ar (aC (bg (aa bp af))))
      aR)
      (ah (aY (aJ i4 (pv 3) ai (aK _))
      (ar (aC (bg (aa bp (aa (ay O_law_take (hr.mono (by decide)) rfl (aa (pv 0) (aa (pv 2) af))) af)))))
      aR)
      (ah (aH (i:=4) iD.nd rfl (Or.inl rfl) (aF bH (cu (aa bp (aa bp af))) (aZ rF (ay O_law_take (hr.mono (by decide)) rfl (aa (pv 0) (aa ai af))) ai) (fun _ _=>rfl)))
      (ah (aH (i:=5) iD.nd rfl (Or.inl rfl) (aF bH (pv 1) (ay O_law_take (hr.mono (by decide)) rfl (aa (pv 0) (aa (ba br rfl Z.len cI (aa (pv 1) af)) af))) (fun _ _=>rfl)))
      (ar (aC (bg (aa (pv 4) (aa (pv 5) (aa (ay O_law_number (hr.mono (by decide)) rfl (aa (pv 0) af)) (aa (ay O_law_take (hr.mono (by decide)) rfl (aa (pv 0) (aa (pv 2) af))) (aa (ay O_law_take (hr.mono (by decide)) rfl (aa (pv 0) (aa (pv 2) af))) af))))))))))))),?_⟩
    have ck:(0:Int) < (c:Int)/\(c:Int).natAbs.log2 < 9000:=⟨by omega,eV (by omega) (by omega)⟩
    refine⟨_,rfl,b,9,rfl,hB,⟨by decide,by decide +kernel⟩,fun r H1 r0 r1 B1 X1=>?_⟩
    refine⟨_,rfl,rfl,_,rfl,?_⟩
    refine cA (fun hc=>?_) (fun hc=>?_)
    · refine⟨pD,fun t mt=>?_⟩
      exact q _ .stop _ (.tup ae (.cons (.str _) .nil)) True.intro (B1.new mt) (X1.trans (Fix.new mt))
    refine⟨_,rfl,_,_,rfl,rfl,_,rfl,?_⟩
    refine cA (fun hd=>?_) (fun hd=>?_)
    · refine⟨_,rfl,_,rfl,b,_,rfl,B1,ck,fun p H2 p0 p1 B2 X2=>⟨ln2,fun t mt=>?_⟩⟩
      obtain⟨k,rfl⟩:∃ k:Nat,p=k:=⟨p.toNat,by omega⟩
      exact q _ (.go k) _ (.tup ae (.cons (.str _) (.cons (.int _) .nil))) (show k < c by omega) (B2.new mt) ((X1.trans X2).trans (Fix.new mt))
    · refine⟨ln2,fun l0 m0=>?_⟩
      refine⟨_,rfl,b,3,rfl,B1.new m0,⟨by decide,by decide +kernel⟩,fun z H2 z0 z1 B2 X2=>⟨_,_,rfl,rfl,⟨by decide,by decide⟩,?_⟩⟩
      have h0:H2 l0=some (.lst [.str "less",.str "is"]):=X2 l0 _ ae (B1.dU m0)
      have hw:∃ w:Bool,fo [V.str "less",V.str "is"] (z / 2)=some (V.str (wT w)):=by
        obtain h | h:z / 2=0\/z / 2=1:=by omega
        · rw [h];exact⟨true,bP⟩
        · rw [h];exact⟨false,cv⟩
      obtain⟨w,hat⟩:=hw
      refine⟨l0,_,_,_,rfl,rfl,aU.of h0,hat,?_⟩
      have F2:Fix b H H2:=(X1.trans (Fix.new m0)).trans X2
      have N2:=hN.fix F2
      obtain⟨p0,p1⟩:=N2.pos
      refine⟨_,rfl,_,rfl,_,rfl,l,_,rfl,.inl (aU.of N2.at_),b,_,rfl,B2,⟨p0,eV p0 p1⟩,fun r3 H3 r30 r31 B3 X3=>?_⟩
      have N3:=N2.fix X3
      obtain⟨x,hx,hxm⟩:=jJ r30 r31
      refine⟨l,_,r3,_,rfl,rfl,aU.of N3.at_,hx,?_⟩
      refine⟨_,rfl,_,rfl,_,rfl,b,rfl,B3,fun n H4 nk B4 X4=>?_⟩
      refine⟨_,rfl,_,rfl,b,_,rfl,B4,ck,fun p H5 p0 p1 B5 X5=>?_⟩
      refine⟨_,rfl,_,rfl,b,_,rfl,B5,ck,fun p' H6 p0' p1' B6 X6=>⟨Au,fun t mt=>?_⟩⟩
      obtain⟨k,rfl⟩:∃ k:Nat,p=k:=⟨p.toNat,by omega⟩
      obtain⟨k',rfl⟩:∃ k:Nat,p' = k:=⟨p'.toNat,by omega⟩
      exact q _ (.cY w x n k k') _ (.tup ae (.cons (.str _) (.cons (.str _) (.cons (.int _) (.cons (.int _) (.cons (.int _) .nil)))))) ⟨hxm,nk,by omega,by omega⟩ (B6.new mt) ((((F2.trans X3).trans X4).trans (X5.trans X6)).trans (Fix.new mt))
theorem q9 {f:Addr} {fd:FuncData} (F:bX K "_law_plan" "_law_plan" fQ f fd) (Z:Bl mg) (O_law_take:Own P w K mg base "_law_take" 1 ["bag", "many"] eU) (O_law_names:Own P w K mg base "_law_names" 2 ["bag"] m9) (O_law_deed:Own P w K mg base "_law_deed" 3 ["bag", "names"] pK) (O_law_end:Own P w K mg base "_law_end" 3 ["bag", "names", "count"] pL):bB P w K mg base bT 4 f fd ["bag", "count", "most"] pM:=by
  refine F.ok (k:=3) ff (fun vs H Q E h=>?_) (fun cdv A outer s H vs Q E hr h=>?_)
  · obtain⟨b,c,m,rfl,_⟩:=h
    rfl
  · obtain⟨b,c,m,rfl,hB,c0,c1,hm,q⟩:=h
    refine⟨_,(ah (aH (i:=3) ff.nd rfl (Or.inr rfl) (ay O_law_names (hr.mono (by decide)) rfl (aa (pv 0) af)))
      (ah (aH (i:=4) ff.nd rfl (Or.inl rfl) (cu af))
      (ah (eR PassesOwn.never rfl (eG rfl Z.range (aa (pv 1) af)) (aB (i:=5) ff.nd rfl (Or.inl rfl))
      (ah (aH (i:=6) ff.nd rfl (Or.inl rfl) (ay O_law_take (hr.mono (by decide)) rfl (aa (pv 0) (aa (aZ cH (pv 2) ai) af))))
      (ah (aH (i:=7) ff.nd rfl (Or.inl rfl) (ay O_law_end (hr.mono (by decide)) rfl (aa (pv 0) (aa (pv 3) (aa (pv 1) af)))))
      (ar (eY (gF PySem.F.plainAttrs_list PySem.F.slot_list_append PySem.F.type_list_append ie (pv 4) (aa (bg (aa (bh bL rfl Z.tuple cJ (aa (cS ["j"] ["bag", "names"] [0,3] rfl (eG rfl Z.range (aa (pv 6) af)) rfl (by decide +kernel) (by decide +kernel) (by decide +kernel) ⟨⟨rfl,.inl rfl,rfl⟩,⟨⟨rfl,.inl rfl,rfl⟩,True.intro⟩⟩ (fun _ _ _ _=>(aB (i:=0) (show ((["j"]:List Str)++(["bag", "names"]:List Str)).Nodup by decide +kernel) rfl (Or.inl rfl) (hf:=Or.inr rfl))) (fun _ _ _ _=>du) (fun _ _ _ _=>(ay O_law_deed (hr.mono (by decide)) rfl (aa (pv 1) (aa (pv 2) af))))) af)) (aa (pv 7) af))) af)))))))
      (ar (aC (bh bL rfl Z.tuple cJ (aa (pv 4) af))))))),?_⟩
    refine⟨_,rfl,b,rfl,hB,fun l xs H1 N1 x4 B1 X1=>?_⟩
    refine⟨(by show 0<=sizeLine;decide),fun pl pn=>?_⟩
    have hpb:pl ≠ b:=B1.dU pn
    refine⟨_,rfl,_,rfl,(by omega),(by omega),ib (lo:=0) (fun i σ H'=>∃ (u1 u2 u3:Option V) (ps:List Piece) (vs:List V),σ = [some (.ref b),some (.int c),some (.int m),some (.ref l),some (.ref pl),u1,u2,u3] /\
      H' pl=some (.lst vs)/\bu H' vs (ps.map gG)/\ps.length=i/\(∀ p ∈ ps,(p.1.length<=m/\∀ d ∈ p.1,fq xs d)/\mD xs c p.2)/\fG H' b l xs/\bR H' b/\Fix b H H'/\(∀ d o,H1 d=some o->d ≠ b->H' d=some o)) ?_ ?_ ?_⟩
    · exact⟨_,_,_,[],[],rfl,ae,.nil,rfl,(fun _ h=>nomatch h),N1.fix (Fix.new pn),B1.new pn,X1.trans (Fix.new pn),Fix.new pn⟩
    · rintro i σ H' hi ⟨u1,u2,u3,ps,vs,rfl,hp,hr,hl,aN,N',B',X',Y'⟩
      refine⟨_,rfl,_,rfl,_,_,rfl,rfl,b,_,rfl,B',⟨by omega,eV (by omega) (by omega)⟩,fun k H2 k0 k1 B2 X2=>?_⟩
      have N2:=N'.fix X2
      refine⟨_,rfl,_,rfl,_,rfl,b,l,xs,c,rfl,B2,N2,c0,(by omega),fun ev e H3 re ek B3 X3=>?_⟩
      have N3:=N2.fix X3
      have hp3:H3 pl=some (.lst vs):=(X2.trans X3) pl _ hp hpb
      have hr3:bu H3 vs (ps.map gG):=hr.fix B' (X2.trans X3) (cT ps)
      refine⟨_,rfl,.inl ⟨rfl,_,aU.of hp3⟩,_,rfl,_,rfl,(by omega),(by omega),fun acc na=>?_⟩
      have hab:acc ≠ b:=B3.dU na
      refine lO (lo:=0) (fun i ys τ H'=>∃ (v:Option V) (ds:List cc),τ = [v,some (.ref b),some (.ref l)]/\bu H' ys (ds.map d8)/\ds.length=i/\(∀ d ∈ ds,fq xs d)/\H' acc=some (.lst ys)/\bR H' b/\Fix b H3 H') ?_ ?_ ?_ ?_
      · exact⟨none,[],rfl,.nil,rfl,(fun _ h=>nomatch h),ae,B3.new na,Fix.new na⟩
      · rintro i' ys τ H4 hi' ⟨v,ds,rfl,rds,hl',_,ha,_⟩
        refine⟨ha,?_⟩
        rw [rds.len,List.length_map]
        exact bD (by omega)
      · rintro i' ys τ H4 hi' ⟨v,ds,rfl,rds,hl',hdk,ha,B4,X4⟩
        refine dm ?_
        refine iX ?_
        refine bA ?_
        refine⟨_,rfl,_,rfl,b,l,xs,rfl,B4,N3.fix X4,fun dv d H5 rd dk B5 X5=>?_⟩
        have ha5:=X5 acc _ ha hab
        refine⟨ha5,_,ds ++ [d],rfl,?_,(by rw [List.length_append,hl'];rfl),?_,ae,?_,?_⟩
        · rw [List.map_append]
          refine bu.app ((rds.fix B4 X5 (dN ds)).put ha5 (dN ds)) ?_
          exact rd.aI (fun p zs e=>by rw [av (bQ e ha5 (by intro z;cases z))];exact e) (lr d)
        · intro d' hd
          rcases List.mem_append.mp hd with hd | hd
          · exact hdk d' hd
          · rw [List.mem_singleton.mp hd];exact dk
        · obtain⟨x,y,e,z⟩:=B5
          exact⟨x,y,by rw [av hab.symm];exact e,z⟩
        · intro d' o hd nd
          rw [av (aT hd na)]
          exact (X4.trans X5) d' o hd nd
      · rintro ys τ H4 ⟨v,ds,rfl,rds,hl',hdk,ha,B4,X4⟩
        refine⟨acc,ys,rfl,.inl ⟨aU.of ha,fun tp tn=>?_⟩⟩
        refine⟨_,rfl,ln2,fun pc pcn=>?_⟩
        have S6:ao H4 (upd (upd H4 tp (.tup ys)) pc (.tup [.ref tp,ev])):=(ao.new tn).trans (ao.new pcn)
        have hp6:(upd (upd H4 tp (.tup ys)) pc (.tup [.ref tp,ev])) pl=some (.lst vs):=S6 _ _ (X4 pl _ hp3 hpb)
        refine⟨pl,_,_,rfl,rfl,hp6,?_,?_⟩
        · rw [hr.len,List.length_map,hl]
          exact bD (by omega)
        have hpiece:bC (upd (upd H4 tp (.tup ys)) pc (.tup [.ref tp,ev])) (.ref pc) (gG (ds,e)):=by
          refine .tup ae (.cons (.tup (ao.new pcn _ _ ae) (rds.same S6 (dN ds))) (.cons ?_ .nil))
          exact (re.fix B3 X4 (jI e)).same S6 (jI e)
        have F6:Fix b H (upd (upd H4 tp (.tup ys)) pc (.tup [.ref tp,ev])):=((X'.trans (X2.trans X3)).trans X4).trans (Fix.of_same S6)
        have plH:∀ d o,H1 d=some o->d ≠ b->d ≠ pl:=fun d o hd nd z=>by rw [z,pn] at hd;cases hd
        refine⟨_,_,_,ps ++ [(ds,e)],vs ++ [.ref pc],rfl,ae,?_,(by rw [List.length_append,hl];rfl),?_,?_,?_,?_,?_⟩
        · rw [List.map_append]
          refine bu.app (((hr3.fix B3 X4 (cT ps)).same S6 (cT ps)).put hp6 (cT ps)) ?_
          exact hpiece.aI (fun p zs e=>by rw [av (bQ e hp6 (by intro z;cases z))];exact e) (kf (ds,e))
        · intro p hpm
          rcases List.mem_append.mp hpm with hpm | hpm
          · exact aN p hpm
          · rw [List.mem_singleton.mp hpm]
            exact⟨⟨by show ds.length<=m;omega,hdk⟩,ek⟩
        · have hll:l ≠ pl:=fun z=>by
            have:=N1.at_
            rw [z,pn] at this
            cases this
          have N6:=(N3.fix X4).fix (Fix.of_same (b:=b) S6)
          exact⟨by rw [av hll];exact N6.at_,N6.ne,N6.sJ,N6.bc,N6.ok⟩
        · obtain⟨x,y,e',z⟩:=B4.same S6
          exact⟨x,y,by rw [av hpb.symm];exact e',z⟩
        · intro d o hd nd
          have h1:=X1 d o hd nd
          rw [av (plH d o h1 nd)]
          exact F6 d o hd nd
        · intro d o hd nd
          rw [av (plH d o hd nd)]
          exact S6 d o (X4 d o ((X2.trans X3) d o (Y' d o hd nd) nd) nd)
    · rintro σ H' ⟨u1,u2,u3,ps,vs,rfl,hp,hr,hl,aN,N',B',X',Y'⟩
      have hl':ps.length=c:=by rw [hl];omega
      refine⟨_,rfl,pl,_,rfl,.inl ⟨aU.of hp,fun tp tn=>?_⟩⟩
      refine q (.ref tp) xs ps _ (.tup ae (hr.same (ao.new tn) (cT ps))) hl' ⟨fun p hpm=>(aN p hpm).1,fun p hpm=>?_⟩ ⟨N'.ok,x4⟩ (B'.new tn) (X'.trans (Fix.new tn))
      rw [hl']
      exact (aN p hpm).2
theorem qG {f:Addr} {fd:FuncData} (F:bX K "_law_count" "_law_count" fg f fd) (Z:Bl mg) (O_law_take:Own P w K mg base "_law_take" 1 ["bag", "many"] eU):bB P w K mg base bT 2 f fd ["bag", "most"] nc:=by
 refine F.ok (k:=1) qC (fun vs H Q E h=>?_) (fun cdv A outer s H vs Q E hr h=>?_)
 ·obtain⟨b,m,rfl,_⟩:=h
  rfl
 ·obtain⟨b,m,rfl,hB,m0,m1,q⟩:=h
  refine⟨_,(ar (aC (aF bH (cu (aa (aZ cH ai (ay O_law_take (hr.mono (by decide)) rfl (aa (pv 0) (aa (pv 1) af)))) (aa (aZ cH ai (ay O_law_take (hr.mono (by decide)) rfl (aa (pv 0) (aa (ba (j9 rfl) rfl Z.min pC (aa ai (aa (pv 1) af))) af)))) (aa (pv 1) af)))) (ay O_law_take (hr.mono (by decide)) rfl (aa (pv 0) (aa ai af))) (fun _ _=>rfl)))),?_⟩
  refine⟨_,rfl,_,rfl,b,_,rfl,hB,⟨by omega,eV (by omega) (by omega)⟩,fun r H1 r0 r1 B1 X1=>⟨_,_,rfl,rfl,?_⟩⟩
  refine⟨_,rfl,_,rfl,_,_,rfl,b,_,rfl,B1,⟨(by split <;> omega),eV (by split <;> omega) (by split <;> omega)⟩,fun r2 H2 r20 r21 B2 X2=>⟨_,_,rfl,rfl,?_⟩⟩
  refine⟨_,rfl,pE,fun l0 n0=>?_⟩
  refine⟨_,rfl,b,3,rfl,B2.new n0,⟨by decide,by decide +kernel⟩,fun z H3 z0 z1 B3 X3=>?_⟩
  have h0:H3 l0=some (.lst [.int (1+r),.int (1+r2),.int m]):=X3 l0 _ ae (B2.dU n0)
  have hr2:r2 < 4:=by
   have:=r21
   split at this <;> omega
  have F3:Fix b H H3:=((X1.trans X2).trans (Fix.new n0)).trans X3
  obtain rfl | rfl | rfl:z=0\/z=1\/z=2:=by omega
  ·refine⟨l0,_,0,_,rfl,rfl,aU.of h0,bP,?_⟩
   have e:(1+r)=(((1+r).toNat:Nat):Int):=by omega
   rw [e]
   exact q _ H3 (by omega) (by omega) B3 F3
  ·refine⟨l0,_,1,_,rfl,rfl,aU.of h0,cv,?_⟩
   have e:(1+r2)=(((1+r2).toNat:Nat):Int):=by omega
   rw [e]
   exact q _ H3 (by omega) (by omega) B3 F3
  ·refine⟨l0,_,2,_,rfl,rfl,aU.of h0,at2,?_⟩
   exact q _ H3 m0 (by omega) B3 F3
theorem rh {f:Addr} {fd:FuncData} (F:bX K "_law_step" "_law_step" fR f fd) (Z:Bl mg)  : bB P w K mg base bT 1 f fd ["plan", "state", "numbers"] pR:=by
 refine F.ok (k:=0) bK (fun vs H Q E h=>?_) (fun cdv A outer s H vs Q E hr h=>?_)
 ·obtain⟨plv,st,np,d,tl,bl,ps,nums,S,m,rfl,_⟩:=h
  rfl
 ·obtain⟨plv,st,np,d,tl,bl,ps,nums,S,m,rfl,hp,hin,hnp,A,hpc,htk,hm,q⟩:=h
  refine⟨_,(ah (cQ (cg (pv 1) (cf rfl (aG (aB (i:=3) bK.nd rfl (Or.inl rfl)) (aG (aB (i:=4) bK.nd rfl (Or.inl rfl)) (aG (aB (i:=5) bK.nd rfl (Or.inl rfl)) (aG (aB (i:=6) bK.nd rfl (Or.inl rfl)) (aG (aB (i:=7) bK.nd rfl (Or.inl rfl)) (aG (aB (i:=8) bK.nd rfl (Or.inl rfl)) (aG (aB (i:=9) bK.nd rfl (Or.inl rfl)) bU))))))))))
   (ah (cQ (cg (aF aO (pv 0) (pv 3) (fun _ _=>rfl)) (cf rfl (aG (aB (i:=10) bK.nd rfl (Or.inl rfl)) (aG (aB (i:=11) bK.nd rfl (Or.inl rfl)) bU)))))
   (ah (aY (aJ i4 (pv 4) (ba br rfl Z.len cI (aa (pv 10) af)) (aK _))
   (ah (aH (i:=12) bK.nd rfl (Or.inl rfl) (aF aO (pv 10) (pv 4) (fun _ _=>rfl)))
   (ah (cQ (aH (i:=13) bK.nd rfl (Or.inl rfl) (cO (cz hr) (pv 5) (aF aO (pv 12) ai (fun _ _=>rfl)) ai ⟨rfl,rfl,rfl,rfl⟩)))
   (ah (aY (aJ bG (aF aO (pv 12) ai (fun _ _=>rfl)) bp (aK _))
   (ar (fH (cz hr) (pv 5) (aF aO (pv 12) ai (fun _ _=>rfl)) (aF aO (pv 12) ai (fun _ _=>rfl)) rfl))
   aR)
   (ah (aY (aJ bG (aF aO (pv 12) ai (fun _ _=>rfl)) bp (aK _))
   (ar (fH (cz hr) (pv 5) (aF aO (pv 12) ai (fun _ _=>rfl)) (cO (cz hr) (pv 5) (aF aO (pv 12) ai (fun _ _=>rfl)) ai ⟨rfl,rfl,rfl,rfl⟩) rfl))
   aR)
   (ah (aY (aJ bG (aF aO (pv 12) ai (fun _ _=>rfl)) bp (aK _))
   (ar (fH (cz hr) (pv 5) (aF aO (pv 12) ai (fun _ _=>rfl)) (aZ cH (pv 13) (aF aO (pv 12) ai (fun _ _=>rfl))) rfl))
   aR)
   (ah (aY (aJ bG (aF aO (pv 12) ai (fun _ _=>rfl)) bp (aK _))
   (ar (eY (gF PySem.F.plainAttrs_list PySem.F.slot_list_append PySem.F.type_list_append ie (pv 7) (aa (pv 13) af))))
   aR)
   (ah (aY (aJ bG (aF aO (pv 12) ai (fun _ _=>rfl)) bp (aK _))
   (ah (aY (aJ bG (pv 6) (ba br rfl Z.len cI (aa (pv 2) af)) (aK _))
   (ar (aC (bg (gW (pv 3) (pv 4) (pv 5) (pv 6) (pv 7) bp (pv 9)))))
   aR)
   (ah (fH (cz hr) (pv 5) (aF aO (pv 12) ai (fun _ _=>rfl)) (aF aO (pv 2) (pv 6) (fun _ _=>rfl)) rfl)
   (ar (aH (i:=6) bK.nd rfl (Or.inl rfl) (aZ cH (pv 6) ai)))))
   aR)
   (ar (aC (bg (gW (pv 3) (aZ cH (pv 4) ai) (pv 5) (pv 6) (pv 7) (pv 8) (pv 9))))))))))))
   aR)
   (ah (aY (aJ bG (aF aO (pv 11) ai (fun _ _=>rfl)) bp (aK _))
   (ar (aC (bg (gW (pv 3) (pv 4) (pv 5) (pv 6) (pv 7) bp (pv 9)))))
   aR)
   (ah (aY (aJ bG (aF aO (pv 11) ai (fun _ _=>rfl)) bp (aK _))
   (ar (aH (i:=14) bK.nd rfl (Or.inl rfl) (aF aO (pv 11) ai (fun _ _=>rfl))))
   (ah (cQ (aH (i:=13) bK.nd rfl (Or.inl rfl) (cO (cz hr) (pv 5) (aF aO (pv 11) ai (fun _ _=>rfl)) ai ⟨rfl,rfl,rfl,rfl⟩)))
   (ah (aH (i:=15) bK.nd rfl (Or.inl rfl) (aF bH (cu (aa (fF i4 (pv 13) (aF aO (pv 11) ai (fun _ _=>rfl)) (aK _)) (aa (fF bG (pv 13) (aF aO (pv 11) ai (fun _ _=>rfl)) (aK _)) af))) (bh i5 rfl Z.int mz (aa (fF bG (aF aO (pv 11) ai (fun _ _=>rfl)) bp (aK _)) af)) (fun _ _=>rfl)))
   (ar (aH (i:=14) bK.nd rfl (Or.inl rfl) (aF aO (pv 11) (aZ gC ai (bh i5 rfl Z.int mz (aa (pv 15) af))) (fun _ _=>rfl)))))))
   (ah (eY (gF PySem.F.plainAttrs_list PySem.F.slot_list_append PySem.F.type_list_append ie (pv 9) (aa (pv 14) af)))
   (ar (aC (bg (gW (pv 14) ai (pv 5) (pv 6) (pv 7) (pv 8) (pv 9))))))))))),?_⟩
  obtain⟨kvs,hd,dw,hk⟩:=A.dict
  have hx:ps[S.bW]? = some ps[S.bW]:=by simp [hpc]
  generalize hpe:ps[S.bW] = pe at hx
  obtain⟨ds,e⟩:=pe
  obtain⟨p,xs,pc,da,ea,vs,rfl,e1,el,hx',e2,e3,r3,e4⟩:=jL hp hx
  have hvl:vs.length=ds.length:=by rw [r3.len,List.length_map]
  have ndt:d ≠ tl:=bQ hd A.told (by intro z;cases z)
  have ndb:d ≠ bl:=bQ hd A.cx (by intro z;cases z)
  refine⟨fun σ' H'=>σ' = [some (.ref p),some (.ref st),some (.ref np),some (.int S.bW),some (.int S.place),some (.ref d),some (.int S.taken),some (.ref tl),some (.str S.word),some (.ref bl),none,none,none,none,none,none]/\H=H',⟨_,rfl,st,_,rfl,aw.of A.at_,rfl,_,_,rfl,_,_,rfl,_,_,rfl,_,_,rfl,_,_,rfl,_,_,rfl,_,_,rfl,rfl,rfl,rfl⟩,?_⟩
  rintro σ' H' ⟨rfl,rfl⟩
  refine⟨fun σ' H''=>σ' = [some (.ref p),some (.ref st),some (.ref np),some (.int S.bW),some (.int S.place),some (.ref d),some (.int S.taken),some (.ref tl),some (.str S.word),some (.ref bl),some (.ref da),some (.ref ea),none,none,none,none]/\H=H'',⟨_,rfl,_,rfl,p,xs,_,_,rfl,rfl,aw.of e1,bE hx',pc,_,rfl,aw.of e2,rfl,_,_,rfl,_,_,rfl,rfl,rfl,rfl⟩,?_⟩
  rintro σ' H'' ⟨rfl,rfl⟩
  refine⟨_,rfl,_,rfl,da,_,rfl,.inr (aw.of e3),_,_,rfl,rfl,_,rfl,?_⟩
  refine cA (fun hc=>?_) (fun hc=>?_)
  ·have hlt:S.place < vs.length:=by have:=of_decide_eq_true hc;omega
   have hdd:ds[S.place]? = some (ds[S.place]'(by omega)):=by simp [show S.place < ds.length by omega]
   generalize hde:ds[S.place]'(by omega)=dd at hdd
   have hs:=nZ (nums:=nums) hx hdd
   obtain⟨v,hv,rd⟩:=r3.get (i:=S.place) (d:=d8 dd) (by rw [List.getElem?_map,hdd];rfl)
   obtain⟨dp,rfl,hdp⟩:=ng rd
   have nd:dp ≠ d:=bQ hdp hd (by intro z;cases z)
   refine⟨_,rfl,_,rfl,da,_,_,_,rfl,rfl,aw.of e3,bE hv,?_⟩
   clear hde
   cases dd
   case put x n =>
    refine⟨fun σ' H1=>σ' = [some (.ref p),some (.ref st),some (.ref np),some (.int S.bW),some (.int S.place),some (.ref d),some (.int S.taken),some (.ref tl),some (.str S.word),some (.ref bl),some (.ref da),some (.ref ea),some (.ref dp),some (.int (S.w x)),none,none]/\H=H1,⟨_,rfl,d,rfl,.inl ⟨kvs,.inl hd⟩,_,rfl,dp,_,1,_,rfl,rfl,aw.of hdp,cv,_,_,cP.k (k:=Sum.inr x) hd,dw x,rfl,rfl⟩,?_⟩
    rintro σ' H1 ⟨rfl,rfl⟩
    refine⟨_,rfl,dp,_,0,_,rfl,rfl,aw.of hdp,bP,rfl,_,rfl,?_⟩
    refine cb (show decide (V.str "put" = V.str "put")=true by decide +kernel) ?_
    refine⟨_,rfl,dp,_,2,_,rfl,rfl,aw.of hdp,at2,_,rfl,_,rfl,dp,_,1,_,rfl,rfl,aw.of hdp,cv,d,_,rfl,gR.k (k:=Sum.inr x) hd (cL (by omega)),?_⟩
    have hdp1:(upd H d (.dK (putK kvs (Sum.inr x) (.int (n))))) dp=some (.tup (i8 (.put x n))):=by rw [av nd];exact hdp
    refine⟨_,rfl,dp,_,0,_,rfl,rfl,aw.of hdp1,bP,rfl,_,rfl,?_⟩
    refine aV (show decide (V.str "put" = V.str "copy")=false by decide +kernel) ?_
    refine⟨_,rfl,dp,_,0,_,rfl,rfl,aw.of hdp1,bP,rfl,_,rfl,?_⟩
    refine aV (show decide (V.str "put" = V.str "add")=false by decide +kernel) ?_
    refine⟨_,rfl,dp,_,0,_,rfl,rfl,aw.of hdp1,bP,rfl,_,rfl,?_⟩
    refine aV (show decide (V.str "put" = V.str "tell")=false by decide +kernel) ?_
    refine⟨_,rfl,dp,_,0,_,rfl,rfl,aw.of hdp1,bP,rfl,_,rfl,?_⟩
    refine aV (show decide (V.str "put" = V.str "read")=false by decide +kernel) ?_
    refine⟨_,rfl,_,rfl,_,_,rfl,rfl,_,rfl,_,rfl,_,rfl,_,rfl,_,rfl,ke,fun st' hn=>?_⟩
    refine q st' _ (dM.lu (kvs:=putK kvs (Sum.inr x) (.int (n))) ae ?_ ?_ ?_ ?_ A.ne ?_ hn ?_) (dI.oU.trans (dI.new hn))
    ·rw [hs];exact dw.put x (n)
    ·have:=dZ kvs (Sum.inr x:Key) (V.int (n));omega
    ·rw [hs,av ndt.symm];exact A.told
    ·rw [hs,av ndb.symm];exact A.cx
    ·rw [hs];exact⟨Nat.le_succ_of_le A.bc.1,Nat.le_succ_of_le A.bc.2⟩
    ·rw [hs];rfl
   case copy x y =>
    refine⟨fun σ' H1=>σ' = [some (.ref p),some (.ref st),some (.ref np),some (.int S.bW),some (.int S.place),some (.ref d),some (.int S.taken),some (.ref tl),some (.str S.word),some (.ref bl),some (.ref da),some (.ref ea),some (.ref dp),some (.int (S.w x)),none,none]/\H=H1,⟨_,rfl,d,rfl,.inl ⟨kvs,.inl hd⟩,_,rfl,dp,_,1,_,rfl,rfl,aw.of hdp,cv,_,_,cP.k (k:=Sum.inr x) hd,dw x,rfl,rfl⟩,?_⟩
    rintro σ' H1 ⟨rfl,rfl⟩
    refine⟨_,rfl,dp,_,0,_,rfl,rfl,aw.of hdp,bP,rfl,_,rfl,?_⟩
    refine aV (show decide (V.str "copy" = V.str "put")=false by decide +kernel) ?_
    refine⟨_,rfl,dp,_,0,_,rfl,rfl,aw.of hdp,bP,rfl,_,rfl,?_⟩
    refine cb (show decide (V.str "copy" = V.str "copy")=true by decide +kernel) ?_
    refine⟨_,rfl,d,rfl,.inl ⟨kvs,.inl hd⟩,_,rfl,dp,_,2,_,rfl,rfl,aw.of hdp,at2,_,_,cP.k (k:=Sum.inr y) hd,dw y,_,rfl,_,rfl,dp,_,1,_,rfl,rfl,aw.of hdp,cv,d,_,rfl,gR.k (k:=Sum.inr x) hd (cL (by omega)),?_⟩
    have hdp1:(upd H d (.dK (putK kvs (Sum.inr x) (.int (S.w y))))) dp=some (.tup (i8 (.copy x y))):=by rw [av nd];exact hdp
    refine⟨_,rfl,dp,_,0,_,rfl,rfl,aw.of hdp1,bP,rfl,_,rfl,?_⟩
    refine aV (show decide (V.str "copy" = V.str "add")=false by decide +kernel) ?_
    refine⟨_,rfl,dp,_,0,_,rfl,rfl,aw.of hdp1,bP,rfl,_,rfl,?_⟩
    refine aV (show decide (V.str "copy" = V.str "tell")=false by decide +kernel) ?_
    refine⟨_,rfl,dp,_,0,_,rfl,rfl,aw.of hdp1,bP,rfl,_,rfl,?_⟩
    refine aV (show decide (V.str "copy" = V.str "read")=false by decide +kernel) ?_
    refine⟨_,rfl,_,rfl,_,_,rfl,rfl,_,rfl,_,rfl,_,rfl,_,rfl,_,rfl,ke,fun st' hn=>?_⟩
    refine q st' _ (dM.lu (kvs:=putK kvs (Sum.inr x) (.int (S.w y))) ae ?_ ?_ ?_ ?_ A.ne ?_ hn ?_) (dI.oU.trans (dI.new hn))
    ·rw [hs];exact dw.put x (S.w y)
    ·have:=dZ kvs (Sum.inr x:Key) (V.int (S.w y));omega
    ·rw [hs,av ndt.symm];exact A.told
    ·rw [hs,av ndb.symm];exact A.cx
    ·rw [hs];exact⟨Nat.le_succ_of_le A.bc.1,Nat.le_succ_of_le A.bc.2⟩
    ·rw [hs];rfl
   case add x n =>
    refine⟨fun σ' H1=>σ' = [some (.ref p),some (.ref st),some (.ref np),some (.int S.bW),some (.int S.place),some (.ref d),some (.int S.taken),some (.ref tl),some (.str S.word),some (.ref bl),some (.ref da),some (.ref ea),some (.ref dp),some (.int (S.w x)),none,none]/\H=H1,⟨_,rfl,d,rfl,.inl ⟨kvs,.inl hd⟩,_,rfl,dp,_,1,_,rfl,rfl,aw.of hdp,cv,_,_,cP.k (k:=Sum.inr x) hd,dw x,rfl,rfl⟩,?_⟩
    rintro σ' H1 ⟨rfl,rfl⟩
    refine⟨_,rfl,dp,_,0,_,rfl,rfl,aw.of hdp,bP,rfl,_,rfl,?_⟩
    refine aV (show decide (V.str "add" = V.str "put")=false by decide +kernel) ?_
    refine⟨_,rfl,dp,_,0,_,rfl,rfl,aw.of hdp,bP,rfl,_,rfl,?_⟩
    refine aV (show decide (V.str "add" = V.str "copy")=false by decide +kernel) ?_
    refine⟨_,rfl,dp,_,0,_,rfl,rfl,aw.of hdp,bP,rfl,_,rfl,?_⟩
    refine cb (show decide (V.str "add" = V.str "add")=true by decide +kernel) ?_
    refine⟨_,rfl,_,rfl,dp,_,2,_,rfl,rfl,aw.of hdp,at2,_,_,rfl,rfl,_,rfl,_,rfl,dp,_,1,_,rfl,rfl,aw.of hdp,cv,d,_,rfl,gR.k (k:=Sum.inr x) hd (cL (by omega)),?_⟩
    have hdp1:(upd H d (.dK (putK kvs (Sum.inr x) (.int (S.w x+n))))) dp=some (.tup (i8 (.add x n))):=by rw [av nd];exact hdp
    refine⟨_,rfl,dp,_,0,_,rfl,rfl,aw.of hdp1,bP,rfl,_,rfl,?_⟩
    refine aV (show decide (V.str "add" = V.str "tell")=false by decide +kernel) ?_
    refine⟨_,rfl,dp,_,0,_,rfl,rfl,aw.of hdp1,bP,rfl,_,rfl,?_⟩
    refine aV (show decide (V.str "add" = V.str "read")=false by decide +kernel) ?_
    refine⟨_,rfl,_,rfl,_,_,rfl,rfl,_,rfl,_,rfl,_,rfl,_,rfl,_,rfl,ke,fun st' hn=>?_⟩
    refine q st' _ (dM.lu (kvs:=putK kvs (Sum.inr x) (.int (S.w x+n))) ae ?_ ?_ ?_ ?_ A.ne ?_ hn ?_) (dI.oU.trans (dI.new hn))
    ·rw [hs];exact dw.put x (S.w x+n)
    ·have:=dZ kvs (Sum.inr x:Key) (V.int (S.w x+n));omega
    ·rw [hs,av ndt.symm];exact A.told
    ·rw [hs,av ndb.symm];exact A.cx
    ·rw [hs];exact⟨Nat.le_succ_of_le A.bc.1,Nat.le_succ_of_le A.bc.2⟩
    ·rw [hs];rfl
   case read x =>
    refine⟨fun σ' H1=>σ' = [some (.ref p),some (.ref st),some (.ref np),some (.int S.bW),some (.int S.place),some (.ref d),some (.int S.taken),some (.ref tl),some (.str S.word),some (.ref bl),some (.ref da),some (.ref ea),some (.ref dp),some (.int (S.w x)),none,none]/\H=H1,⟨_,rfl,d,rfl,.inl ⟨kvs,.inl hd⟩,_,rfl,dp,_,1,_,rfl,rfl,aw.of hdp,cv,_,_,cP.k (k:=Sum.inr x) hd,dw x,rfl,rfl⟩,?_⟩
    rintro σ' H1 ⟨rfl,rfl⟩
    refine⟨_,rfl,dp,_,0,_,rfl,rfl,aw.of hdp,bP,rfl,_,rfl,?_⟩
    refine aV (show decide (V.str "read" = V.str "put")=false by decide +kernel) ?_
    refine⟨_,rfl,dp,_,0,_,rfl,rfl,aw.of hdp,bP,rfl,_,rfl,?_⟩
    refine aV (show decide (V.str "read" = V.str "copy")=false by decide +kernel) ?_
    refine⟨_,rfl,dp,_,0,_,rfl,rfl,aw.of hdp,bP,rfl,_,rfl,?_⟩
    refine aV (show decide (V.str "read" = V.str "add")=false by decide +kernel) ?_
    refine⟨_,rfl,dp,_,0,_,rfl,rfl,aw.of hdp,bP,rfl,_,rfl,?_⟩
    refine aV (show decide (V.str "read" = V.str "tell")=false by decide +kernel) ?_
    refine⟨_,rfl,dp,_,0,_,rfl,rfl,aw.of hdp,bP,rfl,_,rfl,?_⟩
    refine cb (show decide (V.str "read" = V.str "read")=true by decide +kernel) ?_
    refine⟨_,rfl,_,rfl,np,_,rfl,.inr (aw.of hnp),rfl,_,rfl,?_⟩
    refine cA (fun ht=>?_) (fun ht=>?_)
    ·have he:S.taken=nums.length:=by
      have:=V.int.inj (of_decide_eq_true ht)
      rw [List.length_map] at this
      omega
     have hnn:nums[S.taken]? = none:=by rw [he];simp
     have hs':fI ps nums S = { S with word := "dry" }:=by rw [hs];show (match nums[S.taken]? with | none=>_ | some n=>_)=_;rw [hnn]
     refine⟨_,rfl,_,rfl,_,rfl,_,rfl,_,rfl,_,rfl,ke,fun st' hn=>?_⟩
     rw [hs'] at q
     exact q st' _ (dM.lu (S':={ S with word := "dry" }) hd dw (Nat.le_succ_of_le hk) A.told A.cx A.ne ⟨Nat.le_succ_of_le A.bc.1,Nat.le_succ_of_le A.bc.2⟩ hn rfl) (dI.new hn)
    ·have hlt2:S.taken < nums.length:=by
      refine Nat.lt_of_le_of_ne htk fun z=>ht (decide_eq_true ?_)
      rw [List.length_map,z]
     have hnn:nums[S.taken]? = some nums[S.taken]:=by simp [hlt2]
     generalize hne:nums[S.taken] = n at hnn
     have hnv:(nums.map V.int)[S.taken]? = some (V.int n):=by rw [List.getElem?_map,hnn];rfl
     have hs':fI ps nums S = { S with w:=en S.w x n,taken:=S.taken+1,place:=S.place+1 }:=by rw [hs];show (match nums[S.taken]? with | none=>_ | some n=>_)=_;rw [hnn]
     refine⟨_,rfl,_,rfl,np,_,_,_,rfl,rfl,aw.of hnp,bE hnv,_,rfl,_,rfl,dp,_,1,_,rfl,rfl,aw.of hdp,cv,d,_,rfl,gR.k (k:=Sum.inr x) hd (cL (by omega)),?_⟩
     refine⟨_,rfl,_,_,rfl,rfl,?_⟩
     refine⟨_,rfl,_,rfl,_,_,rfl,rfl,_,rfl,_,rfl,_,rfl,_,rfl,_,rfl,ke,fun st' hn=>?_⟩
     rw [hs'] at q
     refine q st' _ (dM.lu (S':={ S with w:=en S.w x n,taken:=S.taken+1,place:=S.place+1 }) (kvs:=putK kvs (Sum.inr x) (.int n)) ae (dw.put x n) ?_ ?_ ?_ A.ne ⟨Nat.le_succ_of_le A.bc.1,Nat.le_succ_of_le A.bc.2⟩ hn rfl) (dI.oU.trans (dI.new hn))
     ·have:=dZ kvs (Sum.inr x:Key) (V.int n);omega
     ·rw [av ndt.symm];exact A.told
     ·rw [av ndb.symm];exact A.cx
   case tell x =>
    refine⟨fun σ' H1=>σ' = [some (.ref p),some (.ref st),some (.ref np),some (.int S.bW),some (.int S.place),some (.ref d),some (.int S.taken),some (.ref tl),some (.str S.word),some (.ref bl),some (.ref da),some (.ref ea),some (.ref dp),some (.int (S.w x)),none,none]/\H=H1,⟨_,rfl,d,rfl,.inl ⟨kvs,.inl hd⟩,_,rfl,dp,_,1,_,rfl,rfl,aw.of hdp,cv,_,_,cP.k (k:=Sum.inr x) hd,dw x,rfl,rfl⟩,?_⟩
    rintro σ' H1 ⟨rfl,rfl⟩
    refine⟨_,rfl,dp,_,0,_,rfl,rfl,aw.of hdp,bP,rfl,_,rfl,?_⟩
    refine aV (show decide (V.str "tell" = V.str "put")=false by decide +kernel) ?_
    refine⟨_,rfl,dp,_,0,_,rfl,rfl,aw.of hdp,bP,rfl,_,rfl,?_⟩
    refine aV (show decide (V.str "tell" = V.str "copy")=false by decide +kernel) ?_
    refine⟨_,rfl,dp,_,0,_,rfl,rfl,aw.of hdp,bP,rfl,_,rfl,?_⟩
    refine aV (show decide (V.str "tell" = V.str "add")=false by decide +kernel) ?_
    refine⟨_,rfl,dp,_,0,_,rfl,rfl,aw.of hdp,bP,rfl,_,rfl,?_⟩
    refine cb (show decide (V.str "tell" = V.str "tell")=true by decide +kernel) ?_
    refine⟨_,rfl,.inl ⟨rfl,_,aU.of A.told⟩,_,rfl,tl,_,_,rfl,rfl,A.told,(by rw [List.length_map];exact cL (by have:=A.bc.1;omega)),?_⟩
    have hdp1:(upd H tl (.lst (S.told.map V.int ++ [.int (S.w x)]))) dp=some (.tup (i8 (.tell x))):=by rw [av (bQ hdp A.told (by intro z;cases z))];exact hdp
    refine⟨_,rfl,dp,_,0,_,rfl,rfl,aw.of hdp1,bP,rfl,_,rfl,?_⟩
    refine aV (show decide (V.str "tell" = V.str "read")=false by decide +kernel) ?_
    refine⟨_,rfl,_,rfl,_,_,rfl,rfl,_,rfl,_,rfl,_,rfl,_,rfl,_,rfl,ke,fun st' hn=>?_⟩
    refine q st' _ (dM.lu (kvs:=kvs) ?_ ?_ ?_ ?_ ?_ A.ne ?_ hn ?_) (dI.zq.trans (dI.new hn))
    ·rw [av ndt];exact hd
    ·rw [hs];exact dw
    ·omega
    ·rw [hs,ae]
     show _=some (HO.lst ((S.told ++ [S.w x]).map V.int))
     rw [List.map_append]
     rfl
    ·rw [hs,av A.ne.symm];exact A.cx
    ·rw [hs]
     refine⟨?_,Nat.le_succ_of_le A.bc.2⟩
     show (S.told ++ [S.w x]).length<=m+1
     rw [List.length_append]
     exact Nat.succ_le_succ A.bc.1
    ·rw [hs];rfl
  ·have hnone:ds[S.place]? = none:=by
    rw [List.getElem?_eq_none_iff]
    have:¬ ((S.place:Int) < (vs.length:Nat)):=fun z=>hc (decide_eq_true z)
    omega
   have hs:=pS (nums:=nums) hx hnone
   have few1:S.cx.length < 1000000:=by have:=A.bc.2;omega
   cases e with
   | stop =>
    refine⟨_,rfl,ea,_,0,_,rfl,rfl,aw.of e4,bP,rfl,_,rfl,?_⟩
    refine cb (show decide (V.str "stop" = V.str "stop")=true by decide +kernel) ⟨_,rfl,_,rfl,_,rfl,_,rfl,_,rfl,_,rfl,ke,fun st' hn=>?_⟩
    rw [hs] at q
    exact q st' _ (dM.lu (S':={ S with word := "stop" }) hd dw (Nat.le_succ_of_le hk) A.told A.cx A.ne ⟨Nat.le_succ_of_le A.bc.1,Nat.le_succ_of_le A.bc.2⟩ hn rfl) (dI.new hn)
   | go t =>
    refine⟨_,rfl,ea,_,0,_,rfl,rfl,aw.of e4,bP,rfl,_,rfl,?_⟩
    refine aV (show decide (V.str "go" = V.str "stop")=false by decide +kernel) ⟨_,rfl,ea,_,0,_,rfl,rfl,aw.of e4,bP,rfl,_,rfl,?_⟩
    refine cb (show decide (V.str "go" = V.str "go")=true by decide +kernel) ⟨_,rfl,ea,_,1,_,rfl,rfl,aw.of e4,cv,?_⟩
    refine⟨_,rfl,.inl ⟨rfl,_,aU.of A.cx⟩,_,rfl,bl,_,_,rfl,rfl,A.cx,(by rw [List.length_map];exact cL (by have:=A.bc.2;omega)),?_⟩
    refine⟨_,rfl,_,rfl,_,rfl,_,rfl,_,rfl,_,rfl,ke,fun st' hn=>?_⟩
    rw [hs] at q
    refine q st' _ (dM.lu (S':=kO S (.go t)) (kvs:=kvs) ?_ dw (Nat.le_succ_of_le hk) ?_ ?_ A.ne ?_ hn rfl) (dI.wZ.trans (dI.new hn))
    ·rw [av ndb];exact hd
    ·rw [av A.ne];exact A.told
    ·rw [ae]
     show _=some (HO.lst ((S.cx ++ [t]).map fun k=>V.int (k:Nat)))
     rw [List.map_append]
     rfl
    ·refine⟨Nat.le_succ_of_le A.bc.1,?_⟩
     show (S.cx ++ [t]).length<=m+1+1
     rw [List.length_append]
     exact Nat.succ_le_succ A.bc.2
   | cY b x n t t' =>
    have hw1:decide (V.str (wT b)=V.str "stop")=false:=by cases b <;> decide +kernel
    have hw2:decide (V.str (wT b)=V.str "go")=false:=by cases b <;> decide +kernel
    have hw3:decide (V.str (wT b)=V.str "is") = !b:=by cases b <;> decide +kernel
    refine⟨_,rfl,ea,_,0,_,rfl,rfl,aw.of e4,bP,rfl,_,rfl,?_⟩
    refine aV hw1 ⟨_,rfl,ea,_,0,_,rfl,rfl,aw.of e4,bP,rfl,_,rfl,?_⟩
    refine aV hw2 ?_
    refine⟨fun σ' H1=>σ' = [some (.ref p),some (.ref st),some (.ref np),some (.int S.bW),some (.int S.place),some (.ref d),some (.int S.taken),some (.ref tl),some (.str S.word),some (.ref bl),some (.ref da),some (.ref ea),none,some (.int (S.w x)),none,none]/\H=H1,⟨_,rfl,d,rfl,.inl ⟨kvs,.inl hd⟩,_,rfl,ea,_,1,_,rfl,rfl,aw.of e4,cv,_,_,cP.k (k:=Sum.inr x) hd,dw x,rfl,rfl⟩,?_⟩
    rintro σ' H1 ⟨rfl,rfl⟩
    refine⟨_,rfl,_,rfl,ea,_,2,_,rfl,rfl,aw.of e4,at2,_,_,rfl,rfl,_,rfl,_,rfl,ea,_,2,_,rfl,rfl,aw.of e4,at2,rfl,ln2,fun l0 n0=>?_⟩
    have e5:upd H l0 (.lst [.bl (decide (S.w x < n)),.bl (decide (V.int (S.w x)=V.int n))]) ea=some (.tup (iZ (.cY b x n t t'))):=by rw [av (aT e4 n0)];exact e4
    refine⟨_,rfl,ea,_,0,_,rfl,rfl,aw.of e5,bP,rfl,.inr ⟨_,rfl,?_⟩⟩
    have hyes:fo [V.bl (decide (S.w x < n)),V.bl (decide (V.int (S.w x)=V.int n))] (if decide (V.str (wT b)=V.str "is")=true then 1 else 0)=some (V.bl (gS b (S.w x) n)):=by
     rw [hw3]
     cases b with
     | true=>exact bP
     | false =>
      have ed:decide (V.int (S.w x)=V.int n)=decide (S.w x=n):=by
       by_cases hh:S.w x=n
       ·rw [decide_eq_true hh,decide_eq_true (congrArg V.int hh)]
       ·rw [decide_eq_false hh,decide_eq_false fun z=>hh (V.int.inj z)]
      rw [ed]
      exact cv
    refine⟨l0,_,_,_,rfl,rfl,aU.of ae,hyes,?_⟩
    have hthere:fo (iZ (.cY b x n t t')) (4 - (if gS b (S.w x) n=true then 1 else 0))=some (V.int ((if gS b (S.w x) n=true then t else t':Nat):Nat)):=by
     cases gS b (S.w x) n with
     | true=>exact bE (j:=3) rfl
     | false=>exact bE (j:=4) rfl
    refine⟨_,rfl,_,rfl,.inr ⟨_,rfl,_,_,rfl,rfl,ea,_,_,_,rfl,rfl,aw.of e5,hthere,?_⟩⟩
    have b6:upd H l0 (.lst [.bl (decide (S.w x < n)),.bl (decide (V.int (S.w x)=V.int n))]) bl=some (.lst (S.cx.map fun k=>V.int (k:Nat))):=by rw [av (aT A.cx n0)];exact A.cx
    refine⟨_,rfl,.inl ⟨rfl,_,aU.of b6⟩,_,rfl,bl,_,_,rfl,rfl,b6,(by rw [List.length_map];exact cL (by have:=A.bc.2;omega)),?_⟩
    refine⟨_,rfl,_,rfl,_,rfl,_,rfl,_,rfl,_,rfl,ke,fun st' hn=>?_⟩
    rw [hs] at q
    refine q st' _ (dM.lu (S':=kO S (.cY b x n t t')) (kvs:=kvs) ?_ dw (Nat.le_succ_of_le hk) ?_ ?_ A.ne ?_ hn rfl) (((dI.new n0).trans dI.wZ).trans (dI.new hn))
    ·rw [av ndb,av (aT hd n0)];exact hd
    ·rw [av A.ne,av (aT A.told n0)];exact A.told
    ·rw [ae]
     show _=some (HO.lst ((S.cx ++ [if gS b (S.w x) n=true then t else t']).map fun k=>V.int (k:Nat)))
     rw [List.map_append]
     rfl
    ·refine⟨Nat.le_succ_of_le A.bc.1,?_⟩
     show (S.cx ++ [_]).length<=m+1+1
     rw [List.length_append]
     exact Nat.succ_le_succ A.bc.2
theorem qH {f:Addr} {fd:FuncData} (F:bX K "_law_input" "_law_input" fh f fd) (Z:Bl mg) (O_law_take:Own P w K mg base "_law_take" 1 ["bag", "many"] eU) (O_law_number:Own P w K mg base "_law_number" 2 ["bag"] iW):bB P w K mg base bT 3 f fd ["bag"] lP:=by
  refine F.ok (k:=2) kG (fun vs H Q E h=>?_) (fun cdv A outer s H vs Q E hr h=>?_)
  · obtain⟨b,rfl,_⟩:=h
    rfl
  · obtain⟨b,rfl,hB,q⟩:=h
    refine⟨_,(ah (aH (i:=1) kG.nd rfl (Or.inl rfl) (ay O_law_take (hr.mono (by decide)) rfl (aa (pv 0) (aa (aF bH (cu (aa ai (aa ai (aa ai af)))) (ay O_law_take (hr.mono (by decide)) rfl (aa (pv 0) (aa ai af))) (fun _ _=>rfl)) af))))
      (ar (aC (bh bL rfl Z.tuple cJ (aa (cS ["k"] ["bag"] [0] rfl (eG rfl Z.range (aa (pv 1) af)) rfl (by decide +kernel) (by decide +kernel) (by decide +kernel) ⟨⟨rfl,.inl rfl,rfl⟩,True.intro⟩ (fun _ _ _ _=>(aB (i:=0) (show ((["k"]:List Str)++(["bag"]:List Str)).Nodup by decide +kernel) rfl (Or.inl rfl) (hf:=Or.inr rfl))) (fun _ _ _ _=>du) (fun _ _ _ _=>(ay O_law_number (hr.mono (by decide)) rfl (aa (pv 1) af)))) af))))),?_⟩
    refine⟨_,rfl,pE,fun l0 n0=>?_⟩
    refine⟨_,rfl,b,3,rfl,hB.new n0,⟨by decide,by decide⟩,fun z H1 z0 z1 B1 X1=>?_⟩
    have h0:H1 l0=some (.lst [.int 9,.int 60,.int 201]):=X1 l0 _ ae (hB.dU n0)
    obtain⟨g,hg,hg3⟩:=yG (x:=9) (y:=60) (z:=201) z0 z1
    have g0:0 < g/\g < 1000:=by omega
    refine⟨l0,_,_,_,rfl,rfl,aU.of h0,hg,b,g,rfl,B1,⟨g0.1,eV g0.1 (by omega)⟩,fun m H2 m0 m1 B2 X2=>?_⟩
    have F2:Fix b H H2:=((Fix.new n0).trans X1).trans X2
    refine⟨_,rfl,_,rfl,(by omega),(by omega),fun acc na=>?_⟩
    have hab:acc ≠ b:=B2.dU na
    refine lO (lo:=0) (fun i ys τ H'=>∃ (v:Option V) (ns:List Int),τ = [v,some (.ref b)]/\ys=ns.map V.int/\ns.length=i/\H' acc=some (.lst ys)/\bR H' b/\Fix b H2 H') ?_ ?_ ?_ ?_
    · exact⟨none,[],rfl,rfl,rfl,ae,B2.new na,Fix.new na⟩
    · rintro i ys τ H4 hi ⟨v,ns,rfl,rfl,hl,ha,_⟩
      exact⟨ha,by rw [List.length_map];exact bD (by omega)⟩
    · rintro i ys τ H4 hi ⟨v,ns,rfl,rfl,hl,ha,B4,X4⟩
      refine dm ?_
      refine iX ?_
      refine bA ?_
      refine⟨_,rfl,b,rfl,B4,fun n H5 nk B5 X5=>?_⟩
      have ha5:=X5 acc _ ha hab
      refine⟨ha5,_,ns ++ [n],rfl,(by rw [List.map_append];rfl),(by rw [List.length_append,hl];rfl),ae,?_,?_⟩
      · obtain⟨x,y,e,z⟩:=B5
        exact⟨x,y,by rw [av hab.symm];exact e,z⟩
      · intro d' o hd nd
        rw [av (aT hd na)]
        exact (X4.trans X5) d' o hd nd
    · rintro ys τ H4 ⟨v,ns,rfl,rfl,hl,ha,B4,X4⟩
      refine⟨acc,_,rfl,.inl ⟨aU.of ha,fun t tn=>?_⟩⟩
      exact q t ns _ ae (B4.new tn) ((F2.trans X4).trans (Fix.new tn))
theorem rl {f:Addr} {fd:FuncData} (F:bX K "_law_with" "_law_with" fS f fd) (Z:Bl mg)  : bB P w K mg base bT 1 f fd ["facts", "name", "stretch"] nu:=by
 refine F.ok (k:=0) jo (fun vs H Q E h=>?_) (fun cdv A outer s H vs Q E hr h=>?_)
 ·obtain⟨d,T,m,x,sv,s,rfl,_⟩:=h
  rfl
 ·obtain⟨d,T,m,x,sv,s,rfl,lt,hm,sh,q⟩:=h
  refine⟨_,(ah (aH (i:=3) jo.nd rfl (Or.inl rfl) jK)
   (ah (cQ (xK PassesOwn.never rfl (pv 0) (aB (i:=4) jo.nd rfl (Or.inl rfl))
   (ar (fH (cz hr) (pv 3) (pv 4) (kN (cz hr) (pv 0) (pv 4) (fun _ _=>rfl)) rfl))))
   (ah (cQ (eY (pQ (pv 3) (pv 1) cq ⟨rfl,rfl,rfl,rfl⟩)))
   (ah (aY (aJ (yx hr.units) (pv 2) (bg (aa cq (aa cq af))) (aK _))
   (ar (fH (cz hr) (pv 3) (pv 1) (pv 2) rfl))
   aR)
   (ar (aC (pv 3))))))),?_⟩
  obtain⟨kvs,ks,hd,tb,cl,hl⟩:=lt
  have kl:kvs.length=ks.length:=by have:=congrArg List.length tb.keys;simpa using this
  have ndk:(kvs.map (·.1)).Nodup:=by
   rw [tb.keys]
   exact List.Pairwise.map _ (fun a b n z=>n (Sum.inr.inj z)) tb.nd
  refine fun md nmd=>?_
  have ndm:d ≠ md:=aT hd nmd
  refine⟨fun σ' H'=>∃ u:Option V,σ' = [some (.ref d),some (.str x),some sv,some (.ref md),u]/\H' md=some (.dK kvs)/\ao H H',?_,?_⟩
  ·refine⟨_,rfl,d,kvs,rfl,(by rw [av ndm];exact hd),fun ob=>⟨fun j τ H2=>∃ u:Option V,τ = [some (.ref d),some (.str x),some sv,some (.ref md),u]/\H2 d=some (.d6 ob (.dK kvs))/\H2 md=some (.dK (kvs.take j))/\∀ c o,H c=some o->c ≠ d->H2 c=some o,?_,?_,?_,?_⟩⟩
   ·refine⟨none,rfl,ae,by rw [av ndm.symm,ae];rfl,fun c o e n=>?_⟩
    rw [av n,av (aT e nmd)]
    exact e
   ·rintro j τ H2 ⟨u,_,h,_⟩
    exact h
   ·rintro j k v τ H2 hj ⟨u,rfl,h1,h2,h3⟩
    have hj':j < kvs.length:=(List.getElem?_eq_some_iff.mp hj).1
    refine dm ?_
    have dg:cP H2 d (kV k) (some v):=.inl ⟨kvs,k,.inr ⟨ob,h1⟩,rfl,(vJ ndk (List.mem_of_getElem? hj)).symm⟩
    refine⟨_,rfl,_,rfl,d,v,rfl,dg,_,rfl,_,rfl,md,_,rfl,gR.k (k:=k) h2 (bD (by rw [List.length_take];omega)),?_⟩
    refine⟨_,rfl,by rw [av ndm];exact h1,by rw [ae,uN ndk hj],fun c o e n=>?_⟩
    rw [av (aT e nmd)]
    exact h3 c o e n
   ·rintro τ H2 ⟨u,rfl,h1,h2,h3⟩
    refine⟨u,rfl,by rw [av ndm.symm,h2,List.take_length],fun c o e=>?_⟩
    by_cases z:c=d
    ·subst z
     rw [hd] at e
     cases e
     exact ae
    ·rw [av z]
     exact h3 c o e z
  rintro σ' H1 ⟨u,rfl,hmd,s1⟩
  have tb1:Tb 0 H1 kvs ks T:=tb.aI fun p xs e=>s1 _ _ e
  have sh1:SH H1 sv s:=sh.aI fun p xs e=>s1 _ _ e
  refine⟨fun σ' H2=>∃ (kvs2:List (Key × V)) (ks2:List Str),σ' = [some (.ref d),some (.str x),some sv,some (.ref md),u]/\H2 md=some (.dK kvs2)/\Tb 0 H2 kvs2 ks2 (bI T x bN)/\(∀ y ∈ ks2,bI T x bN y ≠ bN)/\ks2.length<=m/\ao H H2,
   ⟨_,rfl,md,rfl,.inl ⟨kvs,.inl hmd⟩,_,rfl,kvs,Sum.inr x,hmd,rfl,fun v ev=>?_,fun ev=>?_⟩,?_⟩
  ·refine⟨_,_,rfl,ae,(tb1.drop x).aI (fun p xs e=>by rw [av (bQ e hmd (by intro z;cases z))];exact e),fun y hy=>?_,Nat.le_trans (List.length_filter_le _ _) hl,s1.put nmd⟩
   obtain⟨h1,h2⟩:=List.mem_filter.mp hy
   have hne:y ≠ x:=of_decide_eq_true h2
   unfold bI
   rw [if_neg hne]
   exact cl y h1
  ·have hT:T x=bN:=by
    rcases tb.val x with ⟨_,a,_⟩ | ⟨v,a,_⟩
    ·exact a
    ·rw [ev] at a;cases a
   exact⟨kvs,ks,rfl,hmd,by rw [oq hT];exact tb1,by rw [oq hT];exact cl,hl,s1⟩
  rintro σ' H2 ⟨kvs2,ks2,rfl,hm2,tb2,cl2,hl2,s2⟩
  have kl2:kvs2.length=ks2.length:=by have:=congrArg List.length tb2.keys;simpa using this
  refine⟨_,rfl,ln2,fun t nt=>?_⟩
  have s3:=ao.new (o:=.tup [.aS,.aS]) nt
  have ht:(upd H2 t (.tup [.aS,.aS])) t=some (.tup [.aS,.aS]):=ae
  generalize (upd H2 t (.tup [.aS,.aS]))=H3 at s3 ht
  have sh3:SH H3 sv s:=sh.aI fun p xs e=>s3 _ _ (s2 _ _ e)
  have tb3:=tb2.aI (H':=H3) fun p xs e=>s3 _ _ e
  have hm3:=s3 _ _ hm2
  refine⟨dS s,.tuple [.none,.none],sh3.rd,.tup ht (.cons .aS (.cons .aS .nil)),xc s,rfl,(by have:=xf s;omega),_,rfl,?_⟩
  by_cases hs:s=bN
  ·refine aV (by rw [nj,decide_eq_true hs];rfl) ?_
   subst hs
   exact⟨_,rfl,q md H3 ⟨kvs2,ks2,hm3,tb3,cl2,Nat.le_succ_of_le hl2⟩ (s2.trans s3)⟩
  ·refine cb (by rw [nj,decide_eq_false hs];rfl) ?_
   refine⟨_,rfl,_,rfl,_,rfl,md,_,rfl,gR.k (k:=Sum.inr x) hm3 (bD (by omega)),?_⟩
   obtain⟨ks4,tb4,k4,m4⟩:=tb3.put x (.inl sh3)
   rw [uM] at tb4
   refine⟨_,rfl,q md _ ⟨_,ks4,ae,tb4.aI (fun p xs e=>by rw [av (bQ e hm3 (by intro z;cases z))];exact e),fun y hy=>?_,by omega⟩ ((s2.trans s3).put nmd)⟩
   unfold bI
   by_cases e:y=x
   ·rw [if_pos e];exact hs
   ·rw [if_neg e]
    have h1:=cl2 y (((m4 y).mp hy).elim id fun z=>absurd z e)
    unfold bI at h1
    rw [if_neg e] at h1
    exact h1
theorem rm {f:Addr} {fd:FuncData} (F:bX K "_law_told" "_law_told" fT f fd) (Z:Bl mg)  : bB P w K mg base bT 1 f fd ["facts"] kU:=by
 refine F.ok (k:=0) qU (fun vs H Q E h=>?_) (fun cdv A outer s H vs Q E hr h=>?_)
 ·obtain⟨d,T,rfl,_⟩:=h
  rfl
 ·obtain⟨d,T,rfl,lt,q⟩:=h
  refine⟨_,(ar (aC (bh bL rfl Z.tuple cJ (aa (cS ["name"] ["facts"] [0] rfl (mZ (ba (i1 rfl) rfl Z.sorted i9 (aa (pv 0) af))) rfl (by decide +kernel) (by decide +kernel) (by decide +kernel) ⟨⟨rfl,.inl rfl,rfl⟩,True.intro⟩ (fun _ _ _ _=>(aB (i:=0) (show ((["name"]:List Str)++(["facts"]:List Str)).Nodup by decide +kernel) rfl (Or.inl rfl) (hf:=Or.inr rfl))) (fun _ _ _ _=>du) (fun _ _ _ _=>(bg (aa (pv 0) (aa (kN (cz hr) (pv 1) (pv 0) (fun _ _=>rfl)) af))))) af)))),?_⟩
  obtain⟨kvs,ks,hd,tb,cl,hl⟩:=lt
  refine⟨_,rfl,d,kvs,ks,rfl,hd,tb.keys,(by omega),fun l ss hp hs hn=>?_⟩
  have srt:om ss:=⟨ko hs,hp.nodup_iff.mpr tb.nd⟩
  have hl1:(upd H l (.lst (ss.map V.str))) l=some (.lst (ss.map V.str)):=ae
  have s1:ao H (upd H l (.lst (ss.map V.str))):=ao.new hn
  have hssl:ss.length < 64:=by rw [hp.length_eq];omega
  generalize (upd H l (.lst (ss.map V.str)))=H1 at hl1 s1
  refine⟨l,rfl,⟨_,aU.of hl1⟩,fun acc na=>?_⟩
  refine m8 (K:=K) (a:=l) (xs:=ss.map V.str) (fun i ys τ H'=>∃ c:Option V,τ = [c,some (.ref d)]/\bu H' ys ((ss.take i).map (dF T))/\H' acc=some (.lst ys)/\ao H1 H') ?_ ?_ ?_ ?_
  ·exact⟨none,rfl,.nil,ae,ao.new na⟩
  ·rintro i ys τ H2 hi ⟨c,rfl,r,ha,s2⟩
   refine⟨aU.of (s2 _ _ hl1),ha,?_⟩
   have h1:=r.len
   rw [List.length_map,List.length_take] at h1
   exact bD (by omega)
  ·rintro i x ys τ H2 hi ⟨c,rfl,r,ha,s2⟩
   obtain⟨y,hy,rfl⟩:∃ y,ss[i]? = some y/\x=V.str y:=by
    rw [List.getElem?_map] at hi
    cases e:ss[i]? with
    | none=>rw [e] at hi;cases hi
    | some k=>rw [e] at hi;exact⟨k,rfl,(Option.some.inj hi).symm⟩
   have hym:y ∈ ks:=hp.mem_iff.mp (List.mem_of_getElem? hy)
   have tk:ss.take (i+1)=ss.take i ++ [y]:=by rw [List.take_add_one,hy];rfl
   obtain⟨v,ev,sv⟩:∃ v,bM kvs (Sum.inr y)=some v/\SH H v (T y):=by
    rcases tb.val y with ⟨_,_,c⟩ | ⟨v,a,b,_⟩
    ·exact absurd hym c
    ·rcases b with b | ⟨_,b⟩
     ·exact⟨v,a,b⟩
     ·exact absurd b (cl y hym)
   have hd2:H2 d=some (.dK kvs):=s2 _ _ (s1 _ _ hd)
   have dg:cP H2 d (.str y) (some v):=by
    have:=cP.k (k:=Sum.inr y) hd2
    rw [ev] at this
    exact this
   refine dm ?_
   refine iX ?_
   refine bA ?_
   refine⟨_,rfl,_,rfl,_,rfl,d,v,rfl,dg,ln2,fun t nt=>?_⟩
   have s3:=ao.new (o:=.tup [.str y,v]) nt
   have ht:(upd H2 t (.tup [.str y,v])) t=some (.tup [.str y,v]):=ae
   generalize (upd H2 t (.tup [.str y,v]))=H3 at s3 ht
   have sh:SH H3 v (T y):=sv.aI fun p xs e=>s3 _ _ (s2 _ _ (s1 _ _ e))
   have ha3:=s3 _ _ ha
   refine⟨ha3,_,rfl,?_,ae,(s2.trans s3).put na⟩
   rw [tk,List.map_append]
   refine bu.app ((r.same s3 (gJ T _)).put ha3 (gJ T _)) ?_
   refine bC.aI (H:=H3) (fun p zs e=>by rw [av (bQ e ha3 (by intro z;cases z))];exact e) (.tup ht (.cons (.str y) (.cons sh.rd .nil))) ?_
   have:=gJ T [y]
   simpa [cm] using this
  ·rintro ys τ H2 ⟨c,rfl,r,ha,s2⟩
   rw [List.length_map,List.take_length] at r
   refine⟨acc,ys,rfl,.inl ⟨aU.of ha,fun t nt=>?_⟩⟩
   refine q _ _ ⟨t,ys,ss,rfl,ae,srt,fun x=>?_,r.same (ao.new nt) (gJ T _)⟩ ((s1.trans s2).trans (ao.new nt))
   rw [hp.mem_iff]
   constructor
   ·exact cl x
   ·intro h
    rcases tb.val x with ⟨_,a,_⟩ | ⟨_,_,_,a⟩
    ·exact absurd a h
    ·exact a
theorem mY {f:Addr} {fd:FuncData} (F:bX K "_law_table_of" "_law_table_of" dB f fd) (Z:Bl mg)  : bB P w K mg base bT 1 f fd ["facts"] jR:=by
 refine F.ok (k:=0) fk (fun vs H Q E h=>?_) (fun cdv A outer s H vs Q E hr h=>?_)
 ·obtain⟨fv,T,m,rfl,_⟩:=h
  rfl
 ·obtain⟨fv,T,m,rfl,hf,bc,hm,q⟩:=h
  refine⟨_,(ah (aH (i:=1) fk.nd rfl (Or.inl rfl) jK)
   (ah (eR PassesOwn.never rfl (eh (pv 0)) (cf rfl (aG (aB (i:=2) fk.nd rfl (Or.inl rfl)) (aG (aB (i:=3) fk.nd rfl (Or.inl rfl)) bU)))
   (ar (fH (cz hr) (pv 1) (pv 2) (pv 3) rfl)))
   (ar (aC (pv 1))))),?_⟩
  obtain⟨p,xs,ss,rfl,hp,srt,hss,r⟩:=hf
  have hl:=r.len
  rw [List.length_map] at hl
  have hsl:ss.length<=m:=bc ss (fun x hx=>(hss x).mp hx) srt.nd
  refine fun d nd=>?_
  have s0:=ao.new (o:=.dK []) nd
  refine⟨_,rfl,p,rfl,⟨_,aw.of (s0 _ _ hp)⟩,iF (K:=K) (a:=p) (xs:=xs) (fun i σ H'=>∃ (kvs:List (Key × V)) (ks:List Str) (u1 u2:Option V),σ = [some (.ref p),some (.ref d),u1,u2]/\H' d=some (.dK kvs)/\Tb 0 H' kvs ks (lX T (ss.take i))/\(∀ x,x ∈ ks ↔ x ∈ ss.take i)/\ks.length<=i/\ao H H') ?_ ?_ ?_ ?_⟩
  ·refine⟨[],[],_,_,rfl,ae,⟨rfl,List.nodup_nil,fun x=>.inl ⟨rfl,?_,by simp⟩⟩,fun x=>by simp,Nat.le_refl _,s0⟩
   unfold lX
   rw [if_neg (by simp)]
  ·rintro i σ H1 hi ⟨kvs,ks,u1,u2,rfl,h1,h2,h3,h4,s1⟩
   exact aw.of (s1 _ _ hp)
  ·rintro i y σ H1 hi ⟨kvs,ks,u1,u2,rfl,h1,h2,h3,h4,s1⟩
   have hil:i < ss.length:=by have:=(List.getElem?_eq_some_iff.mp hi).1;omega
   have hsi:ss[i]? = some ss[i]:=by simp [hil]
   generalize ss[i] = x at hsi
   obtain⟨v,hv,rv⟩:=r.get (i:=i) (d:=dF T x) (by rw [List.getElem?_map,hsi];rfl)
   rw [hi] at hv
   cases hv
   obtain⟨qa,qvs,rfl,hqa,rq⟩:=bC.cn rv
   obtain⟨y1,t1,rfl,q1,rq⟩:=rq.cons_inv
   obtain⟨y2,t2,rfl,q2,rq⟩:=rq.cons_inv
   have z:=rq.nil_inv
   subst z
   have ey1:=q1.str_inv
   subst ey1
   refine⟨qa,_,rfl,aw.of (s1 _ _ hqa),rfl,_,_,rfl,_,_,rfl,rfl,?_⟩
   have kl:kvs.length=ks.length:=by have:=congrArg List.length h2.keys;simpa using this
   obtain⟨sp,rfl,hsp⟩:=wm q2
   refine⟨_,rfl,_,rfl,_,rfl,d,_,rfl,gR.k (k:=Sum.inr x) h1 (bD (by omega)),?_⟩
   obtain⟨ks2,tb2,kl2,km2⟩:=h2.put x (v:=.ref sp) (s:=T x) (.inl ⟨sp,rfl,s1 _ _ hsp⟩)
   rw [wj] at tb2
   have htk:ss.take (i+1)=ss.take i ++ [x]:=by rw [List.take_add_one,hsi];rfl
   refine⟨_,ks2,_,_,rfl,ae,?_,fun y=>?_,by omega,s1.put nd⟩
   ·rw [htk]
    exact tb2.aI fun p zs e=>by rw [av (bQ e h1 (by intro z;cases z))];exact e
   ·rw [km2,h3,htk,List.mem_append,List.mem_singleton]
  ·rintro σ H1 ⟨kvs,ks,u1,u2,rfl,h1,h2,h3,h4,s1⟩
   rw [hl,List.take_length] at h2 h3
   rw [wk hss] at h2
   exact⟨_,rfl,q d H1 nd ⟨kvs,ks,h1,h2,fun x hx=>(hss x).mp ((h3 x).mp hx),by omega⟩ s1⟩
theorem j1 {f:Addr} {fd:FuncData} (F:bX K "_law_facts_spoilt" "_law_facts_spoilt" cC f fd) (Z:Bl mg) (O_law_table_of:Own P w K mg base "_law_table_of" 1 ["facts"] jR) (O_law_take:Own P w K mg base "_law_take" 1 ["bag", "many"] eU) (O_law_told:Own P w K mg base "_law_told" 1 ["facts"] kU) (O_law_with:Own P w K mg base "_law_with" 1 ["facts", "name", "stretch"] nu):bB P w K mg base bT 4 f fd ["bag", "facts"] kA:=by
  refine F.ok (k:=3) aW (fun vs H Q E h=>?_) (fun cdv A outer s H vs Q E hr h=>?_)
  · obtain⟨b,fv,T,xs,rfl,_⟩:=h
    rfl
  · obtain⟨b,fv,T,xs,rfl,hB,hf,tok,hzz,h50,q⟩:=h
    refine⟨_,(ah (aH (i:=2) aW.nd rfl (Or.inl rfl) (ay O_law_table_of (hr.mono (by decide)) rfl (aa (pv 1) af)))
      (ah (aH (i:=3) aW.nd rfl (Or.inl rfl) (aZ yt (ba (i1 rfl) rfl Z.sorted i9 (aa (pv 2) af)) (cu (aa bp af))))
      (ah (aH (i:=4) aW.nd rfl (Or.inl rfl) (aF bH (pv 3) (ay O_law_take (hr.mono (by decide)) rfl (aa (pv 0) (aa (ba br rfl Z.len cI (aa (pv 3) af)) af))) (fun _ _=>rfl)))
      (ah (cg (cO (cz hr) (pv 2) (pv 4) (bg (aa cq (aa cq af))) ⟨rfl,rfl,rfl,rfl⟩) (cf rfl (aG (aB (i:=5) aW.nd rfl (Or.inl rfl)) (aG (aB (i:=6) aW.nd rfl (Or.inl rfl)) bU))))
      (ah (aH (i:=7) aW.nd rfl (Or.inl rfl) (ay O_law_take (hr.mono (by decide)) rfl (aa (pv 0) (aa ai af))))
      (ah (aY (aJ bG (pv 7) ai (aK _))
      (ah (eY (pQ (pv 2) (pv 4) cq ⟨rfl,rfl,rfl,rfl⟩))
      (ar (aC (ay O_law_told (hr.mono (by decide)) rfl (aa (pv 2) af)))))
      aR)
      (ah (cQ (aY (aJ bG (pv 7) ai (aK _))
      (ar (aH (i:=5) aW.nd rfl (Or.inl rfl) cq))
      aR))
      (ah (cQ (aY (aJ bG (pv 7) ai (aK _))
      (ar (aH (i:=6) aW.nd rfl (Or.inl rfl) cq))
      aR))
      (ah (cQ (aY (PW.pt (fX (aJ bG (pv 7) ai (aK _)) (eX (di (eW (pv 5))))))
      (ar (aH (i:=5) aW.nd rfl (Or.inl rfl) (aZ gC (pv 5) ai)))
      aR))
      (ah (cQ (aY (PW.pt (fX (aJ bG (pv 7) ai (aK _)) (eX (di (eW (pv 6))))))
      (ar (aH (i:=6) aW.nd rfl (Or.inl rfl) (aZ cH (pv 6) ai)))
      aR))
      (ah (cQ (aY (aJ bG (pv 7) ai (aK _))
      (ar (tQ (i:=5) (j:=6) rfl aW.nd rfl rfl (by decide) rfl rfl (aa ai (aa (aZ cH ai (ay O_law_take (hr.mono (by decide)) rfl (aa (pv 0) (aa ai af)))) af)) rfl))
      aR))
      (ah (cQ (aY (aJ bG (pv 7) ai (aK _))
      (ar (cg (aF bH (cu (aa (bg (aa ai (aa (aZ cH ai (ay O_law_take (hr.mono (by decide)) rfl (aa (pv 0) (aa ai af)))) af))) (aa (bg (aa (wW tU ai) (aa (wW tU ai) af))) af))) (ay O_law_take (hr.mono (by decide)) rfl (aa (pv 0) (aa ai af))) (fun _ _=>rfl)) (cf rfl (aG (aB (i:=5) aW.nd rfl (Or.inl rfl)) (aG (aB (i:=6) aW.nd rfl (Or.inl rfl)) bU)))))
      aR))
      (ar (aC (ay O_law_told (hr.mono (by decide)) rfl (aa (ay O_law_with (hr.mono (by decide)) rfl (aa (pv 2) (aa (pv 4) (aa (bg (aa (pv 5) (aa (pv 6) af))) af)))) af)))))))))))))))),?_⟩
    refine⟨_,rfl,fv,T,xs.length,rfl,hf,tok.bc,(by omega),fun d H1 nd lt1 s1=>?_⟩
    have hf1:=hf.same s1
    have B1:=hB.same s1
    obtain⟨kvs,ks,hd,tb,cl,hl⟩:=lt1
    have lt1:LT H1 d T xs.length:=⟨kvs,ks,hd,tb,cl,hl⟩
    refine⟨_,rfl,d,kvs,ks,rfl,hd,tb.keys,(by omega),fun l1 ss hperm hsort nl1=>?_⟩
    have s2:=ao.new (o:=.lst (ss.map V.str)) nl1
    have hl1:(upd H1 l1 (.lst (ss.map V.str))) l1=some (.lst (ss.map V.str)):=ae
    generalize (upd H1 l1 (.lst (ss.map V.str)))=H2 at s2 hl1
    have hsl:=hperm.length_eq
    refine⟨pD,fun l2 n2=>⟨l1,l2,_,_,rfl,rfl,ao.new n2 _ _ hl1,ae,(by rw [List.length_map];exact Nat.le_of_lt (bD (by show _+1<=1000;omega))),fun l3 n3=>?_⟩⟩
    have hl3:(upd (upd H2 l2 (.lst [.str "zz"])) l3 (.lst (ss.map V.str ++ [.str "zz"]))) l3=some (.lst ((ss ++ [("zz" : Str)]).map V.str)):=by rw [ae,List.map_append];rfl
    have s3:=(ao.new (o:=.lst [.str "zz"]) n2).trans (ao.new (o:=.lst (ss.map V.str ++ [.str "zz"])) n3)
    generalize (upd (upd H2 l2 (.lst [.str "zz"])) l3 (.lst (ss.map V.str ++ [.str "zz"])))=H3 at s3 hl3
    have s03:=s1.trans (s2.trans s3)
    have s13:=s2.trans s3
    have B3:=B1.same s13
    have el:(((ss ++ [("zz" : Str)]).map V.str).length:Int)=ss.length+1:=by simp
    refine⟨_,rfl,_,rfl,_,rfl,l3,_,rfl,.inl (aU.of hl3),b,_,rfl,B3,⟨by omega,eV (by omega) (by omega)⟩,fun r H4 r0 r1 B4 X4=>?_⟩
    have nl3:l3 ≠ b:=by
      obtain⟨x,y',e,_⟩:=B3
      rintro rfl
      rw [hl3] at e
      cases ss <;> simp at e
    obtain⟨x,hx,hxm⟩:=jJ (xs:=ss ++ [("zz" : Str)]) r0 r1
    refine⟨l3,_,r,_,rfl,rfl,aU.of (X4 _ _ hl3 nl3),hx,?_⟩
    have hxp:x ∈ xs:=by
      rcases List.mem_append.mp hxm with h | h
      · exact tok.sup x (cl x (hperm.mem_iff.mp h))
      · rw [List.mem_singleton.mp h];exact hzz
    have lt4:=(lt1.same s13).fix B3 X4
    have F4:Fix b H H4:=(Fix.of_same s03).trans X4
    obtain⟨kvs,ks,hd,tb,cl,hl⟩:=lt4
    have lt4:LT H4 d T xs.length:=⟨kvs,ks,hd,tb,cl,hl⟩
    refine⟨_,rfl,d,rfl,.inl ⟨kvs,.inl hd⟩,_,rfl,ln2,fun t0 n0=>?_⟩
    have s5:=ao.new (o:=.tup [.aS,.aS]) n0
    have ht0:(upd H4 t0 (.tup [.aS,.aS])) t0=some (.tup [.aS,.aS]):=ae
    generalize (upd H4 t0 (.tup [.aS,.aS]))=H5 at s5 ht0
    obtain⟨v,ev,qv,rfl,hqv⟩:=LT.get (tb.aI fun p zs e=>s5 _ _ e) cl ht0 x
    refine⟨_,_,cP.k (k:=Sum.inr x) (s5 _ _ hd),ev,qv,_,rfl,aw.of hqv,rfl,_,_,rfl,_,_,rfl,rfl,?_⟩
    have lt5:=lt4.same s5
    have B5:=B4.same s5
    have F5:=F4.trans (Fix.of_same s5)
    have hle:=tok.le x
    generalize T x=s0 at hqv hle
    refine⟨_,rfl,b,7,rfl,B5,⟨by decide,by decide +kernel⟩,fun way H6 w0 w1 B6 X6=>?_⟩
    have lt6:=lt5.fix B5 X6
    have F6:=F5.trans X6
    have ndb:d ≠ b:=lt6.yT B6
    clear hqv ht0 s5 n0
    refine⟨_,rfl,rfl,_,rfl,?_⟩
    refine cA (fun hc=>?_) (fun hc=>?_)
    · obtain⟨kvs,ks,hd,tb,cl,hl⟩:=lt6
      have cl2:∀ (T':Str->Sx) (H7:Hp),cy xs T'->LT H7 d T' xs.length->bR H7 b->Fix b H H7->yb (sx kU [] E0 (bZ (oZ 2) gh)) { nx:=fun x H'=>Q V.aS H',rt:=Q } [some (.ref b),some fv,some (.ref d),some (.ref l3),some (.str x),some (vO s0.1),some (vO s0.2),some (.int way)] H7:=fun T' H7 a1 a2 a3 a4=>by
        refine⟨_,rfl,d,T',rfl,a2.up (by omega),fun v H8 f8 s8=>?_⟩
        exact q v T' H8 f8 a1 (a3.same s8) (a4.trans (Fix.of_same s8))
      refine⟨_,rfl,d,rfl,.inl ⟨kvs,.inl hd⟩,_,rfl,kvs,Sum.inr x,hd,rfl,fun v ev=>?_,fun ev=>?_⟩
      · have F7:Fix b H (upd H6 d (.dK (d9 kvs (Sum.inr x)))):=fun c o e ne=>by
          rw [av (aT e nd)]
          exact F6 c o e ne
        refine cl2 (bI T x bN) _ (tok.set hxp True.intro) ⟨_,_,ae,(tb.drop x).aI (fun p zs e=>by rw [av (bQ e hd (by intro z;cases z))];exact e),fun y hy=>?_,Nat.le_trans (List.length_filter_le _ _) hl⟩ (B6.put ndb.symm) F7
        obtain⟨h1,h2⟩:=List.mem_filter.mp hy
        have hne:y ≠ x:=of_decide_eq_true h2
        unfold bI
        rw [if_neg hne]
        exact cl y h1
      · exact cl2 T H6 tok ⟨kvs,ks,hd,tb,cl,hl⟩ B6 F6
    refine⟨fun σ' H'=>∃ s:Sx,σ' = [some (.ref b),some fv,some (.ref d),some (.ref l3),some (.str x),some (vO s.1),some (vO s.2),some (.int way)]/\iy s.1 s.2/\LT H' d T xs.length/\bR H' b/\Fix b H H',?_,?_⟩
    · refine⟨_,rfl,rfl,_,rfl,?_⟩
      refine cA (fun hc=>?_) (fun hc=>?_)
      · exact⟨(none,s0.2),rfl,True.intro,lt6,B6,F6⟩
      · exact⟨s0,rfl,hle,lt6,B6,F6⟩
    rintro σ' H7 ⟨s,rfl,le7,lt7,B7,F7⟩
    refine⟨fun σ' H'=>∃ s:Sx,σ' = [some (.ref b),some fv,some (.ref d),some (.ref l3),some (.str x),some (vO s.1),some (vO s.2),some (.int way)]/\iy s.1 s.2/\LT H' d T xs.length/\bR H' b/\Fix b H H',?_,?_⟩
    · refine⟨_,rfl,rfl,_,rfl,?_⟩
      refine cA (fun hc=>?_) (fun hc=>?_)
      · exact⟨(s.1,none),rfl,(by show iy s.1 none;cases s.1 <;> exact True.intro),lt7,B7,F7⟩
      · exact⟨s,rfl,le7,lt7,B7,F7⟩
    rintro σ' H7 ⟨s,rfl,le7,lt7,B7,F7⟩
    refine⟨fun σ' H'=>∃ s:Sx,σ' = [some (.ref b),some fv,some (.ref d),some (.ref l3),some (.str x),some (vO s.1),some (vO s.2),some (.int way)]/\iy s.1 s.2/\LT H' d T xs.length/\bR H' b/\Fix b H H',?_,?_⟩
    · refine⟨_,rfl,rfl,_,rfl,?_⟩
      refine cA (fun hc=>?_) (fun hc=>?_)
      · obtain⟨lo,hi⟩:=s
        refine⟨_,rfl,_,rfl,?_⟩
        cases lo with
        | none=>exact aV rfl ⟨(none,hi),rfl,le7,lt7,B7,F7⟩
        | some a =>
          refine cb rfl ?_
          refine⟨_,rfl,_,_,rfl,rfl,?_⟩
          refine⟨(some (a - 1),hi),rfl,?_,lt7,B7,F7⟩
          cases hi with
          | none=>exact True.intro
          | some c=>have le7:a<=c:=le7;show a - 1<=c;omega
      · exact bw ⟨s,rfl,le7,lt7,B7,F7⟩
    rintro σ' H7 ⟨s,rfl,le7,lt7,B7,F7⟩
    refine⟨fun σ' H'=>∃ s:Sx,σ' = [some (.ref b),some fv,some (.ref d),some (.ref l3),some (.str x),some (vO s.1),some (vO s.2),some (.int way)]/\iy s.1 s.2/\LT H' d T xs.length/\bR H' b/\Fix b H H',?_,?_⟩
    · refine⟨_,rfl,rfl,_,rfl,?_⟩
      refine cA (fun hc=>?_) (fun hc=>?_)
      · obtain⟨lo,hi⟩:=s
        refine⟨_,rfl,_,rfl,?_⟩
        cases hi with
        | none=>exact aV rfl ⟨(lo,none),rfl,le7,lt7,B7,F7⟩
        | some a =>
          refine cb rfl ?_
          refine⟨_,rfl,_,_,rfl,rfl,?_⟩
          refine⟨(lo,some (a+1)),rfl,?_,lt7,B7,F7⟩
          cases lo with
          | none=>exact True.intro
          | some c=>have le7:c<=a:=le7;show c<=a+1;omega
      · exact bw ⟨s,rfl,le7,lt7,B7,F7⟩
    rintro σ' H7 ⟨s,rfl,le7,lt7,B7,F7⟩
    refine⟨fun σ' H'=>∃ s:Sx,σ' = [some (.ref b),some fv,some (.ref d),some (.ref l3),some (.str x),some (vO s.1),some (vO s.2),some (.int way)]/\iy s.1 s.2/\LT H' d T xs.length/\bR H' b/\Fix b H H',?_,?_⟩
    · refine⟨_,rfl,rfl,_,rfl,?_⟩
      refine cA (fun hc=>?_) (fun hc=>?_)
      · refine⟨_,rfl,b,3,rfl,B7,⟨by decide,by decide +kernel⟩,fun r H8 r0 r1 B8 X8=>⟨_,_,rfl,rfl,?_⟩⟩
        refine⟨_,_,rfl,(some 0,some (1+r)),rfl,(show (0:Int)<=1+r by omega),lt7.fix B7 X8,B8,F7.trans X8⟩
      · exact⟨s,rfl,le7,lt7,B7,F7⟩
    rintro σ' H7 ⟨s,rfl,le7,lt7,B7,F7⟩
    refine⟨fun σ' H'=>∃ s:Sx,σ' = [some (.ref b),some fv,some (.ref d),some (.ref l3),some (.str x),some (vO s.1),some (vO s.2),some (.int way)]/\iy s.1 s.2/\LT H' d T xs.length/\bR H' b/\Fix b H H',?_,?_⟩
    · refine⟨_,rfl,rfl,_,rfl,?_⟩
      refine cA (fun hc=>?_) (fun hc=>?_)
      · refine⟨_,rfl,b,3,rfl,B7,⟨by decide,by decide +kernel⟩,fun r H8 r0 r1 B8 X8=>⟨_,_,rfl,rfl,ln2,fun t1 n1=>?_⟩⟩
        refine⟨3,rfl,1,rfl,ln2,fun t2 n2=>⟨ln2,fun l4 n4=>?_⟩⟩
        have q1:=ao.new (o:=.tup [.int 1,.int (1+r)]) n1
        have q2:=ao.new (o:=.tup [.int (-3),.int (-1)]) n2
        have q3:=ao.new (o:=.lst [.ref t1,.ref t2]) n4
        have ht1:=q3 _ _ (q2 _ _ (show (upd H8 t1 (.tup [.int 1,.int (1+r)])) t1=_ from ae))
        have ht2:=q3 _ _ (show (upd (upd H8 t1 (.tup [.int 1,.int (1+r)])) t2 (.tup [.int (-3),.int (-1)])) t2=_ from ae)
        have hl4:(upd (upd (upd H8 t1 (.tup [.int 1,.int (1+r)])) t2 (.tup [.int (-3),.int (-1)])) l4 (.lst [.ref t1,.ref t2])) l4=some (.lst [.ref t1,.ref t2]):=ae
        have q13:=(q1.trans q2).trans q3
        generalize (upd (upd (upd H8 t1 (.tup [.int 1,.int (1+r)])) t2 (.tup [.int (-3),.int (-1)])) l4 (.lst [.ref t1,.ref t2]))=H9 at ht1 ht2 hl4 q13
        have B9:=B8.same q13
        have lt9:=(lt7.fix B7 X8).same q13
        have F9:=(F7.trans X8).trans (Fix.of_same q13)
        refine⟨_,rfl,b,2,rfl,B9,⟨by decide,by decide +kernel⟩,fun r2 H10 r20 r21 B10 X10=>?_⟩
        have nl4:l4 ≠ b:=by
          obtain⟨x',y',e,_⟩:=B9
          rintro rfl
          rw [hl4] at e
          simp at e
        have hl10:=X10 _ _ hl4 nl4
        have lt10:=lt9.fix B9 X10
        have F10:=F9.trans X10
        obtain rfl | rfl:r2=0\/r2=1:=by omega
        · refine⟨l4,_,0,_,rfl,rfl,aU.of hl10,bP,t1,_,rfl,aw.of (X10 _ _ ht1 (B9.eT ht1)),rfl,_,_,rfl,_,_,rfl,rfl,?_⟩
          exact⟨(some 1,some (1+r)),rfl,(show (1:Int)<=1+r by omega),lt10,B10,F10⟩
        · refine⟨l4,_,1,_,rfl,rfl,aU.of hl10,cv,t2,_,rfl,aw.of (X10 _ _ ht2 (B9.eT ht2)),rfl,_,_,rfl,_,_,rfl,rfl,?_⟩
          exact⟨(some (-3),some (-1)),rfl,(show (-3:Int) <= -1 by decide),lt10,B10,F10⟩
      · exact⟨s,rfl,le7,lt7,B7,F7⟩
    rintro σ' H7 ⟨s,rfl,le7,lt7,B7,F7⟩
    refine⟨_,rfl,_,rfl,_,rfl,_,rfl,ln2,fun t1 n1=>?_⟩
    have s8:=ao.new (o:=.tup [vO s.1,vO s.2]) n1
    refine⟨d,T,xs.length,x,.ref t1,s,rfl,lt7.same s8,(by omega),⟨t1,rfl,ae⟩,fun d2 H9 lt9 s9=>?_⟩
    have s79:=s8.trans s9
    refine⟨d2,_,rfl,lt9.up (by omega),fun v H10 f10 s10=>?_⟩
    have s710:=s79.trans s10
    exact q v _ H10 f10 (tok.set hxp le7) (B7.same s710) (F7.trans (Fix.of_same s710))
theorem j2 {f:Addr} {fd:FuncData} (F:bX K "_law_table_spoilt" "_law_table_spoilt" cD f fd) (Z:Bl mg) (O_law_take:Own P w K mg base "_law_take" 1 ["bag", "many"] eU) (O_law_facts_spoilt:Own P w K mg base "_law_facts_spoilt" 4 ["bag", "facts"] kA):bB P w K mg base bT 5 f fd ["bag", "table"] kB:=by
  refine F.ok (k:=4) dH (fun vs H Q E h=>?_) (fun cdv A outer s H vs Q E hr h=>?_)
  · obtain⟨b,ta,us,tab,xs,rfl,_⟩:=h
    rfl
  · obtain⟨b,ta,us,tab,xs,rfl,hB,hta,hb,tok,hzz,h50,h0,h400,q⟩:=h
    refine⟨_,(ah (aH (i:=2) dH.nd rfl (Or.inl rfl) (bh kd rfl Z.list rM (aa (pv 1) af)))
      (ah (aH (i:=3) dH.nd rfl (Or.inl rfl) (aZ iQ (ay O_law_take (hr.mono (by decide)) rfl (aa (pv 0) (aa (ba br rfl Z.len cI (aa (pv 2) af)) af))) (bh i5 rfl Z.int mz (aa (fF kH (ay O_law_take (hr.mono (by decide)) rfl (aa (pv 0) (aa ai af))) ai (aK _)) af))))
      (ah (aH (i:=4) dH.nd rfl (Or.inl rfl) (ay O_law_take (hr.mono (by decide)) rfl (aa (pv 0) (aa ai af))))
      (ah (cQ (aY (aJ bG (pv 4) ai (aK _))
      (ar (kY cq (eQ (pv 2) (pv 3) set_list)))
      (ar (aY (aJ bG (pv 4) ai (aK _))
      (ar (kY (aF bH (pv 2) (ay O_law_take (hr.mono (by decide)) rfl (aa (pv 0) (aa (ba br rfl Z.len cI (aa (pv 2) af)) af))) (fun _ _=>rfl)) (eQ (pv 2) (pv 3) set_list)))
      (ar (aY (PW.pt (fX (aJ bG (pv 4) ai (aK _)) (eX (aJ kH (ba br rfl Z.len cI (aa (pv 2) af)) ai (aK _)))))
      (ar (eY (gF PySem.F.plainAttrs_list PySem.F.slot_list_pop PySem.F.type_list_pop vw (pv 2) (aa (pv 3) af))))
      (ar (aY (PW.pt (fX (aJ bG (pv 4) ai (aK _)) (eX (aJ i4 (ba br rfl Z.len cI (aa (pv 2) af)) ai (aK _)))))
      (ar (eY (gF PySem.F.plainAttrs_list PySem.F.slot_list_insert PySem.F.type_list_insert wC (pv 2) (aa (pv 3) (aa (aF bH (pv 2) (pv 3) (fun _ _=>rfl)) af)))))
      (ar (aY (PW.pt (oN (aJ bG (pv 4) ai (aK _)) (mq (di (dQ (aF bH (pv 2) (pv 3) (fun _ _=>rfl)))))))
      (xT zy (ay O_law_take (hr.mono (by decide)) rfl (aa (pv 0) (aa ai af))) (fun _ _=>rfl) (eQ (pv 2) (pv 3) set_list))
      (ar (kY (ay O_law_facts_spoilt (hr.mono (by decide)) rfl (aa (pv 0) (aa (aF bH (pv 2) (pv 3) (fun _ _=>rfl)) af))) (eQ (pv 2) (pv 3) set_list)))))))))))))
      (ar (aC (bh bL rfl Z.tuple cJ (aa (pv 2) af)))))))),?_⟩
    have hul:=dY hb
    refine⟨_,rfl,ta,_,rfl,.inr (aw.of hta),fun so nso=>?_⟩
    have s1:=ao.new (o:=.lst us) nso
    have hso:(upd H so (.lst us)) so=some (.lst us):=ae
    generalize (upd H so (.lst us))=H1 at s1 hso
    have B1:=hB.same s1
    have hb1:=bJ.same hb s1
    have nsb:so ≠ b:=hB.dU nso
    refine⟨_,rfl,_,rfl,so,_,rfl,.inl (aU.of hso),b,_,rfl,B1,⟨by omega,eV (by omega) (by omega)⟩,fun r H2 r0 r1 B2 X2=>?_⟩
    refine⟨_,rfl,b,4,rfl,B2,⟨by decide,by decide +kernel⟩,fun r2 H3 r20 r21 B3 X3=>?_⟩
    refine⟨_,_,rfl,rfl,?_⟩
    refine .inr ⟨_,rfl,?_⟩
    obtain⟨k,hkr,hkt⟩:∃ k:Nat,r * (if decide (0 < r2)=true then 1 else 0)=(k:Int)/\k < tab.length:=by
      cases decide (0 < r2)
      · exact⟨0,by simp,h0⟩
      · exact⟨r.toNat,by simp;omega,by omega⟩
    refine⟨_,_,rfl,rfl,(by cases decide (0 < r2) <;> exact .inr ⟨by decide,by decide⟩),?_⟩
    have e0:((fun i j:Int=>V.int (i * j)) r (if decide (0 < r2)=true then 1 else 0))=V.int (k:Int):=congrArg V.int hkr
    rw [e0]
    refine⟨_,rfl,b,8,rfl,B3,⟨by decide,by decide +kernel⟩,fun way H4 w0 w1 B4 X4=>?_⟩
    have X14:Fix b H1 H4:=(X2.trans X3).trans X4
    have F4:Fix b H H4:=(Fix.of_same s1).trans X14
    have hso4:=X14 _ _ hso nsb
    have hb4:bJ H4 us tab:=hb1.qy B1 X14
    have hokk:tab[k]? = some tab[k]:=by simp [hkt]
    generalize tab[k] = o at hokk
    obtain⟨v,hv,bo⟩:=fz hb4 hokk
    have oko:∀ T,o=some T->cy xs T:=fun T h=>tok T (h ▸ List.mem_of_getElem? hokk)
    have fin:∀ (H5:Hp) (v:V) (o:Option (Str->Sx)),H5 so=some (.lst us)->bJ H5 us tab->bR H5 b->Fix b H H5->BV H5 v o->(∀ T,o=some T->cy xs T)->∃ (us':List V) (tab':cF),([some (.ref b),some (.ref ta),some (.ref so),some (.int (k:Nat)),some (.int way)]:List (Option V)) = [some (.ref b),some (.ref ta),some (.ref so),some (.int (k:Nat)),some (.int way)]/\(upd H5 so (.lst (us.set k v))) so=some (.lst us')/\bJ (upd H5 so (.lst (us.set k v))) us' tab'/\TabOk xs tab'/\0 < tab'.length/\tab'.length<=400/\bR (upd H5 so (.lst (us.set k v))) b/\Fix b H (upd H5 so (.lst (us.set k v))):=fun H5 v o a1 a2 a3 a4 a5 a6=>by
      have kt:∀ p zs,H5 p=some (.tup zs)->(upd H5 so (.lst (us.set k v))) p=some (.tup zs):=fun p zs e=>by rw [av (bQ e a1 (by intro z;cases z))];exact e
      refine⟨us.set k v,tab.set k o,rfl,ae,iC (F:=BV _) (a5.aI kt) k (bJ.aI kt a2),tok.set k a6,(by rw [List.length_set];exact h0),(by rw [List.length_set];exact h400),a3.put nsb.symm,fun c oo e ne=>?_⟩
      rw [av (aT e nso)]
      exact a4 c oo e ne
    refine⟨fun σ' H'=>∃ (us':List V) (tab':cF),σ' = [some (.ref b),some (.ref ta),some (.ref so),some (.int (k:Nat)),some (.int way)]/\H' so=some (.lst us')/\bJ H' us' tab'/\TabOk xs tab'/\0 < tab'.length/\tab'.length<=400/\bR H' b/\Fix b H H',?_,?_⟩
    · refine⟨_,rfl,rfl,_,rfl,?_⟩
      refine cA (fun hc=>?_) (fun hc=>?_)
      · refine⟨_,rfl,_,rfl,so,_,_,k,rfl,rfl,hso4,eB (by rw [hul];exact hkt),?_⟩
        exact fin H4 .aS none hso4 hb4 B4 F4 rfl (fun T h=>nomatch h)
      refine⟨_,rfl,rfl,_,rfl,?_⟩
      refine cA (fun hc=>?_) (fun hc=>?_)
      · refine⟨_,rfl,_,rfl,_,rfl,so,_,rfl,.inl (aU.of hso4),b,_,rfl,B4,⟨by omega,eV (by omega) (by omega)⟩,fun r3 H5 r30 r31 B5 X5=>?_⟩
        obtain⟨k3,rfl⟩:∃ k:Nat,r3=k:=⟨r3.toNat,by omega⟩
        have hk3:k3 < tab.length:=by omega
        have hok3:tab[k3]? = some tab[k3]:=by simp [hk3]
        generalize tab[k3] = o3 at hok3
        obtain⟨v3,hv3,bo3⟩:=fz hb4 hok3
        have hso5:=X5 _ _ hso4 nsb
        refine⟨so,_,_,_,rfl,rfl,aU.of hso5,bE hv3,?_⟩
        refine⟨_,rfl,_,rfl,so,_,_,k,rfl,rfl,hso5,eB (by rw [hul];exact hkt),?_⟩
        exact fin H5 v3 o3 hso5 (hb4.qy B4 X5) B5 (F4.trans X5) (bo3.aI fun p zs e=>X5 _ _ e (B4.eT e)) (fun T h=>tok T (h ▸ List.mem_of_getElem? hok3))
      refine⟨_,rfl,rfl,_,rfl,?_⟩
      have upto:∀ (us':List V) (tab':cF),Paired (BV H4) us' tab'->TabOk xs tab'->0 < tab'.length->tab'.length<=400->∃ (us'':List V) (tab':cF),([some (.ref b),some (.ref ta),some (.ref so),some (.int (k:Nat)),some (.int way)]:List (Option V)) = [some (.ref b),some (.ref ta),some (.ref so),some (.int (k:Nat)),some (.int way)]/\(upd H4 so (.lst us')) so=some (.lst us'')/\bJ (upd H4 so (.lst us')) us'' tab'/\TabOk xs tab'/\0 < tab'.length/\tab'.length<=400/\bR (upd H4 so (.lst us')) b/\Fix b H (upd H4 so (.lst us')):=fun us' tab' a1 a2 a3 a4=>by
        have kt:∀ p zs,H4 p=some (.tup zs)->(upd H4 so (.lst us')) p=some (.tup zs):=fun p zs e=>by rw [av (bQ e hso4 (by intro z;cases z))];exact e
        refine⟨us',tab',rfl,ae,bJ.aI kt a1,a2,a3,a4,B4.put nsb.symm,fun c oo e ne=>?_⟩
        rw [av (aT e nso)]
        exact F4 c oo e ne
      refine uY ?_ (fun rest hc=>?_)
      rotate_left
      · refine⟨_,rfl,so,_,rfl,.inl (aU.of hso4),_,_,rfl,rfl,_,rfl,?_⟩
        refine cA (fun hd=>?_) (fun hd=>?_)
        · have h2:1 < tab.length:=by
            have hd:decide (((us.length:Nat):Int) > 1)=true:=hd
            have:=of_decide_eq_true hd
            omega
          refine⟨_,rfl,.inl ⟨rfl,_,aU.of hso4⟩,_,rfl,so,_,_,k,v,rfl,rfl,hso4,(by omega),(by omega),(m5 (eB (by rw [hul];exact hkt))).1,hv,?_⟩
          have hlen:(tab.eraseIdx k).length=tab.length - 1:=by rw [List.length_eraseIdx];rw [if_pos hkt]
          exact upto _ (tab.eraseIdx k) (jX k hb4) (fun T hT=>tok T (List.mem_of_mem_eraseIdx hT)) (by omega) (by omega)
        · exact rest
      refine⟨_,rfl,rfl,_,rfl,?_⟩
      refine uY ?_ (fun rest hc=>?_)
      rotate_left
      · refine⟨_,rfl,so,_,rfl,.inl (aU.of hso4),_,_,rfl,rfl,_,rfl,?_⟩
        refine cA (fun hd=>?_) (fun hd=>?_)
        · have h2:tab.length < 400:=by
            have hd:decide (((us.length:Nat):Int) < 400)=true:=hd
            have:=of_decide_eq_true hd
            omega
          refine⟨_,rfl,.inl ⟨rfl,_,aU.of hso4⟩,_,rfl,_,rfl,_,rfl,so,_,_,_,rfl,rfl,aU.of hso4,bE hv,so,_,_,k,v,rfl,rfl,rfl,hso4,(by omega),(by omega),?_⟩
          have hlen:(tab.take k++o :: tab.drop k).length=tab.length+1:=by simp;omega
          refine upto _ (tab.take k++o :: tab.drop k) (L2.fK (lI k hb4) (.cons bo (lJ k hb4))) (fun T hT=>?_) (by omega) (by omega)
          rcases List.mem_append.mp hT with h | h
          · exact tok T (List.mem_of_mem_take h)
          · rcases List.mem_cons.mp h with h | h
            · exact oko T h.symm
            · exact tok T (List.mem_of_mem_drop h)
        · exact rest
      refine⟨_,rfl,rfl,_,rfl,?_⟩
      refine zC ?_ (fun body hc=>?_)
      · skip
        refine⟨(by show 0<=sizeLine;decide),fun t0 n0=>⟨ln2,fun t1 n1=>⟨ln2,fun t2 n2=>⟨pD,fun t3 n3=>⟨ln2,fun l4 n4=>?_⟩⟩⟩⟩⟩
        have q0:=ao.new (o:=.tup []) n0
        have q1:=ao.new (o:=.tup [.int 0,.int 2]) n1
        have q2:=ao.new (o:=.tup [.str "zz",.ref t1]) n2
        have q3:=ao.new (o:=.tup [.ref t2]) n3
        have q4:=ao.new (o:=.lst [.ref t0,.ref t3]) n4
        have g0:=q4 _ _ (q3 _ _ (q2 _ _ (q1 _ _ (show (upd H4 t0 (.tup [])) t0=_ from ae))))
        have g1:=q4 _ _ (q3 _ _ (q2 _ _ (show (upd (upd H4 t0 (.tup [])) t1 (.tup [.int 0,.int 2])) t1=_ from ae)))
        have g2:=q4 _ _ (q3 _ _ (show (upd (upd (upd H4 t0 (.tup [])) t1 (.tup [.int 0,.int 2])) t2 (.tup [.str "zz",.ref t1])) t2=_ from ae))
        have g3:=q4 _ _ (show (upd (upd (upd (upd H4 t0 (.tup [])) t1 (.tup [.int 0,.int 2])) t2 (.tup [.str "zz",.ref t1])) t3 (.tup [.ref t2])) t3=_ from ae)
        have g4:(upd (upd (upd (upd (upd H4 t0 (.tup [])) t1 (.tup [.int 0,.int 2])) t2 (.tup [.str "zz",.ref t1])) t3 (.tup [.ref t2])) l4 (.lst [.ref t0,.ref t3])) l4=some (.lst [.ref t0,.ref t3]):=ae
        have q04:=(((q0.trans q1).trans q2).trans q3).trans q4
        generalize (upd (upd (upd (upd (upd H4 t0 (.tup [])) t1 (.tup [.int 0,.int 2])) t2 (.tup [.str "zz",.ref t1])) t3 (.tup [.ref t2])) l4 (.lst [.ref t0,.ref t3]))=H5 at g0 g1 g2 g3 g4 q04
        have B5:=B4.same q04
        refine⟨_,rfl,b,2,rfl,B5,⟨by decide,by decide +kernel⟩,fun r5 H6 r50 r51 B6 X6=>?_⟩
        have nl4:l4 ≠ b:=by
          obtain⟨x',y',e,_⟩:=B5
          rintro rfl
          rw [g4] at e
          simp at e
        have hl6:=X6 _ _ g4 nl4
        have kt6:∀ p zs,H5 p=some (.tup zs)->H6 p=some (.tup zs):=fun p zs e=>X6 _ _ e (B5.eT e)
        have hso6:=X6 _ _ (q04 _ _ hso4) nsb
        have F6:Fix b H H6:=(F4.trans (Fix.of_same q04)).trans X6
        have bv6:bJ H6 us tab:=(bJ.same hb4 q04).qy B5 X6
        obtain rfl | rfl:r5=0\/r5=1:=by omega
        · refine⟨l4,_,0,_,rfl,rfl,aU.of hl6,bP,?_⟩
          refine⟨_,rfl,_,rfl,so,_,_,k,rfl,rfl,hso6,eB (by rw [hul];exact hkt),?_⟩
          exact fin H6 (.ref t0) (some T0) hso6 bv6 B6 F6 (show FV H6 (.ref t0) T0 from FD.zero.fv (.tup (kt6 _ _ g0) .nil)) (fun T h=>by cases h;exact cy.zero)
        · refine⟨l4,_,1,_,rfl,rfl,aU.of hl6,cv,?_⟩
          refine⟨_,rfl,_,rfl,so,_,_,k,rfl,rfl,hso6,eB (by rw [hul];exact hkt),?_⟩
          exact fin H6 (.ref t3) (some qA) hso6 bv6 B6 F6 (show FV H6 (.ref t3) qA from zA (kt6 _ _ g3) (kt6 _ _ g2) (kt6 _ _ g1)) (fun T h=>by cases h;exact zB hzz)
      · refine⟨_,rfl,_,rfl,so,_,_,_,rfl,rfl,aU.of hso4,bE hv,_,rfl,?_⟩
        cases o with
        | none =>
          have bo:v=.aS:=bo
          subst bo
          exact cb rfl body
        | some T =>
          have bo:FV H4 v T:=bo
          have hne:decide (v=V.aS)=false:=by
            obtain⟨p,_,_,rfl,_⟩:=bo
            rfl
          refine aV hne ?_
          refine⟨_,rfl,_,rfl,_,rfl,so,_,_,_,rfl,rfl,aU.of hso4,bE hv,b,v,T,xs,rfl,B4,bo,oko T rfl,hzz,h50,fun v' T' H5 f5 tok5 B5 X5=>?_⟩
          have hso5:=X5 _ _ hso4 nsb
          refine⟨_,rfl,_,rfl,so,_,_,k,rfl,rfl,hso5,eB (by rw [hul];exact hkt),?_⟩
          exact fin H5 v' (some T') hso5 (hb4.qy B4 X5) B5 (F4.trans X5) f5 (fun T h=>by cases h;exact tok5)
    rintro σ' H5 ⟨us',tab',rfl,a1,a2,a3,a4,a5,a6,a7⟩
    refine⟨_,rfl,so,_,rfl,.inl ⟨aU.of a1,fun t nt=>?_⟩⟩
    exact q t us' tab' _ ae (bJ.same a2 (ao.new nt)) a3 a4 a5 (a6.new nt) (a7.trans (Fix.new nt))
theorem qI {f:Addr} {fd:FuncData} (F:bX K "_law_holds" "_law_holds" fi f fd) (Z:Bl mg)  : bB P w K mg base bT 1 f fd ["facts", "worths"] mh:=by
 refine F.ok (k:=0) gN (fun vs H Q E h=>?_) (fun cdv A outer s H vs Q E hr h=>?_)
 ·obtain⟨fv,d,kvs,w,T,rfl,_⟩:=h
  rfl
 ·obtain⟨fv,d,kvs,w,T,rfl,hf,hd,dw,snd,bc,q⟩:=h
  refine⟨_,(ah (aY (di (dQ (pv 0)))
   (ar (aC dE))
   aR)
   (ah (eR PassesOwn.never rfl (eh (pv 0)) (cf rfl (aG (aB (i:=2) gN.nd rfl (Or.inl rfl)) (aG (aB (i:=3) gN.nd rfl (Or.inl rfl)) bU)))
   (ah (aH (i:=4) gN.nd rfl (Or.inl rfl) (cO (cz hr) (pv 1) (pv 2) ai ⟨rfl,rfl,rfl,rfl⟩))
   (ar (aY (PW.pt (oN (PW.pt (fX (di (eW (aF aO (pv 3) ai (fun _ _=>rfl)))) (eX (aJ i4 (pv 4) (aF aO (pv 3) ai (fun _ _=>rfl)) (aK _))))) (mq (PW.pt (fX (di (eW (aF aO (pv 3) ai (fun _ _=>rfl)))) (eX (aJ kH (pv 4) (aF aO (pv 3) ai (fun _ _=>rfl)) (aK _))))))))
   (ar (aC dE))
   aR))))
   (ar (aC dE)))),?_⟩
  have hne:decide (fv=V.aS)=false:=by
   obtain⟨p,_,_,rfl,_⟩:=hf
   rfl
  refine⟨_,rfl,_,rfl,aV hne ?_⟩
  obtain⟨fp,xs,ss,rfl,hfp,srt,hmem,rf⟩:=hf
  refine⟨_,rfl,fp,rfl,⟨_,aw.of hfp⟩,?_⟩
  refine iF (K:=K) (a:=fp) (xs:=xs) (fun i σ H'=>∃ (u1 u2 u3:Option V),σ = [some (.ref fp),some (.ref d),u1,u2,u3]/\ao H H') ?_ ?_ ?_ ?_
  ·exact⟨_,_,_,rfl,ao.refl H⟩
  ·rintro i σ H1 hi ⟨u1,u2,u3,rfl,s1⟩
   exact aw.of (s1 _ _ hfp)
  ·rintro i x σ H1 hx ⟨u1,u2,u3,rfl,s1⟩
   have hi:i < ss.length:=by
    have:=(List.getElem?_eq_some_iff.mp hx).1
    rw [rf.len,List.length_map] at this
    exact this
   have hye:ss[i]? = some ss[i]:=by simp [hi]
   generalize ss[i] = y at hye
   obtain⟨v,hv,rd⟩:=rf.get (i:=i) (d:=dF T y) (by rw [List.getElem?_map,hye];rfl)
   rw [hx] at hv
   cases hv
   obtain⟨t1,q1,rfl,ht1,hq1⟩:=mR rd
   refine⟨t1,_,rfl,aw.of (s1 _ _ ht1),rfl,_,_,rfl,_,_,rfl,rfl,?_⟩
   refine⟨_,rfl,d,rfl,.inl ⟨kvs,.inl (s1 _ _ hd)⟩,_,rfl,_,_,cP.k (k:=Sum.inr y) (s1 _ _ hd),dw y,?_⟩
   have hl:=snd y
   have hq:=s1 _ _ hq1
   generalize T y=s at hl hq
   obtain⟨lo,hi⟩:=s
   unfold bY at hl
   rw [Bool.and_eq_true] at hl
   refine⟨_,rfl,q1,_,0,_,rfl,rfl,aw.of hq,bP,_,rfl,?_⟩
   cases lo with
   | none =>
    refine aV rfl (bw ?_)
    refine⟨_,rfl,q1,_,1,_,rfl,rfl,aw.of hq,cv,_,rfl,?_⟩
    cases hi with
    | none=>exact aV rfl ⟨_,_,_,rfl,s1⟩
    | some c =>
     refine cb rfl ?_
     refine⟨_,rfl,_,rfl,q1,_,1,_,rfl,rfl,aw.of hq,cv,_,_,rfl,rfl,_,rfl,?_⟩
     have hl2:w y<=c:=of_decide_eq_true hl.2
     refine aV (decide_eq_false (by omega)) ?_
     exact⟨_,_,_,rfl,s1⟩
   | some a =>
    refine cb rfl ?_
    refine⟨_,rfl,_,rfl,q1,_,0,_,rfl,rfl,aw.of hq,bP,_,_,rfl,rfl,_,rfl,?_⟩
    have hl1:a<=w y:=of_decide_eq_true hl.1
    refine aV (decide_eq_false (by omega)) ?_
    refine⟨_,rfl,q1,_,1,_,rfl,rfl,aw.of hq,cv,_,rfl,?_⟩
    cases hi with
    | none=>exact aV rfl ⟨_,_,_,rfl,s1⟩
    | some c =>
     refine cb rfl ?_
     refine⟨_,rfl,_,rfl,q1,_,1,_,rfl,rfl,aw.of hq,cv,_,_,rfl,rfl,_,rfl,?_⟩
     have hl2:w y<=c:=of_decide_eq_true hl.2
     refine aV (decide_eq_false (by omega)) ?_
     exact⟨_,_,_,rfl,s1⟩
  ·rintro σ H1 ⟨u1,u2,u3,rfl,s1⟩
   exact q H1 s1
theorem lj {f:Addr} {fd:FuncData} (F:bX K "_law_walk_holds" "_law_walk_holds" cV f fd) (Z:Bl mg) (O_law_step:Own P w K mg base "_law_step" 1 ["plan", "state", "numbers"] pR) (O_law_holds:Own P w K mg base "_law_holds" 1 ["facts", "worths"] mh):bB P w K mg base bT 3 f fd ["plan", "table", "numbers", "steps"] jm:=by
  refine F.ok (k:=2) ef (fun vs H Q E h=>?_) (fun cdv A outer s H vs Q E hr h=>?_)
  · obtain⟨np,ta,plv,n,nums,ps,us,tab,rfl,_⟩:=h
    rfl
  · obtain⟨np,ta,plv,n,nums,ps,us,tab,rfl,hp,hin,hpc,hta,hb,hst,bc,hnp,hn,q⟩:=h
    refine⟨_,(ah (cQ (aH (i:=4) ef.nd rfl (Or.inl rfl) (bg (gW ai ai jK ai (cu af) bp (cu (aa ai af))))))
      (ah (eR PassesOwn.never rfl (eG rfl Z.range (aa (pv 3) af)) (aB (i:=5) ef.nd rfl (Or.inl rfl))
      (ar (aY (aJ bG (aF aO (pv 4) ai (fun _ _=>rfl)) bp (aK _))
      (ah (cQ (aY (PW.pt (fX (aJ bG (aF aO (pv 4) ai (fun _ _=>rfl)) ai (aK _)) (eX (j6 (fm (ay O_law_holds (hr.mono (by decide)) rfl (aa (aF aO (pv 1) (aF aO (pv 4) ai (fun _ _=>rfl)) (fun _ _=>rfl)) (aa (aF aO (pv 4) ai (fun _ _=>rfl)) af))))))))
      (ar (aC dE))
      aR))
      (ar (aH (i:=4) ef.nd rfl (Or.inl rfl) (ay O_law_step (hr.mono (by decide)) rfl (aa (pv 0) (aa (pv 4) (aa (pv 2) af)))))))
      aR)))
      (ar (aC dE)))),?_⟩
    refine⟨fun σ' H'=>∃ d tl bl st:Addr,σ' = [some plv,some (.ref ta),some (.ref np),some (.int n),some (.ref st),none]/\dM H' st d tl bl (fu 0 fun _=>0) 0/\ao H H'/\H d=none/\H tl=none/\H bl=none,
      fun d hd=>⟨(by show 0<=sizeLine;decide),fun tl htl=>⟨pD,fun bl hbl=>⟨ke,fun st hst=>⟨d,tl,bl,st,rfl,?_,?_,hd,?_,?_⟩⟩⟩⟩,?_⟩
    · refine dM.lu (H1:=upd (upd (upd H d (.dK [])) tl (.lst [])) bl (.lst [.int 0])) (S':=fu 0 fun _=>0) (kvs:=[]) ?_ (fun x=>rfl) (Nat.le_refl _) ?_ (by rw [ae];rfl) ?_ ⟨Nat.le_refl _,Nat.le_refl _⟩ hst rfl
      · exact ao.new hbl _ _ (ao.new htl _ _ ae)
      · exact ao.new hbl _ _ ae
      · exact aT ae hbl
    · exact (((ao.new hd).trans (ao.new htl)).trans (ao.new hbl)).trans (ao.new hst)
    · exact (ao.new hd).free htl
    · exact ((ao.new hd).trans (ao.new htl)).free hbl
    rintro σ' H0 ⟨d,tl,bl,st,rfl,A0,s0,hd,ntl,nbl⟩
    refine⟨_,rfl,_,rfl,(by omega),(by omega),ib (lo:=0) (fun i σ H'=>∃ (c:Option V) (st':Addr),σ = [some plv,some (.ref ta),some (.ref np),some (.int n),some (.ref st'),c]/\dM H' st' d tl bl (dt ps nums i (fu 0 fun _=>0)) i/\ao H H') ?_ ?_ ?_⟩
    · exact⟨none,st,rfl,A0,s0⟩
    · rintro i σ H1 hi ⟨c,st',rfl,A1,s1⟩
      have hi':i < n:=by omega
      have wi:=rT (ps:=ps) (nums:=nums) (S:=fu 0 fun _=>0) hin hpc (Nat.zero_le _) i
      have won:=xt (ps:=ps) (nums:=nums) (n:=i) (S:=fu 0 fun _=>0)
      have woff:¬ (dt ps nums i (fu 0 fun _=>0)).word = "on" -> dt ps nums (i+1) (fu 0 fun _=>0)=dt ps nums i (fu 0 fun _=>0):=fun h=>pT h 1
      have ti:=kq.walk (nums:=nums) hst hpc i
      generalize dt ps nums (i+1) (fu 0 fun _=>0)=W1 at won woff ⊢
      generalize dt ps nums i (fu 0 fun _=>0)=W at A1 wi won woff ti ⊢
      refine⟨_,rfl,st',_,5,_,rfl,rfl,aw.of A1.at_,Ay,rfl,_,rfl,?_⟩
      by_cases hw:W.word = "on"
      · refine cb (by rw [hw];decide +kernel) ?_
        refine⟨fun σ' H'=>σ' = [some plv,some (.ref ta),some (.ref np),some (.int n),some (.ref st'),some (.int (0+(i:Int)))]/\ao H1 H',?_,?_⟩
        · refine⟨_,rfl,st',_,1,_,rfl,rfl,aw.of A1.at_,cv,rfl,_,rfl,?_⟩
          refine cA (fun hc=>?_) (fun hc=>?_)
          · have hz:W.place=0:=by have:=V.int.inj (of_decide_eq_true hc);omega
            obtain⟨T,p,t1,t2,t3⟩:=ti
            rw [hz,List.take_zero] at t3
            have t3:Sound T W.w:=t3
            obtain⟨ev,hev,bo⟩:=fz hb t1
            have bo:FV H1 ev T:=FV.same bo s1
            obtain⟨kvs,k1,k2,k3⟩:=A1.dict
            refine⟨_,rfl,_,rfl,st',_,0,_,rfl,rfl,aw.of A1.at_,bP,ta,_,_,_,rfl,rfl,aw.of (s1 _ _ hta),bE hev,_,rfl,st',_,2,_,rfl,rfl,aw.of A1.at_,at2,ev,d,kvs,W.w,T,rfl,bo,k1,k2,t3,bc T (List.mem_of_getElem? t1),fun H2 s2=>⟨_,rfl,?_⟩⟩
            exact aV rfl ⟨rfl,s2⟩
          · exact bw ⟨rfl,ao.refl H1⟩
        rintro σ' H2 ⟨rfl,s2⟩
        have A2:=A1.zz s2
        have s12:=s1.trans s2
        refine⟨_,rfl,_,rfl,_,rfl,plv,st',np,d,tl,bl,ps,nums,W,i,rfl,hp.same s12 (cw ps),hin,s12 _ _ hnp,A2,wi.1,wi.2,(by omega),fun st2 H3 A3 b3=>?_⟩
        exact⟨_,st2,rfl,by rw [won hw];exact A3,fun c o e=>b3 c o (s12 c o e) (aT e hd) (aT e ntl) (aT e nbl)⟩
      · refine aV (decide_eq_false fun z=>hw (V.str.inj z)) ?_
        exact⟨_,st',rfl,by rw [woff hw];exact A1.mono (Nat.le_succ i),s1⟩
    · rintro σ H1 ⟨c,st',rfl,A1,s1⟩
      exact q H1 s1
theorem y4 {f:Addr} {fd:FuncData} (F:bX K "law" "law" iE f fd) (Z:Bl mg) (O_law_bag:Own P w K mg base "_law_bag" 1 ["script", "k"] (sH K)) (O_law_take:Own P w K mg base "_law_take" 1 ["bag", "many"] eU) (O_law_plan:Own P w K mg base "_law_plan" 4 ["bag", "count", "most"] pM) (O_law_count:Own P w K mg base "_law_count" 2 ["bag", "most"] nc) (O_table_of:Own P w K mg base "table_of" 8 ["plan"] me) (O_law_table_spoilt:Own P w K mg base "_law_table_spoilt" 5 ["bag", "table"] kB) (O_stands:Own P w K mg base "stands" 8 ["plan", "table"] lZ) (O_law_input:Own P w K mg base "_law_input" 3 ["bag"] lP) (O_law_walk_holds:Own P w K mg base "_law_walk_holds" 3 ["plan", "table", "numbers", "steps"] jm):bB P w K mg base bT 12 f fd ["script"] (oR K):=by
  refine F.ok (k:=11) gc (fun vs H Q E h=>?_) (fun cdv A outer s H vs Q E hr h=>?_)
  · obtain⟨a,ns,rfl,_⟩:=h
    rfl
  · obtain⟨a,ns,rfl,hS,hlen,q⟩:=h
    refine⟨_,(ah (aH (i:=1) gc.nd rfl (Or.inl rfl) (ay O_law_bag (hr.mono (by decide)) rfl (aa (pv 0) (aa ai af))))
      (ah (aH (i:=2) gc.nd rfl (Or.inl rfl) (ay O_law_plan (hr.mono (by decide)) rfl (aa (pv 1) (aa (ay O_law_count (hr.mono (by decide)) rfl (aa (pv 1) (aa (aF bH (cu (aa ai (aa ai af))) (bh i5 rfl Z.int mz (aa (fF bG (ay O_law_take (hr.mono (by decide)) rfl (aa (pv 1) (aa ai af))) ai (aK _)) af)) (fun _ _=>rfl)) af))) (aa ai af)))))
      (ah (aH (i:=3) gc.nd rfl (Or.inl rfl) (aF bH (cu (aa (ay O_table_of (hr.mono (by decide)) rfl (aa (pv 2) af)) (aa (ay O_table_of (hr.mono (by decide)) rfl (aa (pv 2) af)) (aa (bh bL rfl Z.tuple cJ (aa (aZ pB (cu (aa (bg af) af)) (ba br rfl Z.len cI (aa (pv 2) af))) af)) af)))) (ay O_law_take (hr.mono (by decide)) rfl (aa (pv 1) (aa ai af))) (fun _ _=>rfl)))
      (ah (eR PassesOwn.never rfl (eG rfl Z.range (aa (aZ cH ai (ba (j9 rfl) rfl Z.min pC (aa (ba br rfl Z.len cI (aa (pv 0) af)) (aa ai af)))) af)) (aB (i:=4) gc.nd rfl (Or.inl rfl))
      (ah (aH (i:=5) gc.nd rfl (Or.inl rfl) (ay O_law_bag (hr.mono (by decide)) rfl (aa (pv 0) (aa (pv 4) af))))
      (ah (aH (i:=6) gc.nd rfl (Or.inl rfl) (ay O_law_table_spoilt (hr.mono (by decide)) rfl (aa (pv 5) (aa (pv 3) af))))
      (ah (cQ (aY (fm (ay O_stands (hr.mono (by decide)) rfl (aa (pv 2) (aa (pv 6) af))))
      (ar (aH (i:=3) gc.nd rfl (Or.inl rfl) (pv 6)))
      aR))
      (ah (aY (j6 (fm (ay O_stands (hr.mono (by decide)) rfl (aa (pv 2) (aa (pv 3) af)))))
      (ar (aC dE))
      aR)
      (ar (eR PassesOwn.never rfl (eG rfl Z.range (aa ai af)) (aB (i:=7) gc.nd rfl (Or.inl rfl))
      (ah (aH (i:=8) gc.nd rfl (Or.inl rfl) (ay O_law_input (hr.mono (by decide)) rfl (aa (pv 5) af)))
      (ar (aY (j6 (fm (ay O_law_walk_holds (hr.mono (by decide)) rfl (aa (pv 2) (aa (pv 3) (aa (pv 8) (aa (aF bH (cu (aa (ay O_law_take (hr.mono (by decide)) rfl (aa (pv 5) (aa ai af))) (aa ai af))) (ay O_law_take (hr.mono (by decide)) rfl (aa (pv 5) (aa ai af))) (fun _ _=>rfl)) af)))))))
      (ar (aC dE))
      aR))))))))))
      (ar (aC dE)))))),?_⟩
    refine⟨_,rfl,a,ns,0,rfl,hS,(by decide),fun b H1 nb B1 s1=>?_⟩
    refine⟨_,rfl,_,rfl,ln2,fun l0 n0=>?_⟩
    refine⟨_,rfl,b,3,rfl,B1.new n0,⟨by decide,by decide +kernel⟩,fun z H2 z0 z1 B2 X2=>?_⟩
    have h0:H2 l0=some (.lst [.int 12,.int 60]):=X2 l0 _ ae (B1.dU n0)
    have F2:Fix b H1 H2:=(Fix.new n0).trans X2
    refine⟨rfl,.inr ⟨_,rfl,?_⟩⟩
    have pk:∃ g:Nat,fo [V.int 12,V.int 60] (if decide (V.int z=V.int 0)=true then 1 else 0)=some (V.int g)/\(g=12\/g=60):=by
      cases decide (V.int z=V.int 0)
      · exact⟨12,bP,.inl rfl⟩
      · exact⟨60,cv,.inr rfl⟩
    obtain⟨g,hg,hg2⟩:=pk
    refine⟨l0,_,_,_,rfl,rfl,aU.of h0,hg,b,g,rfl,B2,(by omega),(by omega),fun c H3 c0 c1 B3 X3=>?_⟩
    refine⟨b,c,3,rfl,B3,c0,(by omega),(by omega),fun plv xs0 ps H4 r4 hc4 pok0 xok B4 X4=>?_⟩
    have hin:jv ps:=pok0.yE
    have hpc:0 < ps.length:=by omega
    have hal:(bF ps).length<=4000:=by
      have:=uK pok0
      have h2:ps.length * (2 * 3+1)<=60 * 7:=Nat.mul_le_mul (by omega) (by omega)
      omega
    have pok:=pok0.AD [("zz" : Str)]
    have hx50:(xs0 ++ [("zz" : Str)]).length<=50:=by rw [List.length_append];show _+1<=50;have:=xok.2;omega
    have hzz:("zz" : Str) ∈ xs0 ++ [("zz" : Str)]:=List.mem_append_right _ (List.mem_singleton.mpr rfl)
    have nb4:ao H H4:=ao.mB s1 nb ((F2.trans X3).trans X4)
    generalize xs0 ++ [("zz" : Str)] = xs at pok hx50 hzz
    refine⟨_,rfl,plv,ps,xs,3,rfl,r4,pok,hpc,(by omega),(by omega),hal,fun ta1 us1 tab1 H5 ht1 bv1 xa st1 s5=>?_⟩
    refine⟨_,rfl,plv,ps,xs,3,rfl,r4.same s5 (cw ps),pok,hpc,(by omega),(by omega),hal,fun ta2 us2 tab2 H6 ht2 bv2 tk2 st2 s6=>?_⟩
    have s46:=s5.trans s6
    have B6:=B4.same s46
    obtain⟨pp,vs,rfl,e1p,rp⟩:=bC.cn (r4.same s46 (cw ps))
    have hvl:vs.length=ps.length:=by rw [rp.len,List.length_map]
    refine⟨(by show 0<=sizeLine;decide),fun t0 nt0=>⟨pD,fun l1 n1=>?_⟩⟩
    have q1:=ao.new (o:=.tup []) nt0
    have q2:=ao.new (o:=.lst [.ref t0]) n1
    have q12:=q1.trans q2
    have ht0:=q2 _ _ (show (upd H6 t0 (.tup [])) t0=some (.tup []) from ae)
    have hl1:(upd (upd H6 t0 (.tup [])) l1 (.lst [.ref t0])) l1=some (.lst [.ref t0]):=ae
    generalize (upd (upd H6 t0 (.tup [])) l1 (.lst [.ref t0]))=H7 at q12 ht0 hl1
    refine⟨_,rfl,pp,_,rfl,.inr (aw.of (q12 _ _ e1p)),l1,_,_,rfl,rfl,hl1,(by omega),(by omega),?_,fun l2 n2=>?_⟩
    · show 1 * _<=_
      exact Nat.le_of_lt (bD (by omega))
    have e2:(List.replicate ((vs.length:Int)).toNat [V.ref t0]).flatten=List.replicate ps.length (V.ref t0):=by rw [hvl,Int.toNat_natCast,List.flatten_replicate_singleton]
    have q3:=ao.new (o:=.lst (List.replicate ((vs.length:Int)).toNat [V.ref t0]).flatten) n2
    have hl2:(upd H7 l2 (.lst (List.replicate ((vs.length:Int)).toNat [V.ref t0]).flatten)) l2=some (.lst (List.replicate ps.length (V.ref t0))):=by rw [ae,e2]
    generalize (upd H7 l2 (.lst (List.replicate ((vs.length:Int)).toNat [V.ref t0]).flatten))=H8 at q3 hl2
    refine⟨l2,_,rfl,.inl ⟨aU.of hl2,fun ta3 n3=>⟨pE,fun l4 n4=>?_⟩⟩⟩
    have q4:=ao.new (o:=.tup (List.replicate ps.length (V.ref t0))) n3
    have q5:=ao.new (o:=.lst [.ref ta1,.ref ta2,.ref ta3]) n4
    have ht3:=q5 _ _ (show (upd H8 ta3 (.tup (List.replicate ps.length (V.ref t0)))) ta3=_ from ae)
    have hl4:(upd (upd H8 ta3 (.tup (List.replicate ps.length (V.ref t0)))) l4 (.lst [.ref ta1,.ref ta2,.ref ta3])) l4=some (.lst [.ref ta1,.ref ta2,.ref ta3]):=ae
    have q35:=(q3.trans q4).trans q5
    have q65:=q12.trans q35
    have ht09:=q35 _ _ ht0
    generalize (upd (upd H8 ta3 (.tup (List.replicate ps.length (V.ref t0)))) l4 (.lst [.ref ta1,.ref ta2,.ref ta3]))=H9 at ht3 hl4 q65 ht09 q35
    have s49:=s46.trans q65
    have B9:=B6.same q65
    have nl4:l4 ≠ b:=by
      obtain⟨x',y',e,_⟩:=B9
      rintro rfl
      rw [hl4] at e
      simp at e
    refine⟨_,rfl,b,3,rfl,B9,⟨by decide,by decide +kernel⟩,fun r H10 r0 r1 B10 X10=>?_⟩
    have kt10:∀ p zs,H9 p=some (.tup zs)->H10 p=some (.tup zs):=fun p zs e=>X10 _ _ e (B9.eT e)
    have s10:ao H H10:=ao.mB (nb4.trans s49) nb X10
    have bv3:bJ H9 (List.replicate ps.length (V.ref t0)) (List.replicate ps.length (some T0)):=by
      have f0:FV H9 (.ref t0) T0:=FD.zero.fv (.tup ht09 .nil)
      generalize ps.length=n
      induction n with
      | zero=>exact .nil
      | succ n ih=>exact .cons f0 ih
    have tk3:TabOk xs (List.replicate ps.length (some T0)):=fun T hT=>by
      have:=(List.mem_replicate.mp hT).2
      cases this
      exact cy.zero
    obtain⟨ta,us,tab,hat,hta,hb,tkk,stt⟩:∃ (ta:Addr) (us:List V) (tab:cF),fo [V.ref ta1,V.ref ta2,V.ref ta3] r=some (.ref ta)/\H10 ta=some (.tup us)/\bJ H10 us tab/\TabOk xs tab/\fw ps tab:=by
      obtain rfl | rfl | rfl:r=0\/r=1\/r=2:=by omega
      · exact⟨ta1,us1,tab1,bP,kt10 _ _ (q65 _ _ (s6 _ _ ht1)),bJ.aI kt10 (bJ.same (bJ.same bv1 s6) q65),xa,st1⟩
      · exact⟨ta2,us2,tab2,cv,kt10 _ _ (q65 _ _ ht2),bJ.aI kt10 (bJ.same bv2 q65),tk2,st2⟩
      · exact⟨ta3,_,_,at2,kt10 _ _ ht3,bJ.aI kt10 bv3,tk3,qS pok hpc⟩
    refine⟨l4,_,_,_,rfl,rfl,aU.of (X10 _ _ hl4 nl4),hat,?_⟩
    have rp10:bC H10 (.ref pp) (hV ps):=(r4.same s49 (cw ps)).fix B9 X10 (cw ps)
    clear bv3 tk3 bv1 bv2 xa tk2 st1 st2
    have fewA:∀ {tab:cF},TabOk xs tab->∀ T,some T ∈ tab->fW T 63:=fun {tab} h T hT=>fun ss a b=>Nat.le_trans ((h T hT).bc ss a b) (by omega)
    refine⟨_,rfl,a,_,rfl,.inl (s10.seq hS),_,_,rfl,_,_,rfl,rfl,_,rfl,(by split <;> (try rw [List.length_map]) <;> omega),(by split <;> (try rw [List.length_map]) <;> omega),ib (lo:=0) (fun i σ H'=>∃ (ta:Addr) (us:List V) (tab:cF) (u1 u2 u3 u4 u5 u6:Option V),σ = [some (.ref a),u1,some (.ref pp),some (.ref ta),u2,u3,u4,u5,u6]/\H' ta=some (.tup us)/\bJ H' us tab/\TabOk xs tab/\fw ps tab/\ao H10 H') ?_ ?_ ?_⟩
    · exact⟨ta,us,tab,_,_,_,_,_,_,rfl,hta,hb,tkk,stt,ao.refl _⟩
    · clear hta hb tkk stt hat
      rintro i σ H11 hi ⟨ta,us,tab,u1,u2,u3,u4,u5,u6,rfl,hta,hb,tkk,stt,s11⟩
      have htl:tab.length=ps.length:=stt.len
      refine⟨_,rfl,_,rfl,a,ns,_,rfl,(s10.trans s11).seq hS,(by omega),fun b8 H12 nb8 B8 s12=>?_⟩
      refine⟨_,rfl,_,rfl,b8,ta,us,tab,xs,rfl,B8,s12 _ _ hta,bJ.same hb s12,tkk,hzz,hx50,(by omega),(by omega),fun ot uo tabo H13 hot bvo tko to0 to4 B13 X13=>?_⟩
      have s13:ao H11 H13:=ao.mB s12 nb8 X13
      have rp13:=rp10.same (s11.trans s13) (cw ps)
      have hta13:=s13 _ _ hta
      have hb13:=bJ.same hb s13
      refine⟨fun σ' H'=>∃ (ta:Addr) (us:List V) (tab:cF),σ' = [some (.ref a),u1,some (.ref pp),some (.ref ta),some (.int (0+(i:Int))),some (.ref b8),some (.ref ot),u5,u6]/\H' ta=some (.tup us)/\bJ H' us tab/\TabOk xs tab/\fw ps tab/\ao H13 H',?_,?_⟩
      · refine⟨_,rfl,_,rfl,.ref pp,ot,uo,tabo,ps,xs,3,rfl,rp13,pok,hpc,(by omega),hot,bvo,tko,(by omega),to0,(by omega),fun bb H14 hbb s14=>⟨_,rfl,?_⟩⟩
        cases bb with
        | true=>exact bA ⟨_,rfl,ot,uo,tabo,rfl,s14 _ _ hot,bJ.same bvo s14,tko,hbb.mp rfl,s14⟩
        | false=>exact bw ⟨ta,us,tab,rfl,s14 _ _ hta13,bJ.same hb13 s14,tkk,stt,s14⟩
      clear hta hb tkk stt htl hta13 hb13
      rintro σ' H14 ⟨ta,us,tab,rfl,hta,hb,tkk,stt,s14⟩
      have htl:tab.length=ps.length:=stt.len
      have s1314:=s13.trans s14
      have rp14:=rp13.same s14 (cw ps)
      refine⟨_,rfl,_,rfl,.ref pp,ta,us,tab,ps,xs,3,rfl,rp14,pok,hpc,(by omega),hta,hb,tkk,(by omega),(by omega),(by omega),fun bb H15 hbb s15=>⟨_,rfl,?_⟩⟩
      have hbt:bb=true:=hbb.mpr stt
      subst hbt
      refine aV rfl ?_
      have B15:=(B13.same s14).same s15
      refine⟨_,rfl,(by decide),(by decide),ib (lo:=0) (fun j σ H'=>∃ (u5 u6:Option V),σ = [some (.ref a),u1,some (.ref pp),some (.ref ta),some (.int (0+(i:Int))),some (.ref b8),some (.ref ot),u5,u6]/\bR H' b8/\Fix b8 H15 H') ?_ ?_ ?_⟩
      · exact⟨_,_,rfl,B15,fun c o e _=>e⟩
      · rintro j σ H16 hj ⟨v5,v6,rfl,B16,X16⟩
        refine⟨_,rfl,b8,rfl,B16,fun np nums H17 hnp B17 X17=>?_⟩
        refine⟨_,rfl,_,rfl,_,rfl,_,rfl,b8,60,rfl,B17,⟨by decide,by decide +kernel⟩,fun d1 H18 d10 d11 B18 X18=>⟨ln2,fun l1 n1=>?_⟩⟩
        refine⟨_,rfl,b8,2,rfl,B18.new n1,⟨by decide,by decide +kernel⟩,fun d4 H19 d40 d41 B19 X19=>?_⟩
        have h1:H19 l1=some (.lst [.int d1,.int 600]):=X19 l1 _ ae (B18.dU n1)
        obtain⟨mm,hm,hm3⟩:∃ g:Nat,fo [V.int d1,V.int 600] d4=some (V.int g)/\g<=600:=by
          obtain⟨k1,rfl⟩:∃ k:Nat,d1=k:=⟨d1.toNat,by omega⟩
          obtain rfl | rfl:d4=0\/d4=1:=by omega
          · exact⟨k1,bP,by omega⟩
          · exact⟨600,cv,by omega⟩
        refine⟨l1,_,_,_,rfl,rfl,aU.of h1,hm,?_⟩
        have X1719:Fix b8 H17 H19:=X18.trans ((Fix.new n1).trans X19)
        have X1519:Fix b8 H15 H19:=(X16.trans X17).trans X1719
        have kt:∀ p zs,H15 p=some (.tup zs)->H19 p=some (.tup zs):=fun p zs e=>X1519 _ _ e (B15.eT e)
        refine⟨np,ta,.ref pp,mm,nums,ps,us,tab,rfl,(rp14.same s15 (cw ps)).fix B15 X1519 (cw ps),hin,hpc,kt _ _ (s15 _ _ hta),bJ.aI kt (bJ.same hb s15),stt,fewA tkk,X1719 _ _ hnp (B17.eT hnp),(by omega),fun H20 s20=>⟨_,rfl,?_⟩⟩
        refine aV rfl ?_
        exact⟨_,_,rfl,B19.same s20,X1519.trans (Fix.of_same s20)⟩
      · rintro σ H16 ⟨v5,v6,rfl,B16,X16⟩
        have sF:ao H11 H16:=ao.mB (s1314.trans s15) nb8 X16
        have hta15:=s15 _ _ hta
        exact⟨ta,us,tab,_,_,_,_,_,_,rfl,X16 _ _ hta15 (B15.eT hta15),(bJ.same hb s15).qy B15 X16,tkk,stt,s11.trans sF⟩
    · rintro σ H11 ⟨ta,us,tab,u1,u2,u3,u4,u5,u6,rfl,_⟩
      exact q H11
end
theorem all_mk {l:PySem.W.OpenLaw} {w:World} {K:PySem.W.Frag} {h:Heap} {mg:Str->Option Value} {fa:Addr} (X:K.In h) (G:h.Ns mainGlobals mg) (hfa:mg "law" = some (.ref fa))
  {f0:Addr} {od0 an0:Option Addr} {sl0:Array (Option Value)} {oc0 kV0 dc0 pm0 cd0 ct0:Value}
  {f1:Addr} {od1 an1:Option Addr} {sl1:Array (Option Value)} {oc1 kV1 dc1 pm1 cd1 ct1:Value}
  {f2:Addr} {od2 an2:Option Addr} {sl2:Array (Option Value)} {oc2 kV2 dc2 pm2 cd2 ct2:Value}
  {f3:Addr} {od3 an3:Option Addr} {sl3:Array (Option Value)} {oc3 kV3 dc3 pm3 cd3 ct3:Value}
  {f4:Addr} {od4 an4:Option Addr} {sl4:Array (Option Value)} {oc4 kV4 dc4 pm4 cd4 ct4:Value}
  {f5:Addr} {od5 an5:Option Addr} {sl5:Array (Option Value)} {oc5 kV5 dc5 pm5 cd5 ct5:Value}
  {f6:Addr} {od6 an6:Option Addr} {sl6:Array (Option Value)} {oc6 kV6 dc6 pm6 cd6 ct6:Value}
  {f7:Addr} {od7 an7:Option Addr} {sl7:Array (Option Value)} {oc7 kV7 dc7 pm7 cd7 ct7:Value}
  {f8:Addr} {od8 an8:Option Addr} {sl8:Array (Option Value)} {oc8 kV8 dc8 pm8 cd8 ct8:Value}
  {f9:Addr} {od9 an9:Option Addr} {sl9:Array (Option Value)} {oc9 kV9 dc9 pm9 cd9 ct9:Value}
  {f10:Addr} {od10 an10:Option Addr} {sl10:Array (Option Value)} {oc10 kV10 dc10 pm10 cd10 ct10:Value}
  {f11:Addr} {od11 an11:Option Addr} {sl11:Array (Option Value)} {oc11 kV11 dc11 pm11 cd11 ct11:Value}
  {f12:Addr} {od12 an12:Option Addr} {sl12:Array (Option Value)} {oc12 kV12 dc12 pm12 cd12 ct12:Value}
  {f13:Addr} {od13 an13:Option Addr} {sl13:Array (Option Value)} {oc13 kV13 dc13 pm13 cd13 ct13:Value}
  {f14:Addr} {od14 an14:Option Addr} {sl14:Array (Option Value)} {oc14 kV14 dc14 pm14 cd14 ct14:Value}
  {f15:Addr} {od15 an15:Option Addr} {sl15:Array (Option Value)} {oc15 kV15 dc15 pm15 cd15 ct15:Value}
  {f16:Addr} {od16 an16:Option Addr} {sl16:Array (Option Value)} {oc16 kV16 dc16 pm16 cd16 ct16:Value}
  {f17:Addr} {od17 an17:Option Addr} {sl17:Array (Option Value)} {oc17 kV17 dc17 pm17 cd17 ct17:Value}
  {f18:Addr} {od18 an18:Option Addr} {sl18:Array (Option Value)} {oc18 kV18 dc18 pm18 cd18 ct18:Value}
  {f19:Addr} {od19 an19:Option Addr} {sl19:Array (Option Value)} {oc19 kV19 dc19 pm19 cd19 ct19:Value}
  {f20:Addr} {od20 an20:Option Addr} {sl20:Array (Option Value)} {oc20 kV20 dc20 pm20 cd20 ct20:Value}
  {f21:Addr} {od21 an21:Option Addr} {sl21:Array (Option Value)} {oc21 kV21 dc21 pm21 cd21 ct21:Value}
  {f22:Addr} {od22 an22:Option Addr} {sl22:Array (Option Value)} {oc22 kV22 dc22 pm22 cd22 ct22:Value}
  {f23:Addr} {od23 an23:Option Addr} {sl23:Array (Option Value)} {oc23 kV23 dc23 pm23 cd23 ct23:Value}
  {f24:Addr} {od24 an24:Option Addr} {sl24:Array (Option Value)} {oc24 kV24 dc24 pm24 cd24 ct24:Value}
  {f25:Addr} {od25 an25:Option Addr} {sl25:Array (Option Value)} {oc25 kV25 dc25 pm25 cd25 ct25:Value}
  {f26:Addr} {od26 an26:Option Addr} {sl26:Array (Option Value)} {oc26 kV26 dc26 pm26 cd26 ct26:Value}
  {f27:Addr} {od27 an27:Option Addr} {sl27:Array (Option Value)} {oc27 kV27 dc27 pm27 cd27 ct27:Value}
  {f28:Addr} {od28 an28:Option Addr} {sl28:Array (Option Value)} {oc28 kV28 dc28 pm28 cd28 ct28:Value}
  {f29:Addr} {od29 an29:Option Addr} {sl29:Array (Option Value)} {oc29 kV29 dc29 pm29 cd29 ct29:Value}
  {f30:Addr} {od30 an30:Option Addr} {sl30:Array (Option Value)} {oc30 kV30 dc30 pm30 cd30 ct30:Value}
  {f31:Addr} {od31 an31:Option Addr} {sl31:Array (Option Value)} {oc31 kV31 dc31 pm31 cd31 ct31:Value}
  {f32:Addr} {od32 an32:Option Addr} {sl32:Array (Option Value)} {oc32 kV32 dc32 pm32 cd32 ct32:Value}
  {f33:Addr} {od33 an33:Option Addr} {sl33:Array (Option Value)} {oc33 kV33 dc33 pm33 cd33 ct33:Value}
  {f34:Addr} {od34 an34:Option Addr} {sl34:Array (Option Value)} {oc34 kV34 dc34 pm34 cd34 ct34:Value}
  {f35:Addr} {od35 an35:Option Addr} {sl35:Array (Option Value)} {oc35 kV35 dc35 pm35 cd35 ct35:Value}
  {f36:Addr} {od36 an36:Option Addr} {sl36:Array (Option Value)} {oc36 kV36 dc36 pm36 cd36 ct36:Value}
  {f37:Addr} {od37 an37:Option Addr} {sl37:Array (Option Value)} {oc37 kV37 dc37 pm37 cd37 ct37:Value}
  {f38:Addr} {od38 an38:Option Addr} {sl38:Array (Option Value)} {oc38 kV38 dc38 pm38 cd38 ct38:Value}
  {f39:Addr} {od39 an39:Option Addr} {sl39:Array (Option Value)} {oc39 kV39 dc39 pm39 cd39 ct39:Value}
  {f40:Addr} {od40 an40:Option Addr} {sl40:Array (Option Value)} {oc40 kV40 dc40 pm40 cd40 ct40:Value}
  {f41:Addr} {od41 an41:Option Addr} {sl41:Array (Option Value)} {oc41 kV41 dc41 pm41 cd41 ct41:Value}
  {f42:Addr} {od42 an42:Option Addr} {sl42:Array (Option Value)} {oc42 kV42 dc42 pm42 cd42 ct42:Value}
  {f43:Addr} {od43 an43:Option Addr} {sl43:Array (Option Value)} {oc43 kV43 dc43 pm43 cd43 ct43:Value}
  {f44:Addr} {od44 an44:Option Addr} {sl44:Array (Option Value)} {oc44 kV44 dc44 pm44 cd44 ct44:Value}
  {f45:Addr} {od45 an45:Option Addr} {sl45:Array (Option Value)} {oc45 kV45 dc45 pm45 cd45 ct45:Value}
  {aA:Addr} {dcA:Option Addr} {nA:Nat} {slA:Array (Option Value)}
  {aE:Addr} {epE:Nat} {s0:Addr} {hsE0:Int} {tkE0:Tok} {dcE0:Option Addr} {nnE0:Nat} {slE0:Array (Option Value)}  {s1:Addr} {hsE1:Int} {tkE1:Tok} {dcE1:Option Addr} {nnE1:Nat} {slE1:Array (Option Value)} {ttE1_0:Tok} {s2:Addr} {hsE2:Int} {tkE2:Tok} {dcE2:Option Addr} {nnE2:Nat} {slE2:Array (Option Value)} {ttE2_0:Tok} {ttE2_1:Tok} {ttE2_2:Tok} {ttE2_3:Tok} {s3:Addr} {hsE3:Int} {tkE3:Tok} {dcE3:Option Addr} {nnE3:Nat} {slE3:Array (Option Value)} {ttE3_0:Tok} {ttE3_1:Tok} {ttE3_2:Tok} {ttE3_3:Tok}
  {aD:Addr} {epD:Nat} {d0:Addr} {hsD0:Int} {tkD0:Tok} {dcD0:Option Addr} {nnD0:Nat} {slD0:Array (Option Value)} {ttD0_0:Tok} {ttD0_1:Tok} {d1:Addr} {hsD1:Int} {tkD1:Tok} {dcD1:Option Addr} {nnD1:Nat} {slD1:Array (Option Value)} {ttD1_0:Tok} {ttD1_1:Tok} {d2:Addr} {hsD2:Int} {tkD2:Tok} {dcD2:Option Addr} {nnD2:Nat} {slD2:Array (Option Value)} {ttD2_0:Tok} {ttD2_1:Tok} {d3:Addr} {hsD3:Int} {tkD3:Tok} {dcD3:Option Addr} {nnD3:Nat} {slD3:Array (Option Value)} {ttD3_0:Tok} {d4:Addr} {hsD4:Int} {tkD4:Tok} {dcD4:Option Addr} {nnD4:Nat} {slD4:Array (Option Value)} {ttD4_0:Tok}
  (a0:PySem.W.nsIn K mainGlobals "parts_of_kind" = some (some (.ref f0))) (l0:K.lookup f0=some ⟨oc0,od0,.func (PySem.W.fnOf "parts_of_kind" "parts_of_kind" (aM dh) (aL dh) (au dh) .none kV0 dc0 pm0 an0 cd0 ct0),sl0⟩) (c0:PySem.W.codeIn K cd0 "parts_of_kind" = true) (k0:PySem.W.keepIn K (.ref f0)=true)
  (a1:PySem.W.nsIn K mainGlobals "ways_on" = some (some (.ref f1))) (l1:K.lookup f1=some ⟨oc1,od1,.func (PySem.W.fnOf "ways_on" "ways_on" (aM gm) (aL gm) (au gm) .none kV1 dc1 pm1 an1 cd1 ct1),sl1⟩) (c1:PySem.W.codeIn K cd1 "ways_on" = true) (k1:PySem.W.keepIn K (.ref f1)=true)
  (a2:PySem.W.nsIn K mainGlobals "names_of" = some (some (.ref f2))) (l2:K.lookup f2=some ⟨oc2,od2,.func (PySem.W.fnOf "names_of" "names_of" (aM fL) (aL fL) (au fL) .none kV2 dc2 pm2 an2 cd2 ct2),sl2⟩) (c2:PySem.W.codeIn K cd2 "names_of" = true) (k2:PySem.W.keepIn K (.ref f2)=true)
  (a3:PySem.W.nsIn K mainGlobals "lies_in" = some (some (.ref f3))) (l3:K.lookup f3=some ⟨oc3,od3,.func (PySem.W.fnOf "lies_in" "lies_in" (aM gn) (aL gn) (au gn) .none kV3 dc3 pm3 an3 cd3 ct3),sl3⟩) (c3:PySem.W.codeIn K cd3 "lies_in" = true) (k3:PySem.W.keepIn K (.ref f3)=true)
  (a4:PySem.W.nsIn K mainGlobals "part_below" = some (some (.ref f4))) (l4:K.lookup f4=some ⟨oc4,od4,.func (PySem.W.fnOf "part_below" "part_below" (aM eC) (aL eC) (au eC) .none kV4 dc4 pm4 an4 cd4 ct4),sl4⟩) (c4:PySem.W.codeIn K cd4 "part_below" = true) (k4:PySem.W.keepIn K (.ref f4)=true)
  (a5:PySem.W.nsIn K mainGlobals "part_from" = some (some (.ref f5))) (l5:K.lookup f5=some ⟨oc5,od5,.func (PySem.W.fnOf "part_from" "part_from" (aM eZ) (aL eZ) (au eZ) .none kV5 dc5 pm5 an5 cd5 ct5),sl5⟩) (c5:PySem.W.codeIn K cd5 "part_from" = true) (k5:PySem.W.keepIn K (.ref f5)=true)
  (a6:PySem.W.nsIn K mainGlobals "part_at" = some (some (.ref f6))) (l6:K.lookup f6=some ⟨oc6,od6,.func (PySem.W.fnOf "part_at" "part_at" (aM gr) (aL gr) (au gr) .none kV6 dc6 pm6 an6 cd6 ct6),sl6⟩) (c6:PySem.W.codeIn K cd6 "part_at" = true) (k6:PySem.W.keepIn K (.ref f6)=true)
  (a7:PySem.W.nsIn K mainGlobals "part_beside" = some (some (.ref f7))) (l7:K.lookup f7=some ⟨oc7,od7,.func (PySem.W.fnOf "part_beside" "part_beside" (aM dP) (aL dP) (au dP) .none kV7 dc7 pm7 an7 cd7 ct7),sl7⟩) (c7:PySem.W.codeIn K cd7 "part_beside" = true) (k7:PySem.W.keepIn K (.ref f7)=true)
  (a8:PySem.W.nsIn K mainGlobals "part_of" = some (some (.ref f8))) (l8:K.lookup f8=some ⟨oc8,od8,.func (PySem.W.fnOf "part_of" "part_of" (aM gu) (aL gu) (au gu) .none kV8 dc8 pm8 an8 cd8 ct8),sl8⟩) (c8:PySem.W.codeIn K cd8 "part_of" = true) (k8:PySem.W.keepIn K (.ref f8)=true)
  (a9:PySem.W.nsIn K mainGlobals "is_within" = some (some (.ref f9))) (l9:K.lookup f9=some ⟨oc9,od9,.func (PySem.W.fnOf "is_within" "is_within" (aM fb) (aL fb) (au fb) .none kV9 dc9 pm9 an9 cd9 ct9),sl9⟩) (c9:PySem.W.codeIn K cd9 "is_within" = true) (k9:PySem.W.keepIn K (.ref f9)=true)
  (a10:PySem.W.nsIn K mainGlobals "facts_of" = some (some (.ref f10))) (l10:K.lookup f10=some ⟨oc10,od10,.func (PySem.W.fnOf "facts_of" "facts_of" (aM fM) (aL fM) (au fM) .none kV10 dc10 pm10 an10 cd10 ct10),sl10⟩) (c10:PySem.W.codeIn K cd10 "facts_of" = true) (k10:PySem.W.keepIn K (.ref f10)=true)
  (a11:PySem.W.nsIn K mainGlobals "known" = some (some (.ref f11))) (l11:K.lookup f11=some ⟨oc11,od11,.func (PySem.W.fnOf "known" "known" (aM iI) (aL iI) (au iI) .none kV11 dc11 pm11 an11 cd11 ct11),sl11⟩) (c11:PySem.W.codeIn K cd11 "known" = true) (k11:PySem.W.keepIn K (.ref f11)=true)
  (a12:PySem.W.nsIn K mainGlobals "with_known" = some (some (.ref f12))) (l12:K.lookup f12=some ⟨oc12,od12,.func (PySem.W.fnOf "with_known" "with_known" (aM eD) (aL eD) (au eD) .none kV12 dc12 pm12 an12 cd12 ct12),sl12⟩) (c12:PySem.W.codeIn K cd12 "with_known" = true) (k12:PySem.W.keepIn K (.ref f12)=true)
  (a13:PySem.W.nsIn K mainGlobals "holds" = some (some (.ref f13))) (l13:K.lookup f13=some ⟨oc13,od13,.func (PySem.W.fnOf "holds" "holds" (aM iJ) (aL iJ) (au iJ) .none kV13 dc13 pm13 an13 cd13 ct13),sl13⟩) (c13:PySem.W.codeIn K cd13 "holds" = true) (k13:PySem.W.keepIn K (.ref f13)=true)
  (a14:PySem.W.nsIn K mainGlobals "covers" = some (some (.ref f14))) (l14:K.lookup f14=some ⟨oc14,od14,.func (PySem.W.fnOf "covers" "covers" (aM gY) (aL gY) (au gY) .none kV14 dc14 pm14 an14 cd14 ct14),sl14⟩) (c14:PySem.W.codeIn K cd14 "covers" = true) (k14:PySem.W.keepIn K (.ref f14)=true)
  (a15:PySem.W.nsIn K mainGlobals "moved" = some (some (.ref f15))) (l15:K.lookup f15=some ⟨oc15,od15,.func (PySem.W.fnOf "moved" "moved" (aM iK) (aL iK) (au iK) .none kV15 dc15 pm15 an15 cd15 ct15),sl15⟩) (c15:PySem.W.codeIn K cd15 "moved" = true) (k15:PySem.W.keepIn K (.ref f15)=true)
  (a16:PySem.W.nsIn K mainGlobals "stretch_behind" = some (some (.ref f16))) (l16:K.lookup f16=some ⟨oc16,od16,.func (PySem.W.fnOf "stretch_behind" "stretch_behind" (aM cU) (aL cU) (au cU) .none kV16 dc16 pm16 an16 cd16 ct16),sl16⟩) (c16:PySem.W.codeIn K cd16 "stretch_behind" = true) (k16:PySem.W.keepIn K (.ref f16)=true)
  (a17:PySem.W.nsIn K mainGlobals "behind" = some (some (.ref f17))) (l17:K.lookup f17=some ⟨oc17,od17,.func (PySem.W.fnOf "behind" "behind" (aM gZ) (aL gZ) (au gZ) .none kV17 dc17 pm17 an17 cd17 ct17),sl17⟩) (c17:PySem.W.codeIn K cd17 "behind" = true) (k17:PySem.W.keepIn K (.ref f17)=true)
  (a18:PySem.W.nsIn K mainGlobals "known_beyond" = some (some (.ref f18))) (l18:K.lookup f18=some ⟨oc18,od18,.func (PySem.W.fnOf "known_beyond" "known_beyond" (aM dz) (aL dz) (au dz) .none kV18 dc18 pm18 an18 cd18 ct18),sl18⟩) (c18:PySem.W.codeIn K cd18 "known_beyond" = true) (k18:PySem.W.keepIn K (.ref f18)=true)
  (a19:PySem.W.nsIn K mainGlobals "leads" = some (some (.ref f19))) (l19:K.lookup f19=some ⟨oc19,od19,.func (PySem.W.fnOf "leads" "leads" (aM iL) (aL iL) (au iL) .none kV19 dc19 pm19 an19 cd19 ct19),sl19⟩) (c19:PySem.W.codeIn K cd19 "leads" = true) (k19:PySem.W.keepIn K (.ref f19)=true)
  (a20:PySem.W.nsIn K mainGlobals "start" = some (some (.ref f20))) (l20:K.lookup f20=some ⟨oc20,od20,.func (PySem.W.fnOf "start" "start" (aM iM) (aL iM) (au iM) .none kV20 dc20 pm20 an20 cd20 ct20),sl20⟩) (c20:PySem.W.codeIn K cd20 "start" = true) (k20:PySem.W.keepIn K (.ref f20)=true)
  (a21:PySem.W.nsIn K mainGlobals "is_met" = some (some (.ref f21))) (l21:K.lookup f21=some ⟨oc21,od21,.func (PySem.W.fnOf "is_met" "is_met" (aM hG) (aL hG) (au hG) .none kV21 dc21 pm21 an21 cd21 ct21),sl21⟩) (c21:PySem.W.codeIn K cd21 "is_met" = true) (k21:PySem.W.keepIn K (.ref f21)=true)
  (a22:PySem.W.nsIn K mainGlobals "leads_from" = some (some (.ref f22))) (l22:K.lookup f22=some ⟨oc22,od22,.func (PySem.W.fnOf "leads_from" "leads_from" (aM eE) (aL eE) (au eE) .none kV22 dc22 pm22 an22 cd22 ct22),sl22⟩) (c22:PySem.W.codeIn K cd22 "leads_from" = true) (k22:PySem.W.keepIn K (.ref f22)=true)
  (a23:PySem.W.nsIn K mainGlobals "entry_stands" = some (some (.ref f23))) (l23:K.lookup f23=some ⟨oc23,od23,.func (PySem.W.fnOf "entry_stands" "entry_stands" (aM dA) (aL dA) (au dA) .none kV23 dc23 pm23 an23 cd23 ct23),sl23⟩) (c23:PySem.W.codeIn K cd23 "entry_stands" = true) (k23:PySem.W.keepIn K (.ref f23)=true)
  (a24:PySem.W.nsIn K mainGlobals "stands" = some (some (.ref f24))) (l24:K.lookup f24=some ⟨oc24,od24,.func (PySem.W.fnOf "stands" "stands" (aM hJ) (aL hJ) (au hJ) .none kV24 dc24 pm24 an24 cd24 ct24),sl24⟩) (c24:PySem.W.codeIn K cd24 "stands" = true) (k24:PySem.W.keepIn K (.ref f24)=true)
  (a25:PySem.W.nsIn K mainGlobals "opened" = some (some (.ref f25))) (l25:K.lookup f25=some ⟨oc25,od25,.func (PySem.W.fnOf "opened" "opened" (aM hR) (aL hR) (au hR) .none kV25 dc25 pm25 an25 cd25 ct25),sl25⟩) (c25:PySem.W.codeIn K cd25 "opened" = true) (k25:PySem.W.keepIn K (.ref f25)=true)
  (a26:PySem.W.nsIn K mainGlobals "widened" = some (some (.ref f26))) (l26:K.lookup f26=some ⟨oc26,od26,.func (PySem.W.fnOf "widened" "widened" (aM gx) (aL gx) (au gx) .none kV26 dc26 pm26 an26 cd26 ct26),sl26⟩) (c26:PySem.W.codeIn K cd26 "widened" = true) (k26:PySem.W.keepIn K (.ref f26)=true)
  (a27:PySem.W.nsIn K mainGlobals "table_of" = some (some (.ref f27))) (l27:K.lookup f27=some ⟨oc27,od27,.func (PySem.W.fnOf "table_of" "table_of" (aM fN) (aL fN) (au fN) .none kV27 dc27 pm27 an27 cd27 ct27),sl27⟩) (c27:PySem.W.codeIn K cd27 "table_of" = true) (k27:PySem.W.keepIn K (.ref f27)=true)
  (a28:PySem.W.nsIn K mainGlobals "_law_bag" = some (some (.ref f28))) (l28:K.lookup f28=some ⟨oc28,od28,.func (PySem.W.fnOf "_law_bag" "_law_bag" (aM gy) (aL gy) (au gy) .none kV28 dc28 pm28 an28 cd28 ct28),sl28⟩) (c28:PySem.W.codeIn K cd28 "_law_bag" = true) (k28:PySem.W.keepIn K (.ref f28)=true)
  (a29:PySem.W.nsIn K mainGlobals "_law_take" = some (some (.ref f29))) (l29:K.lookup f29=some ⟨oc29,od29,.func (PySem.W.fnOf "_law_take" "_law_take" (aM fO) (aL fO) (au fO) .none kV29 dc29 pm29 an29 cd29 ct29),sl29⟩) (c29:PySem.W.codeIn K cd29 "_law_take" = true) (k29:PySem.W.keepIn K (.ref f29)=true)
  (a30:PySem.W.nsIn K mainGlobals "_law_names" = some (some (.ref f30))) (l30:K.lookup f30=some ⟨oc30,od30,.func (PySem.W.fnOf "_law_names" "_law_names" (aM fe) (aL fe) (au fe) .none kV30 dc30 pm30 an30 cd30 ct30),sl30⟩) (c30:PySem.W.codeIn K cd30 "_law_names" = true) (k30:PySem.W.keepIn K (.ref f30)=true)
  (a31:PySem.W.nsIn K mainGlobals "_law_number" = some (some (.ref f31))) (l31:K.lookup f31=some ⟨oc31,od31,.func (PySem.W.fnOf "_law_number" "_law_number" (aM eF) (aL eF) (au eF) .none kV31 dc31 pm31 an31 cd31 ct31),sl31⟩) (c31:PySem.W.codeIn K cd31 "_law_number" = true) (k31:PySem.W.keepIn K (.ref f31)=true)
  (a32:PySem.W.nsIn K mainGlobals "_law_deed" = some (some (.ref f32))) (l32:K.lookup f32=some ⟨oc32,od32,.func (PySem.W.fnOf "_law_deed" "_law_deed" (aM fP) (aL fP) (au fP) .none kV32 dc32 pm32 an32 cd32 ct32),sl32⟩) (c32:PySem.W.codeIn K cd32 "_law_deed" = true) (k32:PySem.W.keepIn K (.ref f32)=true)
  (a33:PySem.W.nsIn K mainGlobals "_law_end" = some (some (.ref f33))) (l33:K.lookup f33=some ⟨oc33,od33,.func (PySem.W.fnOf "_law_end" "_law_end" (aM gB) (aL gB) (au gB) .none kV33 dc33 pm33 an33 cd33 ct33),sl33⟩) (c33:PySem.W.codeIn K cd33 "_law_end" = true) (k33:PySem.W.keepIn K (.ref f33)=true)
  (a34:PySem.W.nsIn K mainGlobals "_law_plan" = some (some (.ref f34))) (l34:K.lookup f34=some ⟨oc34,od34,.func (PySem.W.fnOf "_law_plan" "_law_plan" (aM fQ) (aL fQ) (au fQ) .none kV34 dc34 pm34 an34 cd34 ct34),sl34⟩) (c34:PySem.W.codeIn K cd34 "_law_plan" = true) (k34:PySem.W.keepIn K (.ref f34)=true)
  (a35:PySem.W.nsIn K mainGlobals "_law_count" = some (some (.ref f35))) (l35:K.lookup f35=some ⟨oc35,od35,.func (PySem.W.fnOf "_law_count" "_law_count" (aM fg) (aL fg) (au fg) .none kV35 dc35 pm35 an35 cd35 ct35),sl35⟩) (c35:PySem.W.codeIn K cd35 "_law_count" = true) (k35:PySem.W.keepIn K (.ref f35)=true)
  (a36:PySem.W.nsIn K mainGlobals "_law_step" = some (some (.ref f36))) (l36:K.lookup f36=some ⟨oc36,od36,.func (PySem.W.fnOf "_law_step" "_law_step" (aM fR) (aL fR) (au fR) .none kV36 dc36 pm36 an36 cd36 ct36),sl36⟩) (c36:PySem.W.codeIn K cd36 "_law_step" = true) (k36:PySem.W.keepIn K (.ref f36)=true)
  (a37:PySem.W.nsIn K mainGlobals "_law_input" = some (some (.ref f37))) (l37:K.lookup f37=some ⟨oc37,od37,.func (PySem.W.fnOf "_law_input" "_law_input" (aM fh) (aL fh) (au fh) .none kV37 dc37 pm37 an37 cd37 ct37),sl37⟩) (c37:PySem.W.codeIn K cd37 "_law_input" = true) (k37:PySem.W.keepIn K (.ref f37)=true)
  (a38:PySem.W.nsIn K mainGlobals "_law_with" = some (some (.ref f38))) (l38:K.lookup f38=some ⟨oc38,od38,.func (PySem.W.fnOf "_law_with" "_law_with" (aM fS) (aL fS) (au fS) .none kV38 dc38 pm38 an38 cd38 ct38),sl38⟩) (c38:PySem.W.codeIn K cd38 "_law_with" = true) (k38:PySem.W.keepIn K (.ref f38)=true)
  (a39:PySem.W.nsIn K mainGlobals "_law_told" = some (some (.ref f39))) (l39:K.lookup f39=some ⟨oc39,od39,.func (PySem.W.fnOf "_law_told" "_law_told" (aM fT) (aL fT) (au fT) .none kV39 dc39 pm39 an39 cd39 ct39),sl39⟩) (c39:PySem.W.codeIn K cd39 "_law_told" = true) (k39:PySem.W.keepIn K (.ref f39)=true)
  (a40:PySem.W.nsIn K mainGlobals "_law_table_of" = some (some (.ref f40))) (l40:K.lookup f40=some ⟨oc40,od40,.func (PySem.W.fnOf "_law_table_of" "_law_table_of" (aM dB) (aL dB) (au dB) .none kV40 dc40 pm40 an40 cd40 ct40),sl40⟩) (c40:PySem.W.codeIn K cd40 "_law_table_of" = true) (k40:PySem.W.keepIn K (.ref f40)=true)
  (a41:PySem.W.nsIn K mainGlobals "_law_facts_spoilt" = some (some (.ref f41))) (l41:K.lookup f41=some ⟨oc41,od41,.func (PySem.W.fnOf "_law_facts_spoilt" "_law_facts_spoilt" (aM cC) (aL cC) (au cC) .none kV41 dc41 pm41 an41 cd41 ct41),sl41⟩) (c41:PySem.W.codeIn K cd41 "_law_facts_spoilt" = true) (k41:PySem.W.keepIn K (.ref f41)=true)
  (a42:PySem.W.nsIn K mainGlobals "_law_table_spoilt" = some (some (.ref f42))) (l42:K.lookup f42=some ⟨oc42,od42,.func (PySem.W.fnOf "_law_table_spoilt" "_law_table_spoilt" (aM cD) (aL cD) (au cD) .none kV42 dc42 pm42 an42 cd42 ct42),sl42⟩) (c42:PySem.W.codeIn K cd42 "_law_table_spoilt" = true) (k42:PySem.W.keepIn K (.ref f42)=true)
  (a43:PySem.W.nsIn K mainGlobals "_law_holds" = some (some (.ref f43))) (l43:K.lookup f43=some ⟨oc43,od43,.func (PySem.W.fnOf "_law_holds" "_law_holds" (aM fi) (aL fi) (au fi) .none kV43 dc43 pm43 an43 cd43 ct43),sl43⟩) (c43:PySem.W.codeIn K cd43 "_law_holds" = true) (k43:PySem.W.keepIn K (.ref f43)=true)
  (a44:PySem.W.nsIn K mainGlobals "_law_walk_holds" = some (some (.ref f44))) (l44:K.lookup f44=some ⟨oc44,od44,.func (PySem.W.fnOf "_law_walk_holds" "_law_walk_holds" (aM cV) (aL cV) (au cV) .none kV44 dc44 pm44 an44 cd44 ct44),sl44⟩) (c44:PySem.W.codeIn K cd44 "_law_walk_holds" = true) (k44:PySem.W.keepIn K (.ref f44)=true)
  (a45:PySem.W.nsIn K mainGlobals "law" = some (some (.ref f45))) (l45:K.lookup f45=some ⟨oc45,od45,.func (PySem.W.fnOf "law" "law" (aM iE) (aL iE) (au iE) .none kV45 dc45 pm45 an45 cd45 ct45),sl45⟩) (c45:PySem.W.codeIn K cd45 "law" = true) (k45:PySem.W.keepIn K (.ref f45)=true)
  (z_len:PySem.W.nsIn K mainGlobals "len" = some none)
  (z_zip:PySem.W.nsIn K mainGlobals "zip" = some none)
  (z_tuple:PySem.W.nsIn K mainGlobals "tuple" = some none)
  (z_sorted:PySem.W.nsIn K mainGlobals "sorted" = some none)
  (z_set:PySem.W.nsIn K mainGlobals "set" = some none)
  (z_dict:PySem.W.nsIn K mainGlobals "dict" = some none)
  (z_min:PySem.W.nsIn K mainGlobals "min" = some none)
  (z_max:PySem.W.nsIn K mainGlobals "max" = some none)
  (z_range:PySem.W.nsIn K mainGlobals "range" = some none)
  (z_list:PySem.W.nsIn K mainGlobals "list" = some none)
  (z_int:PySem.W.nsIn K mainGlobals "int" = some none)
  (z_all:PySem.W.nsIn K mainGlobals "all" = some none)
  (gA:PySem.W.nsIn K mainGlobals "ALL" = some (some (.ref aA))) (lA:K.lookup aA=some ⟨.type "tuple",dcA,.seq #[.none,.none] nA,slA⟩)
  (gE:PySem.W.nsIn K mainGlobals "END_PARTS" = some (some (.ref aE))) (lE:K.lookup aE=some ⟨.type "dict",none,.dict #[⟨hsE0,.str "stop" tkE0,.ref s0⟩,⟨hsE1,.str "go" tkE1,.ref s1⟩,⟨hsE2,.str "less" tkE2,.ref s2⟩,⟨hsE3,.str "is" tkE3,.ref s3⟩] epE,#[]⟩) (qE0:K.lookup s0=some ⟨.type "tuple",dcE0,.seq #[] nnE0,slE0⟩) (qE1:K.lookup s1=some ⟨.type "tuple",dcE1,.seq #[.str "piece" ttE1_0] nnE1,slE1⟩) (qE2:K.lookup s2=some ⟨.type "tuple",dcE2,.seq #[.str "name" ttE2_0,.str "number" ttE2_1,.str "piece" ttE2_2,.str "piece" ttE2_3] nnE2,slE2⟩) (qE3:K.lookup s3=some ⟨.type "tuple",dcE3,.seq #[.str "name" ttE3_0,.str "number" ttE3_1,.str "piece" ttE3_2,.str "piece" ttE3_3] nnE3,slE3⟩)
  (gD:PySem.W.nsIn K mainGlobals "DEED_PARTS" = some (some (.ref aD))) (lD:K.lookup aD=some ⟨.type "dict",none,.dict #[⟨hsD0,.str "put" tkD0,.ref d0⟩,⟨hsD1,.str "copy" tkD1,.ref d1⟩,⟨hsD2,.str "add" tkD2,.ref d2⟩,⟨hsD3,.str "read" tkD3,.ref d3⟩,⟨hsD4,.str "tell" tkD4,.ref d4⟩] epD,#[]⟩) (qD0:K.lookup d0=some ⟨.type "tuple",dcD0,.seq #[.str "name" ttD0_0,.str "number" ttD0_1] nnD0,slD0⟩) (qD1:K.lookup d1=some ⟨.type "tuple",dcD1,.seq #[.str "name" ttD1_0,.str "name" ttD1_1] nnD1,slD1⟩) (qD2:K.lookup d2=some ⟨.type "tuple",dcD2,.seq #[.str "name" ttD2_0,.str "number" ttD2_1] nnD2,slD2⟩) (qD3:K.lookup d3=some ⟨.type "tuple",dcD3,.seq #[.str "name" ttD3_0] nnD3,slD3⟩) (qD4:K.lookup d4=some ⟨.type "tuple",dcD4,.seq #[.str "name" ttD4_0] nnD4,slD4⟩) :
  ∃ fd:FuncData,(∀ (s:Shared) (v:Value),BindsTo s fd ⟨[v],[]⟩ [("script",v)])/\∀ base:Heap,K.In base->base.Ns mainGlobals mg->bB l.prog w K mg base bT 12 fa fd ["script"] (oR K):=by
 have e:=hfa.symm.trans (PySem.W.mg_of X G a45)
 cases e
 have Z:Bl mg:=⟨PySem.W.mg_none_of X G z_len,PySem.W.mg_none_of X G z_zip,PySem.W.mg_none_of X G z_tuple,PySem.W.mg_none_of X G z_sorted,PySem.W.mg_none_of X G z_set,PySem.W.mg_none_of X G z_dict,PySem.W.mg_none_of X G z_min,PySem.W.mg_none_of X G z_max,PySem.W.mg_none_of X G z_range,PySem.W.mg_none_of X G z_list,PySem.W.mg_none_of X G z_int,PySem.W.mg_none_of X G z_all⟩
 have GA:gI K mg aA:=⟨PySem.W.mg_of X G gA,_,_,_,lA⟩
 have GE:pY K mg aE s0 s1 s2 s3:=⟨⟨PySem.W.mg_of X G gE,_,_,lE,(.cons rfl rfl (.cons rfl rfl (.cons rfl rfl (.cons rfl rfl .nil))))⟩,⟨_,_,_,qE0,rfl,rfl,(by show 0<=sizeLine;decide),.nil⟩,⟨_,_,_,qE1,rfl,rfl,(by show 1<=sizeLine;decide),(.cons ⟨_,rfl⟩ .nil)⟩,⟨_,_,_,qE2,rfl,rfl,(by show 4<=sizeLine;decide),(.cons ⟨_,rfl⟩ (.cons ⟨_,rfl⟩ (.cons ⟨_,rfl⟩ (.cons ⟨_,rfl⟩ .nil))))⟩,⟨_,_,_,qE3,rfl,rfl,(by show 4<=sizeLine;decide),(.cons ⟨_,rfl⟩ (.cons ⟨_,rfl⟩ (.cons ⟨_,rfl⟩ (.cons ⟨_,rfl⟩ .nil))))⟩⟩
 have GD:oV K mg aD d0 d1 d2 d3 d4:=⟨⟨PySem.W.mg_of X G gD,_,_,lD,(.cons rfl rfl (.cons rfl rfl (.cons rfl rfl (.cons rfl rfl (.cons rfl rfl .nil)))))⟩,⟨_,_,_,qD0,rfl,rfl,(by show 2<=sizeLine;decide),(.cons ⟨_,rfl⟩ (.cons ⟨_,rfl⟩ .nil))⟩,⟨_,_,_,qD1,rfl,rfl,(by show 2<=sizeLine;decide),(.cons ⟨_,rfl⟩ (.cons ⟨_,rfl⟩ .nil))⟩,⟨_,_,_,qD2,rfl,rfl,(by show 2<=sizeLine;decide),(.cons ⟨_,rfl⟩ (.cons ⟨_,rfl⟩ .nil))⟩,⟨_,_,_,qD3,rfl,rfl,(by show 1<=sizeLine;decide),(.cons ⟨_,rfl⟩ .nil)⟩,⟨_,_,_,qD4,rfl,rfl,(by show 1<=sizeLine;decide),(.cons ⟨_,rfl⟩ .nil)⟩⟩
 have F0:=aX (st:=dh) l0 c0 k0
 have b0:=F0.binds (ps:=["thing", "kinds", "wanted"]) fun _ _ _ _ _ _ us hl=>match us,hl with | [_,_,_],_=>rfl
 have F1:=aX (st:=gm) l1 c1 k1
 have b1:=F1.binds (ps:=["end"]) fun _ _ _ _ _ _ us hl=>match us,hl with | [_],_=>rfl
 have F2:=aX (st:=fL) l2 c2 k2
 have b2:=F2.binds (ps:=["plan"]) fun _ _ _ _ _ _ us hl=>match us,hl with | [_],_=>rfl
 have F3:=aX (st:=gn) l3 c3 k3
 have b3:=F3.binds (ps:=["number", "stretch"]) fun _ _ _ _ _ _ us hl=>match us,hl with | [_,_],_=>rfl
 have F4:=aX (st:=eC) l4 c4 k4
 have b4:=F4.binds (ps:=["stretch", "number"]) fun _ _ _ _ _ _ us hl=>match us,hl with | [_,_],_=>rfl
 have F5:=aX (st:=eZ) l5 c5 k5
 have b5:=F5.binds (ps:=["stretch", "number"]) fun _ _ _ _ _ _ us hl=>match us,hl with | [_,_],_=>rfl
 have F6:=aX (st:=gr) l6 c6 k6
 have b6:=F6.binds (ps:=["stretch", "number"]) fun _ _ _ _ _ _ us hl=>match us,hl with | [_,_],_=>rfl
 have F7:=aX (st:=dP) l7 c7 k7
 have b7:=F7.binds (ps:=["stretch", "number"]) fun _ _ _ _ _ _ us hl=>match us,hl with | [_,_],_=>rfl
 have F8:=aX (st:=gu) l8 c8 k8
 have b8:=F8.binds (ps:=["stretch", "word", "number", "side"]) fun _ _ _ _ _ _ us hl=>match us,hl with | [_,_,_,_],_=>rfl
 have F9:=aX (st:=fb) l9 c9 k9
 have b9:=F9.binds (ps:=["one", "other"]) fun _ _ _ _ _ _ us hl=>match us,hl with | [_,_],_=>rfl
 have F10:=aX (st:=fM) l10 c10 k10
 have b10:=F10.binds (ps:=["stretches"]) fun _ _ _ _ _ _ us hl=>match us,hl with | [_],_=>rfl
 have F11:=aX (st:=iI) l11 c11 k11
 have b11:=F11.binds (ps:=["facts", "name"]) fun _ _ _ _ _ _ us hl=>match us,hl with | [_,_],_=>rfl
 have F12:=aX (st:=eD) l12 c12 k12
 have b12:=F12.binds (ps:=["facts", "name", "stretch"]) fun _ _ _ _ _ _ us hl=>match us,hl with | [_,_,_],_=>rfl
 have F13:=aX (st:=iJ) l13 c13 k13
 have b13:=F13.binds (ps:=["facts", "worths"]) fun _ _ _ _ _ _ us hl=>match us,hl with | [_,_],_=>rfl
 have F14:=aX (st:=gY) l14 c14 k14
 have b14:=F14.binds (ps:=["facts", "others"]) fun _ _ _ _ _ _ us hl=>match us,hl with | [_,_],_=>rfl
 have F15:=aX (st:=iK) l15 c15 k15
 have b15:=F15.binds (ps:=["stretch", "number"]) fun _ _ _ _ _ _ us hl=>match us,hl with | [_,_],_=>rfl
 have F16:=aX (st:=cU) l16 c16 k16
 have b16:=F16.binds (ps:=["stretches", "deed"]) fun _ _ _ _ _ _ us hl=>match us,hl with | [_,_],_=>rfl
 have F17:=aX (st:=gZ) l17 c17 k17
 have b17:=F17.binds (ps:=["facts", "deeds"]) fun _ _ _ _ _ _ us hl=>match us,hl with | [_,_],_=>rfl
 have F18:=aX (st:=dz) l18 c18 k18
 have b18:=F18.binds (ps:=["facts", "end"]) fun _ _ _ _ _ _ us hl=>match us,hl with | [_,_],_=>rfl
 have F19:=aX (st:=iL) l19 c19 k19
 have b19:=F19.binds (ps:=["facts", "end"]) fun _ _ _ _ _ _ us hl=>match us,hl with | [_,_],_=>rfl
 have F20:=aX (st:=iM) l20 c20 k20
 have b20:=F20.binds (ps:=["plan"]) fun _ _ _ _ _ _ us hl=>match us,hl with | [_],_=>rfl
 have F21:=aX (st:=hG) l21 c21 k21
 have b21:=F21.binds (ps:=["lead", "table"]) fun _ _ _ _ _ _ us hl=>match us,hl with | [_,_],_=>rfl
 have F22:=aX (st:=eE) l22 c22 k22
 have b22:=F22.binds (ps:=["entry", "piece"]) fun _ _ _ _ _ _ us hl=>match us,hl with | [_,_],_=>rfl
 have F23:=aX (st:=dA) l23 c23 k23
 have b23:=F23.binds (ps:=["entry", "piece", "table"]) fun _ _ _ _ _ _ us hl=>match us,hl with | [_,_,_],_=>rfl
 have F24:=aX (st:=hJ) l24 c24 k24
 have b24:=F24.binds (ps:=["plan", "table"]) fun _ _ _ _ _ _ us hl=>match us,hl with | [_,_],_=>rfl
 have F25:=aX (st:=hR) l25 c25 k25
 have b25:=F25.binds (ps:=["stretch", "other"]) fun _ _ _ _ _ _ us hl=>match us,hl with | [_,_],_=>rfl
 have F26:=aX (st:=gx) l26 c26 k26
 have b26:=F26.binds (ps:=["entry", "facts"]) fun _ _ _ _ _ _ us hl=>match us,hl with | [_,_],_=>rfl
 have F27:=aX (st:=fN) l27 c27 k27
 have b27:=F27.binds (ps:=["plan"]) fun _ _ _ _ _ _ us hl=>match us,hl with | [_],_=>rfl
 have F28:=aX (st:=gy) l28 c28 k28
 have b28:=F28.binds (ps:=["script", "k"]) fun _ _ _ _ _ _ us hl=>match us,hl with | [_,_],_=>rfl
 have F29:=aX (st:=fO) l29 c29 k29
 have b29:=F29.binds (ps:=["bag", "many"]) fun _ _ _ _ _ _ us hl=>match us,hl with | [_,_],_=>rfl
 have F30:=aX (st:=fe) l30 c30 k30
 have b30:=F30.binds (ps:=["bag"]) fun _ _ _ _ _ _ us hl=>match us,hl with | [_],_=>rfl
 have F31:=aX (st:=eF) l31 c31 k31
 have b31:=F31.binds (ps:=["bag"]) fun _ _ _ _ _ _ us hl=>match us,hl with | [_],_=>rfl
 have F32:=aX (st:=fP) l32 c32 k32
 have b32:=F32.binds (ps:=["bag", "names"]) fun _ _ _ _ _ _ us hl=>match us,hl with | [_,_],_=>rfl
 have F33:=aX (st:=gB) l33 c33 k33
 have b33:=F33.binds (ps:=["bag", "names", "count"]) fun _ _ _ _ _ _ us hl=>match us,hl with | [_,_,_],_=>rfl
 have F34:=aX (st:=fQ) l34 c34 k34
 have b34:=F34.binds (ps:=["bag", "count", "most"]) fun _ _ _ _ _ _ us hl=>match us,hl with | [_,_,_],_=>rfl
 have F35:=aX (st:=fg) l35 c35 k35
 have b35:=F35.binds (ps:=["bag", "most"]) fun _ _ _ _ _ _ us hl=>match us,hl with | [_,_],_=>rfl
 have F36:=aX (st:=fR) l36 c36 k36
 have b36:=F36.binds (ps:=["plan", "state", "numbers"]) fun _ _ _ _ _ _ us hl=>match us,hl with | [_,_,_],_=>rfl
 have F37:=aX (st:=fh) l37 c37 k37
 have b37:=F37.binds (ps:=["bag"]) fun _ _ _ _ _ _ us hl=>match us,hl with | [_],_=>rfl
 have F38:=aX (st:=fS) l38 c38 k38
 have b38:=F38.binds (ps:=["facts", "name", "stretch"]) fun _ _ _ _ _ _ us hl=>match us,hl with | [_,_,_],_=>rfl
 have F39:=aX (st:=fT) l39 c39 k39
 have b39:=F39.binds (ps:=["facts"]) fun _ _ _ _ _ _ us hl=>match us,hl with | [_],_=>rfl
 have F40:=aX (st:=dB) l40 c40 k40
 have b40:=F40.binds (ps:=["facts"]) fun _ _ _ _ _ _ us hl=>match us,hl with | [_],_=>rfl
 have F41:=aX (st:=cC) l41 c41 k41
 have b41:=F41.binds (ps:=["bag", "facts"]) fun _ _ _ _ _ _ us hl=>match us,hl with | [_,_],_=>rfl
 have F42:=aX (st:=cD) l42 c42 k42
 have b42:=F42.binds (ps:=["bag", "table"]) fun _ _ _ _ _ _ us hl=>match us,hl with | [_,_],_=>rfl
 have F43:=aX (st:=fi) l43 c43 k43
 have b43:=F43.binds (ps:=["facts", "worths"]) fun _ _ _ _ _ _ us hl=>match us,hl with | [_,_],_=>rfl
 have F44:=aX (st:=cV) l44 c44 k44
 have b44:=F44.binds (ps:=["plan", "table", "numbers", "steps"]) fun _ _ _ _ _ _ us hl=>match us,hl with | [_,_,_,_],_=>rfl
 have F45:=aX (st:=iE) l45 c45 k45
 refine⟨PySem.W.fnOf "law" "law" (aM iE) (aL iE) (au iE) .none kV45 dc45 pm45 an45 cd45 ct45,fun s v=>.of_eq rfl,fun base _ _=>?_⟩
 have O_parts_of_kind:Own l.prog w K mg base "parts_of_kind" 1 ["thing", "kinds", "wanted"] (kR K):=⟨⟨_,_,ml F0 Z ,PySem.W.mg_of X G a0,k0,b0⟩⟩
 have O_ways_on:Own l.prog w K mg base "ways_on" 3 ["end"] mK:=⟨⟨_,_,tE F1 Z GE O_parts_of_kind,PySem.W.mg_of X G a1,k1,b1⟩⟩
 have O_names_of:Own l.prog w K mg base "names_of" 3 ["plan"] kn:=⟨⟨_,_,qV F2 Z GD GE O_parts_of_kind,PySem.W.mg_of X G a2,k2,b2⟩⟩
 have O_lies_in:Own l.prog w K mg base "lies_in" 1 ["number", "stretch"] (kW K):=⟨⟨_,_,tF F3 Z ,PySem.W.mg_of X G a3,k3,b3⟩⟩
 have O_part_below:Own l.prog w K mg base "part_below" 1 ["stretch", "number"] (ir K ft):=⟨⟨_,_,oH F4 Z ,PySem.W.mg_of X G a4,k4,b4⟩⟩
 have O_part_from:Own l.prog w K mg base "part_from" 1 ["stretch", "number"] (ir K gH):=⟨⟨_,_,qD F5 Z ,PySem.W.mg_of X G a5,k5,b5⟩⟩
 have O_part_at:Own l.prog w K mg base "part_at" 2 ["stretch", "number"] (ir K mH):=⟨⟨_,_,tG F6 Z O_lies_in,PySem.W.mg_of X G a6,k6,b6⟩⟩
 have O_part_beside:Own l.prog w K mg base "part_beside" 1 ["stretch", "number"] (ir K i0):=⟨⟨_,_,nJ F7 Z ,PySem.W.mg_of X G a7,k7,b7⟩⟩
 have O_part_of:Own l.prog w K mg base "part_of" 3 ["stretch", "word", "number", "side"] (nz K):=⟨⟨_,_,tH F8 Z O_part_below O_part_from O_part_at O_part_beside,PySem.W.mg_of X G a8,k8,b8⟩⟩
 have O_is_within:Own l.prog w K mg base "is_within" 1 ["one", "other"] (jc K):=⟨⟨_,_,qE F9 Z ,PySem.W.mg_of X G a9,k9,b9⟩⟩
 have O_facts_of:Own l.prog w K mg base "facts_of" 1 ["stretches"] (ik aA):=⟨⟨_,_,qW F10 Z GA ,PySem.W.mg_of X G a10,k10,b10⟩⟩
 have O_known:Own l.prog w K mg base "known" 1 ["facts", "name"] (nv aA):=⟨⟨_,_,wI F11 Z GA ,PySem.W.mg_of X G a11,k11,b11⟩⟩
 have O_with_known:Own l.prog w K mg base "with_known" 2 ["facts", "name", "stretch"] (jj aA):=⟨⟨_,_,oJ F12 Z GA O_facts_of,PySem.W.mg_of X G a12,k12,b12⟩⟩
 have O_holds:Own l.prog w K mg base "holds" 2 ["facts", "worths"] lU:=⟨⟨_,_,wJ F13 Z O_lies_in,PySem.W.mg_of X G a13,k13,b13⟩⟩
 have O_covers:Own l.prog w K mg base "covers" 2 ["facts", "others"] lV:=⟨⟨_,_,u0 F14 Z GA O_is_within,PySem.W.mg_of X G a14,k14,b14⟩⟩
 have O_moved:Own l.prog w K mg base "moved" 1 ["stretch", "number"] (nr K):=⟨⟨_,_,wK F15 Z ,PySem.W.mg_of X G a15,k15,b15⟩⟩
 have O_stretch_behind:Own l.prog w K mg base "stretch_behind" 2 ["stretches", "deed"] (jO aA):=⟨⟨_,_,lh F16 Z GA O_moved,PySem.W.mg_of X G a16,k16,b16⟩⟩
 have O_behind:Own l.prog w K mg base "behind" 3 ["facts", "deeds"] ku:=⟨⟨_,_,u7 F17 Z GA O_stretch_behind O_facts_of,PySem.W.mg_of X G a17,k17,b17⟩⟩
 have O_known_beyond:Own l.prog w K mg base "known_beyond" 4 ["facts", "end"] (lW aA):=⟨⟨_,_,mW F18 Z GA O_ways_on O_known O_part_of O_with_known,PySem.W.mg_of X G a18,k18,b18⟩⟩
 have O_leads:Own l.prog w K mg base "leads" 5 ["facts", "end"] (nB aA):=⟨⟨_,_,wL F19 Z O_known_beyond O_ways_on,PySem.W.mg_of X G a19,k19,b19⟩⟩
 have O_start:Own l.prog w K mg base "start" 4 ["plan"] nE:=⟨⟨_,_,wM F20 Z O_names_of,PySem.W.mg_of X G a20,k20,b20⟩⟩
 have O_is_met:Own l.prog w K mg base "is_met" 3 ["lead", "table"] kX:=⟨⟨_,_,u9 F21 Z O_covers,PySem.W.mg_of X G a21,k21,b21⟩⟩
 have O_leads_from:Own l.prog w K mg base "leads_from" 6 ["entry", "piece"] hZ:=⟨⟨_,_,oK F22 Z O_leads O_behind,PySem.W.mg_of X G a22,k22,b22⟩⟩
 have O_entry_stands:Own l.prog w K mg base "entry_stands" 7 ["entry", "piece", "table"] iw:=⟨⟨_,_,mX F23 Z O_is_met O_leads_from,PySem.W.mg_of X G a23,k23,b23⟩⟩
 have O_stands:Own l.prog w K mg base "stands" 8 ["plan", "table"] lZ:=⟨⟨_,_,va F24 Z O_holds O_entry_stands,PySem.W.mg_of X G a24,k24,b24⟩⟩
 have O_opened:Own l.prog w K mg base "opened" 2 ["stretch", "other"] (ma K):=⟨⟨_,_,vb F25 Z O_is_within,PySem.W.mg_of X G a25,k25,b25⟩⟩
 have O_widened:Own l.prog w K mg base "widened" 3 ["entry", "facts"] ky:=⟨⟨_,_,tI F26 Z GA O_facts_of O_opened,PySem.W.mg_of X G a26,k26,b26⟩⟩
 have O_table_of:Own l.prog w K mg base "table_of" 8 ["plan"] me:=⟨⟨_,_,qX F27 Z O_start O_leads_from O_is_met O_widened,PySem.W.mg_of X G a27,k27,b27⟩⟩
 have O_law_bag:Own l.prog w K mg base "_law_bag" 1 ["script", "k"] (sH K):=⟨⟨_,_,tJ F28 Z ,PySem.W.mg_of X G a28,k28,b28⟩⟩
 have O_law_take:Own l.prog w K mg base "_law_take" 1 ["bag", "many"] eU:=⟨⟨_,_,qY F29 Z ,PySem.W.mg_of X G a29,k29,b29⟩⟩
 have O_law_names:Own l.prog w K mg base "_law_names" 2 ["bag"] m9:=⟨⟨_,_,qF F30 Z O_law_take,PySem.W.mg_of X G a30,k30,b30⟩⟩
 have O_law_number:Own l.prog w K mg base "_law_number" 2 ["bag"] iW:=⟨⟨_,_,oM F31 Z O_law_take,PySem.W.mg_of X G a31,k31,b31⟩⟩
 have O_law_deed:Own l.prog w K mg base "_law_deed" 3 ["bag", "names"] pK:=⟨⟨_,_,qZ F32 Z O_law_take O_law_number,PySem.W.mg_of X G a32,k32,b32⟩⟩
 have O_law_end:Own l.prog w K mg base "_law_end" 3 ["bag", "names", "count"] pL:=⟨⟨_,_,tK F33 Z O_law_take O_law_number,PySem.W.mg_of X G a33,k33,b33⟩⟩
 have O_law_plan:Own l.prog w K mg base "_law_plan" 4 ["bag", "count", "most"] pM:=⟨⟨_,_,q9 F34 Z O_law_take O_law_names O_law_deed O_law_end,PySem.W.mg_of X G a34,k34,b34⟩⟩
 have O_law_count:Own l.prog w K mg base "_law_count" 2 ["bag", "most"] nc:=⟨⟨_,_,qG F35 Z O_law_take,PySem.W.mg_of X G a35,k35,b35⟩⟩
 have O_law_step:Own l.prog w K mg base "_law_step" 1 ["plan", "state", "numbers"] pR:=⟨⟨_,_,rh F36 Z ,PySem.W.mg_of X G a36,k36,b36⟩⟩
 have O_law_input:Own l.prog w K mg base "_law_input" 3 ["bag"] lP:=⟨⟨_,_,qH F37 Z O_law_take O_law_number,PySem.W.mg_of X G a37,k37,b37⟩⟩
 have O_law_with:Own l.prog w K mg base "_law_with" 1 ["facts", "name", "stretch"] nu:=⟨⟨_,_,rl F38 Z ,PySem.W.mg_of X G a38,k38,b38⟩⟩
 have O_law_told:Own l.prog w K mg base "_law_told" 1 ["facts"] kU:=⟨⟨_,_,rm F39 Z ,PySem.W.mg_of X G a39,k39,b39⟩⟩
 have O_law_table_of:Own l.prog w K mg base "_law_table_of" 1 ["facts"] jR:=⟨⟨_,_,mY F40 Z ,PySem.W.mg_of X G a40,k40,b40⟩⟩
 have O_law_facts_spoilt:Own l.prog w K mg base "_law_facts_spoilt" 4 ["bag", "facts"] kA:=⟨⟨_,_,j1 F41 Z O_law_table_of O_law_take O_law_told O_law_with,PySem.W.mg_of X G a41,k41,b41⟩⟩
 have O_law_table_spoilt:Own l.prog w K mg base "_law_table_spoilt" 5 ["bag", "table"] kB:=⟨⟨_,_,j2 F42 Z O_law_take O_law_facts_spoilt,PySem.W.mg_of X G a42,k42,b42⟩⟩
 have O_law_holds:Own l.prog w K mg base "_law_holds" 1 ["facts", "worths"] mh:=⟨⟨_,_,qI F43 Z ,PySem.W.mg_of X G a43,k43,b43⟩⟩
 have O_law_walk_holds:Own l.prog w K mg base "_law_walk_holds" 3 ["plan", "table", "numbers", "steps"] jm:=⟨⟨_,_,lj F44 Z O_law_step O_law_holds,PySem.W.mg_of X G a44,k44,b44⟩⟩
 exact y4 F45 Z O_law_bag O_law_take O_law_plan O_law_count O_table_of O_law_table_spoilt O_stands O_law_input O_law_walk_holds
theorem walk {l:PySem.W.OpenLaw} {q:Program} {loose:List Str} {XP:(Str->Option Value)->Heap->Prop} {YP:World->Heap->Prop} {d:DefRec} {K:Params->PySem.W.Frag} (hn:l.most=some 63) (hdf:d.params.defaults = [])
  (hY:∀ (w:World) (h:Heap),YP w h->(K w.params).In h)
  (F:∀ (w:World) (mg:Str->Option Value) (fa:Addr) (h:Heap),(K w.params).In h->h.Ns mainGlobals mg->mg d.name=some (.ref fa) ->
   ∃ fd:FuncData,(∀ (s:Shared) (u:Value),BindsTo s fd ⟨[u],[]⟩ [("script",u)])/\∀ base:Heap,(K w.params).In base->base.Ns mainGlobals mg->bB l.prog w (K w.params) mg base bT 12 fa fd ["script"] (oR (K w.params))) :
  PySem.W.WalkO q loose XP YP l.row.toRowW d [] (fun f vs=>PySem.call f vs) :=
 L2.xo (n:=63) (k:=12) (x := "script") (CX:=fun _=>bT) (sp:=fun w=>oR (K w.params)) hn (by decide) hdf ⟨rfl,by decide,by decide⟩ hY F (fun _ _ a ns hl _ hS=>⟨a,ns,rfl,hS,hl,fun _=>rfl⟩) fun _ _ _ _ _ z=>z
end My
theorem PySem.W.Fast.tw8091036492851729390:True:=trivial
theorem PySem.W.Fast.tw7303038094317134008:True:=trivial
theorem PySem.W.Fast.tw16054368090943700115:True:=trivial
theorem PySem.W.Fast.tw4679516161850643697:True:=trivial
theorem PySem.W.Fast.tw13898836844345014406:True:=trivial
theorem PySem.W.Fast.tw6283983240013942147:True:=trivial
theorem PySem.W.Fast.tw5225645428400552292:True:=trivial
theorem PySem.W.Fast.tw11494873117618524796:True:=trivial
theorem PySem.W.Fast.tw4254604520897306611:True:=trivial
theorem PySem.W.Fast.tw9268584091429661993:True:=trivial
theorem PySem.W.Fast.tw661122291537076338:True:=trivial
theorem PySem.W.Fast.tw17290417587209643957:True:=trivial
theorem PySem.W.Fast.tw13982376856070897711:True:=trivial
theorem PySem.W.Fast.tw6193706323293962932:True:=trivial
theorem PySem.W.Fast.tw17587371418799303512:True:=trivial
theorem PySem.W.Fast.tw7949377955009648864:True:=trivial
theorem PySem.W.Fast.tw9983431851755723887:True:=trivial
theorem PySem.W.Fast.tw13038063962866917458:True:=trivial
theorem PySem.W.Fast.tw17517438230203473925:True:=trivial
theorem PySem.W.Fast.tw4346003832453465526:True:=trivial
theorem PySem.W.Fast.tw15618268195599450401:True:=trivial
theorem PySem.W.Fast.tw4814116189668623984:True:=trivial
theorem PySem.W.Fast.tw17645421792527251632:True:=trivial
theorem PySem.W.Fast.tw16434575134738255200:True:=trivial
theorem PySem.W.Fast.tw1625305637683970212:True:=trivial
theorem PySem.W.Fast.tw10890756558883842789:True:=trivial
theorem PySem.W.Fast.tw13030807147682638972:True:=trivial
theorem PySem.W.Fast.tw15912791717773328711:True:=trivial
theorem PySem.W.Fast.tw16035361791007316306:True:=trivial
theorem PySem.W.Fast.tw12258436717500576291:True:=trivial
theorem PySem.W.Fast.tw18439664227358083171:True:=trivial
theorem PySem.W.Fast.tw13808753244941467662:True:=trivial
theorem PySem.W.Fast.tw7645738996447754362:True:=trivial
theorem PySem.W.Fast.tw16781242082843930625:True:=trivial
theorem PySem.W.Fast.tw1456854079961732209:True:=trivial
theorem PySem.W.Fast.tw11633533293543452757:True:=trivial
theorem PySem.W.Fast.tw9372062466595639946:True:=trivial
theorem PySem.W.Fast.tw18053483843244265388:True:=trivial
theorem PySem.W.Fast.tw5629984658998358499:True:=trivial
theorem PySem.W.Fast.tw4117062953773305726:True:=trivial
theorem PySem.W.Fast.tw13356438641907580547:True:=trivial
theorem PySem.W.Fast.tw3656873483747514276:True:=trivial
theorem PySem.W.Fast.tw14748600300668789256:True:=trivial
theorem PySem.W.Fast.tw10995449142364641749:True:=trivial
theorem PySem.W.Fast.tw16909567330056627167:True:=trivial
theorem PySem.W.Fast.tw6953377169030548852:True:=trivial
theorem PySem.W.Fast.tw15069644723118850784:True:=trivial
theorem PySem.W.Fast.tw3554016291600701481:True:=trivial
theorem PySem.W.Fast.tw1277130177826873189:True:=trivial
theorem PySem.W.Fast.tw8006221206337214594:True:=trivial
theorem PySem.W.Fast.tw1536063975807187658:True:=trivial
theorem PySem.W.Fast.tw12295073907266788866:True:=trivial
theorem PySem.W.Fast.tw12304187892558727246:True:=trivial
theorem PySem.W.Fast.tw4420417681228442136:True:=trivial
theorem PySem.W.Fast.tw5222752388362355697:True:=trivial
theorem PySem.W.Fast.tw13720616952624978819:True:=trivial
theorem PySem.W.Fast.tw4429537158709999008:True:=trivial
theorem PySem.W.Fast.tw13491774770251815416:True:=trivial
theorem PySem.W.Fast.tw5860663493947688275:True:=trivial
theorem PySem.W.Fast.tw6228923648587161761:True:=trivial
theorem PySem.W.Fast.tw18425478856127587947:True:=trivial
theorem PySem.W.Fast.tw825969623982920755:True:=trivial
theorem PySem.W.Fast.tw7945237846665636011:True:=trivial
theorem PySem.W.Fast.tw3990217638509282875:True:=trivial
theorem PySem.W.Fast.tw16114721213593020370:True:=trivial
theorem PySem.W.Fast.tw12321753895709716426:True:=trivial
theorem PySem.W.Fast.tw1413691926822004312:True:=trivial
theorem PySem.W.Fast.tw12779138043465068206:True:=trivial
theorem PySem.W.Fast.tw8329590988139131509:True:=trivial
theorem PySem.W.Fast.tw16672877337969422957:True:=trivial
theorem PySem.W.Fast.tw14637128334527496204:True:=trivial
theorem PySem.W.Fast.tw14477901659843941365:True:=trivial
theorem PySem.W.Fast.tw10493391052789780143:True:=trivial
theorem PySem.W.Fast.tw6450443256837480848:True:=trivial
theorem PySem.W.Fast.tw2274395692075749578:True:=trivial
theorem PySem.W.Fast.tw6004746116950287280:True:=trivial
theorem PySem.W.Fast.tw1433594143187421758:True:=trivial
theorem PySem.W.Fast.tw10973259252177321876:True:=trivial
theorem PySem.W.Fast.tw16185239631190871939:True:=trivial
theorem PySem.W.Fast.tw4531534843241101225:True:=trivial
theorem PySem.W.Fast.tw4436807830476550645:True:=trivial
theorem PySem.W.Fast.tw236545509437440306:True:=trivial
theorem PySem.W.Fast.tw8657408695347625607:True:=trivial
theorem PySem.W.Fast.tw11523142216009659396:True:=trivial
theorem PySem.W.Fast.tw16151087644517281628:True:=trivial
theorem PySem.W.Fast.tw5910691277867749532:True:=trivial
theorem PySem.W.Fast.tw12704647421339183083:True:=trivial
theorem PySem.W.Fast.tw7381508285037704411:True:=trivial
theorem PySem.W.Fast.tw3526014111393297371:True:=trivial
theorem PySem.W.Fast.tw5401640011403343230:True:=trivial
theorem PySem.W.Fast.tw13004684731015002811:True:=trivial
theorem PySem.W.Fast.tw6419706965211701116:True:=trivial
theorem PySem.W.Fast.tw16452441558207640324:True:=trivial
theorem PySem.W.Fast.tw17623375984022977402:True:=trivial
theorem PySem.W.Fast.tw960366119290344450:True:=trivial
theorem PySem.W.Fast.tw7691698471107694805:True:=trivial
theorem PySem.W.Fast.tw5647024793642104781:True:=trivial
theorem PySem.W.Fast.tw15561967894945531446:True:=trivial
theorem PySem.W.Fast.tw4037662834993512595:True:=trivial
theorem PySem.W.Fast.tw8399465227926587233:True:=trivial
theorem PySem.W.Fast.tw7035988682977996605:True:=trivial
theorem PySem.W.Fast.tw14990061391572852808:True:=trivial
theorem PySem.W.Fast.tw9014296139469169142:True:=trivial
theorem PySem.W.Fast.tw17726934328085799790:True:=trivial
theorem PySem.W.Fast.tw12174085169880526471:True:=trivial
theorem PySem.W.Fast.tw18136473637089344479:True:=trivial
theorem PySem.W.Fast.tw12299310125334826200:True:=trivial
theorem PySem.W.Fast.tw12762233652357669003:True:=trivial
theorem PySem.W.Fast.tw549022209911415418:True:=trivial
theorem PySem.W.Fast.tw7856160502238794321:True:=trivial
theorem PySem.W.Fast.tw6977480241241348220:True:=trivial
open PySem PySem.W PyProof.Rows
set_option maxRecDepth 100000 in
set_option maxHeartbeats 0 in
theorem PySem.Challenge.cw_ledpast_k34_whole_tables_hold_holds : PySem.Challenge.rw_ledpast_k34_whole_tables_hold.Holds := by
 w_on; o_law; k_head; (case hw => w_witness2)
 k_fill
 refine My.walk (l := PySem.Challenge.rw_ledpast_k34_whole_tables_hold) rfl rfl (fun w h Y => PySem.W.kIn_of Y) ?F
 case F =>
  intro w mg fa h KX G hmg
  refine' My.all_mk KX G hmg ?a0 ?l0 ?c0 ?k0 ?a1 ?l1 ?c1 ?k1 ?a2 ?l2 ?c2 ?k2 ?a3 ?l3 ?c3 ?k3 ?a4 ?l4 ?c4 ?k4 ?a5 ?l5 ?c5 ?k5 ?a6 ?l6 ?c6 ?k6 ?a7 ?l7 ?c7 ?k7 ?a8 ?l8 ?c8 ?k8 ?a9 ?l9 ?c9 ?k9 ?a10 ?l10 ?c10 ?k10 ?a11 ?l11 ?c11 ?k11 ?a12 ?l12 ?c12 ?k12 ?a13 ?l13 ?c13 ?k13 ?a14 ?l14 ?c14 ?k14 ?a15 ?l15 ?c15 ?k15 ?a16 ?l16 ?c16 ?k16 ?a17 ?l17 ?c17 ?k17 ?a18 ?l18 ?c18 ?k18 ?a19 ?l19 ?c19 ?k19 ?a20 ?l20 ?c20 ?k20 ?a21 ?l21 ?c21 ?k21 ?a22 ?l22 ?c22 ?k22 ?a23 ?l23 ?c23 ?k23 ?a24 ?l24 ?c24 ?k24 ?a25 ?l25 ?c25 ?k25 ?a26 ?l26 ?c26 ?k26 ?a27 ?l27 ?c27 ?k27 ?a28 ?l28 ?c28 ?k28 ?a29 ?l29 ?c29 ?k29 ?a30 ?l30 ?c30 ?k30 ?a31 ?l31 ?c31 ?k31 ?a32 ?l32 ?c32 ?k32 ?a33 ?l33 ?c33 ?k33 ?a34 ?l34 ?c34 ?k34 ?a35 ?l35 ?c35 ?k35 ?a36 ?l36 ?c36 ?k36 ?a37 ?l37 ?c37 ?k37 ?a38 ?l38 ?c38 ?k38 ?a39 ?l39 ?c39 ?k39 ?a40 ?l40 ?c40 ?k40 ?a41 ?l41 ?c41 ?k41 ?a42 ?l42 ?c42 ?k42 ?a43 ?l43 ?c43 ?k43 ?a44 ?l44 ?c44 ?k44 ?a45 ?l45 ?c45 ?k45 ?z_len ?z_zip ?z_tuple ?z_sorted ?z_set ?z_dict ?z_min ?z_max ?z_range ?z_list ?z_int ?z_all ?gA ?lA ?gE ?lE ?qE0 ?qE1 ?qE2 ?qE3 ?gD ?lD ?qD0 ?qD1 ?qD2 ?qD3 ?qD4
  (case gA => k_is)
  (case lA => k_is)
  (case gE => k_is)
  (case lE => k_is)
  (case qE0 => k_is)
  (case qE1 => k_is)
  (case qE2 => k_is)
  (case qE3 => k_is)
  (case gD => k_is)
  (case lD => k_is)
  (case qD0 => k_is)
  (case qD1 => k_is)
  (case qD2 => k_is)
  (case qD3 => k_is)
  (case qD4 => k_is)
  (case a0 => k_is)
  (case l0 => k_is)
  (case c0 => k_is)
  (case k0 => k_is)
  (case a1 => k_is)
  (case l1 => k_is)
  (case c1 => k_is)
  (case k1 => k_is)
  (case a2 => k_is)
  (case l2 => k_is)
  (case c2 => k_is)
  (case k2 => k_is)
  (case a3 => k_is)
  (case l3 => k_is)
  (case c3 => k_is)
  (case k3 => k_is)
  (case a4 => k_is)
  (case l4 => k_is)
  (case c4 => k_is)
  (case k4 => k_is)
  (case a5 => k_is)
  (case l5 => k_is)
  (case c5 => k_is)
  (case k5 => k_is)
  (case a6 => k_is)
  (case l6 => k_is)
  (case c6 => k_is)
  (case k6 => k_is)
  (case a7 => k_is)
  (case l7 => k_is)
  (case c7 => k_is)
  (case k7 => k_is)
  (case a8 => k_is)
  (case l8 => k_is)
  (case c8 => k_is)
  (case k8 => k_is)
  (case a9 => k_is)
  (case l9 => k_is)
  (case c9 => k_is)
  (case k9 => k_is)
  (case a10 => k_is)
  (case l10 => k_is)
  (case c10 => k_is)
  (case k10 => k_is)
  (case a11 => k_is)
  (case l11 => k_is)
  (case c11 => k_is)
  (case k11 => k_is)
  (case a12 => k_is)
  (case l12 => k_is)
  (case c12 => k_is)
  (case k12 => k_is)
  (case a13 => k_is)
  (case l13 => k_is)
  (case c13 => k_is)
  (case k13 => k_is)
  (case a14 => k_is)
  (case l14 => k_is)
  (case c14 => k_is)
  (case k14 => k_is)
  (case a15 => k_is)
  (case l15 => k_is)
  (case c15 => k_is)
  (case k15 => k_is)
  (case a16 => k_is)
  (case l16 => k_is)
  (case c16 => k_is)
  (case k16 => k_is)
  (case a17 => k_is)
  (case l17 => k_is)
  (case c17 => k_is)
  (case k17 => k_is)
  (case a18 => k_is)
  (case l18 => k_is)
  (case c18 => k_is)
  (case k18 => k_is)
  (case a19 => k_is)
  (case l19 => k_is)
  (case c19 => k_is)
  (case k19 => k_is)
  (case a20 => k_is)
  (case l20 => k_is)
  (case c20 => k_is)
  (case k20 => k_is)
  (case a21 => k_is)
  (case l21 => k_is)
  (case c21 => k_is)
  (case k21 => k_is)
  (case a22 => k_is)
  (case l22 => k_is)
  (case c22 => k_is)
  (case k22 => k_is)
  (case a23 => k_is)
  (case l23 => k_is)
  (case c23 => k_is)
  (case k23 => k_is)
  (case a24 => k_is)
  (case l24 => k_is)
  (case c24 => k_is)
  (case k24 => k_is)
  (case a25 => k_is)
  (case l25 => k_is)
  (case c25 => k_is)
  (case k25 => k_is)
  (case a26 => k_is)
  (case l26 => k_is)
  (case c26 => k_is)
  (case k26 => k_is)
  (case a27 => k_is)
  (case l27 => k_is)
  (case c27 => k_is)
  (case k27 => k_is)
  (case a28 => k_is)
  (case l28 => k_is)
  (case c28 => k_is)
  (case k28 => k_is)
  (case a29 => k_is)
  (case l29 => k_is)
  (case c29 => k_is)
  (case k29 => k_is)
  (case a30 => k_is)
  (case l30 => k_is)
  (case c30 => k_is)
  (case k30 => k_is)
  (case a31 => k_is)
  (case l31 => k_is)
  (case c31 => k_is)
  (case k31 => k_is)
  (case a32 => k_is)
  (case l32 => k_is)
  (case c32 => k_is)
  (case k32 => k_is)
  (case a33 => k_is)
  (case l33 => k_is)
  (case c33 => k_is)
  (case k33 => k_is)
  (case a34 => k_is)
  (case l34 => k_is)
  (case c34 => k_is)
  (case k34 => k_is)
  (case a35 => k_is)
  (case l35 => k_is)
  (case c35 => k_is)
  (case k35 => k_is)
  (case a36 => k_is)
  (case l36 => k_is)
  (case c36 => k_is)
  (case k36 => k_is)
  (case a37 => k_is)
  (case l37 => k_is)
  (case c37 => k_is)
  (case k37 => k_is)
  (case a38 => k_is)
  (case l38 => k_is)
  (case c38 => k_is)
  (case k38 => k_is)
  (case a39 => k_is)
  (case l39 => k_is)
  (case c39 => k_is)
  (case k39 => k_is)
  (case a40 => k_is)
  (case l40 => k_is)
  (case c40 => k_is)
  (case k40 => k_is)
  (case a41 => k_is)
  (case l41 => k_is)
  (case c41 => k_is)
  (case k41 => k_is)
  (case a42 => k_is)
  (case l42 => k_is)
  (case c42 => k_is)
  (case k42 => k_is)
  (case a43 => k_is)
  (case l43 => k_is)
  (case c43 => k_is)
  (case k43 => k_is)
  (case a44 => k_is)
  (case l44 => k_is)
  (case c44 => k_is)
  (case k44 => k_is)
  (case a45 => k_is)
  (case l45 => k_is)
  (case c45 => k_is)
  (case k45 => k_is)
  (case z_len => k_is)
  (case z_zip => k_is)
  (case z_tuple => k_is)
  (case z_sorted => k_is)
  (case z_set => k_is)
  (case z_dict => k_is)
  (case z_min => k_is)
  (case z_max => k_is)
  (case z_range => k_is)
  (case z_list => k_is)
  (case z_int => k_is)
  (case z_all => k_is)
