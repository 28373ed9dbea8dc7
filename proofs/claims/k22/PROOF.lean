import PyProof.Rows.All
import Wide.All
import OpenK.AllK
import Wide.FinOn
import Lean
import PyProof.EqAt
import PyProof.EqKinds
import PyProof.TupleCall
import PyProof.NeData
import KE.KIntText
import PyProof.StrLawsIn
import PyProof.StrLawsIdx
import Wide.Seal
import PyProof.ListMulRoad
import PyProof.CallStr
import PyProof.EnumMake
import PyProof.Draws
import PyProof.DictCompW
import PyProof.Rows.StrSplitCount
import PyProof.ExcAttrAll.ValueError
import PyProof.ExcClass3
import PyProof.StrWalks
import PyProof.EnumIter
import Wide.OfPy
import KE.KSetDisp
import PyProof.TupleOfStr
import PyProof.ListRange
import PySem.Challenge.RW_ledpast_k22_whole_texts_spoilt_anywhere
set_option maxHeartbeats 8000000
set_option Elab.async false
set_option linter.all false
set_option maxRecDepth 100000
namespace L2
open PySem PySem.Spec PyProof.Rows
abbrev Key:=Sum Int Str
def mn:Key->Value->Bool
 | .inl k,v=>Value.isInt k v
 | .inr x,v=>Value.isStrOf x v
def EH (w:World):Key->Int
 | .inl k=>hashInt k
 | .inr x=>hashStr w x
theorem cX:∀ {k:Key} {v:Value},mn k v=true->(∃ i t,k=Sum.inl i/\v=Value.int i t)\/(∃ x t,k=Sum.inr x/\v=Value.str x t)
 | .inl i,v,h=>by
  obtain⟨t,e⟩:=Value.isInt_shape (k:=i) (v:=v) h
  exact .inl ⟨i,t,rfl,e⟩
 | .inr x,v,h=>by
  obtain⟨t,e⟩:=Value.isStrOf_shape (x:=x) (v:=v) h
  exact .inr ⟨x,t,rfl,e⟩
theorem w5 (i:Int) (t:Tok):mn (.inl i) (.int i t)=true:=by simp [mn,Value.isInt]
theorem w6 (x:Str) (t:Tok):mn (.inr x) (.str x t)=true:=by simp [mn,Value.isStrOf]
theorem BX (a b:Int):decide ((Sum.inl a:Key)=Sum.inl b)=(a == b):=by
 by_cases e:a=b
 ·subst e;simp
 ·have h:¬ (Sum.inl a:Key)=Sum.inl b:=fun q=>e (Sum.inl.inj q)
  rw [decide_eq_false h]
  exact (beq_eq_false_iff_ne.mpr e).symm
theorem BY (a b:Str):decide ((Sum.inr a:Key)=Sum.inr b)=decide (a=b):=by
 by_cases e:a=b
 ·subst e;simp
 ·have h:¬ (Sum.inr a:Key)=Sum.inr b:=fun q=>e (Sum.inr.inj q)
  rw [decide_eq_false h,decide_eq_false e]
theorem BZ (a:Int) (b:Str):decide ((Sum.inl a:Key)=Sum.inr b)=false:=decide_eq_false (fun q=>nomatch q)
theorem B0 (a:Str) (b:Int):decide ((Sum.inr a:Key)=Sum.inl b)=false:=decide_eq_false (fun q=>nomatch q)
def cG (prog:Program) (w:World):PySem.KeyKind prog w Key where
 is:=mn
 hash:=EH w
 inj:=fun v a b ha hb=>by
  rcases cX ha with ⟨i,t,rfl,rfl⟩ | ⟨x,t,rfl,rfl⟩
  ·rcases cX hb with ⟨j,u,rfl,e⟩ | ⟨y,u,rfl,e⟩
   ·injection e with e1 _;rw [e1]
   ·exact nomatch e
  ·rcases cX hb with ⟨j,u,rfl,e⟩ | ⟨y,u,rfl,e⟩
   ·exact nomatch e
   ·injection e with e1 _;rw [e1]
 byValue:=fun k v h=>by
  rcases cX h with ⟨i,t,rfl,rfl⟩ | ⟨x,t,rfl,rfl⟩ <;> rfl
 pyHash:=fun hv h=>by
  rcases cX hv with ⟨i,t,rfl,rfl⟩ | ⟨x,t,rfl,rfl⟩
  ·exact wpAny_pyHash_int h
  ·exact wpAny_pyHash_str h
 eqBool:=fun hu hv h=>by
  rcases cX hu with ⟨i,t,rfl,rfl⟩ | ⟨x,t,rfl,rfl⟩
  ·rcases cX hv with ⟨j,u,rfl,rfl⟩ | ⟨y,u,rfl,rfl⟩
   ·rw [BX] at h;exact wpAny_eqBool_int h
   ·rw [BZ] at h;exact SeqAt.EqAt.int_str i t y u _ _ _ _ h
  ·rcases cX hv with ⟨j,u,rfl,rfl⟩ | ⟨y,u,rfl,rfl⟩
   ·rw [B0] at h;exact SeqAt.EqAt.str_int x t j u _ _ _ _ h
   ·rw [BY] at h;exact wpAny_eqBool_str h
 «strs»:=fun k x t v h=>by
  rcases cX h with ⟨i,u,rfl,e⟩ | ⟨y,u,rfl,e⟩
  ·exact nomatch e
  ·injection e with e1 _
   subst e1
   cases v <;> rfl
theorem tJ (prog:Program) (w:World) (i:Int) (t:Tok):(cG prog w).is (.inl i) (.int i t)=true:=w5 i t
theorem tK (prog:Program) (w:World) (x:Str) (t:Tok):(cG prog w).is (.inr x) (.str x t)=true:=w6 x t
inductive V where
 | aW | bl (b:Bool) | int (i:Int) | str (x:Str) | jM (b:Array UInt8) | pT (b:UInt64) | ref (a:Addr) | ty (n:String)
 deriving DecidableEq
def RelV:V->Value->Prop
 | .aW,u=>u=Value.none
 | .bl b,u=>u=Value.bool b
 | .int i,u=>∃ t,u=Value.int i t
 | .str x,u=>∃ t,u=Value.str x t
 | .jM b,u=>∃ t,u=Value.bytes b t
 | .pT b,u=>∃ t,u=Value.float b t
 | .ref a,u=>u=Value.ref a
 | .ty n,u=>u=Value.type n
abbrev Vals:List V->List Value->Prop:=Paired RelV
theorem Vals.length {xs:List V} {us:List Value} (r:Vals xs us):xs.length=us.length:=Paired.length r
theorem Vals.get:∀ {xs:List V} {us:List Value} {i:Nat} {x:V},Vals xs us->xs[i]? = some x->∃ u,us[i]? = some u/\RelV x u
 | _,_,_,_,.nil,e=>by simp at e
 | _,_,0,_,.cons r _,e=>by simp at e;subst e;exact⟨_,rfl,r⟩
 | _,_,i+1,x,.cons _ t,e=>by
  obtain⟨u,h1,h2⟩:=Vals.get (i:=i) (x:=x) t (by simpa using e)
  exact⟨u,by simpa using h1,h2⟩
theorem Vals.set {x:V} {u:Value} (r:RelV x u):∀ {xs:List V} {us:List Value} (i:Nat),Vals xs us->Vals (xs.set i x) (us.set i u)
 | _,_,_,.nil=>.nil
 | _,_,0,.cons _ t=>.cons r t
 | _,_,i+1,.cons q t=>.cons q (Vals.set r i t)
theorem Vals.append:∀ {xs ys:List V} {us ws:List Value},Vals xs us->Vals ys ws->Vals (xs++ys) (us++ws)
 | _,_,_,_,.nil,s=>s
 | _,_,_,_,.cons r t,s=>.cons r (Vals.append t s)
theorem Vals.take:∀ {xs:List V} {us:List Value} (n:Nat),Vals xs us->Vals (xs.take n) (us.take n)
 | _,_,0,_=>.nil
 | _,_,_+1,.nil=>.nil
 | _,_,n+1,.cons r t=>.cons r (Vals.take n t)
theorem Vals.drop:∀ {xs:List V} {us:List Value} (n:Nat),Vals xs us->Vals (xs.drop n) (us.drop n)
 | _,_,0,r=>r
 | _,_,_+1,.nil=>.nil
 | _,_,n+1,.cons _ t=>Vals.drop n t
def fA:Option V->Option Value->Prop
 | some v,some u=>RelV v u
 | none,none=>True
 | _,_=>False
def KV {κ : Type}:List (κ × V)->List (κ × Value)->Prop:=Paired fun (p:κ × V) (q:κ × Value)=>p.1=q.1/\RelV p.2 q.2
def kV:Key->V
 | .inl i=>.int i
 | .inr x=>.str x
inductive HO where
 | lst (xs:List V)
 | tup (xs:List V)
 | dK (kvs:List (Key × V)) | dT (kvs:List (List Key × V))
 | set (S:Int->Bool) (n:Nat)
 | ins (C dx:Addr) (fs:List (Str × V))
 | own (x:Addr)
 | xd (fs:List (Str × V))
 | met (f x:Addr)
 | z5 (lo hi:Int)
 | iI (o:Obj) (u:HO)
 | pU (ps:Array Value)
 | ext (φ : Heap->Prop)
abbrev Hp:=Addr->Option HO
def upd (H:Hp) (a:Addr) (o:HO):Hp:=fun b=>if b=a then some o else H b
theorem aa {H:Hp} {a:Addr} {o:HO}:upd H a o a=some o:=by unfold upd;rw [if_pos rfl]
theorem ar {H:Hp} {a b:Addr} {o:HO} (h:b ≠ a):upd H a o b=H b:=by unfold upd;rw [if_neg h]
theorem uq {H:Hp} {a:Addr} {o u:HO}:upd (upd H a o) a u=upd H a u:=by
 funext b;unfold upd;split <;> rfl
theorem jf {H:Hp} {a b:Addr} {o u:HO} (h:H a=some o) (h':H b=some u) (d:o ≠ u):a ≠ b:=by
 intro e;subst e;rw [h] at h';exact d (Option.some.inj h')
theorem aX {H:Hp} {a b:Addr} {o:HO} (h:H a=some o) (h':H b=none):a ≠ b:=by
 intro e;subst e;rw [h] at h';cases h'
section
variable (P:Program) (w:World)
def bw (H:Hp) (h:Heap) (a:Addr):HO->Prop
 | .lst xs=>xs.length<=sizeLine/\∃ (its:List Value) (n:Nat),Vals xs its/\h.get? a=some { cls:=.type "list",data:=.seq its.toArray n }
 | .tup xs=>xs.length<=sizeLine/\∃ its:List Value,Vals xs its/\∃ o,h.get? a=some o/\o.cls=.type "tuple" /\ ∃ n,o.data=.seq its.toArray n/\o.dict=none
 | .dK kvs=>kvs.length<=sizeLine/\(a == sysModules)=false/\∃ vs,KV kvs vs/\h.DictOf (cG P w) a vs
 | .dT kvs=>kvs.length<=sizeLine/\(a == sysModules)=false/\∃ xs:List (List Key × Addr × Value),
   Paired (fun (p:List Key × V) (q:List Key × Addr × Value)=>p.1=q.1/\H q.2.1=some (.tup (p.1.map kV))/\RelV p.2 q.2.2) kvs xs /\
   ∃ o es ep,h.get? a=some o/\o.ExactDict/\o.data=.dict es ep/\es.toList=xs.map (entryOfKey (tupleKind (cG P w)))/\(xs.map (·.1)).Nodup
 | .set S n=>h.SetOf (intKind P w) a S n
 | .ins C dx fs=>H dx=some (.own a)/\fs.length<=1000/\dx ≠ a/\h.get? a=some (PySem.W.instObj C dx) /\
   ∃ mA,h.Ns1 dx mA/\(∀ f,fA (fs.lookup f) (mA f))/\PySem.Within mA (fs.map (·.1))
 | .own _=>∃ o,h.get? a=some o
 | .xd fs=>∃ mA,h.Ns1 a mA/\∀ f,fA (fs.lookup f) (mA f)
 | .z5 lo hi=>∃ t u v,h.get? a=some { cls:=.type "range",data:=.fields #[.int lo t,.int hi u,.int 1 v] }
 | .iI o u=>h.get? a=some o/\bw H h a u
 | .pU ps=>h.get? a=some { cls:=.none,data:=.fields ps }
 | .met f x=>h.get? a=some (PySem.W.methodObj (.ref f) (.ref x))
 | .ext φ=>φ h/\(∃ o,h.get? a=some o)/\∀ h1 h2:Heap,φ h1->(∀ o,h1.get? a=some o->h2.get? a=some o)->φ h2
def bZ (H:Hp) (h:Heap):Prop:=∀ a o,H a=some o->bw P w H h a o
end
section
variable {P:Program} {w:World} {H H':Hp} {h h':Heap} {a:Addr} {o:HO}
theorem bw.lt (x:bw P w H h a o):a < h.objs.size:=by
 cases o with
 | lst xs=>obtain⟨_,_,_,_,e⟩:=x;exact Heap.lt_size e
 | tup xs=>obtain⟨_,_,_,p⟩:=x;exact (let ⟨o,e,_⟩:=p;Heap.lt_size e)
 | dK kvs=>obtain⟨_,_,_,_,o,_,_,e,_⟩:=x;exact Heap.lt_size e
 | dT kvs=>obtain⟨_,_,_,_,o,_,_,e,_⟩:=x;exact Heap.lt_size e
 | set S n=>obtain⟨o,_,_,_,e,_⟩:=x;exact Heap.lt_size e
 | ins C dx fs=>obtain⟨_,_,_,e,_⟩:=x;exact Heap.lt_size e
 | own y=>obtain⟨_,e⟩:=x;exact Heap.lt_size e
 | xd fs=>obtain⟨_,⟨_,_,_,e,_⟩,_⟩:=x;exact Heap.lt_size e
 | z5 lo hi=>obtain⟨_,_,_,e⟩:=x;exact Heap.lt_size e
 | iI ob u=>obtain⟨e,_⟩:=x;exact Heap.lt_size e
 | pU ps=>exact Heap.lt_size (show h.get? a=some _ from x)
 | met f y=>exact Heap.lt_size (show h.get? a=some _ from x)
 | ext φ=>obtain⟨_,⟨_,e⟩,_⟩:=x;exact Heap.lt_size e
theorem Paired.Ca {α β : Type} {F G:α->β->Prop}:∀ {l₁ : List α} {l₂ : List β},Paired F l₁ l₂->(∀ a b,F a b->G a b)->Paired G l₁ l₂
 | _,_,.nil,_=>.nil
 | _,_,.cons r t,f=>.cons (f _ _ r) (Paired.Ca t f)
theorem bw.iJ (x:bw P w H h a o) (k:∀ b u,(b=a\/H b=some (.own a))->h.get? b=some u->h'.get? b=some u)
  (ho:∀ b,H b=some (.own a)->H' b=some (.own a)) (ht:∀ b xs,H b=some (.tup xs)->H' b=some (.tup xs)):bw P w H' h' a o:=by
 induction o with
 | lst xs=>obtain⟨z,its,n,r,e⟩:=x;exact⟨z,its,n,r,k _ _ (.inl rfl) e⟩
 | tup xs=>obtain⟨z,its,r,ob,e,c⟩:=x;exact⟨z,its,r,ob,k _ _ (.inl rfl) e,c⟩
 | dK kvs=>obtain⟨z,y,vs,r,ob,es,ep,e,c⟩:=x;exact⟨z,y,vs,r,ob,es,ep,k _ _ (.inl rfl) e,c⟩
 | dT kvs =>
  obtain⟨z,y,xs,r,ob,es,ep,e,c⟩:=x
  exact⟨z,y,xs,Paired.Ca r fun p q z=>⟨z.1,ht _ _ z.2.1,z.2.2⟩,ob,es,ep,k _ _ (.inl rfl) e,c⟩
 | set S n=>obtain⟨ob,es,ep,t,e,c⟩:=x;exact⟨ob,es,ep,t,k _ _ (.inl rfl) e,c⟩
 | ins C dx fs =>
  obtain⟨d,z,ne,e,mA,⟨od,es,ep,e2,c⟩,r⟩:=x
  exact⟨ho _ d,z,ne,k _ _ (.inl rfl) e,mA,⟨od,es,ep,k _ _ (.inr d) e2,c⟩,r⟩
 | own y=>obtain⟨ob,e⟩:=x;exact⟨ob,k _ _ (.inl rfl) e⟩
 | xd fs=>obtain⟨mA,⟨od,es,ep,e,c⟩,r⟩:=x;exact⟨mA,⟨od,es,ep,k _ _ (.inl rfl) e,c⟩,r⟩
 | z5 lo hi=>obtain⟨t,u,v,e⟩:=x;exact⟨t,u,v,k _ _ (.inl rfl) e⟩
 | iI ob u ih=>obtain⟨e,q⟩:=x;exact⟨k _ _ (.inl rfl) e,ih q⟩
 | pU ps =>
  have e:h.get? a=some { cls:=.none,data:=.fields ps }:=x
  show h'.get? a=some { cls:=.none,data:=.fields ps }
  exact k a _ (.inl rfl) e
 | met f y =>
  have e:h.get? a=some (PySem.W.methodObj (.ref f) (.ref y)):=x
  show h'.get? a=some (PySem.W.methodObj (.ref f) (.ref y))
  exact k a _ (.inl rfl) e
 | ext φ=>obtain⟨p,⟨o,e⟩,st⟩:=x;exact⟨st _ _ p fun o q=>k _ _ (.inl rfl) q,⟨o,k _ _ (.inl rfl) e⟩,st⟩
theorem bZ.lt (x:bZ P w H h) (e:H a=some o):a < h.objs.size:=(x a o e).lt
theorem bZ.fresh (x:bZ P w H h) (e:h.objs.size<=a):H a=none:=by
 cases q:H a with
 | none=>rfl
 | some u=>exact absurd (Nat.lt_of_lt_of_le (x.lt q) e) (Nat.lt_irrefl _)
theorem bZ.kept (x:bZ P w H h) (k:∀ b u,h.get? b=some u->h'.get? b=some u):bZ P w H h':=fun a o e =>
 (x a o e).iJ (fun b u _ q=>k b u q) (fun _ q=>q) fun _ _ q=>q
theorem bZ.laid (x:bZ P w H h) (k:∀ b u,h.get? b=some u->h'.get? b=some u) (hp:h.objs.size<=a) (new:bw P w (upd H a o) h' a o):bZ P w (upd H a o) h':=fun b u e=>by
 have hn:=x.fresh hp
 by_cases hb:b=a
 ·subst hb;rw [aa] at e;cases e;exact new
 ·rw [ar hb] at e
  exact (x b u e).iJ (fun c v _ q=>k c v q) (fun c q=>by rw [ar (aX q hn)];exact q) fun c xs q=>by rw [ar (aX q hn)];exact q
end
def Rd (H:Hp) (a:Addr) (u:HO):Prop:=H a=some u\/∃ o,H a=some (.iI o u)
theorem Rd.ok {P:Program} {w:World} {H:Hp} {h:Heap} {a:Addr} {u:HO} (r:Rd H a u) (x:bZ P w H h):bw P w H h a u:=by
 rcases r with r | ⟨o,r⟩
 ·exact x a u r
 ·obtain⟨_,q⟩:=x a _ r
  exact q
def w9:Option HO->Prop
 | some (.lst _)=>True
 | some (.dK _)=>True
 | some (.dT _)=>True
 | some (.set _ _)=>True
 | some (.ins _ _ _)=>True
 | some (.ext _)=>True
 | _=>False
section
variable {P:Program} {w:World} {H:Hp} {h h':Heap} {x e:Addr} {o':HO}
theorem bZ.write (ok:bZ P w H h) (mu:w9 (H x)) (he:e=x\/H e=some (.own x)) (k:∀ b u,b ≠ e->h.get? b=some u->h'.get? b=some u) (heo:∃ u,h'.get? e=some u)
  (new:bw P w (upd H x o') h' x o'):bZ P w (upd H x o') h':=fun b u q=>by
 have nown:∀ c y,H c=some (.own y)->c ≠ x:=fun c y r z=>by subst z;rw [r] at mu;exact mu
 have ntup:∀ c xs,H c=some (.tup xs)->c ≠ x:=fun c xs r z=>by subst z;rw [r] at mu;exact mu
 by_cases hb:b=x
 ·subst hb;rw [aa] at q;cases q;exact new
 ·rw [ar hb] at q
  by_cases hbe:b=e
  ·have q':H b=some (.own x):=by
    rcases he with z | z
    ·exact absurd (hbe.trans z) hb
    ·rw [hbe];exact z
   rw [q] at q';cases q'
   obtain⟨v,hv⟩:=heo
   exact⟨v,by rw [hbe];exact hv⟩
  ·refine (ok b u q).iJ (fun c v hc r=>k c v ?_ r) (fun c r=>by rw [ar (nown c b r)];exact r) fun c xs r=>by rw [ar (ntup c xs r)];exact r
   rcases hc with rfl | hc
   ·exact hbe
   ·rintro rfl
    rcases he with z | z
    ·exact nown c b hc z
    ·rw [hc] at z;cases z;exact hb rfl
end
structure Un (fs ex:List Addr) (H H':Hp) (h h':Heap):Prop where
 keep:∀ b o,h.get? b=some o->H b=none->b ∉ fs->b ∉ ex->h'.get? b=some o
 slot:∀ b o,h.get? b=some o->H b=none->b ∈ fs->b ∉ ex->∃ sl,h'.get? b=some { o with slots:=sl }
 free:∀ b o,h.get? b=some o->H b=none->b ∉ ex->H' b=none
 there:∀ b o,h.get? b=some o->b ∉ ex->∃ o',h'.get? b=some o'
 b5:∀ b xs,H b=some (.tup xs)->H' b=some (.tup xs)
 eW:∀ b o u,H b=some (.iI o u)->H' b=some (.iI o u)
 fB:∀ b ps,H b=some (.pU ps)->∃ more,H' b=some (.pU (ps++more))
section
variable {fs fs' ex ex':List Addr} {H H1 H2:Hp} {h h1 h2 h':Heap} {a x e:Addr} {o:HO}
theorem Un.any (u:Un fs ex H H1 h h1) {b:Addr} {ob:Obj} (q:h.get? b=some ob) (n:H b=none) (hx:b ∉ ex):∃ sl,h1.get? b=some { ob with slots:=sl }:=by
 by_cases hb:b ∈ fs
 ·exact u.slot b ob q n hb hx
 ·exact⟨ob.slots,u.keep b ob q n hb hx⟩
theorem Un.kept (k:∀ b u,h.get? b=some u->h'.get? b=some u):Un fs ex H H h h' :=
 ⟨fun b ob q _ _ _=>k b ob q,fun b ob q _ _ _=>⟨ob.slots,k b ob q⟩,fun _ _ _ n _=>n,fun b ob q _=>⟨ob,k b ob q⟩,fun _ _ q=>q,fun _ _ _ q=>q,fun _ ps q=>⟨#[],by rw [q];simp⟩⟩
theorem Un.refl:Un fs ex H H h h:=Un.kept fun _ _ q=>q
theorem Un.laid (k:∀ b u,h.get? b=some u->h'.get? b=some u) (hp:h.objs.size<=a) (hn:H a=none):Un fs ex H (upd H a o) h h' where
 keep:=fun b u q _ _ _=>k b u q
 slot:=fun b u q _ _ _=>⟨u.slots,k b u q⟩
 free:=fun b u q n _=>by rw [ar (Nat.ne_of_lt (Nat.lt_of_lt_of_le (Heap.lt_size q) hp))];exact n
 there:=fun b u q _=>⟨u,k b u q⟩
 b5:=fun b xs q=>by rw [ar (aX q hn)];exact q
 eW:=fun b u xs q=>by rw [ar (aX q hn)];exact q
 fB:=fun b ps q=>⟨#[],by rw [ar (aX q hn),q];simp⟩
theorem Un.write (mu:w9 (H x)) (he:e=x\/H e=some (.own x)) (k:∀ b u,b ≠ e->h.get? b=some u->h'.get? b=some u) (heo:∃ u,h'.get? e=some u):Un fs ex H (upd H x o) h h':=by
  have hx:∀ b,H b=none->b ≠ x:=fun b n z=>by subst z;rw [n] at mu;exact mu
  have hb:∀ b,H b=none->b ≠ e:=fun b n z=>by
    subst z
    rcases he with r | r
    · exact hx b n r
    · rw [n] at r;cases r
  have hm:∀ b u,H b=some u->¬ w9 (some u)->b ≠ x:=fun b u q nm z=>by subst z;rw [q] at mu;exact nm mu
  refine⟨fun b u q n _ _=>k b u (hb b n) q,fun b u q n _ _=>⟨u.slots,k b u (hb b n) q⟩,fun b u q n _=>by rw [ar (hx b n)];exact n,fun b u q _=>?_,
    fun b xs q=>by rw [ar (hm b _ q fun z=>z)];exact q,fun b u xs q=>by rw [ar (hm b _ q fun z=>z)];exact q,fun b ps q=>⟨#[],by rw [ar (hm b _ q fun z=>z),q];simp⟩⟩
  by_cases hbe:b=e
  · subst hbe;exact heo
  · exact⟨u,k b u hbe q⟩
end
def z6 (h:Heap) (H:Hp):List Addr:=(List.range h.objs.size).filter fun a=>(H a).isSome
def j6 (h:Heap) (H:Hp):Heap:=PySem.W.hideAll h (z6 h H)
theorem xa (h:Heap) (H:Hp):(j6 h H).objs.size=h.objs.size:=PySem.W.hideAll_size _ _
theorem yK {h:Heap} {H:Hp} {b:Addr} {o:Obj} (e:h.get? b=some o) (n:H b=none):(j6 h H).get? b=some o :=
 PySem.W.hideAll_get _ e fun hm=>by
  have q:(H b).isSome=true:=(List.mem_filter.mp hm).2
  rw [n] at q;simp at q
theorem AH {h:Heap} {H:Hp} {b:Addr} {o:Obj} (e:(j6 h H).get? b=some o):h.get? b=some o/\H b=none:=by
 have e':h.get? b=some o:=PySem.W.of_hideAll (z6 h H) e
 refine⟨e',?_⟩
 cases q:H b with
 | none=>rfl
 | some x =>
  have hm:b ∈ z6 h H:=List.mem_filter.mpr ⟨List.mem_range.mpr (Heap.lt_size e'),by simp [q]⟩
  have z:(j6 h H).get? b=none:=PySem.W.hideAll_none (z6 h H) hm
  rw [z] at e;cases e
def AI (g h:Heap) (L:Addr):List (Addr × Obj):=(List.range h.objs.size).filterMap fun a=>if a=L\/(g.get? a).isSome=true then none else (h.get? a).map fun o=>(a,o)
def rest (g h:Heap) (L d:Addr):List (Addr × Obj):=(AI g h L).filter fun p=>decide (p.1 ≠ d)
structure Mod (K:PySem.W.Frag) (mg:Str->Option Value) (base:Heap):Prop where
 qY:K.In base
 glob:base.Ns mainGlobals mg
 blt:∃ mb,base.Ns builtinsNs mb/\∀ x:Str,x ≠ "__name__" -> mb x=bootBuiltins x
 nolimit:base.NoLimit
structure Cx where
 prog:Program
 w:World
 K:PySem.W.Frag
 mg:Str->Option Value
 base:Heap
 A:Around
 N:List Str
 b0:Shared
 qZ:Hp
 env:Env
 outer:List Env
 stack:List Env
 ex:List Addr
 fn:Str->Bool
 calm:Bool
 pn:List (Addr × Obj)
 xe:Value->Shared->Prop
def bt (l:List Env):List Addr:=l.filterMap (·.frame)
abbrev Cx.fs (X:Cx):List Addr:=bt X.outer
def Cb (sc:Scope) (x:Str):Prop:=sc.names.lookup x=some .local\/sc.names.lookup x=some .cell\/sc.names.lookup x=some .free
def Loc (sc:Scope) (x:Str):Prop:=sc.names.lookup x=some .local\/sc.names.lookup x=some .cell
def Look (env:Env) (h:Heap) (m:Str->Option Value) (x:Str) (u:Value):Prop :=
 (env.kindOf x=some .local/\m x=some u)\/((env.kindOf x=some .cell\/env.kindOf x=some .free)/\∃ c,env.cells.lookup x=some c/\h.IsCell c (some u))
structure Cx.Ok (X:Cx):Prop where
 mod:Mod X.K X.mg X.base
 kind:X.env.scope.kind=.function
 glob:X.env.globals=mainGlobals
 blt:X.env.builtins=builtinsNs
 above:X.b0.heap.objs.size<=X.env.locals
 inj:∀ x y c,X.env.cells.lookup x=some c->X.env.cells.lookup y=some c->x=y
 has:∀ x,(X.env.kindOf x=some .cell\/X.env.kindOf x=some .free)->∃ c,X.env.cells.lookup x=some c
 mG:∀ x c,X.fn x=true->X.env.cells.lookup x=some c->X.b0.heap.objs.size<=c
 hd:X.calm=true->X.A.handled=none
 frames:X.A.frames=some X.stack
 nW:X.stack=X.outer\/(X.stack=X.env :: X.outer/\X.env.frame=some X.env.locals)
 rg:∀ b ∈ X.ex,b ≠ X.env.locals/\∀ x c,X.env.cells.lookup x=some c->c ≠ b
 bs:∀ b o,X.base.get? b=some o->X.b0.heap.get? b=some o/\X.qZ b=none
 jg:X.base.objs.size<=X.b0.heap.objs.size
 jv:∀ b o,X.base.get? b=some o->b ∉ X.ex
 j7:∀ b ∈ X.ex,b ∉ X.fs
 eX:X.b0.heap.FunFrames X.base X.outer
 kP:∀ b ∈ X.fs,X.qZ b=none
structure Inv (X:Cx) (pins:List (Addr × Obj)) (σ : List (Option V)) (H:Hp) (s:Shared):Prop where
 ok:X.Ok
 os:s.os=X.b0.os
 bare:AllBare s.gens
 base:Un X.fs X.ex X.qZ H X.b0.heap s.heap
 loc:∃ m,s.heap.Ns X.env.locals m/\∀ (i:Nat) (x:Str) (v:V),X.N[i]? = some x->σ[i]? = some (some v)->Cb X.env.scope x->∃ u,RelV v u/\Look X.env s.heap m x u
 cell:∀ x c,X.env.cells.lookup x=some c->∃ v,s.heap.IsCell c v
 free:H X.env.locals=none
 cT:∀ x c,X.env.cells.lookup x=some c->H c=none
 pin:∀ p ∈ X.pn++pins,s.heap.get? p.1=some p.2/\H p.1=none/\p.1 ≠ X.env.locals/\p.1 ∉ X.fs/\∀ v,p.2.data ≠ .cell v
 au:bZ X.prog X.w H s.heap
 len:σ.length=X.N.length
section
variable {X:Cx} {pins:List (Addr × Obj)} {σ : List (Option V)} {H H':Hp} {s:Shared} {h':Heap}
theorem Cx.Ok.EI (ok:X.Ok) {b:Addr} {o:Obj} (e:X.base.get? b=some o):b ∉ X.fs:=fun hb=>by
 have:=(ok.eX.mem hb).1
 rw [e] at this;cases this
theorem Inv.bs (I:Inv X pins σ H s):∀ b o,X.base.get? b=some o->s.heap.get? b=some o/\H b=none:=fun b o e =>
 ⟨I.base.keep b o (I.ok.bs b o e).1 (I.ok.bs b o e).2 (I.ok.EI e) (I.ok.jv b o e),I.base.free b o (I.ok.bs b o e).1 (I.ok.bs b o e).2 (I.ok.jv b o e)⟩
theorem Inv.bk (I:Inv X pins σ H s):∀ b o,X.base.get? b=some o->s.heap.get? b=some o:=fun b o e=>(I.bs b o e).1
theorem Inv.mod (I:Inv X pins σ H s):Mod X.K X.mg X.base:=I.ok.mod
theorem Inv.cy (I:Inv X pins σ H s):X.K.In s.heap:=I.ok.mod.qY.keeps I.bk
theorem Inv.lt (I:Inv X pins σ H s):X.env.locals < s.heap.objs.size:=let ⟨_,hn,_⟩:=I.loc;hn.lt
theorem Inv.sz (I:Inv X pins σ H s):X.b0.heap.objs.size<=s.heap.objs.size:=Nat.le_trans I.ok.above (Nat.le_of_lt I.lt)
theorem Inv.Cc (I:Inv X pins σ H s) {a:Addr} (h:s.heap.objs.size<=a):a ∉ X.fs:=fun hb=>by
 obtain⟨_,o,ho,_⟩:=I.ok.eX.mem hb
 exact absurd (Nat.lt_of_lt_of_le (Heap.lt_size ho) (Nat.le_trans I.sz h)) (Nat.lt_irrefl _)
theorem Inv.nX (I:Inv X pins σ H s):∀ x c,X.env.cells.lookup x=some c->c ≠ X.env.locals:=fun x c e z=>by
 obtain⟨v,o,ho,hd⟩:=I.cell x c e
 obtain⟨m,⟨o',es,ep,ho',hd',_⟩,_⟩:=I.loc
 rw [z,ho'] at ho;cases ho;rw [hd'] at hd;cases hd
theorem Inv.eX (I:Inv X pins σ H s):s.heap.FunFrames X.base X.outer:=by
 have all:∀ (l:List Env),(∀ b ∈ bt l,b ∈ X.fs)->X.b0.heap.FunFrames X.base l->s.heap.FunFrames X.base l:=by
  intro l
  induction l with
  | nil=>intro _ _;trivial
  | cons env r ih =>
   intro hs hl
   obtain⟨hk,⟨L,o,hf,hn,ho,hd⟩,hr⟩:=hl
   have hL:L ∈ X.fs:=hs L (by unfold bt;rw [List.filterMap_cons,hf];exact List.mem_cons_self)
   obtain⟨sl,e⟩:=I.base.slot L o ho (I.ok.kP L hL) hL fun z=>I.ok.j7 L z hL
   exact⟨hk,⟨L,_,hf,hn,e,hd⟩,ih (fun b hb=>hs b (by unfold bt;rw [List.filterMap_cons,hf];exact List.mem_cons_of_mem _ hb)) hr⟩
 exact all X.outer (fun _ hb=>hb) I.ok.eX
theorem Inv.stack (I:Inv X pins σ H s):s.heap.FunFrames X.base X.stack:=by
 rcases I.ok.nW with e | ⟨e,hf⟩
 ·rw [e];exact I.eX
 ·rw [e]
  obtain⟨m,hn,_⟩:=I.loc
  refine .cons (by rw [I.ok.kind];decide) hf hn ?_ I.eX
  exact Heap.get?_none_of_le (Nat.le_trans I.ok.jg I.ok.above)
theorem Inv.jN (I:Inv X pins σ H s):∀ b ∈ bt X.stack,b ∈ X.env.locals :: X.fs:=fun b hb=>by
 rcases I.ok.nW with e | ⟨e,hf⟩
 ·rw [e] at hb;exact List.mem_cons_of_mem _ hb
 ·rw [e] at hb
  unfold bt at hb
  rw [List.filterMap_cons,hf] at hb
  exact hb
theorem Inv.fZ (I:Inv X pins σ H s):∀ b ∈ bt X.stack,H b=none:=fun b hb=>by
 rcases List.mem_cons.mp (I.jN b hb) with e | hb
 ·rw [e];exact I.free
 ·obtain⟨_,o,ho,_⟩:=I.ok.eX.mem hb
  exact I.base.free b o ho (I.ok.kP b hb) fun z=>I.ok.j7 b z hb
theorem Inv.step {g':Array GenState} {t':Nat} {d':Drawn} {ch:List Addr} (I:Inv X pins σ H s)
  (hch:∀ b ∈ ch,(b ∈ X.ex\/X.b0.heap.objs.size<=b)/\b ≠ X.env.locals/\(∀ x c,X.env.cells.lookup x=some c->c ≠ b)/\∀ p ∈ X.pn++pins,p.1 ≠ b)
  (keep:∀ b o,b ≠ X.env.locals->b ∉ X.fs->b ∉ ch->s.heap.get? b=some o->H b=none->h'.get? b=some o)
  (slot:∀ b o,b ≠ X.env.locals->b ∈ X.fs->b ∉ ch->s.heap.get? b=some o->H b=none->∃ sl,h'.get? b=some { o with slots:=sl }) (free:∀ b o,b ∉ ch->s.heap.get? b=some o->H b=none->H' b=none)
  (there:∀ b o,b ∉ ch->s.heap.get? b=some o->∃ o',h'.get? b=some o')
  (b5:∀ b xs,H b=some (.tup xs)->H' b=some (.tup xs)) (eW:∀ b o u,H b=some (.iI o u)->H' b=some (.iI o u)) (fB:∀ b ps,H b=some (.pU ps)->∃ more,H' b=some (.pU (ps++more)))
  (ns:∀ m,s.heap.Ns X.env.locals m->h'.Ns X.env.locals m) (au:bZ X.prog X.w H' h') (hg:AllBare g') :
  Inv X pins σ H' { s with heap:=h',gens:=g',drawn:=d',toks:=t' }:=by
 have neL:∀ b o,X.b0.heap.get? b=some o->b ≠ X.env.locals:=fun b o e=>Nat.ne_of_lt (Nat.lt_of_lt_of_le (Heap.lt_size e) I.ok.above)
 have neC:∀ b o,X.b0.heap.get? b=some o->b ∉ X.ex->b ∉ ch:=fun b o e hx hb=>by
  rcases (hch b hb).1 with z | z
  ·exact hx z
  ·exact absurd (Nat.lt_of_lt_of_le (Heap.lt_size e) z) (Nat.lt_irrefl _)
 have cellK:∀ x c,X.env.cells.lookup x=some c->∀ v,s.heap.IsCell c v->h'.IsCell c v:=fun x c e v ⟨o,ho,hd⟩=>by
  have nch:c ∉ ch:=fun z=>(hch c z).2.2.1 x c e rfl
  by_cases hc:c ∈ X.fs
  ·obtain⟨sl,q⟩:=slot c o (I.nX x c e) hc nch ho (I.cT x c e)
   exact⟨_,q,hd⟩
  ·exact⟨o,keep c o (I.nX x c e) hc nch ho (I.cT x c e),hd⟩
 refine⟨I.ok,I.os,hg,⟨fun b o e n hb hx=>?_,fun b o e n hb hx=>?_,fun b o e n hx=>?_,fun b o e hx=>?_,fun b xs e=>b5 b xs (I.base.b5 b xs e),fun b o xs e=>eW b o xs (I.base.eW b o xs e),fun b ps e=>?_⟩,?_,fun x c e=>?_,?_,fun x c e=>?_,fun p hp=>?_,au,I.len⟩
 ·exact keep b o (neL b o e) hb (neC b o e hx) (I.base.keep b o e n hb hx) (I.base.free b o e n hx)
 ·obtain⟨sl,e1⟩:=I.base.slot b o e n hb hx
  obtain⟨sl',e2⟩:=slot b _ (neL b o e) hb (neC b o e hx) e1 (I.base.free b o e n hx)
  exact⟨sl',e2⟩
 ·obtain⟨o',e1⟩:=I.base.there b o e hx
  exact free b o' (neC b o e hx) e1 (I.base.free b o e n hx)
 ·obtain⟨o',e1⟩:=I.base.there b o e hx
  exact there b o' (neC b o e hx) e1
 ·obtain⟨m1,e1⟩:=I.base.fB b ps e
  obtain⟨m2,e2⟩:=fB b _ e1
  exact⟨m1++m2,by rw [e2,Array.append_assoc]⟩
 ·obtain⟨m,hn,hl⟩:=I.loc
  refine⟨m,ns m hn,fun i x v e1 e2 e3=>?_⟩
  obtain⟨u,r,l⟩:=hl i x v e1 e2 e3
  refine⟨u,r,?_⟩
  rcases l with l | ⟨k,c,e,z⟩
  ·exact .inl l
  ·exact .inr ⟨k,c,e,cellK x c e _ z⟩
 ·obtain⟨v,z⟩:=I.cell x c e
  exact⟨v,cellK x c e v z⟩
 ·obtain⟨m,⟨o,_,_,ho,_⟩,_⟩:=I.loc
  exact free _ o (fun z=>(hch _ z).2.1 rfl) ho I.free
 ·obtain⟨v,o,ho,hd⟩:=I.cell x c e
  exact free c o (fun z=>(hch c z).2.2.1 x c e rfl) ho (I.cT x c e)
 ·obtain⟨e,n,ne,nf,d⟩:=I.pin p hp
  have nch:p.1 ∉ ch:=fun z=>(hch p.1 z).2.2.2 p hp rfl
  exact⟨keep p.1 p.2 ne nf nch e n,free p.1 p.2 nch e n,ne,nf,d⟩
theorem Inv.un {t':Nat} (I:Inv X pins σ H s) (u:Un X.fs [] H H' s.heap h') (au:bZ X.prog X.w H' h'):Inv X pins σ H' { s with heap:=h',toks:=t' }:=by
  obtain⟨m,⟨o,es,ep,ho,r⟩,_⟩:=id I.loc
  obtain⟨sl,hL⟩:=u.any ho I.free (by simp)
  exact I.step (g':=s.gens) (d':=s.drawn) (ch:=[]) (fun _ z=>nomatch z) (fun b o _ hb _ e n=>u.keep b o e n hb (by simp)) (fun b o _ hb _ e n=>u.slot b o e n hb (by simp)) (fun b o _ e n=>u.free b o e n (by simp)) (fun b o _ e=>u.there b o e (by simp)) u.b5 u.eW u.fB (fun m' hm=>by
    obtain⟨o',es',ep',ho',r'⟩:=hm
    rw [ho] at ho';cases ho'
    exact⟨_,es',ep',hL,r'⟩) au I.bare
theorem Inv.call {g':Array GenState} {t':Nat} {d':Drawn} {ch:List Addr} (I:Inv X pins σ H s) (u:Un (bt X.stack) ch H H' s.heap h') (au:bZ X.prog X.w H' h') (hg:AllBare g')
  (hch:∀ b ∈ ch,(b ∈ X.ex\/X.b0.heap.objs.size<=b)/\b ≠ X.env.locals/\(∀ x c,X.env.cells.lookup x=some c->c ≠ b)/\∀ p ∈ X.pn++pins,p.1 ≠ b) :
  Inv X pins σ H' { s with heap:=h',gens:=g',drawn:=d',toks:=t' }:=by
 obtain⟨m,⟨o,es,ep,ho,r⟩,_⟩:=id I.loc
 obtain⟨sl,hL⟩:=u.any ho I.free fun z=>(hch _ z).2.1 rfl
 exact I.step (ch:=ch) hch (fun b o hL hb hc e n=>u.keep b o e n (fun z=>(List.mem_cons.mp (I.jN b z)).elim hL hb) hc) (fun b o _ _ hc e n=>u.any e n hc) (fun b o hc e n=>u.free b o e n hc) (fun b o hc e=>u.there b o e hc) u.b5 u.eW u.fB (fun m' hm=>by
  obtain⟨o',es',ep',ho',r'⟩:=hm
  rw [ho] at ho';cases ho'
  exact⟨_,es',ep',hL,r'⟩) au hg
theorem Inv.turned {t':Nat} {it:Addr} (I:Inv X pins σ H s) (k:∀ b o,b ≠ it->s.heap.get? b=some o->h'.get? b=some o) (hn:H it=none) (hL:it ≠ X.env.locals)
  (h1:it ∈ X.ex\/X.b0.heap.objs.size<=it) (h2:∀ x c,X.env.cells.lookup x=some c->c ≠ it) (h3:∀ p ∈ X.pn++pins,p.1 ≠ it):Inv X pins σ H { s with heap:=h',toks:=t' }:=by
 have nit:∀ b u,H b=some u->b ≠ it:=fun b u e z=>by rw [z,hn] at e;cases e
 refine I.step (g':=s.gens) (d':=s.drawn) (ch:=[it]) (fun b hb=>?_) (fun b o _ _ hc e _=>k b o (fun z=>hc (by simp [z])) e) (fun b o _ _ hc e _=>⟨o.slots,k b o (fun z=>hc (by simp [z])) e⟩) (fun _ _ _ _ n=>n)
  (fun b o hc e=>⟨o,k b o (fun z=>hc (by simp [z])) e⟩) (fun _ _ e=>e) (fun _ _ _ e=>e) (fun b ps e=>⟨#[],by rw [e];simp⟩) (fun m hm=>?_) (fun b u e=>?_) I.bare
 ·have e:b=it:=by simpa using hb
  subst e
  exact⟨h1,hL,h2,h3⟩
 ·obtain⟨o,es,ep,ho,r⟩:=hm
  exact⟨o,es,ep,k _ o (Ne.symm hL) ho,r⟩
 ·refine (I.au b u e).iJ (fun c v hc q=>k c v ?_ q) (fun _ q=>q) fun _ _ q=>q
  rcases hc with z | z
  ·rw [z];exact nit b u e
  ·exact nit c _ z
theorem Inv.tok (I:Inv X pins σ H s) (t:Nat):Inv X pins σ H { s with toks:=t }:=I.un (h':=s.heap) (t':=t) Un.refl I.au
theorem Inv.kept {t':Nat} (I:Inv X pins σ H s) (k:∀ b u,s.heap.get? b=some u->h'.get? b=some u):Inv X pins σ H { s with heap:=h',toks:=t' }:=I.un (Un.kept k) (I.au.kept k)
theorem Inv.laid {a:Addr} {o:HO} {t':Nat} (I:Inv X pins σ H s) (k:∀ b u,s.heap.get? b=some u->h'.get? b=some u) (hp:s.heap.objs.size<=a) (new:bw X.prog X.w (upd H a o) h' a o) :
  Inv X pins σ (upd H a o) { s with heap:=h',toks:=t' }:=I.un (Un.laid k hp (I.au.fresh hp)) (I.au.laid k hp new)
theorem Inv.write {x e:Addr} {o:HO} {t':Nat} (I:Inv X pins σ H s) (mu:w9 (H x)) (he:e=x\/H e=some (.own x)) (k:∀ b u,b ≠ e->s.heap.get? b=some u->h'.get? b=some u) (heo:∃ u,h'.get? e=some u)
  (new:bw X.prog X.w (upd H x o) h' x o):Inv X pins σ (upd H x o) { s with heap:=h',toks:=t' }:=I.un (Un.write mu he k heo) (I.au.write mu he k heo new)
theorem Inv.weak {σ':List (Option V)} (I:Inv X pins σ H s) (hl:σ'.length = σ.length) (w:∀ (i:Nat) v,σ'[i]? = some (some v)->σ[i]? = some (some v)):Inv X pins σ' H s :=
 ⟨I.ok,I.os,I.bare,I.base,let ⟨m,hn,hl'⟩:=I.loc;⟨m,hn,fun i x v e1 e2 e3=>hl' i x v e1 (w i v e2) e3⟩,I.cell,I.free,I.cT,I.pin,I.au,hl.trans I.len⟩
theorem Inv.ur {pins':List (Addr × Obj)} (I:Inv X pins σ H s) (h:∀ p ∈ pins',s.heap.get? p.1=some p.2/\H p.1=none/\p.1 ≠ X.env.locals/\p.1 ∉ X.fs/\∀ v,p.2.data ≠ .cell v):Inv X pins' σ H s :=
 ⟨I.ok,I.os,I.bare,I.base,I.loc,I.cell,I.free,I.cT,fun p hp=>(List.mem_append.mp hp).elim (fun z=>I.pin p (List.mem_append_left _ z)) (h p),I.au,I.len⟩
theorem mV {N:List Str} (hN:N.Nodup) {i j:Nat} {x:Str} (a:N[i]? = some x) (b:N[j]? = some x):i=j:=by
 obtain⟨h1,e1⟩:=List.getElem?_eq_some_iff.mp a
 obtain⟨h2,e2⟩:=List.getElem?_eq_some_iff.mp b
 exact (List.getElem_inj hN).mp (e1.trans e2.symm)
theorem pV {M:Model} {A:Around} {E:Value->Shared->Prop} {i:Nat} {x:Str} {v:V} {u:Value} {Q:Unit->Shared->Prop} (I:Inv X pins σ H s) (hN:X.N.Nodup) (hi:X.N[i]? = some x) (hx:Loc X.env.scope x) (r:RelV v u)
  (h:∀ s',Inv X pins (σ.set i (some v)) H s'->(∃ a,Heap.SameBut a s.heap s'.heap/\(a=X.env.locals\/X.env.cells.lookup x=some a))->Q () s') (hf:X.fn x=true\/X.env.scope.names.lookup x=some .local:=by first | exact .inl rfl | exact .inr rfl | assumption):wpAny M A (storeName X.env x u) Q E s:=by
 obtain⟨m,hn,hl⟩:=id I.loc
 have hcls:(X.env.scope.kind == .class || (X.env.scope.kind == .module && X.env.locals != X.env.globals))=false:=by rw [I.ok.kind];rfl
 have hiσ : i < σ.length:=by rw [I.len];exact (List.getElem?_eq_some_iff.mp hi).1
 have nX:=I.nX
 have tracked:∀ {a:Addr} {h':Heap},(∃ o,s.heap.get? a=some o/\H a=none)->Heap.SameBut a s.heap h'->bZ X.prog X.w H h':=fun {a h'} ha hs b ob e=>by
  obtain⟨_,_,hfree⟩:=ha
  refine (I.au b ob e).iJ (fun c w' hc q=>(hs.2 c ?_).trans q) (fun _ q=>q) fun _ _ q=>q
  rintro rfl
  rcases hc with rfl | hc
  ·rw [hfree] at e;cases e
  ·rw [hfree] at hc;cases hc
 rcases hx with hk | hk
 ·refine wpAny_storeName_local hk hn (fun h' hn' hs=>?_) hcls
  obtain⟨oL,_,_,hoL,_⟩:=id hn
  refine h _ ⟨I.ok,I.os,I.bare,⟨fun b o e n hb hx=>?_,fun b o e n hb hx=>?_,I.base.free,fun b o e hx=>?_,I.base.b5,I.base.eW,I.base.fB⟩,⟨_,hn',fun j y v' e1 e2 e3=>?_⟩,fun y c e=>?_,I.free,I.cT,fun p hp=>?_,tracked ⟨oL,hoL,I.free⟩ hs,by simpa using I.len⟩ ⟨_,hs,.inl rfl⟩
  ·exact (hs.2 b (Nat.ne_of_lt (Nat.lt_of_lt_of_le (Heap.lt_size e) I.ok.above))).trans (I.base.keep b o e n hb hx)
  ·obtain⟨sl,e1⟩:=I.base.slot b o e n hb hx
   exact⟨sl,(hs.2 b (Nat.ne_of_lt (Nat.lt_of_lt_of_le (Heap.lt_size e) I.ok.above))).trans e1⟩
  ·obtain⟨o',e1⟩:=I.base.there b o e hx
   exact⟨o',(hs.2 b (Nat.ne_of_lt (Nat.lt_of_lt_of_le (Heap.lt_size e) I.ok.above))).trans e1⟩
  ·by_cases hj:j=i
   ·subst hj
    rw [hi] at e1;cases e1
    rw [List.getElem?_set_self hiσ] at e2
    cases e2
    exact⟨u,r,.inl ⟨hk,by simp⟩⟩
   ·rw [List.getElem?_set_ne (Ne.symm hj)] at e2
    obtain⟨u',r',q⟩:=hl j y v' e1 e2 e3
    refine⟨u',r',?_⟩
    rcases q with ⟨k,e⟩ | ⟨k,c,e,z⟩
    ·refine .inl ⟨k,?_⟩
     have:y ≠ x:=fun e=>hj (mV hN e1 (e ▸ hi))
     simp [this,e]
    ·exact .inr ⟨k,c,e,z.sameBut hs (nX y c e)⟩
  ·obtain⟨w',z⟩:=I.cell y c e
   exact⟨w',z.sameBut hs (nX y c e)⟩
  ·obtain⟨e,n,ne,nf,d⟩:=I.pin p hp
   exact⟨(hs.2 p.1 ne).trans e,n,ne,nf,d⟩
 ·have hfn:X.fn x=true:=by
   rcases hf with z | z
   ·exact z
   ·rw [z] at hk;cases hk
  obtain⟨c,hc⟩:=I.ok.has x (.inl hk)
  obtain⟨w',z⟩:=I.cell x c hc
  refine wpAny_storeName_cell I.ok.kind hk hc z (fun h' hc' hs=>?_)
  obtain⟨oc,hoc,hocd⟩:=id z
  refine h { s with heap:=h' } ⟨I.ok,I.os,I.bare,⟨fun b o e n hb hx=>?_,fun b o e n hb hx=>?_,I.base.free,fun b o e hx=>?_,I.base.b5,I.base.eW,I.base.fB⟩,⟨m,hn.sameBut hs (Ne.symm (nX x c hc)),fun j y v' e1 e2 e3=>?_⟩,fun y c' e=>?_,I.free,I.cT,fun p hp=>?_,tracked ⟨oc,hoc,I.cT x c hc⟩ hs,by simpa using I.len⟩ ⟨c,hs,.inr hc⟩
  ·exact (hs.2 b (Nat.ne_of_lt (Nat.lt_of_lt_of_le (Heap.lt_size e) (I.ok.mG x c hfn hc)))).trans (I.base.keep b o e n hb hx)
  ·obtain⟨sl,e1⟩:=I.base.slot b o e n hb hx
   exact⟨sl,(hs.2 b (Nat.ne_of_lt (Nat.lt_of_lt_of_le (Heap.lt_size e) (I.ok.mG x c hfn hc)))).trans e1⟩
  ·obtain⟨o',e1⟩:=I.base.there b o e hx
   exact⟨o',(hs.2 b (Nat.ne_of_lt (Nat.lt_of_lt_of_le (Heap.lt_size e) (I.ok.mG x c hfn hc)))).trans e1⟩
  ·by_cases hj:j=i
   ·subst hj
    rw [hi] at e1;cases e1
    rw [List.getElem?_set_self hiσ] at e2
    cases e2
    exact⟨u,r,.inr ⟨.inl hk,c,hc,hc'⟩⟩
   ·rw [List.getElem?_set_ne (Ne.symm hj)] at e2
    obtain⟨u',r',q⟩:=hl j y v' e1 e2 e3
    refine⟨u',r',?_⟩
    rcases q with q | ⟨k,c',e,z'⟩
    ·exact .inl q
    ·refine .inr ⟨k,c',e,z'.sameBut hs ?_⟩
     rintro rfl
     exact hj (mV hN e1 (I.ok.inj _ _ _ e hc ▸ hi))
  ·by_cases hcc:c' = c
   ·subst hcc;exact⟨_,hc'⟩
   ·obtain⟨w2,z2⟩:=I.cell y c' e
    exact⟨w2,z2.sameBut hs hcc⟩
  ·obtain⟨e,n,ne,nf,d⟩:=I.pin p hp
   refine⟨(hs.2 p.1 ?_).trans e,n,ne,nf,d⟩
   intro q
   rw [q,hoc] at e
   have q':oc=p.2:=Option.some.inj e
   exact d w' (by rw [<-q'];exact hocd)
theorem mW {M:Model} {A:Around} {E:Value->Shared->Prop} {i:Nat} {x:Str} {v:V} {u:Value} {Q:Unit->Shared->Prop} (I:Inv X pins σ H s) (hN:X.N.Nodup) (hi:X.N[i]? = some x) (hx:Loc X.env.scope x) (r:RelV v u)
  (h:∀ s',Inv X pins (σ.set i (some v)) H s'->Q () s') (hf:X.fn x=true\/X.env.scope.names.lookup x=some .local:=by first | exact .inl rfl | exact .inr rfl | assumption):wpAny M A (storeName X.env x u) Q E s :=
 pV I hN hi hx r (fun s' I' _=>h s' I') hf
theorem Inv.nY {s':Shared} {ch:List Addr} (I:Inv X pins σ H s) (ho:s'.os=s.os) (u:Un (bt X.stack) ch H H' s.heap s'.heap) (au:bZ X.prog X.w H' s'.heap) (hg:AllBare s'.gens)
  (hch:∀ b ∈ ch,(b ∈ X.ex\/X.b0.heap.objs.size<=b)/\b ≠ X.env.locals/\(∀ x c,X.env.cells.lookup x=some c->c ≠ b)/\∀ p ∈ X.pn++pins,p.1 ≠ b):Inv X pins σ H' s':=by
 obtain⟨h',g',d',t',o'⟩:=s'
 have e:o' = s.os:=ho
 subst e
 exact I.call (g':=g') (t':=t') (d':=d') u au hg hch
end
abbrev XK:=Value->Option Addr->Hp->Prop
abbrev St:=List (Option V)
abbrev VK:=V->Hp->Prop
abbrev TE:=St->Hp->VK->Prop
abbrev TT:=St->Hp->(Bool->Hp->Prop)->Prop
abbrev TA:=St->Hp->(List V->Hp->Prop)->Prop
structure Ends where
 nx:St->Hp->Prop
 rt:VK
 bk:St->Hp->Prop:=fun _ _=>False
 ct:St->Hp->Prop:=fun _ _=>False
abbrev TS:=Ends->St->Hp->Prop
def EP (X:Cx) (pins:List (Addr × Obj)) (σ : St) (Q:VK) (u:Value) (s':Shared):Prop:=∃ v H',Inv X pins σ H' s'/\RelV v u/\Q v H'
def TP (X:Cx) (pins:List (Addr × Obj)) (σ : St) (Q:Bool->Hp->Prop) (b:Bool) (s':Shared):Prop:=∃ H',Inv X pins σ H' s'/\Q b H'
def AP (X:Cx) (pins:List (Addr × Obj)) (σ : St) (Q:List V->Hp->Prop) (us:List Value) (s':Shared):Prop:=∃ vs H',Inv X pins σ H' s'/\Vals vs us/\Q vs H'
def SP (X:Cx) (pins:List (Addr × Obj)) (D:Ends) (f:Flow) (s':Shared):Prop :=
 match f with
 | .next=>∃ σ' H',Inv X pins σ' H' s'/\D.nx σ' H'
 | .brk=>∃ σ' H',Inv X pins σ' H' s'/\D.bk σ' H'
 | .cont=>∃ σ' H',Inv X pins σ' H' s'/\D.ct σ' H'
 | .ret u=>∃ v σ' H',Inv X pins σ' H' s'/\RelV v u/\D.rt v H'
def PE (X:Cx) (e:Expr) (t:TE):Prop :=
 ∀ (pins:List (Addr × Obj)) (s:Shared) (σ : St) (H:Hp) (Q:VK),Inv X pins σ H s->t σ H Q->wpAny (model X.prog X.w) X.A (eval e X.env) (EP X pins σ Q) X.xe s
def PT (X:Cx) (e:Expr) (t:TT):Prop :=
 ∀ (pins:List (Addr × Obj)) (s:Shared) (σ : St) (H:Hp) (Q:Bool->Hp->Prop),Inv X pins σ H s->t σ H Q->wpAny (model X.prog X.w) X.A (isTrue e X.env (eval e X.env)) (TP X pins σ Q) X.xe s
def PW (X:Cx) (e:Expr) (t:TT):Prop :=
 ∀ (whole:Sem Value) (pins:List (Addr × Obj)) (s:Shared) (σ : St) (H:Hp) (Q:Bool->Hp->Prop),Inv X pins σ H s->t σ H Q->wpAny (model X.prog X.w) X.A (isTrue e X.env whole) (TP X pins σ Q) X.xe s
theorem PW.pt {X:Cx} {e:Expr} {t:TT} (h:PW X e t):PT X e t:=h _
def PA (X:Cx) (es:List Expr) (t:TA):Prop :=
 ∀ (pos:Pos) (pins:List (Addr × Obj)) (s:Shared) (σ : St) (H:Hp) (Q:List V->Hp->Prop),Inv X pins σ H s->t σ H Q->wpAny (model X.prog X.w) X.A (spliced (backTo pos (starEach es X.env))) (AP X pins σ Q) X.xe s
def PS (X:Cx) (st:Stmt) (t:TS):Prop :=
 ∀ (pins:List (Addr × Obj)) (s:Shared) (σ : St) (H:Hp) (D:Ends),Inv X pins σ H s->t D σ H->wpAny (model X.prog X.w) X.A (exec st X.env) (SP X pins D) X.xe s
def gc (X:Cx) (st:List Stmt) (t:TS):Prop :=
 ∀ (pins:List (Addr × Obj)) (s:Shared) (σ : St) (H:Hp) (D:Ends),Inv X pins σ H s->t D σ H->wpAny (model X.prog X.w) X.A (execs st X.env) (SP X pins D) X.xe s
theorem aU {α : Type} {t:Sem α} {Q Q':α->Shared->Prop} {M:Model} {A:Around} {E:Value->Shared->Prop} {s:Shared} (h:wpAny M A t Q E s) (hQ:∀ a s,Q a s->Q' a s):wpAny M A t Q' E s:=wpAny_mono h hQ fun _ _ x=>x
section
variable {X:Cx}
inductive Cd (i:Nat) (σ : St) (H:Hp) (Q:VK):Prop
 | mk (v:_) (_:σ[i]? = some (some v)) (_:Q v H)
def tC (v:V):TE:=fun _ H Q=>Q v H
theorem Ce {i:Nat} {x:Str} {pos:Pos} (hN:X.N[i]? = some x) (hv:Cb X.env.scope x) (hd:(x == ("__debug__" : Str))=false:=by decide) (hcd:(x == ("__classdict__" : Str))=false:=by decide):PE X (.Name x pos) (Cd i):=by
 intro pins s σ H Q I h
 obtain⟨v,e,h⟩:=h
 obtain⟨m,hn,hl⟩:=I.loc
 obtain⟨u,r,l⟩:=hl i x v hN e hv
 have fin:EP X pins σ Q u s:=⟨v,H,I,r,h⟩
 rcases l with ⟨hk,hm⟩ | ⟨hk,c,hc,hcell⟩
 ·exact wpAny_Name (wpAny_loadName_local I.ok.kind hk hn hm fin) hd
 ·rcases hk with hk | hk
  ·exact wpAny_Name (wpAny_loadName_cell I.ok.kind hk hc hcell fin) hd
  ·exact wpAny_Name (wpAny_loadName_free I.ok.kind hk hc hcell fin hcd) hd
theorem ah {i j pos}:PE X (.Constant (.int i) j pos) (tC (.int i)):=fun _ _ _ H _ I h=>wpAny_Constant_int ⟨.int i,H,I.tok _,⟨_,rfl⟩,h⟩
theorem dh {b j pos}:PE X (.Constant (.bool b) j pos) (tC (.bl b)):=fun _ _ _ H _ I h=>Constant_bool ⟨.bl b,H,I,rfl,h⟩
theorem cY {j pos}:PE X (.Constant .none j pos) (tC .aW):=fun _ _ _ H _ I h=>Constant_none ⟨.aW,H,I,rfl,h⟩
theorem ao {x j pos}:PE X (.Constant (.str x) j pos) (tC (.str x)):=fun _ _ _ H _ I h=>Calls.Constant_str ⟨.str x,H,I.tok _,⟨_,rfl⟩,h⟩
def Gl (X:Cx) (x:Str):Prop:=X.env.kindOf x=some .globalImplicit
theorem gK {E:Value->Shared->Prop} {pins:List (Addr × Obj)} {s:Shared} {σ : St} {H:Hp} {x:Str} {u:Value} {pos:Pos} {Q:Value->Shared->Prop} (I:Inv X pins σ H s) (hg:Gl X x) (hm:X.mg x=some u) (h:Q u s)
  (hd:(x == ("__debug__" : Str))=false:=by decide):wpAny (model X.prog X.w) X.A (eval (.Name x pos) X.env) Q E s :=
 Calls.Name_function_global I.ok.kind hg (Calls.loadGlobal_global (by rw [I.ok.glob];exact I.mod.glob.keeps I.bk) hm h) hd
theorem hZ {E:Value->Shared->Prop} {pins:List (Addr × Obj)} {s:Shared} {σ : St} {H:Hp} {x:Str} {u:Value} {pos:Pos} {Q:Value->Shared->Prop} (I:Inv X pins σ H s) (hg:Gl X x) (hm:X.mg x=none) (hv:bootBuiltins x=some u) (h:Q u s)
  (hn:x ≠ "__name__" := by decide) (hd:(x == ("__debug__" : Str))=false:=by decide):wpAny (model X.prog X.w) X.A (eval (.Name x pos) X.env) Q E s:=by
 obtain⟨mb,h1,h2⟩:=I.mod.blt
 exact Calls.Name_function_global I.ok.kind hg (Calls.loadGlobal_builtin (by rw [I.ok.glob];exact I.mod.glob.keeps I.bk) hm (by rw [I.ok.blt];exact h1.keeps I.bk) ((h2 x hn).trans hv) h) hd
theorem dJ {x:Str} {v:V} {u:Value} {pos:Pos} (hg:Gl X x) (hm:X.mg x=some u) (r:RelV v u) (hd:(x == ("__debug__" : Str))=false:=by decide):PE X (.Name x pos) (tC v) :=
 fun _ _ _ H _ I h=>gK I hg hm ⟨v,H,I,r,h⟩ hd
theorem eh {x:Str} {v:V} {u:Value} {pos:Pos} (hg:Gl X x) (hm:X.mg x=none) (hv:bootBuiltins x=some u) (r:RelV v u) (hn:x ≠ "__name__" := by decide) (hd:(x == ("__debug__" : Str))=false:=by decide):PE X (.Name x pos) (tC v) :=
 fun _ _ _ H _ I h=>hZ I hg hm hv ⟨v,H,I,r,h⟩ hn hd
variable {a b:Expr} {ta tb:TE} {pos:Pos}
def PC (X:Cx) (op:CmpOp) (a b:Expr) (t:TE):Prop :=
 ∀ (pins:List (Addr × Obj)) (s:Shared) (σ : St) (H:Hp) (Q:VK),Inv X pins σ H s->t σ H Q ->
  wpAny (model X.prog X.w) X.A (eval a X.env) (fun v s₁=>wpAny (model X.prog X.w) X.A (eval b X.env) (fun u s₂=>wpAny (model X.prog X.w) X.A (compareOp op v u) (EP X pins σ Q) X.xe s₂) X.xe s₁) X.xe s
theorem yL (b:Expr) {op:CmpOp} (h:op ≠ .In) (h2:op ≠ .NotIn):behindInMarks op b=false:=by
 have e1:(op == CmpOp.In)=false:=by cases op <;> first | rfl | exact absurd rfl h
 have e2:(op == CmpOp.NotIn)=false:=by cases op <;> first | rfl | exact absurd rfl h2
 cases b <;> simp [behindInMarks,e1,e2]
def EJ (ta:TE):TE:=fun σ H Q=>ta σ H fun x H1=>Q (.bl (decide (x=.aW))) H1
theorem RelV.yM {x:V} {v:Value} (r:RelV x v):(v == Value.none)=decide (x=.aW):=by
 cases x with
 | aW=>cases r;rfl
 | bl _=>cases r;rfl
 | int _=>obtain⟨t,rfl⟩:=r;rfl
 | str _=>obtain⟨t,rfl⟩:=r;rfl
 | jM _=>obtain⟨t,rfl⟩:=r;rfl
 | pT _=>obtain⟨t,rfl⟩:=r;rfl
 | ref _=>cases r;rfl
 | ty _=>cases r;rfl
theorem fH {j pos'} (ha:PE X a ta):PC X .Is a (.Constant .none j pos') (EJ ta):=by
 intro pins s σ H Q I h
 refine aU (ha pins s σ H _ I h) fun v s1 ⟨x,H1,I1,r1,q1⟩=>?_
 exact Constant_none (is_none_gen ⟨.bl _,H1,I1,by rw [r1.yM];rfl,q1⟩)
inductive DG (Q:(Bool->Hp->Prop)) (x:V) (H1:Hp):Prop
 | mk (c:_) (_:x=.bl c) (_:Q c H1)
def tB (t:TE):TT:=fun σ H Q=>t σ H fun x H1=>DG Q x H1
theorem fJ {op:CmpOp} {t:TE} (h:PC X op a b t) (h1:behindInMarks op b=false:=by first | exact yL _ (by decide) (by decide) | rfl):PT X (.Compare a [op] [b] pos) (tB t):=by
 intro pins s σ H Q I hw
 refine wpAny_isTrue_Compare1 (aU (h pins s σ H _ I hw) fun v s1 h1=>aU h1 fun u s2 h2=>aU h2 fun c s3 ⟨x,H1,I1,r1,q1⟩=>?_) h1
 obtain⟨d,rfl,q⟩:=q1
 cases r1
 exact wpAny_truthy_bool ⟨H1,I1,q⟩
theorem cU {e:Expr} {t:TE} (h:PE X e t) (he:∀ whole,isTrue e X.env whole=(do let v <-whole;standAt e.pos;holding [v] (truthy v)):=by intro _;rfl):PT X e (tB t):=by
 intro pins s σ H Q I hw
 refine isTrue_plain (aU (h pins s σ H _ I hw) fun v s1 ⟨x,H1,I1,r1,q1⟩=>?_) (he _)
 obtain⟨d,rfl,q⟩:=q1
 cases r1
 exact wpAny_truthy_bool ⟨H1,I1,q⟩
variable {tA tB':TT} {rest:List Expr}
def EK (t u:TT):TT:=fun σ H Q=>t σ H fun c H1=>if c=true then u σ H1 Q else Q false H1
def Fs (t u:TT):TT:=fun σ H Q=>t σ H fun c H1=>if c=true then Q true H1 else u σ H1 Q
def EL (t:TT):TT:=fun σ H Q=>t σ H fun c H1=>Q (!c) H1
theorem gd (ha:PT X a tA):PW X (.BoolOp .And [a] pos) tA:=by
 intro wh pins s σ H Q I h
 refine isTrue_and (aU (ha pins s σ H Q I h) fun c s1 e=>?_)
 cases c with
 | true=>exact isTrue_and_nil e
 | false=>exact e
theorem dP (ha:PT X a tA):PW X (.BoolOp .Or [a] pos) tA:=by
 intro wh pins s σ H Q I h
 refine isTrue_or (aU (ha pins s σ H Q I h) fun c s1 e=>?_)
 cases c with
 | false=>exact isTrue_or_nil e
 | true=>exact e
theorem fK (ha:PT X a tA) (hb:PW X (.BoolOp .And (b :: rest) pos) tB'):PW X (.BoolOp .And (a :: b :: rest) pos) (EK tA tB'):=by
 intro wh pins s σ H Q I h
 refine isTrue_and (aU (ha pins s σ H _ I h) fun c s1 ⟨H1,I1,q1⟩=>?_)
 cases c with
 | true=>exact hb wh pins s1 σ H1 Q I1 q1
 | false=>exact⟨H1,I1,q1⟩
theorem d9 (ha:PT X a tA) (hb:PW X (.BoolOp .Or (b :: rest) pos) tB'):PW X (.BoolOp .Or (a :: b :: rest) pos) (Fs tA tB'):=by
 intro wh pins s σ H Q I h
 refine isTrue_or (aU (ha pins s σ H _ I h) fun c s1 ⟨H1,I1,q1⟩=>?_)
 cases c with
 | true=>exact⟨H1,I1,q1⟩
 | false=>exact hb wh pins s1 σ H1 Q I1 q1
theorem dD (ha:PT X a tA):PT X (.UnaryOp .Not a pos) (EL tA):=by
 intro pins s σ H Q I h
 exact isTrue_not (ha pins s σ H (fun c H1=>Q (!c) H1) I h)
inductive yN (tb:TE) (σ : St) (Q:VK) (x:V) (H1:Hp):Prop
 | mk (c:_) (_:x=.bl c) (_:if c=true then tb σ H1 Q else Q (.bl false) H1)
def DH (ta tb:TE):TE:=fun σ H Q=>ta σ H fun x H1=>yN tb σ Q x H1
inductive yQ (Q:VK) (x:V) (H1:Hp):Prop
 | mk (c:_) (_:x=.bl c) (_:Q (.bl (!c)) H1)
def DI (ta:TE):TE:=fun σ H Q=>ta σ H fun x H1=>yQ Q x H1
theorem rh {op} {t:TE} (h:PE X a t):PE X (.BoolOp op [a] pos) t:=fun pins s σ H Q I hw=>BoolOp_one (h pins s σ H Q I hw)
theorem rl (ha:PE X a ta) (hb:PE X (.BoolOp .And (b :: rest) pos) tb):PE X (.BoolOp .And (a :: b :: rest) pos) (DH ta tb):=by
 intro pins s σ H Q I h
 refine BoolOp_and (aU (ha pins s σ H _ I h) fun v s1 ⟨x,H1,I1,r1,q1⟩=>?_)
 obtain⟨c,rfl,q1⟩:=q1
 cases r1
 refine wpAny_truthy_bool ?_
 cases c with
 | true=>exact hb pins s1 σ H1 Q I1 q1
 | false=>exact⟨.bl false,H1,I1,rfl,q1⟩
theorem Cf (ha:PE X a ta):PE X (.UnaryOp .Not a pos) (DI ta):=by
 intro pins s σ H Q I h
 refine UnaryOp_ (aU (ha pins s σ H _ I h) fun v s1 ⟨x,H1,I1,r1,q1⟩=>?_)
 obtain⟨c,rfl,q1⟩:=q1
 cases r1
 exact not_of (wpAny_truthy_bool ⟨.bl (!c),H1,I1,rfl,q1⟩)
def Ft (t:TT) (ta tb:TE):TE:=fun σ H Q=>t σ H fun c H1=>if c=true then ta σ H1 Q else tb σ H1 Q
theorem mX {c:Expr} (hc:PT X c tA) (ha:PE X a ta) (hb:PE X b tb):PE X (.IfExp c a b pos) (Ft tA ta tb):=by
 intro pins s σ H Q I h
 refine wpAny_IfExp (aU (hc pins s σ H _ I h) fun d s1 ⟨H1,I1,q1⟩=>?_)
 cases d with
 | true=>exact ha pins s1 σ H1 Q I1 q1
 | false=>exact hb pins s1 σ H1 Q I1 q1
end
def ay (K:PySem.W.Frag) (H:Hp) (a:Addr) (xs:List V):Prop :=
 Rd H a (.lst xs) \/
  ∃ (o:Obj) (its:Array Value) (n:Nat),K.lookup a=some o/\o.cls=.type "list" /\ o.dict=none/\o.data=.seq its n/\its.size<=sizeLine/\Vals xs its.toList
def bJ (K:PySem.W.Frag) (H:Hp) (a:Addr) (xs:List V):Prop :=
 Rd H a (.tup xs) \/
  ∃ (o:Obj) (its:Array Value) (n:Nat),K.lookup a=some o/\o.cls=.type "tuple" /\ o.data=.seq its n/\its.size<=sizeLine/\Vals xs its.toList
def EM:Value->Option V
 | .none=>some .aW
 | .bool b=>some (.bl b)
 | .int i _=>some (.int i)
 | .str x _=>some (.str x)
 | .bytes b _=>some (.jM b)
 | .float b _=>some (.pT b)
 | .ref a=>some (.ref a)
 | .type n=>some (.ty n)
 | _=>none
theorem RelV.abs {x:V} {u:Value} (r:RelV x u):EM u=some x:=by
 cases x with
 | aW=>cases r;rfl
 | bl _=>cases r;rfl
 | int _=>obtain⟨t,rfl⟩:=r;rfl
 | str _=>obtain⟨t,rfl⟩:=r;rfl
 | jM _=>obtain⟨t,rfl⟩:=r;rfl
 | pT _=>obtain⟨t,rfl⟩:=r;rfl
 | ref _=>cases r;rfl
 | ty _=>cases r;rfl
theorem RelV.inj {x y:V} {u:Value} (r:RelV x u) (q:RelV y u):x=y:=Option.some.inj (r.abs.symm.trans q.abs)
theorem Vals.inj:∀ {xs ys:List V} {us:List Value},Vals xs us->Vals ys us->xs=ys
 | _,_,_,.nil,.nil=>rfl
 | _,_,_,.cons r t,.cons r' t'=>by rw [r.inj r',Vals.inj t t']
section
variable {X:Cx} {pins:List (Addr × Obj)} {σ : St} {H:Hp} {s:Shared} {a:Addr} {xs ys:List V}
theorem ay.of {K:PySem.W.Frag} (h:H a=some (.lst xs)):ay K H a xs:=.inl (.inl h)
theorem bJ.of {K:PySem.W.Frag} (h:H a=some (.tup xs)):bJ K H a xs:=.inl (.inl h)
theorem Inv.list (I:Inv X pins σ H s) (h:ay X.K H a xs):∃ its:List Value,Vals xs its/\PlainL s.heap a its.toArray/\xs.length<=sizeLine:=by
 rcases h with h | ⟨o,its,n,hk,hc,hd,hs,hz,r⟩
 ·obtain⟨z,its,n,r,e⟩:=h.ok I.au
  exact⟨its,r,⟨_,n,e,rfl,rfl,rfl⟩,z⟩
 ·refine⟨its.toList,r,⟨o,n,I.cy a o hk,hc,hd,by simpa using hs⟩,?_⟩
  have e:=r.length
  simp only [Array.length_toList] at e
  omega
theorem Inv.tuple (I:Inv X pins σ H s) (h:bJ X.K H a xs):∃ its:List Value,Vals xs its/\IsTup s.heap a its.toArray/\xs.length<=sizeLine:=by
 rcases h with h | ⟨o,its,n,hk,hc,hs,hz,r⟩
 ·obtain⟨z,its,r,o,e,c,n,d,_⟩:=h.ok I.au
  exact⟨its,r,⟨o,e,c,n,d⟩,z⟩
 ·refine⟨its.toList,r,⟨o,I.cy a o hk,hc,n,by simpa using hs⟩,?_⟩
  have e:=r.length
  simp only [Array.length_toList] at e
  omega
theorem Inv.mY (I:Inv X pins σ H s) (h:ay X.K H a xs) (h':ay X.K H a ys):xs=ys:=by
 obtain⟨its,r,⟨o,n,e,_,_,d⟩,_⟩:=I.list h
 obtain⟨its',r',⟨o',n',e',_,_,d'⟩,_⟩:=I.list h'
 rw [e] at e';cases e'
 rw [d] at d'
 injection d' with d1 _
 have:its=its':=by simpa using congrArg Array.toList d1
 subst this
 exact r.inj r'
theorem Inv.jh (I:Inv X pins σ H s) (h:bJ X.K H a xs) (h':bJ X.K H a ys):xs=ys:=by
 obtain⟨its,r,⟨o,e,_,n,d⟩,_⟩:=I.tuple h
 obtain⟨its',r',⟨o',e',_,n',d'⟩,_⟩:=I.tuple h'
 rw [e] at e';cases e'
 rw [d] at d'
 injection d' with d1 _
 have:its=its':=by simpa using congrArg Array.toList d1
 subst this
 exact r.inj r'
end
abbrev Cx.jw (X:Cx) (E:Value->Shared->Prop):Cx:={ X with xe:=E }
abbrev Cx.uu (X:Cx):Cx:=X.jw fun _ _=>False
theorem Cx.Ok.jw {X:Cx} (ok:X.Ok) (E:Value->Shared->Prop):(X.jw E).Ok :=
 ⟨ok.mod,ok.kind,ok.glob,ok.blt,ok.above,ok.inj,ok.has,ok.mG,ok.hd,ok.frames,ok.nW,ok.rg,ok.bs,ok.jg,ok.jv,ok.j7,ok.eX,ok.kP⟩
theorem Cx.Ok.h9 {X:Cx} {E:Value->Shared->Prop} (ok:(X.jw E).Ok):X.Ok :=
 ⟨ok.mod,ok.kind,ok.glob,ok.blt,ok.above,ok.inj,ok.has,ok.mG,ok.hd,ok.frames,ok.nW,ok.rg,ok.bs,ok.jg,ok.jv,ok.j7,ok.eX,ok.kP⟩
section
variable {X:Cx} {pins:List (Addr × Obj)} {σ : St} {H:Hp} {s:Shared} {E:Value->Shared->Prop}
theorem Inv.jw (I:Inv X pins σ H s) (E:Value->Shared->Prop):Inv (X.jw E) pins σ H s:=⟨I.ok.jw E,I.os,I.bare,I.base,I.loc,I.cell,I.free,I.cT,I.pin,I.au,I.len⟩
theorem Inv.h9 (I:Inv (X.jw E) pins σ H s):Inv X pins σ H s:=⟨I.ok.h9,I.os,I.bare,I.base,I.loc,I.cell,I.free,I.cT,I.pin,I.au,I.len⟩
theorem SP.h9 {D:Ends} {f:Flow} {s':Shared} (h:SP (X.jw E) pins D f s'):SP X pins D f s':=by
 cases f with
 | next=>obtain⟨σ',H',I,q⟩:=h;exact⟨σ',H',I.h9,q⟩
 | brk=>obtain⟨σ',H',I,q⟩:=h;exact⟨σ',H',I.h9,q⟩
 | cont=>obtain⟨σ',H',I,q⟩:=h;exact⟨σ',H',I.h9,q⟩
 | ret u=>obtain⟨v,σ',H',I,r,q⟩:=h;exact⟨v,σ',H',I.h9,r,q⟩
theorem gc.uu {st:List Stmt} {t:TS} (h:gc X.uu st t):gc X st t:=fun pins s σ H D I hw =>
 wpAny_mono (h pins s σ H D (I.jw _) hw) (fun _ _ q=>q.h9) fun _ _ z=>False.elim z
end
section
variable {X:Cx} {st:Stmt} {rest:List Stmt} {t u:TS} {e:Expr} {te:TE} {pos:Pos}
def z7:TS:=fun D σ H=>D.nx σ H
def Cg (t u:TS):TS:=fun D σ H=>t { D with nx:=u D } σ H
theorem aG:gc X [] z7:=fun _ _ σ H _ I h=>wpAny_execs_nil ⟨σ,H,I,h⟩
theorem ae (h1:PS X st t) (h2:gc X rest u):gc X (st :: rest) (Cg t u):=by
 intro pins s σ H D I h
 refine wpAny_execs_cons (aU (h1 pins s σ H { D with nx:=u D } I h) fun f s1 q=>?_)
 cases f with
 | next =>
  obtain⟨σ',H',I',q⟩:=q
  exact h2 pins s1 σ' H' D I' q
 | ret v=>exact q
 | brk=>exact q
 | cont=>exact q
theorem ai (h1:PS X st t):gc X [st] t:=by
 intro pins s σ H D I h
 refine wpAny_execs_cons (aU (h1 pins s σ H D I h) fun f s1 q=>?_)
 cases f with
 | next=>exact wpAny_execs_nil q
 | ret v=>exact q
 | brk=>exact q
 | cont=>exact q
theorem Inv.quiet {pins:List (Addr × Obj)} {σ : St} {H:Hp} {s:Shared} (I:Inv X pins σ H s):interactive X.env=false:=by simp [interactive,I.ok.kind]
def DJ (te:TE):TS:=fun D σ H=>te σ H fun _ H1=>D.nx σ H1
theorem gQ (he:PE X e te) (hs:swapsWith e none pos.line X.env=pure false:=by rfl):PS X (.Expr e pos) (DJ te):=by
 intro pins s σ H D I h
 exact wpAny_Expr_any (aU (he pins s σ H _ I h) fun v s1 ⟨x,H1,I1,r1,q1⟩=>⟨σ,H1,I1,q1⟩) I.quiet hs
def Ci (te:TE):TS:=fun D σ H=>te σ H D.rt
theorem aw (he:PE X e te):PS X (.Return (some e) pos) (Ci te):=by
 intro pins s σ H D I h
 exact wpAny_Return_some (aU (he pins s σ H _ I h) fun v s1 ⟨x,H1,I1,r1,q1⟩=>⟨x,σ,H1,I1,r1,q1⟩)
def Cj (c:TT) (t u:TS):TS:=fun D σ H=>c σ H fun b H1=>if b=true then t D σ H1 else u D σ H1
theorem aQ {c:Expr} {a b:List Stmt} {tc:TT} (hc:PT X c tc) (ha:gc X a t) (hb:gc X b u):PS X (.If c a b pos) (Cj tc t u):=by
 intro pins s σ H D I h
 refine wpAny_If (aU (hc pins s σ H _ I h) fun d s1 ⟨H1,I1,q1⟩=>?_)
 cases d with
 | true=>exact ha pins s1 σ H1 D I1 q1
 | false=>exact hb pins s1 σ H1 D I1 q1
def xb:TS:=fun _ _ _=>False
theorem yS:PS X st xb:=fun _ _ _ _ _ _ h=>h.elim
theorem ia {sts:List Stmt}:gc X sts xb:=fun _ _ _ _ _ _ h=>h.elim
end
abbrev TG:=V->St->Hp->(St->Hp->Prop)->Prop
abbrev rm:=List V->St->Hp->(St->Hp->Prop)->Prop
def PG (X:Cx) (target:Expr) (t:TG):Prop :=
 ∀ (pins:List (Addr × Obj)) (s:Shared) (σ : St) (H:Hp) (v:V) (u:Value) (Q:St->Hp->Prop),Inv X pins σ H s->RelV v u->t v σ H Q ->
  wpAny (model X.prog X.w) X.A (assign target X.env u) (fun _ s'=>∃ σ' H',Inv X pins σ' H' s'/\Q σ' H') X.xe s
def z8 (X:Cx) (ts:List Expr) (t:rm):Prop :=
 ∀ (pins:List (Addr × Obj)) (s:Shared) (σ : St) (H:Hp) (vs:List V) (us:List Value) (Q:St->Hp->Prop),Inv X pins σ H s->Vals vs us->t vs σ H Q ->
  wpAny (model X.prog X.w) X.A (assignInOrder ((assignEach ts X.env).map (·.2)) us) (fun _ s'=>∃ σ' H',Inv X pins σ' H' s'/\Q σ' H') X.xe s
abbrev yT:=V->V->V->Hp->(Hp->Prop)->Prop
def Ck (X:Cx) (t:yT):Prop :=
 ∀ (pins:List (Addr × Obj)) (s:Shared) (σ : St) (H:Hp) (o i v:V) (ov iv u:Value) (Q:Hp->Prop),Inv X pins σ H s->RelV o ov->RelV i iv->RelV v u->t o i v H Q ->
  wpAny (model X.prog X.w) X.A (setItem ov iv u) (fun _ s'=>∃ H',Inv X pins σ H' s'/\Q H') X.xe s
section
variable {X:Cx} {pos:Pos}
def j8 (i:Nat):TG:=fun v σ H Q=>Q (σ.set i (some v)) H
theorem AJ {i:Nat} {x:Str} (hN:X.N.Nodup) (hi:X.N[i]? = some x) (hx:Loc X.env.scope x) (hf:X.fn x=true\/X.env.scope.names.lookup x=some .local:=by first | exact .inl rfl | exact .inr rfl | assumption):PG X (.Name x pos) (j8 i):=by
 intro pins s σ H v u Q I r h
 exact wpAny_assign_Name (mW I hN hi hx r (fun s' I'=>⟨_,H,I',h⟩) hf)
def EN:rm:=fun vs σ H Q=>vs = []/\Q σ H
inductive DK (t:TG) (u:rm) (vs:List V) (σ : St) (H:Hp) (Q:(St->Hp->Prop)):Prop
 | mk (v r:_) (_:vs=v :: r) (_:t v σ H fun σ' H'=>u r σ' H' Q)
theorem gU:z8 X [] EN:=by
 intro pins s σ H vs us Q I r h
 obtain⟨e,h⟩:=h
 subst e
 cases r
 exact assignInOrder_nil ⟨σ,H,I,h⟩
theorem cv {e:Expr} {es:List Expr} {t:TG} {u:rm} (h1:PG X e t) (h2:z8 X es u)
  (hs:(assignEach (e :: es) X.env).map (·.2)=assign e X.env :: (assignEach es X.env).map (·.2):=by rfl):z8 X (e :: es) (DK t u):=by
 intro pins s σ H vs us Q I r h
 obtain⟨v,vr,e1,h⟩:=h
 subst e1
 cases r with
 | cons r rr =>
  rw [hs]
  refine assignInOrder_cons (aU (h1 pins s σ H _ _ _ I r h) fun _ s1 ⟨σ1,H1,I1,q1⟩=>?_)
  exact h2 pins s1 σ1 H1 _ _ Q I1 rr q1
inductive yU (K:PySem.W.Frag) (n:Nat) (t:rm) (v:V) (σ : St) (H:Hp) (Q:(St->Hp->Prop)):Prop
 | mk (a xs:_) (_:v=.ref a) (_:bJ K H a xs) (_:xs.length=n) (_:t xs σ H Q)
theorem iK {es:List Expr} {k:Nat} {t:rm} {n:Nat} (hc:X.calm=true) (h:z8 X es t)
  (hn:(assignEach es X.env).length=n:=by rfl) (hst:(assignEach es X.env).findIdx? (·.1)=none:=by rfl):PG X (.Tuple es k pos) (yU X.K n t):=by
 intro pins s σ H v u Q I r hw
 obtain⟨a,xs,e1,hq,hl,hw⟩:=hw
 subst e1
 cases r
 obtain⟨its,rv,ht,hz⟩:=I.tuple hq
 refine assign_Tuple_tuple (I.ok.hd hc) ht (by simp [hn,<-hl,rv.length]) hst fun h' hx=>?_
 have I1:Inv X pins σ H { s with heap:=h' }:=I.kept (t':=s.toks) fun b o e=>hx b o (Nat.ne_of_lt (Heap.lt_size e)) e
 exact h pins _ σ H xs _ Q I1 (by simpa using rv) hw
def EO (to ti:TE) (t:yT):TG:=fun v σ H Q=>to σ H fun o H1=>ti σ H1 fun i H2=>t o i v H2 fun H3=>Q σ H3
theorem rn {o i:Expr} {to ti:TE} {t:yT} (ho:PE X o to) (hi:PE X i ti) (hs:Ck X t)
  (ha:∀ v,assign (.Subscript o i pos) X.env v=(do
   let ov <-holding [v] (eval o X.env)
   let iv <-holding [v,ov] (eval i X.env)
   standAt pos
   holding [v,ov,iv] (setItem ov iv v)
   release [v,ov,iv] []):=by intro _;rfl):PG X (.Subscript o i pos) (EO to ti t):=by
 intro pins s σ H v u Q I r h
 rw [ha]
 refine wpAny_bind (wpAny_holding (aU (ho pins s σ H _ I h) fun ov s1 ⟨x,H1,I1,r1,q1⟩=>?_))
 refine wpAny_bind (wpAny_holding (aU (hi pins s1 σ H1 _ I1 q1) fun iv s2 ⟨y,H2,I2,r2,q2⟩=>?_))
 refine wpAny_bind (wpAny_standAt (wpAny_bind (wpAny_holding (aU (hs pins s2 σ H2 x y v ov iv u _ I2 r1 r2 r q2) fun _ s3 ⟨H3,I3,q3⟩=>?_))))
 exact wpAny_release ⟨σ,H3,I3,q3⟩
def rq (te:TE) (g:TG):TS:=fun D σ H=>te σ H fun x H1=>g x σ H1 D.nx
theorem jO {tg e:Expr} {te:TE} {g:TG} (he:PE X e te) (hg:PG X tg g) (hs:swapsWithSole [tg] e pos.line X.env=pure false:=by rfl) (hw:swappedStores [tg] e X.env=pure none:=by rfl)
  (h1:(assignEach [tg] X.env).map (·.2) = [assign tg X.env]:=by rfl):PS X (.Assign [tg] e pos) (rq te g):=by
 intro pins s σ H D I h
 refine wpAny_Assign_stores (aU (he pins s σ H _ I h) fun v s1 ⟨x,H1,I1,r1,q1⟩=>?_) hs hw
 rw [h1]
 exact aU (hg pins s1 σ H1 x v _ I1 r1 q1) fun _ s2 q=>q
theorem Cm {i:Nat} {x:Str} {e:Expr} {te:TE} {pos':Pos} (hN:X.N.Nodup) (hi:X.N[i]? = some x) (hx:Loc X.env.scope x) (he:PE X e te) (hs:swapsWith e (some (.Name x pos')) pos.line X.env=pure false:=by rfl) (hf:X.fn x=true\/X.env.scope.names.lookup x=some .local:=by first | exact .inl rfl | exact .inr rfl | assumption) :
  PS X (.Assign [.Name x pos'] e pos) (rq te (j8 i)):=by
 intro pins s σ H D I h
 refine wpAny_Assign_Name (aU (he pins s σ H _ I h) fun v s1 ⟨y,H1,I1,r1,q1⟩=>?_) hs
 exact mW I1 hN hi hx r1 (fun s2 I2=>⟨_,H1,I2,q1⟩) hf
end
section
variable {X:Cx} {pos:Pos}
end
structure It where
 go:Nat->Hp->Prop
 xc:Nat->Hp->V->Hp->Prop
 stop:Nat->Hp->Prop
def fC (X:Cx) (pins:List (Addr × Obj)) (H:Hp) (b:Addr):Prop :=
 H b=none/\b ≠ X.env.locals/\b ∉ X.fs/\(b ∈ X.ex\/X.b0.heap.objs.size<=b)/\(∀ x c,X.env.cells.lookup x=some c->c ≠ b)/\∀ p ∈ X.pn++pins,p.1 ≠ b
theorem Inv.gW {X:Cx} {pins:List (Addr × Obj)} {σ : St} {H H':Hp} {s:Shared} {b:Addr} (I:Inv X pins σ H s) (hb:s.heap.objs.size<=b) (hn:H' b=none):fC X pins H' b:=by
 refine⟨hn,Nat.ne_of_gt (Nat.lt_of_lt_of_le I.lt hb),I.Cc hb,.inr (Nat.le_trans I.sz hb),fun x c e z=>?_,fun p hp z=>?_⟩
 ·obtain⟨v,q⟩:=I.cell x c e
  exact absurd (Nat.lt_of_lt_of_le q.lt (by rw [z];exact hb)) (Nat.lt_irrefl _)
 ·exact absurd (Nat.lt_of_lt_of_le (Heap.lt_size (I.pin p hp).1) (by rw [z];exact hb)) (Nat.lt_irrefl _)
structure Turn (P:Program) (w:World) (K:PySem.W.Frag) (tg:Expr) (J:It) (fp:List Addr) (it:Addr) (tn:Nat->Heap->Prop):Prop where
 mem:it ∈ fp
 obj:∀ i h,tn i h->∀ b ∈ fp,∃ o,h.get? b=some o/\∀ v,o.data ≠ .cell v
 keep:∀ i h h',tn i h->(∀ b ∈ fp,∀ o,h.get? b=some o->h'.get? b=some o)->tn i h'
 item:∀ (X:Cx),X.prog=P->X.w=w->X.K=K->X.calm=true->∀ (i:Nat) (pins:List (Addr × Obj)) (s:Shared) (σ : St) (H:Hp) (E:Value->Shared->Prop),Inv X pins σ H s->(∀ b ∈ fp,fC X pins H b)->tn i s.heap->J.go i H ->
  wpAny (model P w) X.A (pyNext (.ref it)) (fun r s1=>∃ u,r=some u /\
   wpAny (model P w) X.A (letOwnedTupleGo tg (.ref it) u) (fun _ s2=>∃ x H',Inv X pins σ H' s2/\RelV x u/\J.xc i H x H'/\tn (i+1) s2.heap/\∀ b ∈ fp,H' b=none) E s1) E s
 done:∀ (X:Cx),X.prog=P->X.w=w->X.K=K->X.calm=true->∀ (i:Nat) (pins:List (Addr × Obj)) (s:Shared) (σ : St) (H:Hp) (E:Value->Shared->Prop),Inv X pins σ H s->(∀ b ∈ fp,fC X pins H b)->tn i s.heap->J.stop i H ->
  wpAny (model P w) X.A (pyNext (.ref it)) (fun r s1=>r=none/\Inv X pins σ H s1) E s
 self:∀ (A:Around) (i:Nat) (s:Shared) (Q:Value->Shared->Prop) (E:Value->Shared->Prop),tn i s.heap->Q (.ref it) s->wpAny (model P w) A (pyIter (.ref it)) Q E s
abbrev TI:=St->Hp->(It->Hp->Prop)->Prop
def Et (X:Cx) (pins:List (Addr × Obj)) (σ : St) (tg:Expr) (R:It->Hp->Prop) (itv:Value) (s2:Shared):Prop :=
 ∃ (it:Addr) (fp:List Addr) (tn:Nat->Heap->Prop) (J:It) (H':Hp),itv=.ref it/\Inv X pins σ H' s2/\Turn X.prog X.w X.K tg J fp it tn/\tn 0 s2.heap/\(∀ b ∈ fp,fC X pins H' b)/\R J H'
def PI (X:Cx) (tg iter:Expr) (wi:TI):Prop :=
 ∀ (pins:List (Addr × Obj)) (s:Shared) (σ : St) (H:Hp) (R:It->Hp->Prop),Inv X pins σ H s->wi σ H R ->
  wpAny (model X.prog X.w) X.A (eval iter X.env) (fun v s1=>wpAny (model X.prog X.w) X.A (pyIter v) (Et X pins σ tg R) X.xe s1) X.xe s
theorem qP {M:Model} {A:Around} {E:Value->Shared->Prop} {s:Shared} {tg:Expr} {it:Addr} {u:Value} {o:Obj} {n:String} {vs:Array Value} {Q:Unit->Shared->Prop} (ho:s.heap.get? it=some o) (hc:o.cls=.type n) (hd:o.data=.fields vs)
    (hn:["enumerate", "zip", "dict_itemiterator", "dict_reverseitemiterator", "odict_iterator", "itertools.zip_longest", "itertools.pairwise"].contains n=false) (hQ:Q () s):wpAny M A (letOwnedTupleGo tg (.ref it) u) Q E s:=by
  unfold letOwnedTupleGo
  cases tg <;> first
    | exact wpAny_pure hQ
    | (cases u <;> first
        | exact wpAny_pure hQ
        | (refine wpAny_bind (wpAny_load ho ?_)
           rw [hc,hd]
           show wpAny M A (if (["enumerate", "zip", "dict_itemiterator", "dict_reverseitemiterator", "odict_iterator", "itertools.zip_longest", "itertools.pairwise"].contains n && vs[0]? == some (rawInt _))=true then _ else _) Q E s
           rw [if_neg (by intro h;rw [hn,Bool.false_and] at h;cases h)]
           exact wpAny_pure hQ))
def Cn (K:PySem.W.Frag) (a:Addr):It :=
 ⟨fun i H=>∃ xs x,ay K H a xs/\xs[i]? = some x,fun i H x H'=>H' = H/\∀ xs,ay K H a xs->xs[i]? = some x,fun i H=>∃ xs,ay K H a xs/\xs.length<=i⟩
def Co (K:PySem.W.Frag) (a:Addr):It :=
 ⟨fun i H=>∃ xs x,bJ K H a xs/\xs[i]? = some x,fun i H x H'=>H' = H/\∀ xs,bJ K H a xs->xs[i]? = some x,fun i H=>∃ xs,bJ K H a xs/\xs.length<=i⟩
def rA (lo:Int) (n:Nat):It:=⟨fun i _=>i < n,fun i H x H'=>H' = H/\x=.int (lo+i),fun i _=>n<=i⟩
theorem xf {P:Program} {w:World} {K:PySem.W.Frag} {tg:Expr} (a it:Addr):Turn P w K tg (Cn K a) [it] it (fun i h=>h.IsListIter it a i) where
 mem:=by simp
 obj:=fun i h st b hb=>by
  have e:b=it:=by simpa using hb
  subst e
  obtain⟨o,e,c,d⟩:=st
  exact⟨o,e,fun v z=>by rw [d] at z;cases z⟩
 keep:=fun i h h' st k=>st.at fun o e=>k it (by simp) o e
 item:=by
  intro X hP hw hK hc i pins s σ H E I hf st hg
  subst hP hw hK
  obtain⟨xs,x,hq,hx⟩:=hg
  obtain⟨its,rv,p,hz⟩:=I.list hq
  obtain⟨u,hu,ru⟩:=rv.get hx
  obtain⟨f0,f1,f2,f3,f4,f5⟩:=hf it (by simp)
  refine wpAny_pyNext_list_item st p.isList (x:=u) (by simpa using hu) fun h' st' sb=>?_
  have I1:Inv X pins σ H { s with heap:=h' }:=I.turned (t':=s.toks) (fun b o hb e=>(sb.2 b hb).trans e) f0 f1 f3 f4 f5
  obtain⟨o,e,c,d⟩:=id st'
  exact⟨u,rfl,qP (s:={ s with heap:=h' }) e c d (by decide) ⟨x,H,I1,ru,⟨rfl,fun ys hy=>by rw [I.mY hy hq];exact hx⟩,st',fun b hb=>(hf b hb).1⟩⟩
 done:=by
  intro X hP hw hK hc i pins s σ H E I hf st hg
  subst hP hw hK
  obtain⟨xs,hq,hx⟩:=hg
  obtain⟨its,rv,p,hz⟩:=I.list hq
  obtain⟨f0,f1,f2,f3,f4,f5⟩:=hf it (by simp)
  have hl:=rv.length
  exact wpAny_pyNext_list_end (I.ok.hd hc) st p.isList (by simp;omega) fun h' eb=>⟨rfl,I.turned (t':=s.toks) (fun b o hb e=>eb b o hb e) f0 f1 f3 f4 f5⟩
 self:=fun _ _ _ _ _ st h=>wpAny_pyIter_listiter st h
theorem vI {P:Program} {w:World} {K:PySem.W.Frag} {tg:Expr} (a it:Addr):Turn P w K tg (Co K a) [it] it (fun i h=>h.IsTupleIter it a i) where
 mem:=by simp
 obj:=fun i h st b hb=>by
  have e:b=it:=by simpa using hb
  subst e
  obtain⟨o,e,c,d⟩:=st
  exact⟨o,e,fun v z=>by rw [d] at z;cases z⟩
 keep:=fun i h h' st k=>st.at fun o e=>k it (by simp) o e
 item:=by
  intro X hP hw hK hc i pins s σ H E I hf st hg
  subst hP hw hK
  obtain⟨xs,x,hq,hx⟩:=hg
  obtain⟨its,rv,p,hz⟩:=I.tuple hq
  obtain⟨u,hu,ru⟩:=rv.get hx
  obtain⟨f0,f1,f2,f3,f4,f5⟩:=hf it (by simp)
  refine wpAny_pyNext_tuple_item st (show s.heap.IsTuple a its.toArray from p) (x:=u) (by simpa using hu) fun h' st' sb=>?_
  have I1:Inv X pins σ H { s with heap:=h' }:=I.turned (t':=s.toks) (fun b o hb e=>(sb.2 b hb).trans e) f0 f1 f3 f4 f5
  obtain⟨o,e,c,d⟩:=id st'
  exact⟨u,rfl,qP (s:={ s with heap:=h' }) e c d (by decide) ⟨x,H,I1,ru,⟨rfl,fun ys hy=>by rw [I.jh hy hq];exact hx⟩,st',fun b hb=>(hf b hb).1⟩⟩
 done:=by
  intro X hP hw hK hc i pins s σ H E I hf st hg
  subst hP hw hK
  obtain⟨xs,hq,hx⟩:=hg
  obtain⟨its,rv,p,hz⟩:=I.tuple hq
  obtain⟨f0,f1,f2,f3,f4,f5⟩:=hf it (by simp)
  have hl:=rv.length
  exact wpAny_pyNext_tuple_end (I.ok.hd hc) st (show s.heap.IsTuple a its.toArray from p) (by simp;omega) fun h' eb=>⟨rfl,I.turned (t':=s.toks) (fun b o hb e=>eb b o hb e) f0 f1 f3 f4 f5⟩
 self:=fun _ _ _ _ _ st h=>wpAny_pyIter_tupleiter st h
theorem vJ {P:Program} {w:World} {K:PySem.W.Frag} {tg:Expr} (it:Addr) (lo:Int) (n:Nat):Turn P w K tg (rA lo n) [it] it (fun i h=>IsRangeIter h it (lo+(i:Nat) * 1) ((n:Int) - (i:Nat)) 1) where
 mem:=by simp
 obj:=fun i h st b hb=>by
  have e:b=it:=by simpa using hb
  subst e
  exact⟨_,st,fun v z=>by
   have z':Data.fields _=Data.cell v:=z
   cases z'⟩
 keep:=fun i h h' st k=>k it (by simp) _ st
 item:=by
  intro X hP hw hK hc i pins s σ H E I hf st hg
  subst hP hw hK
  obtain⟨f0,f1,f2,f3,f4,f5⟩:=hf it (by simp)
  have W:=Walks.range (prog:=X.prog) (w:=X.w) (I.ok.hd hc) it lo 1 n
  refine W.item i s _ _ hg st fun v h' tk hv st' kk=>?_
  obtain⟨t,rfl⟩:=hv
  have I1:Inv X pins σ H { s with heap:=h',toks:=tk }:=I.turned (fun b o hb e=>kk b o (by simpa using hb) e) f0 f1 f3 f4 f5
  refine⟨_,rfl,qP (s:={ s with heap:=h',toks:=tk }) (n := "range_iterator") st' rfl rfl (by decide) ⟨.int (lo+i),H,I1,⟨t,?_⟩,⟨rfl,rfl⟩,st',fun b hb=>(hf b hb).1⟩⟩
  rw [Int.mul_one]
 done:=by
  intro X hP hw hK hc i pins s σ H E I hf st hg
  subst hP hw hK
  obtain⟨f0,f1,f2,f3,f4,f5⟩:=hf it (by simp)
  exact wpAny_pyNext_range_end (I.ok.hd hc) st (by have:n<=i:=hg;omega) fun h' eb=>⟨rfl,I.turned (t':=s.toks) (fun b o hb e=>eb b o hb e) f0 f1 f3 f4 f5⟩
 self:=fun _ _ _ _ _ st h=>wpAny_pyIter_rangeiter st h
section
variable {X:Cx} {tg:Expr}
inductive yV (K:PySem.W.Frag) (R:(It->Hp->Prop)) (x:V) (H1:Hp):Prop
 | mk (a:_) (_:x=.ref a) (_:(∃ xs,ay K H1 a xs)) (_:R (Cn K a) H1)
def DL (K:PySem.W.Frag) (tl:TE):TI:=fun σ H R=>tl σ H fun x H1=>yV K R x H1
inductive AK (K:PySem.W.Frag) (R:(It->Hp->Prop)) (x:V) (H1:Hp):Prop
 | mk (a:_) (_:x=.ref a) (_:(∃ xs,bJ K H1 a xs)) (_:R (Co K a) H1)
def Cq (K:PySem.W.Frag) (tl:TE):TI:=fun σ H R=>tl σ H fun x H1=>AK K R x H1
theorem jP {l:Expr} {tl:TE} (hl:PE X l tl):PI X tg l (DL X.K tl):=by
 intro pins s σ H R I h
 refine aU (hl pins s σ H _ I h) fun v s1 ⟨x,H1,I1,r1,q1⟩=>?_
 obtain⟨a,e,⟨xs,hq⟩,q⟩:=q1
 subst e
 cases r1
 obtain⟨its,rv,p,hz⟩:=I1.list hq
 refine wpAny_pyIter_list p.isList ?_
 refine⟨s1.heap.objs.size,[s1.heap.objs.size],_,_,H1,rfl,I1.kept (t':=s1.toks) fun b o e=>Heap.get?_push_of_some _ e,xf a _,⟨_,Heap.get?_push_size _ rfl,rfl,rfl⟩,fun b hb=>?_,q⟩
 have e:b=s1.heap.objs.size:=by simpa using hb
 subst e
 exact I1.gW (Nat.le_refl _) (I1.au.fresh (Nat.le_refl _))
theorem jQ {l:Expr} {tl:TE} (hl:PE X l tl):PI X tg l (Cq X.K tl):=by
 intro pins s σ H R I h
 refine aU (hl pins s σ H _ I h) fun v s1 ⟨x,H1,I1,r1,q1⟩=>?_
 obtain⟨a,e,⟨xs,hq⟩,q⟩:=q1
 subst e
 cases r1
 obtain⟨its,rv,p,hz⟩:=I1.tuple hq
 refine wpAny_pyIter_tuple (show s1.heap.IsTuple a its.toArray from p) ?_
 refine⟨s1.heap.objs.size,[s1.heap.objs.size],_,_,H1,rfl,I1.kept (t':=s1.toks) fun b o e=>Heap.get?_push_of_some _ e,vI a _,⟨_,Heap.get?_push_size _ rfl,rfl,rfl⟩,fun b hb=>?_,q⟩
 have e:b=s1.heap.objs.size:=by simpa using hb
 subst e
 exact I1.gW (Nat.le_refl _) (I1.au.fresh (Nat.le_refl _))
theorem yW {pins:List (Addr × Obj)} {σ : St} {H:Hp} {s:Shared} {R:It->Hp->Prop} {E:Value->Shared->Prop} {lo hi:Int} {t u v:Tok} {tk:Nat} (I:Inv X pins σ H s) (h1:-(2 ^ 62)<=lo) (h2:lo < 2 ^ 62) (h3:-(2 ^ 62)<=hi) (h4:hi < 2 ^ 62)
  (q:R (rA lo (hi - lo).toNat) H):wpAny (model X.prog X.w) X.A (pyIter (.ref s.heap.objs.size)) (Et X pins σ tg R) E { s with heap:=s.heap.push { cls:=.type "range",data:=.fields #[.int lo t,.int hi u,.int 1 v] },toks:=tk }:=by
 refine wpAny_pyIter_range (IsRange.new ..) (small_one h1 h2 h3 h4) ?_
 have I1:Inv X pins σ H { s with heap:=s.heap.push { cls:=.type "range",data:=.fields #[.int lo t,.int hi u,.int 1 v] },toks:=tk }:=I.kept fun b o e=>Heap.get?_push_of_some _ e
 refine⟨(s.heap.push { cls:=.type "range",data:=.fields #[.int lo t,.int hi u,.int 1 v] }).objs.size,[(s.heap.push { cls:=.type "range",data:=.fields #[.int lo t,.int hi u,.int 1 v] }).objs.size],_,_,H,rfl,
  I1.kept (t':=tk) fun b o e=>Heap.get?_push_of_some _ e,vJ _ lo (hi - lo).toNat,?_,fun b hb=>?_,q⟩
 ·have e1:lo+((0:Nat):Int) * 1=lo:=by simp
  have e2:(((hi - lo).toNat:Nat):Int) - ((0:Nat):Int)=Builtin.Range.rangeSize lo hi 1:=by rw [rangeSize_one];split <;> omega
  show IsRangeIter _ _ (lo+((0:Nat):Int) * 1) ((((hi - lo).toNat:Nat):Int) - ((0:Nat):Int)) 1
  rw [e1,e2]
  exact Heap.get?_push_size _ rfl
 ·have e:b=(s.heap.push { cls:=.type "range",data:=.fields #[.int lo t,.int hi u,.int 1 v] }).objs.size:=by simpa using hb
  subst e
  exact I1.gW (Nat.le_refl _) (I1.au.fresh (Nat.le_refl _))
inductive yX (R:(It->Hp->Prop)) (vs:List V) (H1:Hp):Prop
 | mk (j:Int) (_:vs = [.int j]) (_:-(2 ^ 62)<=j) (_:j < 2 ^ 62) (_:R (rA 0 j.toNat) H1)
def DM (ta:TA):TI:=fun σ H R=>ta σ H fun vs H1=>yX R vs H1
theorem eY {a:Expr} {ta:TA} {p pos:Pos} (hg:Gl X "range") (hm:X.mg "range" = none) (ha:PA X [a] ta) (hs:starEach [a] X.env = [(false,eval a X.env)]:=by rfl):PI X tg (.Call (.Name "range" p) [a] [] pos) (DM ta):=by
 intro pins s σ H R I h
 refine Call_ (hZ I hg hm boot_range (PyProof.Rows.callWith_type1 (aU (ha pos pins s σ H _ I h) fun us s1 ⟨vs,H1,I1,r1,q1⟩=>?_) hs rfl))
 obtain⟨j,e,q1,q2,q⟩:=q1
 subst e
 cases r1 with
 | cons r rr =>
  cases rr
  obtain⟨t,rfl⟩:=r
  exact call_range_1 (yW I1 (by omega) (by omega) q1 q2 (by simpa using q))
def ER (wi:TI) (g:TG) (tb:TS):TS:=fun D σ H=>wi σ H fun J H1=>∃ W:Nat->Nat->St->Hp->Prop,(∃ m,W 0 m σ H1)/\∀ i m σ H,W i m σ H ->
 (J.stop i H/\D.nx σ H)\/(J.go i H/\∃ N:St->Hp->Prop,(∀ σ' H',N σ' H'->∃ m',m' < m/\W (i+1) m' σ' H')/\∀ x H',J.xc i H x H'->g x σ H' fun σ2 H2=>tb { D with nx:=N,ct:=N,bk:=D.nx } σ2 H2)
def jR (fp:List Addr) (h:Heap):List (Addr × Obj):=fp.filterMap fun b=>(h.get? b).map fun o=>(b,o)
theorem fj {fp:List Addr} {h:Heap} {b:Addr} {o:Obj} (hb:b ∈ fp) (e:h.get? b=some o):(b,o) ∈ jR fp h:=List.mem_filterMap.mpr ⟨b,hb,by rw [e];rfl⟩
theorem xg {fp:List Addr} {h:Heap} {p:Addr × Obj} (hp:p ∈ jR fp h):p.1 ∈ fp/\h.get? p.1=some p.2:=by
 obtain⟨b,hb,e⟩:=List.mem_filterMap.mp hp
 cases q:h.get? b with
 | none=>rw [q] at e;cases e
 | some o =>
  rw [q] at e
  have e':(b,o)=p:=Option.some.inj e
  subst e'
  exact⟨hb,q⟩
theorem Inv.pinned {pins:List (Addr × Obj)} {σ : St} {H:Hp} {s:Shared} {fp:List Addr} (I:Inv X pins σ H s) (hf:∀ b ∈ fp,fC X pins H b) (ho:∀ b ∈ fp,∃ o,s.heap.get? b=some o/\∀ v,o.data ≠ .cell v):Inv X (pins++jR fp s.heap) σ H s :=
 I.ur fun p hp=>(List.mem_append.mp hp).elim (fun z=>I.pin p (List.mem_append_right _ z)) fun z=>by
  obtain⟨hb,e⟩:=xg z
  obtain⟨f0,f1,f2,_⟩:=hf p.1 hb
  obtain⟨o,e',d⟩:=ho p.1 hb
  rw [e] at e';cases e'
  exact⟨e,f0,f1,f2,d⟩
theorem Inv.fR {pins pl:List (Addr × Obj)} {σ : St} {H:Hp} {s:Shared} (I:Inv X (pins++pl) σ H s):Inv X pins σ H s:=I.ur fun p hp=>I.pin p (List.mem_append_right _ (List.mem_append_left _ hp))
theorem kZ {iter:Expr} {body:List Stmt} {wi:TI} {g:TG} {tb:TS} {pos:Pos} (hp:PassesOwn (model X.prog X.w) X.A X.env X.xe) (hc:X.calm=true) (hi:PI X tg iter wi) (hg:PG X tg g) (hb:gc X body tb)
  (hs:∀ x,foldedSetIterable iter X.env x=pure x:=by intro _;rfl):PS X (.For tg iter body [] pos) (ER wi g tb):=by
 intro pins s σ H D I h
 refine wpAny_For (aU (hi pins s σ H _ I h) fun v s1 h1=>aU h1 fun itv s2 h2=>?_) hs
 obtain⟨it,fp,tn,J,H2,e,I2,T,st2,f2,W,⟨m0,w0⟩,turn⟩:=h2
 subst e
 have stat:∀ {H':Hp},(∀ b ∈ fp,H' b=none)->∀ b ∈ fp,fC X pins H' b:=fun hn b hb=>⟨hn b hb,(f2 b hb).2⟩
 refine codeAny_forLoop_any (fun n s'=>∃ i σ' H',Inv X pins σ' H' s'/\tn i s'.heap/\(∀ b ∈ fp,H' b=none)/\W i n σ' H') ?_ m0 ⟨0,σ,H2,I2,st2,fun b hb=>(f2 b hb).1,w0⟩
 rintro n s3 ⟨i,σ3,H3,I3,st3,fr3,w3⟩
 rcases turn i n σ3 H3 w3 with ⟨stop,qn⟩ | ⟨go,N,hN,step⟩
 ·refine wpAny_passesOwn hp (aU (T.done X rfl rfl rfl hc i pins s3 σ3 H3 X.xe I3 (stat fr3) st3 stop) fun r s4 ⟨hr,I4⟩=>?_)
  subst hr
  exact wpAny_execs_nil ⟨σ3,H3,I4,qn⟩
 ·refine wpAny_passesOwn hp (aU (T.item X rfl rfl rfl hc i pins s3 σ3 H3 X.xe I3 (stat fr3) st3 go) fun r s4 ⟨u,hr,h4⟩=>?_)
  subst hr
  refine wpAny_passesOwn hp (aU h4 fun _ s5 ⟨x,H5,I5,r5,y5,st5,fr5⟩=>?_)
  have I5':=I5.pinned (stat fr5) (T.obj _ _ st5)
  refine wpAny_passesOwn hp (aU (hg _ s5 σ3 H5 x u _ I5' r5 (step x H5 y5)) fun _ s6 ⟨σ6,H6,I6,q6⟩=>?_)
  refine wpAny_passesOwn hp (aU (hb _ s6 σ6 H6 _ I6 q6) fun f s7 q7=>?_)
  have again:∀ {σ7:St} {H7:Hp},Inv X (pins++jR fp s5.heap) σ7 H7 s7->N σ7 H7->∃ m,m < n/\∃ i σ' H',Inv X pins σ' H' s7/\tn i s7.heap/\(∀ b ∈ fp,H' b=none)/\W i m σ' H':=fun {σ7 H7} I7 n7=>by
   obtain⟨m',hm,w7⟩:=hN σ7 H7 n7
   refine⟨m',hm,i+1,σ7,H7,I7.fR,T.keep _ _ _ st5 fun b hb o e=>(I7.pin (b,o) (List.mem_append_right _ (List.mem_append_right _ (fj hb e)))).1,fun b hb=>?_,w7⟩
   obtain⟨o,e,d⟩:=T.obj _ _ st5 b hb
   exact (I7.pin (b,o) (List.mem_append_right _ (List.mem_append_right _ (fj hb e)))).2.1
  cases f with
  | next=>obtain⟨σ7,H7,I7,n7⟩:=q7;exact again I7 n7
  | cont=>obtain⟨σ7,H7,I7,n7⟩:=q7;exact again I7 n7
  | brk=>obtain⟨σ7,H7,I7,q7⟩:=q7;exact⟨σ7,H7,I7.fR,q7⟩
  | ret v=>obtain⟨x7,σ7,H7,I7,r7,q7⟩:=q7;exact⟨x7,σ7,H7,I7.fR,r7,q7⟩
end
theorem ji {lo:Int} {n:Nat} {g:TG} {tb:TS} {D:Ends} {σ : St} {H:Hp} (Pv:Nat->St->Hp->Prop) (h0:Pv 0 σ H)
  (hs:∀ i σ H,i < n->Pv i σ H->g (.int (lo+i)) σ H fun σ2 H2=>tb { D with nx:=Pv (i+1),ct:=Pv (i+1),bk:=D.nx } σ2 H2) (hd:∀ σ H,Pv n σ H->D.nx σ H) :
  ∃ W:Nat->Nat->St->Hp->Prop,(∃ m,W 0 m σ H)/\∀ i m σ H,W i m σ H ->
   ((rA lo n).stop i H/\D.nx σ H)\/((rA lo n).go i H/\∃ N:St->Hp->Prop,(∀ σ' H',N σ' H'->∃ m',m' < m/\W (i+1) m' σ' H')/\∀ x H',(rA lo n).xc i H x H'->g x σ H' fun σ2 H2=>tb { D with nx:=N,ct:=N,bk:=D.nx } σ2 H2):=by
 refine⟨fun i m σ H=>m=n - i/\i<=n/\Pv i σ H,⟨n,by simp,Nat.zero_le _,h0⟩,?_⟩
 rintro i m σ H ⟨rfl,hi,p⟩
 by_cases hlt:i < n
 ·refine .inr ⟨hlt,Pv (i+1),fun σ' H' p'=>⟨n - (i+1),by omega,rfl,hlt,p'⟩,fun x H' y=>?_⟩
  obtain⟨e,y⟩:=y
  subst e y
  exact hs i σ _ hlt p
 ·have e:i=n:=by omega
  subst e
  exact .inl ⟨Nat.le_refl _,hd σ H p⟩
abbrev R2:=V->V->Hp->VK->Prop
def cV (X:Cx) (f:Value->Value->Sem Value) (r:R2):Prop :=
 ∀ (pins:List (Addr × Obj)) (s:Shared) (σ : St) (H:Hp) (x y:V) (v u:Value) (Q:VK),Inv X pins σ H s->RelV x v->RelV y u->r x y H Q ->
  wpAny (model X.prog X.w) X.A (f v u) (EP X pins σ Q) X.xe s
def Cr (X:Cx) (f:Value->Sem Value) (r:V->Hp->VK->Prop):Prop :=
 ∀ (pins:List (Addr × Obj)) (s:Shared) (σ : St) (H:Hp) (x:V) (v:Value) (Q:VK),Inv X pins σ H s->RelV x v->r x H Q ->
  wpAny (model X.prog X.w) X.A (f v) (EP X pins σ Q) X.xe s
def eF (X:Cx) (f:Value) (r:List V->Hp->VK->Prop):Prop :=
 ∀ (pins:List (Addr × Obj)) (s:Shared) (σ : St) (H:Hp) (xs:List V) (us:List Value) (Q:VK),Inv X pins σ H s->Vals xs us->r xs H Q ->
  wpAny (model X.prog X.w) X.A (call f us) (EP X pins σ Q) X.xe s
def uv (r:R2) (ta tb:TE):TE:=fun σ H Q=>ta σ H fun x H1=>tb σ H1 fun y H2=>r x y H2 Q
def Fu (r:V->Hp->VK->Prop) (ta:TE):TE:=fun σ H Q=>ta σ H fun x H1=>r x H1 Q
inductive rI (C:Int->Int->Prop) (g:Int->Int->V) (x:V) (y:V) (H:Hp) (Q:VK):Prop
 | mk (i j:_) (_:x=.int i) (_:y=.int j) (_:C i j) (_:Q (g i j) H)
inductive pW (g:Int->Int->V) (x:V) (y:V) (H:Hp) (Q:VK):Prop
 | mk (i j:_) (_:x=.int i) (_:y=.int j) (_:Q (g i j) H)
inductive rU (g:Int->V) (x:V) (H:Hp) (Q:VK):Prop
 | mk (i:_) (_:x=.int i) (_:Q (g i) H)
section
variable {X:Cx} {a b c:Expr} {ta tb tc:TE} {pos:Pos}
theorem yY (ha:PE X a ta) (hb:PE X b tb) {pins:List (Addr × Obj)} {s:Shared} {σ : St} {H:Hp} {R:V->V->Hp->Prop} (I:Inv X pins σ H s)
  (h:ta σ H fun x H1=>tb σ H1 fun y H2=>R x y H2) {Q:Value->Shared->Prop} {f:Value->Value->Sem Value}
  (hf:∀ v u s2 x y H2,Inv X pins σ H2 s2->RelV x v->RelV y u->R x y H2->wpAny (model X.prog X.w) X.A (f v u) Q X.xe s2) :
  wpAny (model X.prog X.w) X.A (eval a X.env) (fun v s₁=>wpAny (model X.prog X.w) X.A (eval b X.env) (fun u s₂=>wpAny (model X.prog X.w) X.A (f v u) Q X.xe s₂) X.xe s₁) X.xe s:=by
 refine aU (ha pins s σ H _ I h) fun v s1 ⟨x,H1,I1,r1,q1⟩=>?_
 refine aU (hb pins s1 σ H1 _ I1 q1) fun u s2 ⟨y,H2,I2,r2,q2⟩=>?_
 exact hf v u s2 x y H2 I2 r1 r2 q2
theorem aH {op:Operator} {r:R2} (ho:cV X (binaryOp op) r) (ha:PE X a ta) (hb:PE X b tb):PE X (.BinOp a op b pos) (uv r ta tb):=by
 intro pins s σ H Q I h
 exact wpAny_BinOp (yY ha hb I h fun v u s2 x y H2 I2 rx ry q=>ho pins s2 σ H2 x y v u Q I2 rx ry q)
theorem j9 {op:UnaryOp} {r:V->Hp->VK->Prop} (ho:Cr X (unaryOp op) r) (ha:PE X a ta):PE X (.UnaryOp op a pos) (Fu r ta):=by
 intro pins s σ H Q I h
 exact UnaryOp_ (aU (ha pins s σ H _ I h) fun v s1 ⟨x,H1,I1,r1,q1⟩=>ho pins s1 σ H1 x v Q I1 r1 q1)
theorem uw {f:Value->Value->Sem Value} {C:Int->Int->Prop} {g:Int->Int->Int}
  (rule:∀ (i j:Int) (t u:Tok) (s:Shared) (Q:Value->Shared->Prop) (E:Value->Shared->Prop),C i j->Q (.int (g i j) s.toks) { s with toks:=s.toks+1 }->wpAny (model X.prog X.w) X.A (f (.int i t) (.int j u)) Q E s) :
  cV X f (rI C fun i j=>.int (g i j)):=by
 intro pins s σ H x y v u Q I rx ry h
 obtain⟨i,j,rfl,rfl,hc,q⟩:=h
 obtain⟨t,rfl⟩:=rx
 obtain⟨t',rfl⟩:=ry
 exact rule i j t t' s _ _ hc ⟨.int (g i j),H,I.tok _,⟨_,rfl⟩,q⟩
theorem Cs {f:Value->Value->Sem Value} {g:Int->Int->Int}
  (rule:∀ (i j:Int) (t u:Tok) (s:Shared) (Q:Value->Shared->Prop) (E:Value->Shared->Prop),Q (.int (g i j) s.toks) { s with toks:=s.toks+1 }->wpAny (model X.prog X.w) X.A (f (.int i t) (.int j u)) Q E s) :
  cV X f (pW fun i j=>.int (g i j)):=by
 intro pins s σ H x y v u Q I rx ry h
 obtain⟨i,j,rfl,rfl,q⟩:=h
 obtain⟨t,rfl⟩:=rx
 obtain⟨t',rfl⟩:=ry
 exact rule i j t t' s _ _ ⟨.int (g i j),H,I.tok _,⟨_,rfl⟩,q⟩
theorem vK {f:Value->Value->Sem Value} {g:Int->Int->Bool}
  (rule:∀ (i j:Int) (t u:Tok) (s:Shared) (Q:Value->Shared->Prop) (E:Value->Shared->Prop),Q (.bool (g i j)) s->wpAny (model X.prog X.w) X.A (f (.int i t) (.int j u)) Q E s) :
  cV X f (pW fun i j=>.bl (g i j)):=by
 intro pins s σ H x y v u Q I rx ry h
 obtain⟨i,j,rfl,rfl,q⟩:=h
 obtain⟨t,rfl⟩:=rx
 obtain⟨t',rfl⟩:=ry
 exact rule i j t t' s _ _ ⟨.bl (g i j),H,I,rfl,q⟩
def ES (i j:Int):Prop:=0 < j/\j < 1073741824
def ET (i j:Int):Prop:=0<=j/\j<=1000000/\i.natAbs < 2 ^ 64
def yZ (i j:Int):Prop:=(-(2 ^ 64) < i/\i < 2 ^ 64)\/(-(2 ^ 64) < j/\j < 2 ^ 64)
theorem yZ.ok {i j:Int} (h:yZ i j):IntMulOk i j:=by
 rcases h with ⟨h1,h2⟩ | ⟨h1,h2⟩
 ·exact .of_left (intBits_le_64 h1 h2)
 ·exact .of_right (intBits_le_64 h1 h2)
theorem bR:cV X (binaryOp .Add) (pW fun i j=>.int (i+j)):=Cs fun _ _ _ _ _ _ _ q=>add_int q
theorem iL:cV X (binaryOp .Sub) (pW fun i j=>.int (i - j)):=Cs fun _ _ _ _ _ _ _ q=>sub_int q
theorem jS:cV X (binaryOp .Mult) (rI yZ fun i j=>.int (i * j)):=uw fun _ _ _ _ _ _ _ hc q=>mul_int q hc.ok
theorem ux:cV X (binaryOp .FloorDiv) (rI ES fun i j=>.int (i / j)):=uw fun i j _ _ _ _ _ hc q=>by
 have h1:(0:Int) < j:=hc.1
 have h2:j < 1073741824:=hc.2
 exact floordiv_int (by omega) (by rw [Int.fdiv_eq_ediv_of_nonneg i (by omega)];exact q) (.inl (PyProof.noPylong_small (by omega)))
theorem iM:cV X (binaryOp .Mod) (rI (fun _ j=>0 < j) fun i j=>.int (i % j)):=uw fun i j _ _ _ _ _ hc q=>by
 have h1:(0:Int) < j:=hc
 exact mod_int' (by omega) (by rw [Int.fmod_eq_emod_of_nonneg i (by omega)];exact q)
theorem nZ:cV X (binaryOp .Pow) (rI ET fun i j=>.int (i ^ j.toNat)):=uw fun _ _ _ _ _ _ _ hc q=>pow_int_small hc.1 hc.2.1 hc.2.2 q
theorem Fv {f:Value->Sem Value} {g:Int->Int}
  (rule:∀ (i:Int) (t:Tok) (s:Shared) (Q:Value->Shared->Prop) (E:Value->Shared->Prop),Q (.int (g i) s.toks) { s with toks:=s.toks+1 }->wpAny (model X.prog X.w) X.A (f (.int i t)) Q E s) :
  Cr X f (rU fun i=>.int (g i)):=by
 intro pins s σ H x v Q I rx h
 obtain⟨i,rfl,q⟩:=h
 obtain⟨t,rfl⟩:=rx
 exact rule i t s _ _ ⟨.int (g i),H,I.tok _,⟨_,rfl⟩,q⟩
theorem iN:Cr X (unaryOp .USub) (rU fun i=>.int (-i)):=Fv fun _ _ _ _ _ q=>neg_int q
end
def Ct:V->V->Bool
 | .aW,.aW=>true | .aW,.int _=>true | .int _,.aW=>true | .aW,.bl _=>true | .bl _,.aW=>true | .aW,.str _=>true | .str _,.aW=>true
 | .int _,.int _=>true | .bl _,.bl _=>true | .str _,.str _=>true | .jM _,.jM _=>true
 | .int _,.str _=>true | .str _,.int _=>true | .bl _,.str _=>true | .str _,.bl _=>true
 | _,_=>false
def Fw:R2:=fun x y H Q=>Ct x y=true/\Q (.bl (decide (x=y))) H
def Fx:R2:=fun x y H Q=>Ct x y=true/\Q (.bl (!decide (x=y))) H
theorem uy {i j:Int}:decide (V.int i=V.int j)=(i == j):=by
 rw [Bool.eq_iff_iff]
 simp
theorem xh {i j:Bool}:decide (V.bl i=V.bl j)=(i == j):=by
 rw [Bool.eq_iff_iff]
 simp
theorem uz {i j:Str}:decide (V.str i=V.str j)=(i == j):=by
 rw [Bool.eq_iff_iff]
 simp
theorem uA {i j:Array UInt8}:decide (V.jM i=V.jM j)=(i.toList == j.toList):=by
 rw [Bool.eq_iff_iff]
 cases i
 cases j
 simp
section
variable {X:Cx} {a b c:Expr} {ta tb tc:TE} {pos:Pos}
theorem bN {pins:List (Addr × Obj)} {σ : St} {H:Hp} {s:Shared} {Q:VK} {k k':Bool} (I:Inv X pins σ H s) (q:Q (.bl k) H) (e:k=k'):EP X pins σ Q (.bool k') s:=by
 subst e
 exact⟨.bl k,H,I,rfl,q⟩
theorem bW:cV X (compareOp .Eq) Fw:=by
 intro pins s σ H x y v u Q I rx ry h
 obtain⟨hs,q⟩:=h
 cases x with
 | aW =>
  cases rx
  cases y with
  | aW=>cases ry;exact PySem.EqNone.eq_none_none (bN I q (by simp))
  | bl j=>cases ry;exact PySem.EqNone.eq_none_bool (bN I q (by simp))
  | int j=>obtain⟨t',rfl⟩:=ry;exact PySem.EqNone.eq_none_int (bN I q (by simp))
  | str j=>obtain⟨t',rfl⟩:=ry;exact PySem.EqNone.eq_none_str (bN I q (by simp))
  | _=>exact absurd (show false=true from hs) Bool.false_ne_true
 | bl i =>
  cases rx
  cases y with
  | aW=>cases ry;exact PySem.EqNone.eq_bool_none (bN I q (by simp))
  | bl j=>cases ry;exact eq_bool (bN I q xh)
  | str j=>obtain⟨t',rfl⟩:=ry;exact PySem.EqMixed.eq_bool_str (bN I q (by simp))
  | _=>exact absurd (show false=true from hs) Bool.false_ne_true
 | int i =>
  obtain⟨t,rfl⟩:=rx
  cases y with
  | aW=>cases ry;exact PySem.EqNone.eq_int_none (bN I q (by simp))
  | int j=>obtain⟨t',rfl⟩:=ry;exact eq_int (bN I q uy)
  | str j=>obtain⟨t',rfl⟩:=ry;exact PySem.EqMixed.eq_int_str (bN I q (by simp))
  | _=>exact absurd (show false=true from hs) Bool.false_ne_true
 | str i =>
  obtain⟨t,rfl⟩:=rx
  cases y with
  | aW=>cases ry;exact PySem.EqNone.eq_str_none (bN I q (by simp))
  | bl j=>cases ry;exact PySem.EqMixed.eq_str_bool (bN I q (by simp))
  | int j=>obtain⟨t',rfl⟩:=ry;exact PySem.EqMixed.eq_str_int (bN I q (by simp))
  | str j=>obtain⟨t',rfl⟩:=ry;exact eq_str (bN I q uz)
  | _=>exact absurd (show false=true from hs) Bool.false_ne_true
 | jM i =>
  obtain⟨t,rfl⟩:=rx
  cases y with
  | jM j=>obtain⟨t',rfl⟩:=ry;exact PySem.W.eq_bytes (bN I q uA)
  | _=>exact absurd (show false=true from hs) Bool.false_ne_true
 | _=>cases y <;> exact absurd (show false=true from hs) Bool.false_ne_true
theorem oa:cV X (compareOp .NotEq) Fx:=by
 intro pins s σ H x y v u Q I rx ry h
 obtain⟨hs,q⟩:=h
 cases x with
 | aW =>
  cases rx
  cases y with
  | aW=>cases ry;exact PySem.EqNone.ne_none_none (bN I q (by simp))
  | bl j=>cases ry;exact PySem.EqNone.ne_none_bool (bN I q (by simp))
  | int j=>obtain⟨t',rfl⟩:=ry;exact PySem.EqNone.ne_none_int (bN I q (by simp))
  | str j=>obtain⟨t',rfl⟩:=ry;exact PySem.EqNone.ne_none_str (bN I q (by simp))
  | _=>exact absurd (show false=true from hs) Bool.false_ne_true
 | bl i =>
  cases rx
  cases y with
  | aW=>cases ry;exact PySem.EqNone.ne_bool_none (bN I q (by simp))
  | bl j=>cases ry;exact ne_bool (bN I q (congrArg not xh))
  | str j=>obtain⟨t',rfl⟩:=ry;exact PySem.EqMixed.ne_bool_str (bN I q (by simp))
  | _=>exact absurd (show false=true from hs) Bool.false_ne_true
 | int i =>
  obtain⟨t,rfl⟩:=rx
  cases y with
  | aW=>cases ry;exact PySem.EqNone.ne_int_none (bN I q (by simp))
  | int j=>obtain⟨t',rfl⟩:=ry;exact ne_int (bN I q (congrArg not uy))
  | str j=>obtain⟨t',rfl⟩:=ry;exact PySem.EqMixed.ne_int_str (bN I q (by simp))
  | _=>exact absurd (show false=true from hs) Bool.false_ne_true
 | str i =>
  obtain⟨t,rfl⟩:=rx
  cases y with
  | aW=>cases ry;exact PySem.EqNone.ne_str_none (bN I q (by simp))
  | bl j=>cases ry;exact PySem.EqMixed.ne_str_bool (bN I q (by simp))
  | int j=>obtain⟨t',rfl⟩:=ry;exact PySem.EqMixed.ne_str_int (bN I q (by simp))
  | str j=>obtain⟨t',rfl⟩:=ry;exact ne_str (bN I q (congrArg not uz))
  | _=>exact absurd (show false=true from hs) Bool.false_ne_true
 | jM i =>
  obtain⟨t,rfl⟩:=rx
  cases y with
  | jM j=>obtain⟨t',rfl⟩:=ry;exact PySem.W.ne_bytes (bN I q (congrArg not uA))
  | _=>exact absurd (show false=true from hs) Bool.false_ne_true
 | _=>cases y <;> exact absurd (show false=true from hs) Bool.false_ne_true
theorem kd:cV X (compareOp .Lt) (pW fun i j=>.bl (decide (i < j))):=vK fun _ _ _ _ _ _ _ q=>lt_int q
theorem ke:cV X (compareOp .LtE) (pW fun i j=>.bl (decide (i<=j))):=vK fun _ _ _ _ _ _ _ q=>le_int q
theorem iC:cV X (compareOp .Gt) (pW fun i j=>.bl (decide (j < i))):=vK fun _ _ _ _ _ _ _ q=>gt_int q
theorem DN:cV X (compareOp .GtE) (pW fun i j=>.bl (decide (j<=i))):=vK fun _ _ _ _ _ _ _ q=>ge_int q
theorem aK (b:Expr) {op:CmpOp} (h:op ≠ .In:=by decide) (h2:op ≠ .NotIn:=by decide):behindInMarks op b=false:=by
 have e1:(op == CmpOp.In)=false:=by cases op <;> first | rfl | exact absurd rfl h
 have e2:(op == CmpOp.NotIn)=false:=by cases op <;> first | rfl | exact absurd rfl h2
 cases b <;> simp [behindInMarks,e1,e2]
theorem mq {op:CmpOp} {r:R2} (ho:cV X (compareOp op) r) (ha:PE X a ta) (hb:PE X b tb) (hm:behindInMarks op b=false):PE X (.Compare a [op] [b] pos) (uv r ta tb):=by
 intro pins s σ H Q I h
 exact wpAny_Compare1 (yY ha hb I h fun v u s2 x y H2 I2 rx ry q=>ho pins s2 σ H2 x y v u Q I2 rx ry q) hm
inductive y7 (Q:(Bool->Hp->Prop)) (x:V) (H':Hp):Prop
 | mk (k:_) (_:x=.bl k) (_:Q k H')
def z9 (t:TE):TT:=fun σ H Q=>t σ H fun x H'=>y7 Q x H'
theorem aB {op:CmpOp} {r:R2} (ho:cV X (compareOp op) r) (ha:PE X a ta) (hb:PE X b tb) (hm:behindInMarks op b=false):PT X (.Compare a [op] [b] pos) (z9 (uv r ta tb)):=by
 intro pins s σ H Q I h
 refine wpAny_isTrue_Compare1 (aU (ha pins s σ H _ I h) fun v s1 ⟨x,H1,I1,r1,q1⟩=>aU (hb pins s1 σ H1 _ I1 q1) fun u s2 ⟨y,H2,I2,r2,q2⟩ =>
  aU (ho pins s2 σ H2 x y v u _ I2 r1 r2 q2) fun c s3 ⟨z,H3,I3,r3,k,e,q3⟩=>?_) hm
 subst e
 cases r3
 exact wpAny_truthy_bool ⟨H3,I3,q3⟩
inductive xj (r':R2) (tc:TE) (σ : St) (Q:VK) (y:V) (z:V) (H3:Hp):Prop
 | mk (k:_) (_:z=.bl k) (_:(if k=true then tc σ H3 fun w' H4=>r' y w' H4 Q else Q (.bl false) H3))
def xk (r r':R2) (ta tb tc:TE):TE:=fun σ H Q=>ta σ H fun x H1=>tb σ H1 fun y H2=>r x y H2 fun z H3=>xj r' tc σ Q y z H3
theorem mZ {op op':CmpOp} {r r':R2} (ho:cV X (compareOp op) r) (ho':cV X (compareOp op') r') (ha:PE X a ta) (hb:PE X b tb) (hc:PE X c tc)
  (hm:lastMarks [op,op'] [b,c] = false:=by with_unfolding_all rfl):PE X (.Compare a [op,op'] [b,c] pos) (xk r r' ta tb tc):=by
 intro pins s σ H Q I h
 refine Compare_chain (aU (ha pins s σ H _ I h) fun v s1 ⟨x,H1,I1,r1,q1⟩=>chain_link (aU (hb pins s1 σ H1 _ I1 q1) fun u s2 ⟨y,H2,I2,r2,q2⟩ =>
  aU (ho pins s2 σ H2 x y v u _ I2 r1 r2 q2) fun d s3 ⟨z,H3,I3,r3,k,e,q3⟩=>?_)) hm
 subst e
 cases r3
 refine wpAny_truthy_bool ?_
 cases k with
 | false=>exact ite_ff ⟨.bl false,H3,I3,rfl,q3⟩
 | true=>exact ite_tt (chain_last (aU (hc pins s3 σ H3 _ I3 q3) fun w' s4 ⟨z',H4,I4,r4,q4⟩=>ho' pins s4 σ H4 y z' u w' Q I4 r2 r4 q4))
theorem m4 {op op':CmpOp} {r r':R2} (ho:cV X (compareOp op) r) (ho':cV X (compareOp op') r') (ha:PE X a ta) (hb:PE X b tb) (hc:PE X c tc)
  (hm:lastMarks [op,op'] [b,c] = false:=by with_unfolding_all rfl):PT X (.Compare a [op,op'] [b,c] pos) (z9 (xk r r' ta tb tc)):=by
 intro pins s σ H Q I h
 refine isTrue_chain (aU (ha pins s σ H _ I h) fun v s1 ⟨x,H1,I1,r1,q1⟩=>test_link (aU (hb pins s1 σ H1 _ I1 q1) fun u s2 ⟨y,H2,I2,r2,q2⟩ =>
  aU (ho pins s2 σ H2 x y v u _ I2 r1 r2 q2) fun d s3 ⟨z,H3,I3,r3,k,e,q3⟩=>?_)) hm
 subst e
 cases r3
 refine wpAny_truthy_bool ?_
 cases k with
 | false =>
  obtain⟨k',e',q'⟩:=q3
  cases e'
  exact ite_ff ⟨H3,I3,q'⟩
 | true =>
  refine ite_tt (test_last (aU (hc pins s3 σ H3 _ I3 q3) fun w' s4 ⟨z',H4,I4,r4,q4⟩=>aU (ho' pins s4 σ H4 y z' u w' _ I4 r2 r4 q4) fun d' s5 ⟨z2,H5,I5,r5,k2,e2,q5⟩=>?_))
  subst e2
  cases r5
  exact wpAny_truthy_bool ⟨H5,I5,q5⟩
theorem jT:(sizeLine:Nat) < 2 ^ 63:=by rw [sizeLine_eq];decide
theorem cu:cV X (binaryOp .Add) (fun x y H Q=>∃ i j,x=.str i/\y=.str j/\i.length+j.length<=sizeLine/\Q (.str (i++j)) H):=by
 intro pins s σ H x y v u Q I rx ry h
 obtain⟨i,j,rfl,rfl,hz,q⟩:=h
 obtain⟨t,rfl⟩:=rx
 obtain⟨t',rfl⟩:=ry
 exact add_str (fun t' tk=>⟨.str (i++j),H,I.tok _,⟨_,rfl⟩,q⟩) hz
theorem vals1 {x:V} {us:List Value} (r:Vals [x] us):∃ u,us = [u]/\RelV x u:=by
 cases r with
 | cons r1 r2=>cases r2;exact⟨_,rfl,r1⟩
theorem vals2 {x y:V} {us:List Value} (r:Vals [x,y] us):∃ u w',us = [u,w']/\RelV x u/\RelV y w':=by
 cases r with
 | cons r1 r2 =>
  cases r2 with
  | cons r3 r4=>cases r4;exact⟨_,_,rfl,r1,r3⟩
theorem xl (hc:X.calm=true):eF X (.builtin "max") (fun xs H Q=>∃ i j,xs = [.int i,.int j]/\Q (.int (if j > i then j else i)) H):=by
 intro pins s σ H xs us Q I r h
 obtain⟨i,j,rfl,q⟩:=h
 obtain⟨u,w',rfl,⟨t,rfl⟩,⟨t',rfl⟩⟩:=vals2 r
 refine max_two_ints (I.ok.hd hc) fun h' tk k=>⟨_,H,I.kept k,?_,q⟩
 by_cases hj:j > i
 ·rw [if_pos hj,if_pos hj];exact⟨_,rfl⟩
 ·rw [if_neg hj,if_neg hj];exact⟨_,rfl⟩
theorem xm (hc:X.calm=true):eF X (.builtin "min") (fun xs H Q=>∃ i j,xs = [.int i,.int j]/\Q (.int (if j < i then j else i)) H):=by
 intro pins s σ H xs us Q I r h
 obtain⟨i,j,rfl,q⟩:=h
 obtain⟨u,w',rfl,⟨t,rfl⟩,⟨t',rfl⟩⟩:=vals2 r
 refine min_two_ints (I.ok.hd hc) fun h' tk k=>⟨_,H,I.kept k,?_,q⟩
 by_cases hj:j < i
 ·rw [if_pos hj,if_pos hj];exact⟨_,rfl⟩
 ·rw [if_neg hj,if_neg hj];exact⟨_,rfl⟩
theorem xn:eF X (.type "int") (fun xs H Q=>(∃ i,xs = [.int i]/\Q (.int i) H)\/∃ k,xs = [.bl k]/\Q (.int (if k then 1 else 0)) H):=by
 intro pins s σ H xs us Q I r h
 rcases h with ⟨i,rfl,q⟩ | ⟨k,rfl,q⟩
 ·obtain⟨u,rfl,t,rfl⟩:=vals1 r
  exact call_int_int ⟨.int i,H,I,⟨_,rfl⟩,q⟩
 ·obtain⟨u,rfl,r1⟩:=vals1 r
  cases r1
  exact call_int_bool ⟨.int (if k then 1 else 0),H,I.tok _,⟨_,rfl⟩,q⟩
end
structure m5 (h:Heap) (x dx C:Addr) (mA:Str->Option Value):Prop where
 obj:h.get? x=some (PySem.W.instObj C dx)
 ns:h.Ns1 dx mA
 ne:dx ≠ x
theorem pX {h:Heap} {dx:Addr} {mA:Str->Option Value} (n:h.Ns1 dx mA):∃ od,h.get? dx=some od/\∀ name,PySem.W.lookIn name od=some (mA name):=by
 obtain⟨o,es,ep,ho,hd,hk,_,hm⟩:=n
 refine⟨o,ho,fun name=>?_⟩
 have e:=hm name
 unfold nsFind findBy at e
 rw [<-Array.find?_toList] at e
 unfold PySem.W.lookIn
 rw [hd]
 dsimp only
 split
 ·rename_i y q
  rw [q] at e
  exact congrArg some e
 ·rename_i q
  rw [q] at e
  have a:es.toList.any (·.refKey)=false:=by
   rw [List.any_eq_false]
   intro y hy
   obtain⟨z,t,hkey⟩:=hk y (Array.mem_toList_iff.mp hy)
   simp [DictEntry.refKey,hkey]
  have a':¬ es.toList.any (·.refKey)=true:=by rw [a];exact Bool.false_ne_true
  rw [if_neg a']
  exact congrArg some e
theorem m5.look {h:Heap} {x dx C:Addr} {mA:Str->Option Value} (I:m5 h x dx C mA):∃ od,PySem.W.InstAt h x (PySem.W.instObj C dx) C (some od)/\∀ name,PySem.W.lookIn name od=some (mA name) :=
 let ⟨od,ho,hl⟩:=pX I.ns
 ⟨od,⟨I.obj,rfl,rfl,ho⟩,hl⟩
section
variable {prog:Program} {w:World} {A:Around} {E:Value->Shared->Prop} {s:Shared} {K:PySem.W.Frag} {x dx C f:Addr} {mA:Str->Option Value} {name:Str} {v:Value}
theorem get_map {expr:Bool} {Q:Value->Shared->Prop} (X:K.In s.heap) (I:m5 s.heap x dx C mA) (hg:PySem.W.plainGet K C name=true) (hh:PySem.W.hasDictIn K C=true)
  (ha:PySem.W.findIn K (.ref C) name=some none) (hv:mA name=some v) (hv':PySem.W.handedIn v=true) (h:Q v { s with toks:=s.toks+1 }) :
  wpAny (model prog w) A (getAttr (.ref x) name expr) Q E s:=by
 obtain⟨od,J,hl⟩:=I.look
 exact PySem.W.get_value X J (PySem.W.plainGet_of hg).1 (PySem.W.findObj_own hh ha rfl (by rw [hl,hv])) hv' h
theorem y8 {pl:Sem Bool} {Q:Value × List Value->Shared->Prop} (X:K.In s.heap) (I:m5 s.heap x dx C mA) (hg:PySem.W.plainGet K C name=true)
  (hf:PySem.W.findIn K (.ref C) name=some (some (.ref f))) (ht:PySem.W.isFn K (.ref f)=true) (hv:mA name=none) (h:Q (.ref f,[.ref x]) s) :
  wpAny (model prog w) A (getMethod (.ref x) name pl) Q E s:=by
 obtain⟨od,J,hl⟩:=I.look
 exact PySem.W.method_fn X J (PySem.W.plainGet_of hg).1 (PySem.W.plainGet_of hg).2 hf (beq_iff_eq.mp ht) (by show (PySem.W.lookIn name od).map (·.isSome)=some false;rw [hl,hv];rfl) h
theorem AL {ns:List Str} {Q:Unit->Shared->Prop} (X:K.In s.heap) (I:m5 s.heap x dx C mA)
  (hs:PySem.W.findIn K (.ref C) "__setattr__" = some (some (.builtin "object.__setattr__"))) (hp:PySem.W.plainOver K C=true) (ht:PySem.W.takerIn K C name=some none) (hh:PySem.W.hasDictIn K C=true)
  (hw:PySem.Within mA ns) (hsz:ns.length<=sizeLine)
  (h:∀ h',m5 h' x dx C (fun y=>if y=name then some v else mA y)->Heap.SameBut dx s.heap h'->Q () { s with heap:=h',toks:=s.toks+2 }) :
  wpAny (model prog w) A (setAttr (.ref x) name v) Q E s:=by
 obtain⟨od,J,hl⟩:=I.look
 refine PySem.W.set_plain X J hs (PySem.W.osa_open (s:={ s with toks:=s.toks+1 }) (r:=none) X J hp ht fun b=>?_)
 obtain⟨cd,hc,hd'⟩:=PySem.W.any_some hh
 have hx:s.heap.get? x=some ⟨.ref C,some dx,.plain,#[]⟩:=I.obj
 refine wpAny_bind (wpAny_pure (wpAny_bind (wpAny_bind (wpAny_loadPart hx (wpAny_bind (PySem.W.Looks.here (s:={ s with toks:=s.toks+1 }) (PySem.W.looks_clsIn X hc) ?_))))))
 rw [hd']
 refine wpAny_pure (a:=some dx) (wpAny_bind (wpAny_pure (wpAny_bind ?_)))
 refine wpAny_nsSet1 (s:={ s with toks:=s.toks+1 }) I.ns fun h' hn2 hs2=>?_
 obtain⟨oD,esD,epD,hoD,hdD,hcD⟩:=hn2.count (PySem.Within.cons name v hw)
 refine wpAny_bind (wpAny_lookBehind hoD (by rw [hdD];exact pastItsLine_dict (Nat.le_trans hcD (by rw [List.length_cons];omega))) ?_)
 exact wpAny_pure (h _ ⟨(hs2.2 _ (Ne.symm I.ne)).trans I.obj,hn2,I.ne⟩ hs2)
theorem y9 {R:Result->Shared->Prop} {vs:List Value} {kw:List (Str × Value)} (X:K.In s.heap) (hm:PySem.W.makesIn K C=true)
  (hi:PySem.W.findIn K (.ref C) "__init__" = some (some (.ref f))) (hf:PySem.W.typeIn K (.ref f)=some (.type "function"))
  (h:codeAny (model prog w) (A.under (.builtin "type.__call__" ⟨.ref C :: vs,kw⟩)) (.call (.ref f) ⟨.ref (s.heap.objs.size+1) :: vs,kw⟩) (PySem.W.InitBack (s.heap.objs.size+1) R)
   { s with heap:=(s.heap.push PySem.W.emptyDict).push (PySem.W.instObj C s.heap.objs.size) }) :
  codeAny (model prog w) A (.call (.ref C) ⟨vs,kw⟩) R s:=by
 obtain⟨hh,g,d,t,os⟩:=s
 exact PySem.W.make_core (PySem.W.makes_of X hm) (PySem.W.looks_findIn X hi) (fun self=>PySem.W.bind_fn X self hf) (.inl rfl) h
end
def fD (f:Str) (v:V):List (Str × V)->List (Str × V)
 | []=>[(f,v)]
 | (g,x) :: r=>if g=f then (g,v) :: r else (g,x) :: fD f v r
theorem mH (f g:Str) (v:V):∀ fs:List (Str × V),(fD f v fs).lookup g=if g=f then some v else fs.lookup g
 | []=>by
  show List.lookup g [(f,v)] = _
  by_cases h:g=f
  ·have hb:(g == f)=true:=beq_iff_eq.mpr h
   simp only [List.lookup,hb,if_pos h]
  ·have hb:(g == f)=false:=beq_eq_false_iff_ne.mpr h
   simp only [List.lookup,hb,if_neg h]
 | (k,x) :: r=>by
  have ih:=mH f g v r
  rw [show fD f v ((k,x) :: r)=(if k=f then (k,v) :: r else (k,x) :: fD f v r) from rfl]
  by_cases hk:k=f
  ·rw [if_pos hk]
   by_cases h:g=k
   ·have hb:(g == k)=true:=beq_iff_eq.mpr h
    simp only [List.lookup,hb,if_pos (h.trans hk)]
   ·have hb:(g == k)=false:=beq_eq_false_iff_ne.mpr h
    simp only [List.lookup,hb,if_neg (fun e:g=f=>h (e.trans hk.symm))]
  ·rw [if_neg hk]
   by_cases h:g=k
   ·have hb:(g == k)=true:=beq_iff_eq.mpr h
    simp only [List.lookup,hb,if_neg (fun e:g=f=>hk (h.symm.trans e))]
   ·have hb:(g == k)=false:=beq_eq_false_iff_ne.mpr h
    simp only [List.lookup,hb]
    exact ih
theorem lg (f:Str) (v:V):∀ fs:List (Str × V),f ∈ (fD f v fs).map (·.1)/\∀ g,g ∈ fs.map (·.1)->g ∈ (fD f v fs).map (·.1)
 | []=>⟨by simp [fD],fun g h=>by simp at h⟩
 | (k,x) :: r=>by
  obtain⟨i1,i2⟩:=lg f v r
  rw [show fD f v ((k,x) :: r)=(if k=f then (k,v) :: r else (k,x) :: fD f v r) from rfl]
  by_cases hk:k=f
  ·rw [if_pos hk]
   subst hk
   exact⟨by simp,fun g h=>by simpa using h⟩
  ·rw [if_neg hk]
   refine⟨?_,fun g h=>?_⟩
   ·rw [List.map_cons]
    exact List.mem_cons_of_mem _ i1
   ·rw [List.map_cons] at h ⊢
    rcases List.mem_cons.mp h with e | e
    ·exact List.mem_cons.mpr (.inl e)
    ·exact List.mem_cons_of_mem _ (i2 g e)
theorem mI (f:Str) (v:V):∀ fs:List (Str × V),(fD f v fs).length<=fs.length+1
 | []=>by simp [fD]
 | (k,x) :: r=>by
  have ih:=mI f v r
  rw [show fD f v ((k,x) :: r)=(if k=f then (k,v) :: r else (k,x) :: fD f v r) from rfl]
  by_cases hk:k=f
  ·rw [if_pos hk,List.length_cons,List.length_cons];omega
  ·rw [if_neg hk,List.length_cons,List.length_cons];omega
theorem fA.some_of {v:V} {o:Option Value} (r:fA (some v) o):∃ u,o=some u/\RelV v u:=by
 cases o with
 | none=>exact (show False from r).elim
 | some u=>exact⟨u,rfl,r⟩
theorem fA.none_of {o:Option Value} (r:fA none o):o=none:=by
 cases o with
 | none=>rfl
 | some u=>exact (show False from r).elim
theorem xo {v:V} {u:Value} (r:RelV v u):PySem.W.handedIn u=true:=by
 cases v with
 | aW=>cases (show u=Value.none from r);rfl
 | bl b=>cases (show u=Value.bool b from r);rfl
 | int i=>obtain⟨t,e⟩:=(show ∃ t,u=Value.int i t from r);cases e;rfl
 | str x=>obtain⟨t,e⟩:=(show ∃ t,u=Value.str x t from r);cases e;rfl
 | jM b=>obtain⟨t,e⟩:=(show ∃ t,u=Value.bytes b t from r);cases e;rfl
 | pT b=>obtain⟨t,e⟩:=(show ∃ t,u=Value.float b t from r);cases e;rfl
 | ref a=>cases (show u=Value.ref a from r);rfl
 | ty n=>cases (show u=Value.type n from r);rfl
section
variable {P:Program} {w:World} {H H':Hp} {h h':Heap} {a C dx:Addr} {fs fs':List (Str × V)}
theorem mr (au:bZ P w H h) (e:H a=some (.ins C dx fs)):∃ mA,m5 h a dx C mA/\(∀ f,fA (fs.lookup f) (mA f))/\PySem.Within mA (fs.map (·.1))/\fs.length<=1000/\H dx=some (.own a):=by
 obtain⟨d,z,ne,ob,mA,n,r,q⟩:=(show bw P w H h a (.ins C dx fs) from au a _ e)
 exact⟨mA,⟨ob,n,ne⟩,r,q,z,d⟩
end
structure kQ (K:PySem.W.Frag) (C:Addr):Prop where
 pg:PySem.W.plainGet K C Str.empty=true
 hd:PySem.W.hasDictIn K C=true
 po:PySem.W.plainOver K C=true
 sa:PySem.W.findIn K (.ref C) "__setattr__" = some (some (.builtin "object.__setattr__"))
theorem kQ.get {K:PySem.W.Frag} {C:Addr} (c:kQ K C) (f:Str):PySem.W.plainGet K C f=true:=c.pg
def iP (K:PySem.W.Frag) (C:Addr) (f:Str):Prop:=PySem.W.findIn K (.ref C) f=some none
theorem iP.DO {K:PySem.W.Frag} {C:Addr} {f:Str} (n:iP K C f):PySem.W.takerIn K C f=some none:=by
 unfold PySem.W.takerIn
 rw [show PySem.W.findIn K (.ref C) f=some none from n]
 rfl
structure Meth (K:PySem.W.Frag) (C:Addr) (m:Str) (f:Addr):Prop where
 at_:PySem.W.findIn K (.ref C) m=some (some (.ref f))
 fn:PySem.W.isFn K (.ref f)=true
 kp:PySem.W.keepIn K (.ref f)=true
section
variable {X:Cx} {pins:List (Addr × Obj)} {σ : St} {H:Hp} {s:Shared} {a C dx:Addr} {fs:List (Str × V)} {f:Str} {v:V} {A:Around} {E:Value->Shared->Prop}
theorem vL {b:Bool} {Q:Value->Shared->Prop} (I:Inv X pins σ H s) (e:H a=some (.ins C dx fs)) (c:kQ X.K C) (n:iP X.K C f) (l:fs.lookup f=some v)
  (h:∀ u s',Inv X pins σ H s'->RelV v u->Q u s'):wpAny (model X.prog X.w) A (getAttr (.ref a) f b) Q E s:=by
 obtain⟨mA,O,r,_,_,_⟩:=mr I.au e
 obtain⟨u,hu,ru⟩:=fA.some_of (v:=v) (o:=mA f) (by rw [<-l];exact r f)
 exact get_map I.cy O (c.get f) c.hd n hu (xo ru) (h u _ (I.tok _) ru)
theorem vM {m:Str} {g:Addr} {pl:Sem Bool} {Q:Value × List Value->Shared->Prop} (I:Inv X pins σ H s) (e:H a=some (.ins C dx fs)) (c:kQ X.K C) (k:Meth X.K C m g) (l:fs.lookup m=none)
  (h:Q (.ref g,[.ref a]) s):wpAny (model X.prog X.w) A (getMethod (.ref a) m pl) Q E s:=by
 obtain⟨mA,O,r,_,_,_⟩:=mr I.au e
 have hn:mA m=none:=fA.none_of (by rw [<-l];exact r m)
 exact y8 I.cy O (c.get m) k.at_ k.fn hn h
theorem vP {y:V} {u:Value} {Q:Unit->Shared->Prop} (I:Inv X pins σ H s) (e:H a=some (.ins C dx fs)) (c:kQ X.K C) (n:iP X.K C f) (hl:fs.length < 1000) (ry:RelV y u)
  (h:∀ s',Inv X pins σ (upd H a (.ins C dx (fD f y fs))) s'->Q () s'):wpAny (model X.prog X.w) A (setAttr (.ref a) f u) Q E s:=by
 obtain⟨mA,O,r,wi,_,ho⟩:=mr I.au e
 have hz:(fs.map (·.1)).length<=sizeLine:=by rw [List.length_map,sizeLine_eq];omega
 refine AL I.cy O c.sa c.po n.DO c.hd wi hz fun h' O' sb=>h _ ?_
 have hd:∃ o,h'.get? dx=some o:=let ⟨o,_,_,e',_⟩:=O'.ns;⟨o,e'⟩
 refine I.write (x:=a) (e:=dx) (by rw [e];exact True.intro) (.inr ho) (fun b q hb z=>(sb.2 b hb).trans z) hd ?_
 refine⟨by rw [ar O.ne];exact ho,?_,O.ne,O'.obj,_,O'.ns,fun g=>?_,fun g hg=>?_⟩
 ·have:=mI f y fs;omega
 ·show fA ((fD f y fs).lookup g) (if g=f then some u else mA g)
  rw [mH]
  by_cases q:g=f
  ·rw [if_pos q,if_pos q];exact ry
  ·rw [if_neg q,if_neg q];exact r g
 ·by_cases q:g=f
  ·rw [q];exact (lg f y fs).1
  ·refine (lg f y fs).2 g (wi g fun z=>hg ?_)
   show (if g=f then some u else mA g)=none
   rw [if_neg q];exact z
theorem Inv.made (I:Inv X pins σ H s):Inv X pins σ (upd (upd H s.heap.objs.size (.own (s.heap.objs.size+1))) (s.heap.objs.size+1) (.ins C s.heap.objs.size []))
  { s with heap:=(s.heap.push PySem.W.emptyDict).push (PySem.W.instObj C s.heap.objs.size) }:=by
 have e1:(s.heap.push PySem.W.emptyDict).get? s.heap.objs.size=some PySem.W.emptyDict:=Heap.get?_push_size s.heap rfl
 have e2:((s.heap.push PySem.W.emptyDict).push (PySem.W.instObj C s.heap.objs.size)).get? (s.heap.objs.size+1)=some (PySem.W.instObj C s.heap.objs.size):=by
  have:=Heap.get?_push_size (s.heap.push PySem.W.emptyDict) (o:=PySem.W.instObj C s.heap.objs.size) rfl
  rwa [Heap.size_push] at this
 have e3:(s.heap.push PySem.W.emptyDict).Ns s.heap.objs.size (fun _=>none):=⟨PySem.W.emptyDict,#[],_,e1,rfl,(fun e he=>absurd he (by simp)),fun _=>rfl⟩
 have I1:=I.laid (a:=s.heap.objs.size) (o:=.own (s.heap.objs.size+1)) (h':=s.heap.push PySem.W.emptyDict) (t':=s.toks) (fun b u q=>Heap.get?_push_of_some _ q) (Nat.le_refl _) ⟨_,e1⟩
 refine I1.laid (a:=s.heap.objs.size+1) (o:=.ins C s.heap.objs.size []) (t':=s.toks) (fun b u q=>Heap.get?_push_of_some _ q) (Nat.le_of_eq (Heap.size_push _ _)) ?_
 have ne:s.heap.objs.size ≠ s.heap.objs.size+1:=Nat.ne_of_lt (Nat.lt_succ_self _)
 refine⟨by rw [ar ne,aa],Nat.zero_le _,ne,e2,fun _=>none,(Heap.Ns1.of_empty e3).at fun o q=>Heap.get?_push_of_some _ q,fun _=>True.intro,fun y hy=>absurd rfl hy⟩
theorem uB {prog:Program} {w:World} {env:Env} {e:Expr} {f:Str} {pos:Pos} {s:Shared} {Q:Value->Shared->Prop} (hb:attributeBase e f env (eval e env)=eval e env)
  (h:wpAny (model prog w) A (eval e env) (fun o s₁=>wpAny (model prog w) A (getAttr o f true) Q E s₁) E s):wpAny (model prog w) A (eval (.Attribute e f pos) env) Q E s :=
 Attribute_any_ h (by rw [arm_eval_Attribute,hb])
end
inductive AM (K:PySem.W.Frag) (f:Str) (Q:VK) (x:V) (H1:Hp):Prop
 | mk (a C dx fs v:_) (_:x=.ref a) (_:H1 a=some (.ins C dx fs)) (_:kQ K C) (_:iP K C f) (_:fs.lookup f=some v) (_:Q v H1)
def EU (K:PySem.W.Frag) (ta:TE) (f:Str):TE:=fun σ H Q=>ta σ H fun x H1=>AM K f Q x H1
inductive AN (K:PySem.W.Frag) (f:Str) (D:Ends) (σ : St) (y:V) (x:V) (H2:Hp):Prop
 | mk (a C dx fs:_) (_:x=.ref a) (_:H2 a=some (.ins C dx fs)) (_:kQ K C) (_:iP K C f) (_:fs.length < 1000) (_:D.nx σ (upd H2 a (.ins C dx (fD f y fs))))
def EV (K:PySem.W.Frag) (ta tv:TE) (f:Str):TS:=fun D σ H=>tv σ H fun y H1=>ta σ H1 fun x H2=>AN K f D σ y x H2
section
variable {X:Cx} {o e value:Expr} {f:Str} {pos pos' tpos:Pos} {ta tv:TE}
theorem Cu (he:PE X e ta) (hb:attributeBase e f X.env (eval e X.env)=eval e X.env):PE X (.Attribute e f pos) (EU X.K ta f):=by
 intro pins s σ H Q I h
 refine uB hb (aU (he pins s σ H _ I h) fun u s1 ⟨x,H1,I1,rx,a,C,dx,fs,v,ex,ea,c,n,l,q⟩=>?_)
 subst ex
 obtain rfl:u=Value.ref a:=rx
 exact vL I1 ea c n l fun u' s2 I2 ru=>⟨v,H1,I2,ru,q⟩
theorem Cv (ha:PE X o ta) (hv:PE X value tv) (hs:swapsWith value (some (.Attribute o f pos')) pos.line X.env=pure false):PS X (.Assign [.Attribute o f pos'] value pos) (EV X.K ta tv f):=by
 intro pins s σ H D I h
 refine plainObj_wpAny_Assign_Attribute (aU (hv pins s σ H _ I h) fun u s1 ⟨y,H1,I1,ry,q⟩=>aU (ha pins s1 σ H1 _ I1 q) fun ov s2 ⟨x,H2,I2,rx,a,C,dx,fs,ex,ea,c,n,l,q2⟩=>?_) hs
 subst ex
 obtain rfl:ov=Value.ref a:=rx
 exact vP I2 ea c n l ry fun s3 I3=>⟨σ,_,I3,q2⟩
end
section
variable {X:Cx} {pins:List (Addr × Obj)} {σ : St} {H:Hp} {s:Shared} {A:Around} {E:Value->Shared->Prop} {Q:Value->Shared->Prop} {c:Value} {b:Bool}
inductive gv (K:PySem.W.Frag) (H:Hp):V->Value->Prop where
 | aW:gv K H .aW (.type "NoneType")
 | bl (x:Bool):gv K H (.bl x) (.type "bool")
 | int (i:Int):gv K H (.int i) (.type "int")
 | str (x:Str):gv K H (.str x) (.type "str")
 | pT (x:UInt64):gv K H (.pT x) (.type "float")
 | lst {a:Addr} {xs:List V} (e:H a=some (.lst xs)):gv K H (.ref a) (.type "list")
 | iI {a:Addr} {o:Obj} {xs:List V} (e:H a=some (.iI o (.lst xs))):gv K H (.ref a) (.type "list")
 | tup {a:Addr} {xs:List V} (e:H a=some (.tup xs)):gv K H (.ref a) (.type "tuple")
 | dK {a:Addr} {kvs:List (Key × V)} (e:H a=some (.dK kvs)):gv K H (.ref a) (.type "dict")
 | dT {a:Addr} {kvs:List (List Key × V)} (e:H a=some (.dT kvs)):gv K H (.ref a) (.type "dict")
 | ins {a C dx:Addr} {fs:List (Str × V)} (e:H a=some (.ins C dx fs)) (cl:kQ K C) (ha:PySem.W.findIn K (.ref C) "__class__" = some (some (.builtin "object.__class__")))
   (hn:PySem.W.specialIn K (.builtin "object.__class__") "__get__" = some (some (.builtin "getset_descriptor.__get__"))) (htk:PySem.W.takesIn K (.builtin "object.__class__")=some true)
   (hm:PySem.W.mroIn K C (.type "object")=some true):gv K H (.ref a) (.ref C)
theorem xp {x:V} {u t:Value} (I:Inv X pins σ H s) (rx:RelV x u) (ty:gv X.K H x t) (e:PySem.W.kitOne X.K t c=some b) (h:∀ tk,Q (.bool b) { s with toks:=tk }) :
  wpAny (model X.prog X.w) A (call (.builtin "isinstance") [u,c]) Q E s:=by
 cases ty with
 | aW=>cases (show u=Value.none from rx);exact PySem.W.kia_one PySem.W.kitx_none I.cy True.intro e (fun z=>nomatch z) h
 | bl y=>cases (show u=Value.bool y from rx);exact PySem.W.kia_one PySem.W.kitx_bool I.cy True.intro e (fun z=>nomatch z) h
 | int i=>obtain⟨t,q⟩:=(show ∃ t,u=Value.int i t from rx);cases q;exact PySem.W.kia_one PySem.W.kitx_int I.cy True.intro e (fun z=>nomatch z) h
 | str y=>obtain⟨t,q⟩:=(show ∃ t,u=Value.str y t from rx);cases q;exact PySem.W.kia_one PySem.W.kitx_str I.cy True.intro e (fun z=>nomatch z) h
 | pT y=>obtain⟨t,q⟩:=(show ∃ t,u=Value.float y t from rx);cases q;exact PySem.W.kia_one PySem.W.kitx_float I.cy True.intro e (fun z=>nomatch z) h
 | @lst a xs ea =>
  cases (show u=Value.ref a from rx)
  obtain⟨_,_,n,_,h1⟩:=(show bw X.prog X.w H s.heap a (.lst xs) from I.au a _ ea)
  exact PySem.W.kia_one PySem.W.kitx_list I.cy ⟨_,h1,rfl⟩ e (fun z=>nomatch z) h
 | @iI a ob xs ea =>
  cases (show u=Value.ref a from rx)
  obtain⟨_,_,_,n,_,h1⟩:=(show bw X.prog X.w H s.heap a (.iI ob (.lst xs)) from I.au a _ ea)
  exact PySem.W.kia_one PySem.W.kitx_list I.cy ⟨_,h1,rfl⟩ e (fun z=>nomatch z) h
 | @tup a xs ea =>
  cases (show u=Value.ref a from rx)
  obtain⟨_,_,_,p⟩:=(show bw X.prog X.w H s.heap a (.tup xs) from I.au a _ ea)
  obtain⟨o,h1,h2,_⟩:=p
  exact PySem.W.kia_one PySem.W.kitx_tuple I.cy ⟨o,h1,h2⟩ e (fun z=>nomatch z) h
 | @dK a kvs ea =>
  cases (show u=Value.ref a from rx)
  obtain⟨_,_,vs,_,p⟩:=(show bw X.prog X.w H s.heap a (.dK kvs) from I.au a _ ea)
  obtain⟨o,es,ep,h1,h2,_⟩:=p
  exact PySem.W.kia_one PySem.W.kitx_dict I.cy ⟨o,h1,h2.1⟩ e (fun z=>nomatch z) h
 | @dT a kvs ea =>
  cases (show u=Value.ref a from rx)
  obtain⟨_,_,xs,_,o,es,ep,h1,h2,_⟩:=(show bw X.prog X.w H s.heap a (.dT kvs) from I.au a _ ea)
  exact PySem.W.kia_one PySem.W.kitx_dict I.cy ⟨o,h1,h2.1⟩ e (fun z=>nomatch z) h
 | @ins a C dx fs ea cl ha hn htk hm =>
  cases (show u=Value.ref a from rx)
  obtain⟨mA,O,_⟩:=mr I.au ea
  obtain⟨od,J,_⟩:=O.look
  exact PySem.W.kia_one (PySem.W.kitx_own (cl.get _) cl.hd ha hn htk hm) I.cy J e (fun z=>nomatch z) h
end
structure b6 (k:Nat) (A:Around):Prop where
 hd:A.handled=none
 dp:A.depth+3 * k+5 < recursionLimit
 un:A.units+16 * k+200 < cLine
theorem b6.mono {j k:Nat} {A:Around} (r:b6 k A) (h:j<=k):b6 j A:=⟨r.hd,by have:=r.dp;omega,by have:=r.un;omega⟩
theorem b6.deeper {k:Nat} {A:Around} (r:b6 (k+1) A) (env:Env):b6 k (A.deeper env) :=
 ⟨r.hd,by have:=r.dp;show A.depth+1+3 * k+5 < _;omega,by have:=r.un;show A.units+3+16 * k+200 < _;omega⟩
theorem vQ {A:Around} {C:Addr} {us:List Value} {kw:List (Str × Value)}:(A.under (.builtin "type.__call__" ⟨.ref C :: us,kw⟩)).depth=A.depth+1:=by
 first | rfl | simp [Around.under,Code.weight,Code.isCreation,Code.isGuard,Code.isCaller,Code.frames,Code.isFrame,guardIds]
theorem vR {A:Around} {C:Addr} {us:List Value} {kw:List (Str × Value)}:(A.under (.builtin "type.__call__" ⟨.ref C :: us,kw⟩)).units=A.units+1:=by
 first | rfl | simp [Around.under,Code.cUnits,Code.frames,Code.isFrame]
theorem b6.make {k:Nat} {A:Around} (r:b6 (k+1) A) (C:Addr) (us:List Value) (kw:List (Str × Value)):b6 k (A.under (.builtin "type.__call__" ⟨.ref C :: us,kw⟩)) :=
 ⟨r.hd,by have:=r.dp;rw [vQ];omega,by have:=r.un;rw [vR];omega⟩
theorem b6.depth {k:Nat} {A:Around} (r:b6 k A):A.depth < recursionLimit:=by have:=r.dp;omega
theorem b6.units {k:Nat} {A:Around} (r:b6 k A):A.units+64 < cLine:=by have:=r.un;omega
def oZ:TA:=fun _ H Q=>Q [] H
def fQ (ta:TE) (tr:TA):TA:=fun σ H Q=>ta σ H fun x H1=>tr σ H1 fun xs H2=>Q (x :: xs) H2
section
variable {X:Cx} {e:Expr} {es:List Expr} {te:TE} {t:TA} {pos:Pos}
theorem dQ:PA X [] oZ:=fun _ _ _ _ H Q I h=>Calls.spliced_nil ⟨[],H,I,.nil,h⟩
theorem bP (ha:PE X e te) (hr:PA X es t) (hs:starEach (e :: es) X.env=(false,eval e X.env) :: starEach es X.env:=by rfl):PA X (e :: es) (fQ te t):=by
 intro pos pins s σ H Q I h
 rw [hs]
 show wpAny _ _ (spliced ((false,eval e X.env) :: backTo pos (starEach es X.env))) _ _ s
 refine Calls.spliced_cons (aU (ha pins s σ H _ I h) fun u s1 ⟨x,H1,I1,r1,q1⟩=>?_)
 exact aU (hr pos pins s1 σ H1 _ I1 q1) fun us s2 ⟨xs,H2,I2,r2,q2⟩=>⟨x :: xs,H2,I2,.cons r1 r2,q2⟩
def EW (t:TA):TE:=fun σ H Q=>t σ H fun xs H1=>xs.length<=sizeLine/\∀ p,H1 p=none->Q (.ref p) (upd H1 p (.tup xs))
def Cw (t:TA):TE:=fun σ H Q=>t σ H fun xs H1=>xs.length<=sizeLine/\∀ p,H1 p=none->Q (.ref p) (upd H1 p (.lst xs))
theorem dU {x1} (h:PA X es t):PE X (.Tuple es x1 pos) (EW t):=by
 intro pins s σ H Q I hq
 refine wpAny_Tuple_spliced (aU (h pos pins s σ H _ I hq) fun us s1 ⟨xs,H1,I1,r,z,q⟩=>⟨by rw [<-r.length];exact z,?_⟩)
 have hf:H1 s1.heap.objs.size=none:=I1.au.fresh (Nat.le_refl _)
 refine⟨.ref s1.heap.objs.size,upd H1 s1.heap.objs.size (.tup xs),I1.laid (t':=s1.toks) (fun b u e=>Heap.get?_push_of_some _ e) (Nat.le_refl _) ?_,rfl,q _ hf⟩
 exact⟨z,us,r,⟨_,Heap.get?_push_size _ rfl,rfl,_,rfl,rfl⟩⟩
theorem bX (h:PA X es t):PE X (.List es pos) (Cw t):=by
 intro pins s σ H Q I hq
 refine wpAny_List_spliced (aU (h pos pins s σ H _ I hq) fun us s1 ⟨xs,H1,I1,r,z,q⟩=>⟨by rw [<-r.length];exact z,?_⟩)
 have hf:H1 s1.heap.objs.size=none:=I1.au.fresh (Nat.le_refl _)
 refine⟨.ref s1.heap.objs.size,upd H1 s1.heap.objs.size (.lst xs),I1.laid (t':=s1.toks) (fun b u e=>Heap.get?_push_of_some _ e) (Nat.le_refl _) ?_,rfl,q _ hf⟩
 exact⟨z,us,0,r,Heap.get?_push_size _ rfl⟩
end
abbrev Sp:=List V->Hp->VK->XK->Prop
abbrev kT:=List Env->Hp->Shared->XK->Value->Shared->Prop
structure m6 (P:Program) (w:World) (K:PySem.W.Frag) (mg:Str->Option Value) (base:Heap) (A:Around) (outer:List Env) (s:Shared) (H:Hp):Prop where
 frames:A.frames=some outer
 mod:Mod K mg base
 bs:∀ b o,base.get? b=some o->s.heap.get? b=some o/\H b=none
 jg:base.objs.size<=s.heap.objs.size
 eX:s.heap.FunFrames base outer
 kP:∀ b ∈ bt outer,H b=none
 au:bZ P w H s.heap
 bare:AllBare s.gens
def CE (outer:List Env) (P:Program) (w:World) (H:Hp) (s:Shared) (Q:VK) (u:Value) (s':Shared):Prop :=
 ∃ v H',s'.os=s.os/\AllBare s'.gens/\Un (bt outer) [] H H' s.heap s'.heap/\bZ P w H' s'.heap/\RelV v u/\Q v H'
def CR (CX:kT) (outer:List Env) (P:Program) (w:World) (H:Hp) (s:Shared) (Q:VK) (E:XK) (r:Result) (s':Shared):Prop :=
 match r with
 | .ok (.ret u)=>CE outer P w H s Q u s'
 | .ok _=>False
 | .error e=>CX outer H s E e s'
structure aZ (P:Program) (w:World) (K:PySem.W.Frag) (mg:Str->Option Value) (base:Heap) (CX:kT) (k:Nat) (f:Addr) (fd:FuncData) (ps:List Str) (sp:Sp):Prop where
 len:∀ vs H Q E,sp vs H Q E->vs.length=ps.length
 run:∀ (A:Around) (outer:List Env) (s:Shared) (H:Hp) (args:Args) (us:List Value) (vs:List V) (Q:VK) (E:XK),b6 k A->m6 P w K mg base A outer s H->BindsTo s fd args (ps.zip us)->Vals vs us->sp vs H Q E ->
  codeAny (model P w) A (.call (.ref f) args) (CR CX outer P w H s Q E) s
theorem m6.make {P:Program} {w:World} {K:PySem.W.Frag} {mg:Str->Option Value} {base:Heap} {A:Around} {outer:List Env} {s:Shared} {H:Hp} (e:m6 P w K mg base A outer s H) (C:Addr) (us:List Value) (kw:List (Str × Value)) :
  m6 P w K mg base (A.under (.builtin "type.__call__" ⟨.ref C :: us,kw⟩)) outer s H:=⟨by first | exact e.frames | (simpa [Around.under,Code.envs,Code.isFrame,pushEnvs] using e.frames),e.mod,e.bs,e.jg,e.eX,e.kP,e.au,e.bare⟩
section
variable {X:Cx} {pins:List (Addr × Obj)} {σ : St} {H:Hp} {s s':Shared}
theorem Inv.za (I:Inv X pins σ H s):m6 X.prog X.w X.K X.mg X.base X.A X.stack s H :=
 ⟨I.ok.frames,I.ok.mod,I.bs,Nat.le_trans I.ok.jg I.sz,I.stack,I.fZ,I.au,I.bare⟩
theorem Inv.after {Q:VK} {u:Value} (I:Inv X pins σ H s) (h:CE X.stack X.prog X.w H s Q u s'):EP X pins σ Q u s':=by
 obtain⟨v,H',os,bare,un,au,r,q⟩:=h
 obtain⟨hh,g,d,t,os'⟩:=s'
 obtain rfl:os' = s.os:=os
 exact⟨v,H',I.call (h':=hh) (g':=g) (d':=d) (t':=t) (ch:=[]) un au bare (fun b z=>absurd z (by simp)),r,q⟩
end
def qQ (sp:Sp) (dvs:List V) (E:XK) (t:TA):TE:=fun σ H Q=>t σ H fun vs H1=>sp (vs++dvs) H1 Q E
inductive zb (C:Addr) (m:Str) (sp:Sp) (dvs:List V) (E:XK) (t:TA) (σ : St) (Q:VK) (x:V) (H1:Hp):Prop
 | mk (a dx fs:_) (_:x=.ref a) (_:H1 a=some (.ins C dx fs)) (_:fs.lookup m=none) (_:t σ H1 fun vs H2=>sp (x :: (vs++dvs)) H2 Q E)
def Aa (C:Addr) (m:Str) (sp:Sp) (dvs:List V) (E:XK) (ta:TE) (t:TA):TE:=fun σ H Q=>ta σ H fun x H1=>zb C m sp dvs E t σ Q x H1
def Ab (C:Addr) (sp:Sp) (dvs:List V) (E:XK) (t:TA):TE:=fun σ H Q=>t σ H fun vs H1=>∀ x dx,H1 x=none->H1 dx=none->dx ≠ x ->
 sp (.ref x :: (vs++dvs)) (upd (upd H1 dx (.own x)) x (.ins C dx [])) (fun v H2=>v=.aW/\Q (.ref x) H2) E
def Binds (K:PySem.W.Frag) (fd:FuncData) (ps:List Str) (ds:List Value):Prop :=
 ∀ (s:Shared) (us:List Value),K.In s.heap->(us++ds).length=ps.length->BindsTo s fd ⟨us,[]⟩ (ps.zip (us++ds))
theorem Binds.all {K:PySem.W.Frag} {fd:FuncData} {ps:List Str} (h:∀ us:List Value,us.length=ps.length->bindArgs fd ⟨us,[]⟩=pure (ps.zip us)):Binds K fd ps []:=fun s us _ hl=>by
 rw [List.append_nil] at hl ⊢
 exact .of_eq (h us hl)
def Passes (CX:kT) (X:Cx) (E:XK):Prop:=∀ (pins:List (Addr × Obj)) (σ : St) (H:Hp) (s:Shared) (e:Value) (s':Shared),Inv X pins σ H s->CX X.stack H s E e s'->X.xe e s'
section
variable {X:Cx} {CX:kT} {k:Nat} {f C:Addr} {fd:FuncData} {ps:List Str} {sp:Sp} {dvs:List V} {ds:List Value} {E:XK} {x m:Str} {p pos apos:Pos} {e o:Expr} {es:List Expr} {ta:TE} {t:TA}
theorem xq {pins:List (Addr × Obj)} {σ : St} {H:Hp} {s:Shared} {Q:VK} {us:List Value} {vs:List V} (F:aZ X.prog X.w X.K X.mg X.base CX k f fd ps sp) (hr:b6 k X.A) (hb:Binds X.K fd ps ds) (hd:Vals dvs ds) (hx:Passes CX X E)
  (I:Inv X pins σ H s) (r:Vals vs us) (h:sp (vs++dvs) H Q E):wpAny (model X.prog X.w) X.A (call (.ref f) us) (EP X pins σ Q) X.xe s:=by
 have r2:Vals (vs++dvs) (us++ds):=r.append hd
 have hl:(us++ds).length=ps.length:=by rw [<-r2.length];exact F.len _ _ _ _ h
 refine wpAny_call (codeAny_mono (F.run X.A X.stack s H ⟨us,[]⟩ (us++ds) (vs++dvs) Q E hr I.za (hb s us I.cy hl) r2 h) fun r s' hq=>?_)
 cases r with
 | error e=>exact hx pins σ H s e s' I hq
 | ok fl =>
  cases fl with
  | ret u=>exact I.after hq
  | next=>exact False.elim hq
  | brk=>exact False.elim hq
  | cont=>exact False.elim hq
theorem uC (F:aZ X.prog X.w X.K X.mg X.base CX k f fd ps sp) (hr:b6 k X.A) (hg:Gl X x) (hm:X.mg x=some (.ref f)) (hk:PySem.W.keepIn X.K (.ref f)=true) (hb:Binds X.K fd ps ds) (hd:Vals dvs ds) (hx:Passes CX X E)
  (ha:PA X (e :: es) t) (hdb:(x == ("__debug__" : Str))=false:=by decide) (he:starEach (e :: es) X.env=(false,eval e X.env) :: starEach es X.env:=by rfl) (hpl:(backTo pos (starEach es X.env)).any (·.1)=false:=by rfl) :
  PE X (.Call (.Name x p) (e :: es) [] pos) (qQ sp dvs E t):=by
 intro pins s σ H Q I h
 refine wpAny_Call_Name_kw (gK I hg hm ?_ hdb)
 refine PySem.W.callWith_K (h₀:=X.base) I.ok.mod.qY hk (aU (ha pos pins s σ H _ I h) fun us s1 ⟨vs,H1,I1,r,q⟩=>⟨I1.cy,?_⟩) he hpl
 exact xq F hr hb hd hx I1 r q
theorem AO {pl:Sem Bool} (he:PE X o ta) (c:kQ X.K C) (hm:Meth X.K C m f) (F:aZ X.prog X.w X.K X.mg X.base CX k f fd ps sp) (hr:b6 k X.A) (hb:Binds X.K fd ps ds) (hd:Vals dvs ds) (hx:Passes CX X E) (ha:PA X (e :: es) t)
  (hst:starEach (e :: es) X.env=(false,eval e X.env) :: starEach es X.env:=by rfl) (hpl:(backTo pos (starEach es X.env)).any (·.1)=false:=by rfl)
  (ht:eval (.Call (.Attribute o m apos) (e :: es) [] pos) X.env=(do
   let ov <-eval o X.env
   standAt apos.atName
   let (f,first) <-holding [ov] (getMethod ov m pl)
   callWith pos f first (backTo pos (starEach (e :: es) X.env)) (backToKw pos (keywordEach [] X.env))):=by rfl) :
  PE X (.Call (.Attribute o m apos) (e :: es) [] pos) (Aa C m sp dvs E ta t):=by
 intro pins s σ H Q I h
 refine PySem.W.methodCall_KW (pl:=pl) (aU (he pins s σ H _ I h) fun u s1 ⟨x,H1,I1,rx,a,dx,fs,ex,ea,l,q⟩=>?_) ht
 subst ex
 obtain rfl:u=Value.ref a:=rx
 refine vM I1 ea c hm l ?_
 refine PySem.W.callWith_K (first:=[.ref a]) (h₀:=X.base) I.ok.mod.qY hm.kp (aU (ha pos pins s1 σ H1 _ I1 q) fun us s2 ⟨vs,H2,I2,r,q2⟩=>⟨I2.cy,?_⟩) hst hpl
 exact xq (us:=.ref a :: us) (vs:=.ref a :: vs) F hr hb hd hx I2 (.cons rfl r) q2
structure Mk (K:PySem.W.Frag) (C f:Addr):Prop where
 makes:PySem.W.makesIn K C=true
 init:PySem.W.findIn K (.ref C) "__init__" = some (some (.ref f))
 fn:PySem.W.isFn K (.ref f)=true
 kp:PySem.W.keepIn K (.ref C)=true
theorem zc {pins:List (Addr × Obj)} {σ : St} {H:Hp} {s:Shared} {Q:VK} {us:List Value} {vs:List V} (M:Mk X.K C f) (F:aZ X.prog X.w X.K X.mg X.base CX k f fd ps sp) (hr:b6 (k+1) X.A) (hb:Binds X.K fd ps ds) (hd:Vals dvs ds)
  (hx:Passes CX X E) (I:Inv X pins σ H s) (r:Vals vs us)
  (h:∀ x dx,H x=none->H dx=none->dx ≠ x->sp (.ref x :: (vs++dvs)) (upd (upd H dx (.own x)) x (.ins C dx [])) (fun v H2=>v=.aW/\Q (.ref x) H2) E) :
  wpAny (model X.prog X.w) X.A (call (.ref C) us) (EP X pins σ Q) X.xe s:=by
 have hq:=h (s.heap.objs.size+1) s.heap.objs.size (I.au.fresh (Nat.le_succ _)) (I.au.fresh (Nat.le_refl _)) (Nat.ne_of_lt (Nat.lt_succ_self _))
 have I2:=Inv.made (C:=C) I
 have r2:Vals (V.ref (s.heap.objs.size+1) :: (vs++dvs)) (Value.ref (s.heap.objs.size+1) :: (us++ds)):=.cons rfl (r.append hd)
 have hl:(Value.ref (s.heap.objs.size+1) :: us++ds).length=ps.length:=by
  have e:=r2.length
  rw [F.len _ _ _ _ hq] at e
  exact e.symm
 refine wpAny_call (y9 (f:=f) I.cy M.makes M.init (beq_iff_eq.mp M.fn) (codeAny_mono (F.run _ X.stack _ _ ⟨Value.ref (s.heap.objs.size+1) :: us,[]⟩ (Value.ref (s.heap.objs.size+1) :: (us++ds)) _ _ E (hr.make C us [])
  (I2.za.make C us []) (hb _ (Value.ref (s.heap.objs.size+1) :: us) I2.cy hl) r2 hq) fun r s' hq'=>?_))
 cases r with
 | error e=>exact hx pins σ _ _ e s' I2 hq'
 | ok fl =>
  cases fl with
  | ret u =>
   obtain⟨v,H',I3,rv,ev,q3⟩:=I2.after hq'
   subst ev
   exact⟨rv,⟨V.ref (s.heap.objs.size+1),H',I3,rfl,q3⟩⟩
  | next=>exact False.elim hq'
  | brk=>exact False.elim hq'
  | cont=>exact False.elim hq'
theorem AQ (M:Mk X.K C f) (F:aZ X.prog X.w X.K X.mg X.base CX k f fd ps sp) (hr:b6 (k+1) X.A) (hg:Gl X x) (hm:X.mg x=some (.ref C)) (hb:Binds X.K fd ps ds) (hd:Vals dvs ds) (hx:Passes CX X E)
  (ha:PA X (e :: es) t) (hdb:(x == ("__debug__" : Str))=false:=by decide) (he:starEach (e :: es) X.env=(false,eval e X.env) :: starEach es X.env:=by rfl) (hpl:(backTo pos (starEach es X.env)).any (·.1)=false:=by rfl) :
  PE X (.Call (.Name x p) (e :: es) [] pos) (Ab C sp dvs E t):=by
 intro pins s σ H Q I h
 refine wpAny_Call_Name_kw (gK I hg hm ?_ hdb)
 refine PySem.W.callWith_K (h₀:=X.base) I.ok.mod.qY M.kp (aU (ha pos pins s σ H _ I h) fun us s1 ⟨vs,H1,I1,r,q⟩=>⟨I1.cy,?_⟩) he hpl
 exact zc M F hr hb hd hx I1 r q
end
section
variable {X:Cx} {CX:kT} {k:Nat} {f C:Addr} {fd:FuncData} {ps ks:List Str} {sp:Sp} {E:XK} {x m:Str} {p pos apos kpos:Pos} {e o:Expr} {es:List Expr} {kws:List Keyword} {te ta:TE} {t tk:TA} {nm:Option Str}
variable {g:List Value->List Value->List Value} {gV:List V->List V->List V}
end
structure aM (N P:List Str) (sc:Scope):Prop where
 kind:sc.kind=.function
 co:sc.isCoroutine=false
 gen:sc.isGenerator=false
 nd:N.Nodup
 pre:N.take P.length=P
 par:∀ x ∈ P,sc.names.lookup x=some .local\/sc.names.lookup x=some .cell
 Cy:∀ y ∈ sc.names,y.2 ≠ .free
theorem pY {kindOf:Str->Option NameKind} {x:Str}:∀ {binds:List (Str × Value)} {m:Str->Option Value},(∀ v,(x,v) ∉ binds)->bindL kindOf binds m x=m x
 | [],_,_=>rfl
 | (n,v) :: r,m,h=>by
  unfold bindL
  rw [pY fun w hw=>h w (List.mem_cons_of_mem _ hw)]
  split
  ·have:x ≠ n:=by rintro rfl;exact h v List.mem_cons_self
   simp [this]
  ·rfl
theorem pZ {kindOf:Str->Option NameKind} {x:Str}:∀ {binds:List (Str × Value)} {m:Str->Option Value},(∀ v,(x,v) ∉ binds)->bindC kindOf binds m x=m x
 | [],_,_=>rfl
 | (n,v) :: r,m,h=>by
  unfold bindC
  rw [pZ fun w hw=>h w (List.mem_cons_of_mem _ hw)]
  split
  ·rfl
  ·have:x ≠ n:=by rintro rfl;exact h v List.mem_cons_self
   simp [this]
theorem p7 {kindOf:Str->Option NameKind} {x:Str} {v:Value}:∀ {P:List Str} {vs:List Value} {i:Nat} {m:Str->Option Value},P.Nodup->P[i]? = some x->vs[i]? = some v->kindOf x=some .local ->
  bindL kindOf (P.zip vs) m x=some v
 | [],_,_,_,_,h,_,_=>by simp at h
 | _ :: _,[],_,_,_,_,h,_=>by simp at h
 | p :: P,w :: vs,0,m,nd,h1,h2,hk=>by
  simp at h1 h2;subst h1;subst h2
  show bindL kindOf ((p,w) :: P.zip vs) m p=_
  unfold bindL
  rw [pY fun v hv=>(List.nodup_cons.mp nd).1 (List.of_mem_zip hv).1,if_pos hk]
  simp
 | p :: P,w :: vs,i+1,m,nd,h1,h2,hk=>by
  show bindL kindOf ((p,w) :: P.zip vs) m x=_
  unfold bindL
  exact p7 (i:=i) (List.nodup_cons.mp nd).2 (by simpa using h1) (by simpa using h2) hk
theorem p8 {kindOf:Str->Option NameKind} {x:Str} {v:Value}:∀ {P:List Str} {vs:List Value} {i:Nat} {m:Str->Option Value},P.Nodup->P[i]? = some x->vs[i]? = some v->kindOf x ≠ some .local ->
  bindC kindOf (P.zip vs) m x=some v
 | [],_,_,_,_,h,_,_=>by simp at h
 | _ :: _,[],_,_,_,_,h,_=>by simp at h
 | p :: P,w :: vs,0,m,nd,h1,h2,hk=>by
  simp at h1 h2;subst h1;subst h2
  show bindC kindOf ((p,w) :: P.zip vs) m p=_
  unfold bindC
  rw [pZ fun v hv=>(List.nodup_cons.mp nd).1 (List.of_mem_zip hv).1,if_neg hk]
  simp
 | p :: P,w :: vs,i+1,m,nd,h1,h2,hk=>by
  show bindC kindOf ((p,w) :: P.zip vs) m x=_
  unfold bindC
  exact p8 (i:=i) (List.nodup_cons.mp nd).2 (by simpa using h1) (by simpa using h2) hk
def start (N:List Str) (vs:List V):St:=vs.map some++List.replicate (N.length - vs.length) none
def cw (CX:kT) (P:Program) (w:World) (K:PySem.W.Frag) (mg:Str->Option Value) (base:Heap) (N:List Str) (qual:Str) (scope:Scope) (f:Addr) (cd:Value) (A:Around) (outer:List Env) (s:Shared) (H:Hp) (E:XK):Cx where
 prog:=P
 w:=w
 K:=K
 mg:=mg
 base:=base
 A:=A.deeper (envOfC qual scope s.heap.objs.size f cd)
 N:=N
 b0:=s
 qZ:=H
 env:=envOfC qual scope s.heap.objs.size f cd
 outer:=outer
 stack:=envOfC qual scope s.heap.objs.size f cd :: outer
 ex:=[]
 calm:=true
 fn:=fun _=>true
 pn:=[]
 xe:=fun e s'=>wpAny (model P w) (A.deeper (envOfC qual scope s.heap.objs.size f cd)) (leaving (envOfC qual scope s.heap.objs.size f cd) e) (fun _ s''=>CX outer H s E e s'') (fun e' s''=>CX outer H s E e' s'') s'
theorem rB {sc:Scope} {n:Nat} {x:Str} (h:sc.names.lookup x=some .cell):∃ c,(cellsFrom n sc.names []).lookup x=some c:=by
 have q:=PySem.W.cellsFrom_some sc.names n [] (.inl h)
 exact Option.isSome_iff_exists.mp q
theorem xr {CX:kT} {P:Program} {w:World} {K:PySem.W.Frag} {mg:Str->Option Value} {base:Heap} {N ps:List Str} {qual:Str} {scope:Scope} {f:Addr} {cd:Value} {A:Around} {outer:List Env} {s s1:Shared} {H:Hp} {E:XK} {us:List Value} {vs:List V}
  (S:aM N ps scope) (hd:A.handled=none) (e0:m6 P w K mg base A outer s H) (hl:vs.length=ps.length) (r:Vals vs us)
  (x:InCallC s s.heap.objs.size (bindL (envOfC qual scope s.heap.objs.size f cd).kindOf (ps.zip us) fun _=>none) (cellsFrom (s.heap.objs.size+1) scope.names []) (bindC (envOfC qual scope s.heap.objs.size f cd).kindOf (ps.zip us) fun _=>none) s1) :
  Inv (cw CX P w K mg base N qual scope f cd A outer s H E) [] (start N vs) H s1:=by
 have hpl:ps.length<=N.length:=by have:=congrArg List.length S.pre;rw [List.length_take] at this;omega
 obtain⟨h1,tk,rfl,hk⟩:=x.done
 have noA:∀ b:Addr,b ∉ (cw CX P w K mg base N qual scope f cd A outer s H E).ex:=fun b z=>absurd (show b ∈ ([]:List Addr) from z) (by simp)
 refine⟨⟨e0.mod,S.kind,rfl,rfl,Nat.le_refl _,fun y z c h1 h2=>?_,fun y hy=>?_,fun y c _ h=>?_,fun _=>hd,Around.frames_deeper e0.frames,.inr ⟨rfl,rfl⟩,fun b z=>absurd z (noA b),e0.bs,e0.jg,fun b _ _=>noA b,fun b z=>absurd z (noA b),e0.eX,e0.kP⟩,
  rfl,e0.bare,Un.kept hk,⟨_,x.toInCall.ns,fun i y v h1 h2 h3=>?_⟩,fun y c h=>⟨_,x.cell y c h⟩,e0.au.fresh (Nat.le_refl _),fun y c h=>?_,fun p hp=>absurd (show p ∈ ([]:List (Addr × Obj)) from hp) (by simp),e0.au.kept hk,?_⟩
 ·exact name_of_addr x.apart (PySem.mem_of_lookup h1) (PySem.mem_of_lookup h2)
 ·have hy:scope.names.lookup y=some .cell\/scope.names.lookup y=some .free:=hy
  rcases hy with hy | hy
  ·exact rB hy
  ·exact absurd rfl (S.Cy _ (PySem.mem_of_lookup hy))
 ·exact Nat.le_of_lt (x.above y c (PySem.mem_of_lookup h))
 ·have hi:i < vs.length:=by
   unfold start at h2
   by_cases hi:i < vs.length
   ·exact hi
   ·rw [List.getElem?_append_right (by simpa using hi)] at h2
    rw [List.getElem?_replicate] at h2
    split at h2 <;> cases h2
  have ha:vs[i]? = some v:=by
   unfold start at h2
   rw [List.getElem?_append_left (by simpa using hi),List.getElem?_map] at h2
   cases e:vs[i]? with
   | none=>rw [e] at h2;cases h2
   | some a=>rw [e] at h2;cases h2;rfl
  obtain⟨u,hu,rv⟩:=r.get ha
  have hp:ps[i]? = some y:=by
   rw [<-S.pre,List.getElem?_take_of_lt (by omega)];exact h1
  have ndP:ps.Nodup:=by rw [<-S.pre];exact S.nd.sublist (List.take_sublist _ _)
  refine⟨u,rv,?_⟩
  rcases S.par y (List.mem_of_getElem? hp) with k | k
  ·exact .inl ⟨k,p7 ndP hp hu k⟩
  ·obtain⟨c,e⟩:=rB (n:=s.heap.objs.size+1) k
   refine .inr ⟨.inl k,c,e,?_⟩
   have q:=x.cell y c e
   rw [p8 ndP hp hu (by show scope.names.lookup y ≠ _;rw [k];decide)] at q
   exact q
 ·exact e0.au.fresh (Nat.le_of_lt (x.above y c (PySem.mem_of_lookup h)))
 ·unfold start
  show _=N.length
  rw [List.length_append,List.length_map,List.length_replicate]
  omega
theorem Ac {CX:kT} {P:Program} {w:World} {K:PySem.W.Frag} {mg:Str->Option Value} {base:Heap} {k:Nat} {f:Addr} {name qual:Str} {params:Arguments} {body:List Stmt} {scope:Scope} {dV kV doc pm cdv ct oc:Value} {an od:Option Addr}
  {osl:Array (Option Value)} {N ps:List Str} {sp:Sp} (lk:K.lookup f=some ⟨oc,od,.func (PySem.W.fnOf name qual params body scope dV kV doc pm an cdv ct),osl⟩) (hcd:PySem.W.codeIn K cdv qual=true) (S:aM N ps scope)
  (len:∀ vs H Q E,sp vs H Q E->vs.length=ps.length)
  (hbody:∀ (A:Around) (outer:List Env) (s:Shared) (H:Hp) (vs:List V) (Q:VK) (E:XK),b6 k (A.deeper (envOfC qual scope s.heap.objs.size f cdv))->sp vs H Q E ->
   ∃ t,gc (cw CX P w K mg base N qual scope f cdv A outer s H E) body t/\t { nx:=fun _ H'=>Q .aW H',rt:=Q } (start N vs) H) :
  aZ P w K mg base CX (k+1) f (PySem.W.fnOf name qual params body scope dV kV doc pm an cdv ct) ps sp:=by
 refine⟨len,fun A outer s H args us vs Q E hr e0 hb r hsp=>?_⟩
 have hl:=len _ _ _ _ hsp
 have KX:K.In s.heap:=e0.mod.qY.keeps fun b o e=>(e0.bs b o e).1
 have lim:s.heap.NoLimit:=e0.mod.nolimit.keeps fun b o e=>(e0.bs b o e).1
 have hkind:∀ y ∈ ps.zip us,scope.names.lookup y.1=some .local\/(scope.names.lookup y.1=some .cell/\((cellsFrom (s.heap.objs.size+1) scope.names []).lookup y.1).isSome=true):=fun ⟨n,v⟩ hy=>by
  rcases S.par n (List.of_mem_zip hy).1 with q | q
  ·exact .inl q
  ·exact .inr ⟨q,PySem.W.cellsFrom_some _ _ _ (.inl q)⟩
 refine codeAny_call_function hr.depth (KX _ _ lk) rfl S.co S.gen rfl (PySem.W.codeRec_of KX hcd) (hb _ _ _ _ ?_)
 refine wpAny_newFunctionEnv_cells S.kind hkind fun env he s1 x=>?_
 subst he
 refine⟨lim.keeps x.toInCall.keep,codeAny_func ?_⟩
 obtain⟨t,ht,hq⟩:=hbody A outer s H vs Q E (hr.deeper _) hsp
 have I:Inv (cw CX P w K mg base N qual scope f cdv A outer s H E) [] (start N vs) H s1:=xr S hr.hd e0 hl r x
 refine wpAny_mono (ht [] s1 (start N vs) H _ I hq) (fun fl s' hs=>?_) fun e s' hs=>hs
 have fin:∀ {σ':St} {H':Hp} {v:V} {u:Value},Inv (cw CX P w K mg base N qual scope f cdv A outer s H E) [] σ' H' s'->RelV v u->Q v H'->CE outer P w H s Q u s' :=
  fun {σ' H' v u} J rv q=>⟨v,H',J.os,J.bare,J.base,J.au,rv,q⟩
 cases fl with
 | ret u =>
  obtain⟨v,σ',H',J,rv,q⟩:=hs
  exact fin J rv q
 | next =>
  obtain⟨σ',H',J,q⟩:=hs
  exact fin (v:=V.aW) (u:=Value.none) J rfl q
 | brk =>
  obtain⟨_,_,_,q⟩:=hs
  exact False.elim q
 | cont =>
  obtain⟨_,_,_,q⟩:=hs
  exact False.elim q
section
variable {X:Cx} {x:Str} {p pos:Pos} {e:Expr} {es:List Expr} {t:TA} {id T:String} {r:List V->Hp->VK->Prop}
def Eu (r:List V->Hp->VK->Prop) (t:TA):TE:=fun σ H Q=>t σ H fun vs H1=>r vs H1 Q
theorem aA (hc:eF X (.builtin id) r) (hg:Gl X x) (hm:X.mg x=none) (hv:bootBuiltins x=some (.builtin id)) (ha:PA X (e :: es) t) (hn:x ≠ "__name__" := by decide) (hdb:(x == ("__debug__" : Str))=false:=by decide)
  (he:starEach (e :: es) X.env=(false,eval e X.env) :: starEach es X.env:=by rfl) (hpl:(backTo pos (starEach es X.env)).any (·.1)=false:=by rfl):PE X (.Call (.Name x p) (e :: es) [] pos) (Eu r t):=by
 intro pins s σ H Q I h
 refine wpAny_Call_Name_kw (hZ I hg hm hv ?_ hn hdb)
 exact PyProof.Rows.callWith_builtin1 (aU (ha pos pins s σ H _ I h) fun us s1 ⟨vs,H1,I1,r1,q1⟩=>hc pins s1 σ H1 vs us Q I1 r1 q1) he hpl
theorem bV (hc:eF X (.type T) r) (hg:Gl X x) (hm:X.mg x=none) (hv:bootBuiltins x=some (.type T)) (ha:PA X (e :: es) t) (hn:x ≠ "__name__" := by decide) (hdb:(x == ("__debug__" : Str))=false:=by decide)
  (he:starEach (e :: es) X.env=(false,eval e X.env) :: starEach es X.env:=by rfl) (hpl:(backTo pos (starEach es X.env)).any (·.1)=false:=by rfl):PE X (.Call (.Name x p) (e :: es) [] pos) (Eu r t):=by
 intro pins s σ H Q I h
 refine wpAny_Call_Name_kw (hZ I hg hm hv ?_ hn hdb)
 exact PyProof.Rows.callWith_type1 (aU (ha pos pins s σ H _ I h) fun us s1 ⟨vs,H1,I1,r1,q1⟩=>hc pins s1 σ H1 vs us Q I1 r1 q1) he hpl
end
end L2
namespace HT
open PySem PyProof.Rows
section
open PySem.SeqAt
open PySem.AutoSeq1 (wpAny_loadPart')
open PySem.MeetsSeq PySem.MeetsSeq2 PySem.MeetsSeq3
end
section
variable {prog:Program} {w:World} {A:Around} {E:Value->Shared->Prop} {s:Shared}
theorem AR {t b:Addr} {vs ws:List Value} {Q:Value->Shared->Prop} (ht:IsTup s.heap t vs.toArray) (hb:IsTup s.heap b ws.toArray) (hv:vs ≠ [])
  (h1:ws = []->Q (.ref t) s) (h2:ws ≠ []->Q (.ref s.heap.objs.size) { s with heap:=s.heap.push { cls:=.type "tuple",data:=.seq (vs++ws).toArray } })
  (hsz:vs.length+ws.length<=sizeLine):wpAny (model prog w) A (binaryOp .Add (.ref t) (.ref b)) Q E s:=by
 obtain⟨⟨cls,dd,data,sl⟩,ho,hc,n,hd⟩:=id ht
 obtain⟨⟨cls2,dd2,data2,sl2⟩,ho2,hc2,n2,hd2⟩:=id hb
 simp only at hc hd hc2 hd2
 subst hc hd hc2 hd2
 have e:vs.toArray++ws.toArray=(vs++ws).toArray:=by simp
 by_cases hw:ws = []
 ·exact concat_meets ⟨_,ho,rfl⟩ ⟨_,ho2,rfl⟩ noFill_tuple_add seq_tuple_add PySem.F.slot_tuple_add PySem.F.entry_tuple_add (PySem.F.args_tuple_add_2 _ _)
   (tuple_addW1 t b vs.toArray ws.toArray n n2 dd dd2 sl sl2 (by simpa using hv) (by simp [hw])) ⟨ho,ho2,h1 hw⟩
 ·refine concat_meets ⟨_,ho,rfl⟩ ⟨_,ho2,rfl⟩ noFill_tuple_add seq_tuple_add PySem.F.slot_tuple_add PySem.F.entry_tuple_add (PySem.F.args_tuple_add_2 _ _)
   (tuple_addW2 t b vs.toArray ws.toArray n n2 dd dd2 sl sl2 (by simpa using hv) (by simpa using hw) (by rw [List.size_toArray,List.size_toArray];exact hsz)) ⟨ho,ho2,?_⟩
  rw [e]
  exact h2 hw
def bA (n d:Nat):Option Int->Nat
 | none=>d
 | some v=>if v < 0 then (v+(n:Int)).toNat else min v.toNat n
theorem rD (n d:Nat):bA n d none=d:=rfl
theorem AS (n d k:Nat):bA n d (some (k:Int))=min k n:=by
 show (if (k:Int) < 0 then ((k:Int)+(n:Int)).toNat else min (k:Int).toNat n)=min k n
 rw [if_neg (by omega),Int.toNat_natCast]
theorem Cz (n d:Nat) (hd:d<=n) (o:Option Int):bA n d o<=n:=by
 cases o with
 | none=>exact hd
 | some v =>
  show (if v < 0 then (v+(n:Int)).toNat else min v.toNat n)<=n
  by_cases hv:v < 0
  ·rw [if_pos hv];omega
  ·rw [if_neg hv];exact Nat.min_le_right _ _
theorem uD (v:Int) (n d:Nat):(if v < 0 then max (v+(n:Int)) 0 else min v (n:Int))=((bA n d (some v):Nat):Int):=by
 show (if v < 0 then max (v+(n:Int)) 0 else min v (n:Int))=(((if v < 0 then (v+(n:Int)).toNat else min v.toNat n):Nat):Int)
 by_cases hv:v < 0
 ·simp only [if_pos hv];omega
 ·simp only [if_neg hv];omega
theorem vS (lo hi:Option Int) (n:Nat):Builtin.Slice.sliceAdjust lo hi 1 (n:Int)=(((bA n 0 lo:Nat):Int),((bA n n hi:Nat):Int)):=by
 have h1:¬ ((1:Int) < 0):=by omega
 unfold Builtin.Slice.sliceAdjust
 simp only [h1,if_false]
 refine Prod.ext ?_ ?_
 ·cases lo with
  | none=>rfl
  | some v=>exact uD v n 0
 ·cases hi with
  | none=>rfl
  | some v=>exact uD v n n
theorem vT (i j:Nat):Builtin.Slice.slicePlaces (i:Int) (j:Int) 1=j - i:=by
 unfold Builtin.Slice.slicePlaces
 have h1:(1:Int) > 0:=by omega
 simp only [h1,if_true,Int.ediv_one]
 split <;> omega
theorem og {v:Value} {o:Option Int} {Q:Option Int->Shared->Prop} (p:IsPart v o) (h:Q o s):wpAny (model prog w) A (Builtin.Slice.slicePartIndex v) Q E s:=by
 cases p with
 | none=>exact slicePart_none h
 | int i t=>exact slicePart_int h
theorem iQ {sl:Addr} {vl vu:Value} {lo hi:Option Int} {n:Nat} {Q:Int × Int × Nat->Shared->Prop} (hs:s.heap.IsSliceOf sl vl vu .none) (pl:IsPart vl lo) (pu:IsPart vu hi)
  (h:Q (((bA n 0 lo:Nat):Int),1,bA n n hi - bA n 0 lo) s):wpAny (model prog w) A (Builtin.Slice.sliceApplied (.ref sl) (pure (n:Int))) Q E s:=by
 obtain⟨os,hos,hcs,hds⟩:=id hs
 unfold Builtin.Slice.sliceApplied Builtin.Slice.sliceFields
 refine wpAny_bind (wpAny_bind (wpAny_field hos hds (x:=vl) rfl (wpAny_bind (wpAny_field hos hds (x:=vu) rfl (wpAny_bind (wpAny_field hos hds (x:=.none) rfl (wpAny_pure ?_)))))))
 refine wpAny_bind (slicePart_none ?_)
 show wpAny _ _ (if ((1:Int) == 0)=true then _ else _) _ _ s
 rw [if_neg (by decide)]
 refine wpAny_bind (og pl (wpAny_bind (og pu (wpAny_bind (wpAny_pure ?_)))))
 show wpAny _ _ (match Builtin.Slice.sliceAdjust lo hi 1 (n:Int) with | (lo,hi)=>pure (lo,(1:Int),Builtin.Slice.slicePlaces lo hi 1)) _ _ s
 rw [vS lo hi n]
 show wpAny _ _ (pure (((bA n 0 lo:Nat):Int),(1:Int),Builtin.Slice.slicePlaces ((bA n 0 lo:Nat):Int) ((bA n n hi:Nat):Int) 1)) _ _ s
 rw [vT]
 exact wpAny_pure h
theorem zd (xs:Array Value) (i k:Nat):((List.range k).filterMap fun (m:Nat)=>xs[((i:Int)+(m:Int) * 1).toNat]?).toArray=((xs.toList.drop i).take k).toArray:=by
 have e:(fun (m:Nat)=>xs[((i:Int)+(m:Int) * 1).toNat]?)=fun m=>xs[i+m]?:=by
  funext m
  have:((i:Int)+(m:Int) * 1).toNat=i+m:=by omega
  rw [this]
 rw [e]
 have:=pick_run xs i k
 rw [List.filterMap_map] at this
 have e2:((fun x=>xs[x]?) ∘ fun x=>i+x)=fun m=>xs[i+m]?:=rfl
 rw [e2] at this
 rw [this]
theorem mB {t sl:Addr} {items:Array Value} {vl vu:Value} {lo hi:Option Int} {Q:Value->Shared->Prop} (ht:IsTup s.heap t items) (hs:s.heap.IsSliceOf sl vl vu .none) (pl:IsPart vl lo) (pu:IsPart vu hi)
  (hw:¬ (bA items.size 0 lo=0/\bA items.size items.size hi=items.size))
  (h:Q (.ref s.heap.objs.size) { s with heap:=s.heap.push { cls:=.type "tuple",data:=.seq ((items.toList.drop (bA items.size 0 lo)).take (bA items.size items.size hi - bA items.size 0 lo)).toArray } })
  (hsz:items.size<=sizeLine):wpAny (model prog w) A (getItem (.ref t) (.ref sl)) Q E s:=by
 have htake:sizeOk (.seq ((items.toList.drop (bA items.size 0 lo)).take (bA items.size items.size hi - bA items.size 0 lo)).toArray):=by
  show ((items.toList.drop (bA items.size 0 lo)).take (bA items.size items.size hi - bA items.size 0 lo)).toArray.size<=sizeLine
  rw [List.size_toArray,List.length_take,List.length_drop,Array.length_toList]
  omega
 have hj:bA items.size items.size hi<=items.size:=Cz _ _ (Nat.le_refl _) hi
 obtain⟨os,hos,hcs,hds⟩:=id hs
 have hTs:s.TypeIs (.ref sl) "slice" := ⟨os,hos,hcs⟩
 unfold getItem
 try with_reducible refine wpAny_holding ?_
 first | refine wpAny_bind (wpAny_pure ?_) | skip
 refine wpAny_bind (wpAny_sequenceKey ht.typeIs (by decide) ?_)
 refine wpAny_bind (wpAny_callSpecial?_slot (name:=Str.ofString "__getitem__") ht.typeIs PyProof.Rows.slot_tuple_getitem
  (wpAny_call_entry PyProof.Rows.slot_tuple_getitem ht.typeIs entry_tuple_getitem ?_ (args_tuple_getitem _ _)))
 show wpAny _ _ (Builtin.Tuple.tupleItemsOf (.ref t) >>= _) _ _ s
 refine wpAny_bind (tupleItemsOf_ ht ?_)
 refine wpAny_bind (wpAny_typeOf hTs ?_)
 rw [if_pos (by decide)]
 refine wpAny_bind (iQ hs pl pu ?_)
 have hno:¬ ((((bA items.size 0 lo:Nat):Int) == 0 && (1:Int) == 1 && (bA items.size items.size hi - bA items.size 0 lo) == items.size)=true):=by
  intro q
  rw [Bool.and_eq_true,Bool.and_eq_true] at q
  have q1:((bA items.size 0 lo:Nat):Int)=0:=eq_of_beq q.1.1
  have q2:bA items.size items.size hi - bA items.size 0 lo=items.size:=eq_of_beq q.2
  exact hw ⟨by omega,by omega⟩
 show wpAny _ _ (if (((bA items.size 0 lo:Nat):Int) == 0 && (1:Int) == 1 && (bA items.size items.size hi - bA items.size 0 lo) == items.size)=true then _ else _) _ _ s
 rw [if_neg hno,zd]
 first
  | exact wpAny_bind (m:=Builtin.Tuple.tupleExact _) (wpAny_newObj_type (wpAny_pure ⟨_,rfl,wpAny_pure h⟩) htake)
  | exact wpAny_bind (m:=Builtin.Tuple.tupleExact _) (wpAny_newObj_type (wpAny_bind (wpAny_pure (wpAny_pure ⟨_,rfl,wpAny_pure h⟩))) htake)
  | exact wpAny_bind (wpAny_bind (m:=Builtin.Tuple.tupleExact _) (wpAny_newObj_type (wpAny_pure (wpAny_pure ⟨_,rfl,wpAny_pure h⟩)) htake))
  | exact wpAny_bind (wpAny_bind (m:=Builtin.Tuple.tupleExact _) (wpAny_newObj_type (wpAny_pure ⟨_,rfl,wpAny_pure h⟩) htake))
end
end HT
namespace L2
open PySem PySem.Spec PyProof.Rows
abbrev TO:=St->Hp->(Option Int->Hp->Prop)->Prop
def PO (X:Cx) (e:Option Expr) (t:TO):Prop :=
 ∀ (pins:List (Addr × Obj)) (s:Shared) (σ : St) (H:Hp) (Q:Option Int->Hp->Prop),Inv X pins σ H s->t σ H Q ->
  wpAny (model X.prog X.w) X.A (evalPart e X.env) (fun u s'=>∃ o H',Inv X pins σ H' s'/\IsPart u o/\Q o H') X.xe s
def AU:TO:=fun _ H Q=>Q none H
inductive ze (Q:(Option Int->Hp->Prop)) (x:V) (H1:Hp):Prop
 | mk (i:_) (_:x=.int i) (_:Q (some i) H1)
def DP (t:TE):TO:=fun σ H Q=>t σ H fun x H1=>ze Q x H1
section
variable {X:Cx} {e:Expr} {te:TE} {lo hi:Option Expr} {tl th:TO} {pos p2:Pos}
theorem bF:PO X none AU:=by
 intro pins s σ H Q I h
 rw [evalPart_none]
 exact wpAny_pure ⟨none,H,I,.none,h⟩
theorem bc (h:PE X e te):PO X (some e) (DP te):=by
 intro pins s σ H Q I hw
 rw [evalPart_some]
 refine aU (h pins s σ H _ I hw) fun u s1 ⟨x,H1,I1,r1,q1⟩=>?_
 obtain⟨i,rfl,q⟩:=q1
 obtain⟨t,rfl⟩:=r1
 exact⟨some i,H1,I1,.int i t,q⟩
def xt (X:Cx) (r:V->Option Int->Option Int->Hp->VK->Prop):Prop :=
 ∀ (pins:List (Addr × Obj)) (s:Shared) (σ : St) (H:Hp) (x:V) (v vl vu:Value) (lo hi:Option Int) (sl:Addr) (Q:VK),Inv X pins σ H s->RelV x v->s.heap.IsSliceOf sl vl vu .none->IsPart vl lo->IsPart vu hi->r x lo hi H Q ->
  ∃ T id,typeLookup (.type T) "__getitem__" = pure (some (.builtin id))/\s.TypeIs v T/\wpAny (model X.prog X.w) X.A (getItem v (.ref sl)) (EP X pins σ Q) X.xe s
def Fy (r:V->Option Int->Option Int->Hp->VK->Prop) (te:TE) (tl th:TO):TE:=fun σ H Q=>te σ H fun x H1=>tl σ H1 fun l H2=>th σ H2 fun u H3=>r x l u H3 Q
theorem ba {r:V->Option Int->Option Int->Hp->VK->Prop} (hr:xt X r) (he:PE X e te) (hl:PO X lo tl) (hu:PO X hi th):PE X (.Subscript e (.Slice lo hi none p2) pos) (Fy r te tl th):=by
 intro pins s σ H Q I h
 refine Subscript_ (aU (he pins s σ H _ I h) fun v s1 ⟨x,H1,I1,r1,q1⟩=>?_)
 refine wpAny_Slice (aU (hl pins s1 σ H1 _ I1 q1) fun vl s2 ⟨l,H2,I2,pl,q2⟩=>aU (hu pins s2 σ H2 _ I2 q2) fun vu s3 ⟨u,H3,I3,pu,q3⟩=>?_)
 rw [evalPart_none]
 refine wpAny_pure ?_
 have I4:Inv X pins σ H3 { s3 with heap:=s3.heap.push { cls:=.type "slice",data:=.fields #[vl,vu,.none] } }:=I3.kept (t':=s3.toks) fun b ob q=>Heap.get?_push_of_some _ q
 obtain⟨T,id,hT,ht,hg⟩:=hr pins { s3 with heap:=s3.heap.push { cls:=.type "slice",data:=.fields #[vl,vu,.none] } } σ H3 x v vl vu l u s3.heap.objs.size Q I4 r1 (Heap.IsSliceOf.new ..) pl pu q3
 show wpAny (model X.prog X.w) X.A (subscriptTail e (.Slice lo hi none p2) v (.ref s3.heap.objs.size)) (EP X pins σ Q) X.xe { s3 with heap:=s3.heap.push { cls:=.type "slice",data:=.fields #[vl,vu,.none] } }
 exact tail_any (ops:=[.ref s3.heap.objs.size,v]) ht hT hg (by with_unfolding_all rfl)
def eS (xs:List V) (lo hi:Option Int):List V:=(xs.drop (HT.bA xs.length 0 lo)).take (HT.bA xs.length xs.length hi - HT.bA xs.length 0 lo)
theorem mJ (xs:List V) (lo hi:Option Int):(eS xs lo hi).length<=xs.length:=by
 unfold eS
 rw [List.length_take,List.length_drop]
 omega
inductive EY (K:PySem.W.Frag) (x:V) (lo:Option Int) (hi:Option Int) (H:Hp) (Q:VK):Prop
 | mk (a xs:_) (_:x=.ref a) (_:bJ K H a xs) (_:¬ (HT.bA xs.length 0 lo=0/\HT.bA xs.length xs.length hi=xs.length)) (_:∀ p,H p=none->Q (.ref p) (upd H p (.tup (eS xs lo hi))))
theorem CA:xt X (EY X.K):=by
 intro pins s σ H x v vl vu lo hi sl Q I rx hs pl pu h
 obtain⟨a,xs,rfl,hx,hw,q⟩:=h
 cases rx
 obtain⟨its,r,ht,hz⟩:=I.tuple hx
 have hlen:its.toArray.size=xs.length:=by rw [List.size_toArray];exact r.length.symm
 refine⟨"tuple",_,PyProof.Rows.slot_tuple_getitem.lookup,ht.typeIs,?_⟩
 refine HT.mB ht hs pl pu (by rw [hlen];exact hw) ?_ (by rw [hlen];exact hz)
 rw [hlen]
 refine⟨.ref s.heap.objs.size,_,I.laid (t':=s.toks) (o:=.tup (eS xs lo hi)) (fun b ob q=>Heap.get?_push_of_some _ q) (Nat.le_refl _) ?_,rfl,q _ (I.au.fresh (Nat.le_refl _))⟩
 exact⟨Nat.le_trans (mJ xs lo hi) hz,_,(r.drop (HT.bA xs.length 0 lo)).take (HT.bA xs.length xs.length hi - HT.bA xs.length 0 lo),⟨_,Heap.get?_push_size _ rfl,rfl,_,rfl,rfl⟩⟩
theorem Vals.o5 {xs:List V} {us:List Value} (r:Vals xs us):us = [] ↔ xs = []:=by
 cases r with
 | nil=>simp
 | cons _ _=>simp
end
def lh (n:Nat) (i:Int):Option Nat:=if 0<=i then (if i < n then some i.toNat else none) else if -(n:Int)<=i then some (i+n).toNat else none
def eZ {α : Type} (xs:List α) (i:Int):Option α:=(lh xs.length i).bind fun j=>xs[j]?
theorem uE {n:Nat} {i:Int} {j:Nat} (h:lh n i=some j):seqIndex? i n=some j/\j < n/\-(n:Int)<=i/\i < n:=by
 unfold lh at h
 by_cases h0:0<=i
 ·rw [if_pos h0] at h
  by_cases h1:i < n
  ·rw [if_pos h1] at h
   have e:i.toNat=j:=Option.some.inj h
   exact⟨by rw [seqIndex_of h0 h1,e],by omega,by omega,h1⟩
  ·rw [if_neg h1] at h;cases h
 ·rw [if_neg h0] at h
  by_cases h1:-(n:Int)<=i
  ·rw [if_pos h1] at h
   have e:(i+n).toNat=j:=Option.some.inj h
   exact⟨by rw [seqIndex_neg (by omega) h1,e],by omega,h1,by omega⟩
  ·rw [if_neg h1] at h;cases h
theorem o6 {α : Type} {xs:List α} {i:Int} {v:α} (h:eZ xs i=some v):∃ j,seqIndex? i xs.length=some j/\xs[j]? = some v/\j < xs.length/\-(xs.length:Int)<=i/\i < xs.length:=by
 unfold eZ at h
 cases e:lh xs.length i with
 | none=>rw [e] at h;cases h
 | some j =>
  rw [e] at h
  obtain⟨h1,h2,h3,h4⟩:=uE e
  exact⟨j,h1,h,h2,h3,h4⟩
theorem di {α : Type} {xs:List α} {j:Nat} {v:α} (h:xs[j]? = some v):eZ xs (j:Int)=some v:=by
 have hj:j < xs.length:=(List.getElem?_eq_some_iff.mp h).1
 have e:lh xs.length (j:Int)=some j:=by
  unfold lh
  rw [if_pos (by omega),if_pos (by omega)];simp
 unfold eZ;rw [e];exact h
theorem m7 {α : Type} (xs:List α) (v:α):eZ (xs ++ [v]) (-1)=some v:=by
 have hl:(xs ++ [v]).length=xs.length+1:=by simp
 have e:lh (xs ++ [v]).length (-1)=some xs.length:=by
  unfold lh
  rw [hl,if_neg (by decide),if_pos (by omega)]
  congr 1
  omega
 unfold eZ
 rw [e]
 show (xs ++ [v])[xs.length]? = some v
 simp
def uF (b:Expr):Prop:=∀ o i,subscripted b false o i=operate [o,i] (getItem o i)
def xu (X:Cx) (r:R2):Prop :=
 ∀ (value slice:Expr) (pins:List (Addr × Obj)) (s:Shared) (σ : St) (H:Hp) (x y:V) (v u:Value) (Q:VK),Inv X pins σ H s->RelV x v->RelV y u->r x y H Q ->
  subscripted slice false v u=operate [v,u] (getItem v u)->wpAny (model X.prog X.w) X.A (subscriptTail value slice v u) (EP X pins σ Q) X.xe s
def rE (X:Cx) (id:String) (r:V->List V->Hp->VK->Prop):Prop :=
 ∀ (pins:List (Addr × Obj)) (s:Shared) (σ : St) (H:Hp) (x:V) (xs:List V) (v:Value) (us:List Value) (Q:VK),Inv X pins σ H s->RelV x v->Vals xs us->r x xs H Q ->
  wpAny (model X.prog X.w) X.A (call (.builtin id) (v :: us)) (EP X pins σ Q) X.xe s
section
variable {X:Cx} {a b:Expr} {ta tb:TE} {pos:Pos}
theorem DQ {r:R2} (hr:xu X r) (ha:PE X a ta) (hb:PE X b tb) (hs:uF b):PE X (.Subscript a b pos) (uv r ta tb):=by
 intro pins s σ H Q I h
 exact Subscript_ (yY ha hb I h fun v u s2 x y H2 I2 rx ry q=>hr a b pins s2 σ H2 x y v u Q I2 rx ry q (hs _ _))
inductive EZ (K:PySem.W.Frag) (x:V) (y:V) (H:Hp) (Q:VK):Prop
 | mk (p xs i v:_) (_:x=.ref p) (_:y=.int i) (_:ay K H p xs) (_:eZ xs i=some v) (_:Q v H)
inductive E1 (K:PySem.W.Frag) (x:V) (y:V) (H:Hp) (Q:VK):Prop
 | mk (p xs i v:_) (_:x=.ref p) (_:y=.int i) (_:bJ K H p xs) (_:eZ xs i=some v) (_:Q v H)
inductive E3  (x:V) (y:V) (H:Hp) (Q:VK):Prop
 | mk (z i c:_) (_:x=.str z) (_:y=.int i) (_:z.length<=sizeLine) (_:eZ z.cps.toList i=some c) (_:Q (.str ⟨#[c]⟩) H)
theorem br:xu X (EZ X.K):=by
 intro value slice pins s σ H x y v u Q I rx ry h hs
 obtain⟨p,xs,i,z,rfl,rfl,hq,he,q⟩:=h
 cases rx
 obtain⟨t,rfl⟩:=ry
 obtain⟨its,r,pl,hz⟩:=I.list hq
 obtain⟨j,h1,h2,h3,h4,h5⟩:=o6 he
 obtain⟨w,ew,rw'⟩:=r.get h2
 have hl:=r.length
 have hn:=jT
 have fin:EP X pins σ Q w s:=⟨z,H,I,rw',q⟩
 by_cases h0:0<=i
 ·have hj:i.toNat=j:=by
   rw [seqIndex_of h0 h5] at h1
   exact Option.some.inj h1
  exact item_listR pl.isList h0 (by omega) (by rw [hj];simpa using ew) fin hs
 ·have hj:(i+(its.toArray.size:Int)).toNat=j:=by
   rw [seqIndex_neg (by omega) h4] at h1
   rw [List.size_toArray,<-hl]
   exact Option.some.inj h1
  exact subscriptTail_builtinR (x:=w) pl.isList.typeIs slot_list_getitem.lookup
   (wpAny_getItem_list_neg (Q:=fun r s'=>r=w/\EP X pins σ Q r s') pl.isList (by omega) (by rw [List.size_toArray] <;> omega) (by omega) (by rw [hj];simpa using ew) ⟨rfl,fin⟩) hs
theorem oh:xu X (E1 X.K):=by
 intro value slice pins s σ H x y v u Q I rx ry h hs
 obtain⟨p,xs,i,z,rfl,rfl,hq,he,q⟩:=h
 cases rx
 obtain⟨t,rfl⟩:=ry
 obtain⟨its,r,pl,hz⟩:=I.tuple hq
 obtain⟨j,h1,h2,h3,h4,h5⟩:=o6 he
 obtain⟨w,ew,rw'⟩:=r.get h2
 have hl:=r.length
 have hn:=jT
 have fin:EP X pins σ Q w s:=⟨z,H,I,rw',q⟩
 exact subscriptTail_builtinR (x:=w) pl.typeIs slot_tuple_getitem.lookup
  (getItem_tuple (j:=j) (Q:=fun r s'=>r=w/\EP X pins σ Q r s') pl (by omega) (by omega) (by rw [List.size_toArray,<-hl];exact h1) (by simpa using ew) ⟨rfl,fin⟩) hs
theorem lj:xu X E3:=by
  intro value slice pins s σ H x y v u Q I rx ry h hs
  obtain⟨z,i,c,rfl,rfl,hz,he,q⟩:=h
  obtain⟨t,rfl⟩:=rx
  obtain⟨t',rfl⟩:=ry
  obtain⟨j,h1,h2,h3,h4,h5⟩:=o6 he
  have hl:z.cps.toList.length=z.length:=by simp [Str.length]
  rw [hl] at h1 h4 h5
  have hn:=jT
  exact tail_any (typeIs_str s z t) slot_str_getitem.lookup (getItem_str (c:=c) (by
    have e1:decide (i < -(2 ^ 63:Int))=false:=decide_eq_false (by omega)
    have e2:decide (i >= 2 ^ 63)=false:=decide_eq_false (by omega)
    rw [e1,e2,Bool.or_false]) (by rw [h1];simpa using h2) ⟨.str ⟨#[c]⟩,H,I.tok _,⟨_,rfl⟩,q⟩) hs
theorem vU (its:List Value) (n j:Nat) (u:Value):Obj.mapSeq (·.setIfInBounds j u) { cls:=.type "list",data:=.seq its.toArray n } = { cls:=.type "list",data:=.seq (its.set j u).toArray n }:=by
 simp [Obj.mapSeq]
theorem Inv.lst {pins:List (Addr × Obj)} {σ : St} {H:Hp} {s:Shared} {p:Addr} {xs:List V} (I:Inv X pins σ H s) (h:H p=some (.lst xs)) :
  ∃ (its:List Value) (n:Nat),Vals xs its/\s.heap.get? p=some { cls:=.type "list",data:=.seq its.toArray n }/\xs.length<=sizeLine:=by
 obtain⟨z,its,n,r,e⟩:=I.au p _ h
 exact⟨its,n,r,e,z⟩
theorem Inv.CB {pins:List (Addr × Obj)} {σ : St} {H:Hp} {s:Shared} {p:Addr} {xs ys:List V} {its its':List Value} {n n':Nat} {f:Obj->Obj} (I:Inv X pins σ H s) (h:H p=some (.lst xs))
  (ho:s.heap.get? p=some { cls:=.type "list",data:=.seq its.toArray n }) (hf:f { cls:=.type "list",data:=.seq its.toArray n } = { cls:=.type "list",data:=.seq its'.toArray n' }) (r:Vals ys its') (hz:ys.length<=sizeLine) (t:Nat) :
  Inv X pins σ (upd H p (.lst ys)) { s with heap:=s.heap.update p f,toks:=t }:=by
 have e:(s.heap.update p f).get? p=some { cls:=.type "list",data:=.seq its'.toArray n' }:=by
  rw [Heap.get?_update_self f ho (by rw [hf] <;> rfl),hf]
 refine I.write (x:=p) (e:=p) (by rw [h];trivial) (.inl rfl) (fun b u hb q=>(Heap.get?_update_other _ _ (Ne.symm hb)).trans q) ⟨_,e⟩ ?_
 exact⟨hz,its',n',r,e⟩
inductive DR  (o:V) (i:V) (v:V) (H:Hp) (Q:(Hp->Prop)):Prop
 | mk (p xs k j:_) (_:o=.ref p) (_:i=.int k) (_:H p=some (.lst xs)) (_:lh xs.length k=some j) (_:Q (upd H p (.lst (xs.set j v))))
theorem set_list:Ck X DR:=by
 intro pins s σ H o i v ov iv u Q I ro ri rv h
 obtain⟨p,xs,k,j,rfl,rfl,hp,hj,q⟩:=h
 cases ro
 obtain⟨t,rfl⟩:=ri
 obtain⟨its,n,r,ho,hz⟩:=I.lst hp
 obtain⟨h1,h2,h3,h4⟩:=uE hj
 have hl:=r.length
 have hn:=jT
 have I':Inv X pins σ (upd H p (.lst (xs.set j v))) { s with heap:=s.heap.update p (Obj.mapSeq (·.setIfInBounds j u)) } :=
  I.CB hp ho (vU its n j u) (r.set rv j) (by rw [List.length_set];exact hz) s.toks
 by_cases h0:0<=k
 ·have hk:k.toNat=j:=by
   rw [seqIndex_of h0 h4] at h1
   exact Option.some.inj h1
  exact PySem.W.ki_setAt ho h0 (by omega) (by rw [List.size_toArray,<-hl];exact h4) (by rw [hk];exact⟨_,I',q⟩)
 ·have hk:(k+(its.toArray.size:Int)).toNat=j:=by
   rw [seqIndex_neg (by omega) h3] at h1
   rw [List.size_toArray,<-hl]
   exact Option.some.inj h1
  exact PySem.W.ki_setBack ho (by omega) (by rw [List.size_toArray,<-hl];exact h3) (by omega) (by rw [hk];exact⟨_,I',q⟩)
theorem rF (lo hi:Option Int) (n:Nat):(sliceBounds lo hi none n).1=((HT.bA n 0 lo:Nat):Int)/\(sliceBounds lo hi none n).2.1=((HT.bA n n hi:Nat):Int)/\(sliceBounds lo hi none n).2.2=1:=by
 refine⟨?_,?_,rfl⟩
 ·cases lo with
  | none=>simp [sliceBounds,HT.bA]
  | some i =>
   simp only [sliceBounds,HT.bA,Option.getD_none,show (1:Int) > 0 by decide,if_true]
   by_cases h:i < 0
   ·simp only [h,if_true] <;> omega
   ·simp only [h,if_false] <;> omega
 ·cases hi with
  | none=>simp [sliceBounds,HT.bA]
  | some i =>
   simp only [sliceBounds,HT.bA,Option.getD_none,show (1:Int) > 0 by decide,if_true]
   by_cases h:i < 0
   ·simp only [h,if_true] <;> omega
   ·simp only [h,if_false] <;> omega
theorem qG (its:List Value) (lo hi:Option Int):slicePick its.toArray lo hi none=((its.drop (HT.bA its.length 0 lo)).take (HT.bA its.length its.length hi - HT.bA its.length 0 lo)).toArray:=by
 obtain⟨h1,h2,h3⟩:=rF lo hi its.toArray.size
 unfold slicePick
 rw [h1,h2,h3]
 simp only [sliceRange_one,pick_run,List.size_toArray] <;> rfl
inductive E4 (K:PySem.W.Frag) (x:V) (lo:Option Int) (hi:Option Int) (H:Hp) (Q:VK):Prop
 | mk (a xs:_) (_:x=.ref a) (_:ay K H a xs) (_:∀ p,H p=none->Q (.ref p) (upd H p (.lst (eS xs lo hi))))
theorem cH:xt X (E4 X.K):=by
 intro pins s σ H x v vl vu lo hi sl Q I rx hs pl pu h
 obtain⟨a,xs,rfl,hx,q⟩:=h
 cases rx
 obtain⟨its,r,ht,hz⟩:=I.list hx
 have hlen:=r.length
 refine⟨"list",_,slot_list_getitem.lookup,ht.isList.typeIs,?_⟩
 refine wpAny_getItem_list_slice ht.isList hs pl pu .none (by simp) ?_ (by rw [List.size_toArray] <;> omega)
 rw [qG,<-hlen]
 refine⟨.ref s.heap.objs.size,_,I.laid (t':=s.toks) (o:=.lst (eS xs lo hi)) (fun b ob q=>Heap.get?_push_of_some _ q) (Nat.le_refl _) ?_,rfl,q _ (I.au.fresh (Nat.le_refl _))⟩
 exact⟨Nat.le_trans (mJ xs lo hi) hz,_,0,(r.drop (HT.bA xs.length 0 lo)).take (HT.bA xs.length xs.length hi - HT.bA xs.length 0 lo),Heap.get?_push_size _ rfl⟩
def iD:V->Bool
 | .aW=>true
 | .bl _=>true
 | .int _=>true
 | .str _=>true
 | _=>false
def p9:V->V->Bool
 | .aW,.aW=>true
 | .bl a,.bl b=>a == b
 | .bl a,.int b=>(if a then 1 else 0) == b
 | .int a,.bl b=>a == (if b then 1 else 0)
 | .int a,.int b=>a == b
 | .str a,.str b=>a == b
 | _,_=>false
theorem CC {A:Around} {s:Shared} {y x:V} {u v:Value} (ry:RelV y u) (rx:RelV x v) (fy:iD y=true) (fx:iD x=true):SeqAt.EqAt A s u v (p9 y x):=by
 cases y with
 | aW =>
  cases ry
  cases x with
  | aW=>cases rx;exact SeqAt.EqAt.same _
  | bl b=>cases rx;exact SeqAt.EqAt.none_bool b
  | int b=>obtain⟨t,rfl⟩:=rx;exact SeqAt.EqAt.none_int b t
  | str b=>obtain⟨t,rfl⟩:=rx;exact SeqAt.EqAt.none_str b t
  | _=>exact absurd (show false=true from fx) Bool.false_ne_true
 | bl a =>
  cases ry
  cases x with
  | aW=>cases rx;exact SeqAt.EqAt.bool_none a
  | bl b=>cases rx;exact SeqAt.EqAt.bool_bool a b
  | int b=>obtain⟨t,rfl⟩:=rx;exact SeqAt.EqAt.bool_int a b t
  | str b=>obtain⟨t,rfl⟩:=rx;exact SeqAt.EqAt.bool_str a b t
  | _=>exact absurd (show false=true from fx) Bool.false_ne_true
 | int a =>
  obtain⟨t',rfl⟩:=ry
  cases x with
  | aW=>cases rx;exact SeqAt.EqAt.int_none a t'
  | bl b=>cases rx;exact SeqAt.EqAt.int_bool a t' b
  | int b=>obtain⟨t,rfl⟩:=rx;exact SeqAt.EqAt.int_int a t' b t
  | str b=>obtain⟨t,rfl⟩:=rx;exact SeqAt.EqAt.int_str a t' b t
  | _=>exact absurd (show false=true from fx) Bool.false_ne_true
 | str a =>
  obtain⟨t',rfl⟩:=ry
  cases x with
  | aW=>cases rx;exact SeqAt.EqAt.str_none a t'
  | bl b=>cases rx;exact SeqAt.EqAt.str_bool a t' b
  | int b=>obtain⟨t,rfl⟩:=rx;exact SeqAt.EqAt.str_int a t' b t
  | str b=>obtain⟨t,rfl⟩:=rx;exact SeqAt.EqAt.str_str a t' b t
  | _=>exact absurd (show false=true from fx) Bool.false_ne_true
 | _=>exact absurd (show false=true from fy) Bool.false_ne_true
def iR (x:V) (u:Value):Bool:=match u with
 | .none=>p9 .aW x
 | .bool b=>p9 (.bl b) x
 | .int i _=>p9 (.int i) x
 | .str z _=>p9 (.str z) x
 | _=>false
theorem xw {x y:V} {u:Value} (r:RelV y u) (f:iD y=true):iR x u=p9 y x:=by
 cases y with
 | aW=>cases r;rfl
 | bl b=>cases r;rfl
 | int i=>obtain⟨t,rfl⟩:=r;rfl
 | str z=>obtain⟨t,rfl⟩:=r;rfl
 | _=>exact absurd (show false=true from f) Bool.false_ne_true
theorem jU {x:V}:∀ {xs:List V} {us:List Value},Vals xs us->xs.all iD=true->us.any (iR x)=xs.any fun y=>p9 y x
 | _,_,.nil,_=>rfl
 | y :: xs,u :: us,.cons r t,f=>by
  rw [List.all_cons,Bool.and_eq_true] at f
  rw [List.any_cons,List.any_cons,xw r f.1,jU t f.2]
theorem iS {A:Around} {s:Shared} {x:V} {v:Value} (rx:RelV x v) (fx:iD x=true):∀ {xs:List V} {us:List Value},Vals xs us->xs.all iD=true->∀ u ∈ us,SeqAt.EqAt A s u v (iR x u)
 | _,_,.nil,_=>fun u hu=>by cases hu
 | y :: xs,u :: us,.cons r t,f=>fun u' hu=>by
  rw [List.all_cons,Bool.and_eq_true] at f
  rcases List.mem_cons.mp hu with rfl | hu
  ·rw [xw r f.1];exact CC r rx f.1 fx
  ·exact iS rx fx t f.2 u' hu
def Ew (x:V) (xs:List V):Bool:=xs.any fun y=>p9 y x
inductive Ex (K:PySem.W.Frag) (neg:Bool) (x:V) (y:V) (H:Hp) (Q:VK):Prop
 | mk (p xs:_) (_:y=.ref p) (_:(ay K H p xs\/bJ K H p xs)) (_:iD x=true) (_:xs.all iD=true) (_:Q (.bl (if neg then !Ew x xs else Ew x xs)) H)
theorem qc:cV X (compareOp .In) (Ex X.K false):=by
 intro pins s σ H x y v u Q I rx ry h
 obtain⟨p,xs,rfl,hq,fx,fs,q⟩:=h
 cases ry
 rcases hq with hq | hq
 ·obtain⟨its,r,pl,hz⟩:=I.list hq
  refine SeqAt.in_listAt (iR x) pl.isList (fun w hw=>iS rx fx r fs w (by simpa using hw)) ⟨.bl _,H,I,rfl,?_⟩
  rw [show its.toArray.any (iR x)=its.any (iR x) by simp,jU r fs]
  exact q
 ·obtain⟨its,r,pl,hz⟩:=I.tuple hq
  refine SeqAt.in_tupleAt (iR x) pl (fun w hw=>iS rx fx r fs w (by simpa using hw)) ⟨.bl _,H,I,rfl,?_⟩
  rw [show its.toArray.any (iR x)=its.any (iR x) by simp,jU r fs]
  exact q
theorem rG:cV X (compareOp .NotIn) (Ex X.K true):=by
 intro pins s σ H x y v u Q I rx ry h
 obtain⟨p,xs,rfl,hq,fx,fs,q⟩:=h
 cases ry
 rcases hq with hq | hq
 ·obtain⟨its,r,pl,hz⟩:=I.list hq
  refine SeqAt.notIn_listAt (iR x) pl.isList (fun w hw=>iS rx fx r fs w (by simpa using hw)) ⟨.bl _,H,I,rfl,?_⟩
  rw [show its.toArray.any (iR x)=its.any (iR x) by simp,jU r fs]
  exact q
 ·obtain⟨its,r,pl,hz⟩:=I.tuple hq
  refine SeqAt.notIn_tupleAt (iR x) pl (fun w hw=>iS rx fx r fs w (by simpa using hw)) ⟨.bl _,H,I,rfl,?_⟩
  rw [show its.toArray.any (iR x)=its.any (iR x) by simp,jU r fs]
  exact q
theorem ll:cV X (compareOp .NotIn) (fun x y H Q=>∃ i j,x=.str i/\y=.str j/\Q (.bl (!(!(Builtin.Str.occurrences j i 0 j.length 1).isEmpty))) H):=by
 intro pins s σ H x y v u Q I rx ry h
 obtain⟨i,j,rfl,rfl,q⟩:=h
 obtain⟨t,rfl⟩:=rx
 obtain⟨t',rfl⟩:=ry
 exact notIn_str ⟨.bl _,H,I,rfl,q⟩
theorem aV:eF X (.builtin "len") (fun xs H Q=>∃ p ys,xs = [.ref p]/\(ay X.K H p ys\/bJ X.K H p ys)/\Q (.int ys.length) H):=by
 intro pins s σ H xs us Q I r h
 obtain⟨p,ys,rfl,hq,q⟩:=h
 obtain⟨u,rfl,rx⟩:=vals1 r
 cases rx
 have hn:=jT
 rcases hq with hq | hq
 ·obtain⟨its,r',pl,hz⟩:=I.list hq
  have hlen:=r'.length
  exact Calls.call_len_list pl.isList (by simp only [List.size_toArray] <;> omega) ⟨.int ys.length,H,I.tok _,⟨s.toks+1,by rw [List.size_toArray,hlen]⟩,q⟩
 ·obtain⟨its,r',pl,hz⟩:=I.tuple hq
  have hlen:=r'.length
  exact len_tuple pl (by simp only [List.size_toArray] <;> omega) ⟨.int ys.length,H,I.tok _,⟨s.toks+1,by rw [List.size_toArray,hlen]⟩,q⟩
theorem cB:eF X (.builtin "len") (fun xs H Q=>∃ z,xs = [.str z]/\z.length<=sizeLine/\Q (.int z.length) H):=by
 intro pins s σ H xs us Q I r h
 obtain⟨z,rfl,hz,q⟩:=h
 obtain⟨u,rfl,t,rfl⟩:=vals1 r
 have hn:=jT
 exact len_str (by omega) ⟨.int z.length,H,I.tok _,⟨_,rfl⟩,q⟩
theorem lp:eF X (.type "list") (fun xs H Q=>∃ p ys,xs = [.ref p]/\(ay X.K H p ys\/bJ X.K H p ys)/\∀ l,H l=none->Q (.ref l) (upd H l (.lst ys))):=by
 intro pins s σ H xs us Q I r h
 obtain⟨p,ys,rfl,hq,q⟩:=h
 obtain⟨u,rfl,rx⟩:=vals1 r
 cases rx
 have fin:∀ (its:List Value),Vals ys its->ys.length<=sizeLine->∀ (h':Heap) (c':Nat),(∀ b o',s.heap.get? b=some o'->h'.get? b=some o') ->
   h'.get? s.heap.objs.size=some { cls:=.type "list",dict:=none,data:=.seq its.toArray c',slots:=#[] }->EP X pins σ Q (.ref s.heap.objs.size) { s with heap:=h' }:=fun its r' hz h' c' kp e =>
  ⟨.ref s.heap.objs.size,_,I.laid (t':=s.toks) kp (Nat.le_refl _) (show bw X.prog X.w _ h' _ (.lst ys) from ⟨hz,its,c',r',e⟩),rfl,q _ (I.au.fresh (Nat.le_refl _))⟩
 rcases hq with hq | hq
 ·obtain⟨its,r',pl,hz⟩:=I.list hq
  have hlen:=r'.length
  obtain⟨o,ho,hc,n,hd⟩:=pl.isList
  exact call_list_seq p (.inl rfl) ho hc hd (fun h' c' kp e=>fin its r' hz h' c' kp e) (by simp only [List.size_toArray] <;> omega)
 ·obtain⟨its,r',pl,hz⟩:=I.tuple hq
  have hlen:=r'.length
  obtain⟨o,ho,hc,n,hd⟩:=pl
  exact call_list_seq p (.inr rfl) ho hc hd (fun h' c' kp e=>fin its r' hz h' c' kp e) (by simp only [List.size_toArray] <;> omega)
theorem cK:eF X (.type "tuple") (fun xs H Q=>∃ p ys,xs = [.ref p]/\((ay X.K H p ys/\∀ l,H l=none->Q (.ref l) (upd H l (.tup ys)))\/(bJ X.K H p ys/\Q (.ref p) H))):=by
 intro pins s σ H xs us Q I r h
 obtain⟨p,ys,rfl,h⟩:=h
 obtain⟨u,rfl,rx⟩:=vals1 r
 cases rx
 rcases h with ⟨hq,q⟩ | ⟨hq,q⟩
 ·obtain⟨its,r',pl,hz⟩:=I.list hq
  have hlen:=r'.length
  refine call_tuple_list pl.isList (fun h' kp=>?_) (by simp only [List.size_toArray] <;> omega)
  have I1:Inv X pins σ H { s with heap:=h' }:=I.kept (t':=s.toks) kp
  have I2:Inv X pins σ (upd H h'.objs.size (.tup ys)) { s with heap:=h'.push { cls:=.type "tuple",data:=.seq its.toArray } } :=
   I1.laid (t':=s.toks) (fun b o e=>Heap.get?_push_of_some _ e) (Nat.le_refl _) (show bw X.prog X.w _ _ _ (.tup ys) from ⟨hz,its,r',⟨_,Heap.get?_push_size _ rfl,rfl,_,rfl,rfl⟩⟩)
  exact⟨.ref h'.objs.size,_,I2,rfl,q _ (I1.au.fresh (Nat.le_refl _))⟩
 ·obtain⟨its,r',pl,hz⟩:=I.tuple hq
  exact call_tuple_same pl ⟨.ref p,H,I,rfl,q⟩
def Ey (K:PySem.W.Frag) (T:String) (x:V) (H:Hp):Prop:=match x with
 | .str _=>T = "str"
 | .int _=>T = "int"
 | .ref p=>(T = "list" /\ ∃ xs,ay K H p xs)\/(T = "tuple" /\ ∃ o,K.lookup p=some o/\o.cls=.type "tuple" /\ o.dict=none) \/
   (T = "dict" /\ ((∃ kvs,H p=some (.dK kvs))\/∃ kvs,H p=some (.dT kvs)))\/(T = "set" /\ ∃ S n,H p=some (.set S n))
 | _=>False
theorem CF {pins:List (Addr × Obj)} {σ : St} {H:Hp} {s:Shared} {T:String} {x:V} {v:Value} (I:Inv X pins σ H s) (r:RelV x v) (ty:Ey X.K T x H) :
  s.TypeIs v T/\∀ a,v=.ref a->∃ ob,s.heap.get? a=some ob/\ob.dict=none:=by
 cases x with
 | str z =>
  obtain⟨t,rfl⟩:=r
  cases (show T = "str" from ty)
  exact⟨typeIs_str s z t,fun _ e=>nomatch e⟩
 | int i =>
  obtain⟨t,rfl⟩:=r
  cases (show T = "int" from ty)
  exact⟨typeIs_int s i t,fun _ e=>nomatch e⟩
 | ref p =>
  cases r
  rcases ty with ⟨rfl,xs,hq⟩ | ⟨rfl,o,hk,hc,hd⟩ | ⟨rfl,hk⟩ | ⟨rfl,S,n,hk⟩
  ·obtain⟨its,_,pl,_⟩:=I.list hq
   refine⟨pl.isList.typeIs,fun a e=>?_⟩
   cases e
   obtain⟨o,n,e,c,hd,_⟩:=pl
   exact⟨o,e,hd⟩
  ·refine⟨⟨o,I.cy p o hk,hc⟩,fun a e=>?_⟩
   cases e
   exact⟨o,I.cy _ o hk,hd⟩
  ·have z:∃ o,s.heap.get? p=some o/\o.ExactDict:=by
    rcases hk with ⟨kvs,hk⟩ | ⟨kvs,hk⟩
    ·obtain⟨_,_,_,_,o,_,_,e,ex,_⟩:=I.au p _ hk
     exact⟨o,e,ex⟩
    ·obtain⟨_,_,_,_,o,_,_,e,ex,_⟩:=I.au p _ hk
     exact⟨o,e,ex⟩
   obtain⟨o,e,ex⟩:=z
   refine⟨⟨o,e,ex.1⟩,fun a e2=>?_⟩
   cases e2
   exact⟨o,e,ex.2.1⟩
  ·obtain⟨o,_,_,_,e,ex,_⟩:=I.au p _ hk
   refine⟨⟨o,e,ex.1⟩,fun a e2=>?_⟩
   cases e2
   exact⟨o,e,ex.2.1⟩
 | _=>exact False.elim ty
def Ez (K:PySem.W.Frag) (T:String) (r:V->List V->Hp->VK->Prop) (to:TE) (t:TA):TE:=fun σ H Q=>to σ H fun x H1=>Ey K T x H1/\t σ H1 fun xs H2=>r x xs H2 Q
variable {o e:Expr} {es:List Expr} {to:TE} {t:TA} {name:Str} {apos cpos:Pos} {T id:String} {r:V->List V->Hp->VK->Prop}
theorem bU (pa:PlainAttrs T) (slot:Slot T name id) (hty:typeOf (.builtin id)=pure (.type "method_descriptor")) (hm:rE X id r) (ho:PE X o to) (ha:PA X (e :: es) t)
  (hbase:attributeBase o name X.env (eval o X.env)=eval o X.env:=by rfl)
  (hfew:((backTo cpos (starEach (e :: es) X.env)).all (fun x=>!x.1) && (backToKw cpos (keywordEach [] X.env)).all (fun x=>x.1.isSome)
   && decide ((e :: es).length+([]:List Keyword).length+(if ([]:List Keyword).isEmpty then 0 else 1) < 30))=true:=by rfl)
  (hline:(apos.endLine == cpos.line)=true:=by rfl) (hs:starEach (e :: es) X.env=(false,eval e X.env) :: starEach es X.env:=by rfl) (hplain:(backTo cpos (starEach es X.env)).any (·.1)=false:=by rfl) :
  PE X (.Call (.Attribute o name apos) (e :: es) [] cpos) (Ez X.K T r to t):=by
 intro pins s σ H Q I h
 refine wpAny_Call_method_late hbase hfew hline rfl (aU (ho pins s σ H _ I h) fun v s1 ⟨x,H1,I1,r1,ty,q1⟩=>?_)
 obtain⟨h1,h2⟩:=CF I1 r1 ty
 refine⟨T,id,pa,slot,hty,h1,h2,?_⟩
 have hA:=ha cpos pins s1 σ H1 _ I1 q1
 rw [hs] at hA ⊢
 refine Calls.callWith_builtin (by show (false || (backTo cpos (starEach es X.env)).any (·.1))=false;rw [hplain] <;> rfl) (Calls.evalArgs_plain ?_)
 exact aU hA fun us s2 ⟨vs,H2,I2,r2,q2⟩=>hm pins s2 σ H2 x vs v us Q I2 r1 r2 q2
end
def Fz (X:Cx) (id:String) (r:V->List V->Hp->VK->Prop):Prop :=
 ∀ (pins:List (Addr × Obj)) (s:Shared) (σ : St) (H:Hp) (x:V) (xs:List V) (v:Value) (us:List Value) (Q:VK),Inv X pins σ H s->RelV x v->Vals xs us->r x xs H Q ->
  wpAny (model X.prog X.w) X.A (call (.builtin id) (v :: us)) (EP X pins σ Q) X.xe s
theorem Vals.one:∀ {x:V} {us:List Value},Vals [x] us->∃ u,us = [u]/\RelV x u
 | _,_,.cons r .nil=>⟨_,rfl,r⟩
theorem Vals.rep {xs:List V} {us:List Value} (h:Vals xs us):∀ k:Nat,Vals (List.replicate k xs).flatten (List.replicate k us).flatten
 | 0=>.nil
 | k+1=>by
  rw [List.replicate_succ,List.replicate_succ,List.flatten_cons,List.flatten_cons]
  exact Vals.append h (Vals.rep h k)
theorem foldl_rep (its:List Value):∀ (k:Nat) (acc:List Value),
  List.foldl (fun x1 x2=>x1++x2) acc.toArray (List.replicate k its.toArray)=(acc++(List.replicate k its).flatten).toArray
 | 0,acc=>by simp
 | k+1,acc=>by
  have e:acc.toArray++its.toArray=(acc++its).toArray:=by simp
  have e2:(acc++its)++(List.replicate k its).flatten=acc++(List.replicate (k+1) its).flatten:=by
   rw [List.replicate_succ,List.flatten_cons,List.append_assoc]
  rw [<-e2,<-foldl_rep its k (acc++its),<-e,List.replicate_succ,List.foldl_cons]
section
variable {X:Cx} {pins:List (Addr × Obj)} {σ : St} {H:Hp} {s:Shared} {l b:Addr} {xs ys zs:List V}
theorem Inv.E5 {its its':List Value} {n:Nat} {f:Array Value->Array Value} {t':Nat} (I:Inv X pins σ H s) (hH:H l=some (.lst xs))
  (e:s.heap.get? l=some { cls:=.type "list",data:=.seq its.toArray n }) (hf:f its.toArray=its'.toArray) (hv:Vals ys its') (hz:ys.length<=sizeLine) :
  Inv X pins σ (upd H l (.lst ys)) { s with heap:=s.heap.update l (Obj.mapSeq f),toks:=t' }:=by
 have q:=PySem.IsL.update e f
 rw [hf] at q
 refine I.write (x:=l) (e:=l) (by rw [hH];exact trivial) (.inl rfl) (fun b' u hb hu=>(Heap.get?_update_other s.heap (Obj.mapSeq f) (Ne.symm hb)).trans hu) ⟨_,q⟩ ?_
 exact⟨hz,its',_,hv,q⟩
theorem Inv.CG {its:List Value} {t':Nat} (I:Inv X pins σ H s) (hv:Vals ys its) (hz:ys.length<=sizeLine) :
  Inv X pins σ (upd H s.heap.objs.size (.lst ys)) { s with heap:=s.heap.push { cls:=.type "list",data:=.seq its.toArray },toks:=t' } :=
 I.laid (fun _ _ q=>Heap.get?_push_of_some _ q) (Nat.le_refl _) ⟨hz,its,0,hv,Heap.get?_push_size _ rfl⟩
theorem Inv.fresh (I:Inv X pins σ H s):H s.heap.objs.size=none:=I.au.fresh (Nat.le_refl _)
theorem Inv.vV (I:Inv X pins σ H s) (hH:H l=some (.lst xs)):xs.length<=sizeLine/\∃ (its:List Value) (n:Nat),Vals xs its/\xs.length=its.length/\s.heap.get? l=some { cls:=.type "list",data:=.seq its.toArray n }:=by
 obtain⟨z,its,n,r,e⟩:=I.au l _ hH
 exact⟨z,its,n,r,r.length,e⟩
theorem zf {n:Nat} (h:n<=sizeLine):Builtin.List.listTooLong n=false:=by
 unfold Builtin.List.listTooLong
 exact decide_eq_false (by omega)
end
section
variable {X:Cx}
inductive AV  (x:V) (vs:List V) (H:Hp) (Q:VK):Prop
 | mk (l xs y:_) (_:x=.ref l) (_:vs = [y]) (_:H l=some (.lst xs)) (_:xs.length < sizeLine) (_:Q .aW (upd H l (.lst (xs ++ [y]))))
theorem eD:Fz X "list.append" AV:=by
 intro pins s σ H x vs v us Q I rx rv h
 obtain⟨l,xs,y,rfl,rfl,hH,hz,q⟩:=h
 cases rx
 obtain⟨u,rfl,ru⟩:=rv.one
 obtain⟨z,its,n,r,hl,e⟩:=I.vV hH
 refine call_meets F.slot_list_append ⟨_,e,rfl⟩ F.entry_list_append (F.args_list_append_2 _ _) (PySem.list_append l its.toArray n u (by rw [List.size_toArray];omega)) ⟨e,?_⟩
 refine⟨.aW,_,I.E5 (its':=its ++ [u]) hH e (by simp) (r.append (.cons ru .nil)) ?_,rfl,q⟩
 rw [List.length_append,List.length_singleton]
 omega
inductive E6  (x:V) (y:V) (H:Hp) (Q:VK):Prop
 | mk (l b xs zs:_) (_:x=.ref l) (_:y=.ref b) (_:H l=some (.lst xs)) (_:H b=some (.lst zs)) (_:xs.length+zs.length<=sizeLine) (_:∀ p,H p=none->Q (.ref p) (upd H p (.lst (xs++zs))))
theorem fM:cV X (binaryOp .Add) E6:=by
 intro pins s σ H x y v u Q I rx ry h
 obtain⟨l,b,xs,zs,rfl,rfl,hH,hB,hz,q⟩:=h
 cases rx
 cases ry
 obtain⟨z,its,n,r,hl,e⟩:=I.vV hH
 obtain⟨z2,its2,n2,r2,hl2,e2⟩:=I.vV hB
 refine PySem.P.add_list e e2 ?_ (by rw [List.size_toArray,List.size_toArray];omega)
 have ea:its.toArray++its2.toArray=(its++its2).toArray:=by simp
 rw [ea]
 exact⟨.ref _,_,I.CG (t':=s.toks) (r.append r2) (by rw [List.length_append];omega),rfl,q _ I.fresh⟩
inductive E7  (x:V) (y:V) (H:Hp) (Q:VK):Prop
 | mk (l k xs:_) (_:x=.ref l) (_:y=.int k) (_:H l=some (.lst xs)) (_:-(2 ^ 63)<=k) (_:k < 2 ^ 63) (_:xs.length * k.toNat<=sizeLine) (_:∀ p,H p=none->Q (.ref p) (upd H p (.lst (List.replicate k.toNat xs).flatten)))
theorem len_rep {α : Type} (xs:List α) (k:Nat):(List.replicate k xs).flatten.length=k * xs.length:=by
 induction k with
 | zero=>simp
 | succ k ih=>rw [List.replicate_succ,List.flatten_cons,List.length_append,ih,Nat.succ_mul,Nat.add_comm]
theorem CH:cV X (binaryOp .Mult) E7:=by
 intro pins s σ H x y v u Q I rx ry h
 obtain⟨l,k,xs,rfl,rfl,hH,h1,h2,hz,q⟩:=h
 cases rx
 obtain⟨t,rfl⟩:=ry
 obtain⟨z,its,n,r,hl,e⟩:=I.vV hH
 have hlen:its.toArray.size * k.toNat<=sizeLine:=by rw [List.size_toArray,<-hl];exact hz
 have hcap:¬ its.toArray.size * k.toNat > (2 ^ 63 - 1) / 8:=by
  have:(sizeLine:Nat)<=(2 ^ 63 - 1) / 8:=by decide
  omega
 have hfit:¬ (!Builtin.List.listFitsIndex k)=true:=by
  rw [fitsIndex_both h1 h2]
  exact Bool.false_ne_true
 have hlong:¬ Builtin.List.listTooLong (its.toArray.size * k.toNat)=true:=by
  rw [zf hlen]
  exact Bool.false_ne_true
 have hnew:List.foldl (fun x1 x2=>x1++x2) #[] (List.replicate (if its.toArray.isEmpty=true then 0 else k.toNat) its.toArray)=(List.replicate k.toNat its).flatten.toArray:=by
  have f0:∀ m:Nat,List.foldl (fun x1 x2=>x1++x2) #[] (List.replicate m its.toArray)=(List.replicate m its).flatten.toArray:=fun m=>by
   have:=foldl_rep its m []
   rw [List.nil_append] at this
   exact this
  rw [f0]
  cases its with
  | nil=>simp
  | cons a r'=>rw [if_neg (by simp)]
 refine wpAny_binaryOp_repeat_ref (T := "list") (U := "int") (by decide) ⟨_,e,rfl⟩ (fun s'=>typeIs_int s' k t) noFill_list_mul F.fills_int_mul F.slot_int_rmul repeat_list F.slot_int_index.lookup
  (call_meets F.slot_int_rmul (typeIs_int s k t) F.entry_int_rmul (F.args_int_rmul_2 _ _) (int___rmul___int_list k t l its.toArray n)
   ⟨e,rfl,⟨_,e,rfl⟩,call_meets F.slot_list_mul ⟨_,e,rfl⟩ F.entry_list_mul (F.args_list_mul_2 _ _) (AutoListH.list___mul___list_int_3 l its.toArray n k t hfit hcap hlong) ⟨e,?_⟩⟩)
 rw [hnew]
 exact⟨.ref _,_,I.CG (t':=s.toks) (r.rep k.toNat) (by rw [len_rep,Nat.mul_comm];exact hz),rfl,q _ I.fresh⟩
end
section
variable {prog:Program} {w:World} {A:Around} {E:Value->Shared->Prop} {s:Shared}
end
section
variable {X:Cx}
end
end L2
namespace EA
open PySem PySem.W PySem.Calls PyProof.Rows
theorem oi {P:Params} {h:Heap}:∀ (ns:List Int) (vs:List Value),WellAll P h vs (ns.map WData.int)->IntsAre vs ns:=by
 intro ns
 induction ns with
 | nil =>
  intro vs w
  rw [List.map_nil] at w
  cases w
  exact .nil
 | cons n ns ih =>
  intro vs w
  rw [List.map_cons] at w
  cases w with
  | cons a b =>
   cases a
   exact .cons _ _ (ih _ b)
theorem xx {l:OpenLaw} {n:Nat} (hn:l.most=some n) {P:Params} {h:Heap} {args:List WData} {vals:List Value}
  (hpre:l.row.toRowW.claim.pre args=true) (hwl:WellAll P h vals args) :
  ∃ a vs ns,vals = [Value.ref a]/\args = [WData.list (ns.map WData.int)]/\h.get? a=some { cls:=.type "list",data:=.seq vs.toArray }/\IntsAre vs ns/\ns.length<=n:=by
 have hsh:WShape.hasAll [] args [.list .int] = true:=(pre_splitW hpre).1
 have hc:l.pre.holds [] { args:=args }=true:=(pre_splitW hpre).2
 obtain⟨d,r,rfl,h1,h2⟩:=hasAllW_cons hsh
 obtain rfl:=hasAllW_nil h2
 obtain⟨xs,rfl,h3⟩:=hasW_list h1
 obtain⟨ns,rfl⟩:=items_int h3
 have hlen:ns.length<=n:=by
  unfold OpenLaw.pre at hc
  have h4:(WTm.not (.lt (.lit (.int (n:Int))) (.len (.arg 0)))).holds [] { args:=[.list (ns.map .int)] }=true:=by
   have h4:=(holds_andW hc).1
   rw [hn] at h4
   exact h4
  have h5:=condW_of h4 (w_not (w_lt w_lit (w_len_list (w_arg rfl))))
  rw [List.length_map] at h5
  refine Nat.le_of_not_lt fun q=>?_
  have q':(n:Int) < ((ns.length:Nat):Int):=by omega
  first
   | (rw [decide_eq_true q'] at h5;exact absurd h5 (by decide))
   | (simp at h5;omega)
 cases hwl with
 | cons w1 w2 =>
  cases w2
  cases w1 with
  | list ho hall=>exact⟨_,_,ns,rfl,rfl,ho,oi ns _ hall,hlen⟩
theorem xy (l:OpenLaw) (args:List WData):l.row.toRowW.claim.post args (.bool true) args=true :=
 postW_of (r:=l.row.toRowW) (X:=(true == true))
  (show WShape.has [] (.bool true) .bool=true by first | rfl | decide | simp [WShape.has,WShape.arms,WShape.armsAll])
  (show (WTm.eq .res (.lit (.bool true))).value [] { args:=args,res:=some (.bool true),after:=args }=some (.bool (true == true)) from w_eq_bool (w_res rfl) w_lit) rfl
theorem tO {l:OpenLaw} {n:Nat} {q:Program} {loose:List Str} {XP:(Str->Option Value)->Heap->Prop} {YP:World->Heap->Prop} {d:DefRec}
  (hn:l.most=some n) (hdf:d.params.defaults = [])
  (call:∀ (w:World) (b0 s₁ : Shared) (mg mb:Str->Option Value) (fa:Addr) (o:Obj) (pm cd doc:Value) (a:Addr) (vs:List Value) (ns:List Int),
   Ground q loose [] XP w b0 mg mb s₁.heap->YP w s₁.heap ->
   s₁.heap.get? fa=some o->o.data=.func (docDef d.name d.params d.body d.scope pm cd doc)->s₁.heap.CodeRec cd d.name->mg d.name=some (.ref fa) ->
   s₁.heap.get? a=some { cls:=.type "list",data:=.seq vs.toArray }->IntsAre vs ns->ns.length<=n->s₁.gens = #[] ->
   codeAny (model l.prog w) callerA (.call (.ref fa) ⟨[.ref a],[]⟩) (fun r s'=>r=.ok (.ret (.bool true))/\OldK s₁.heap s'.heap/\s'.os=s₁.os/\AllBare s'.gens) s₁) :
  WalkO q loose XP YP l.row.toRowW d [] (fun f vs=>PySem.call f vs):=by
 intro w b0 s₁ mg mb G Y fa o pm cd doc dV kV ho hd hcd hD hmg hg args vals as hpre hlay hrd hwl hlo
 obtain rfl:dV=.none:=Dflts.none hD hdf
 obtain rfl:kV=.none:=Dflts.noKw hD
 obtain⟨a,vs,ns,rfl,rfl,hobj,hints,hlen⟩:=xx hn hpre hwl
 refine enter_call (codeAny_mono (call w b0 s₁ mg mb fa o pm cd doc a vs ns G Y ho (fd_plain hd) hcd hmg hobj hints hlen hg) fun r s' hq=>?_)
 obtain⟨rfl,h2,h3,h4⟩:=hq
 exact⟨.inl ⟨.bool true,.bool true,[],rfl,fun _=>rfl,.bool true,xy l _,fun _=>⟨List.Pairwise.nil,fun _ hm=>(nomatch hm)⟩⟩,h2,h3,h4⟩
section
variable {prog:Program} {w:World} {A:Around} {E:Value->Shared->Prop} {s:Shared} {K:Frag}
def ledger (h:Heap) (L d:Addr):List (Addr × Obj):=(List.range h.objs.size).filterMap fun a=>if a=L\/a=d then none else (h.get? a).map fun o=>(a,o)
end
end EA
namespace L2
open PySem PySem.Spec PyProof.Rows
theorem qd:∀ {vs:List Value} {ns:List Int},IntsAre vs ns->Vals (ns.map V.int) vs
 | _,_,.nil=>.nil
 | _,_,.cons n t h=>.cons ⟨t,rfl⟩ (qd h)
def zg (H:Hp):Prop:=∀ b,H b=none\/∃ o xs,H b=some (.iI o (.lst xs))
theorem zh {P:Program} {w:World} {K:PySem.W.Frag} {mg mb:Str->Option Value} {CX:kT} {k:Nat} {fa a:Addr} {fd:FuncData} {x:Str} {sp:Sp} {s₁ : Shared} {vs:List Value} {ns:List Int}
    (KX:K.In s₁.heap) (hns:s₁.heap.Ns mainGlobals mg) (hb:s₁.heap.Ns builtinsNs mb) (hbb:∀ x:Str,x ≠ "__name__" -> mb x=bootBuiltins x) (hlim:s₁.heap.NoLimit) (hg:s₁.gens = #[])
    (ha:s₁.heap.get? a=some { cls:=.type "list",data:=.seq vs.toArray }) (hi:IntsAre vs ns) (hl:ns.length<=sizeLine) (hr:b6 k callerA)
    (F:∀ base:Heap,K.In base->base.Ns mainGlobals mg->aZ P w K mg base CX k fa fd [x] sp) (hbind:∀ (s:Shared) (u:Value),BindsTo s fd ⟨[u],[]⟩ [(x,u)])
    (hsp:∀ H:Hp,zg H->ay K H a (ns.map V.int)->sp [.ref a] H (fun v _=>v=.bl true) fun _ _ _=>False)
    (hCX:∀ H e s',CX [] H s₁ (fun _ _ _=>False) e s'->False) :
    codeAny (model P w) callerA (.call (.ref fa) ⟨[.ref a],[]⟩) (fun r s'=>r=.ok (.ret (.bool true))/\OldK s₁.heap s'.heap/\s'.os=s₁.os/\AllBare s'.gens) s₁:=by
  have rv:=qd hi
  have lenV:=hi.length
  have core:∀ H:Hp,zg H->ay K H a (ns.map V.int)->bZ P w H s₁.heap->(∀ b,H b ≠ none->b=a)->(H a ≠ none->K.lookup a=none) ->
      codeAny (model P w) callerA (.call (.ref fa) ⟨[.ref a],[]⟩) (fun r s'=>r=.ok (.ret (.bool true))/\OldK s₁.heap s'.heap/\s'.os=s₁.os/\AllBare s'.gens) s₁:=by
    intro H hO hS au hA hK
    have base_of:∀ {b:Addr} {o:Obj},s₁.heap.get? b=some o->H b=none->(j6 s₁.heap H).get? b=some o:=fun e n=>yK e n
    have noA:∀ {b:Addr} {o:Obj} {es:Array DictEntry} {ep:Nat},s₁.heap.get? b=some o->o.data=.dict es ep->H b=none:=fun {b o es ep} e d=>by
      cases q:H b with
      | none=>rfl
      | some u =>
        have e':b=a:=hA b (by rw [q];simp)
        subst e'
        rw [ha] at e;cases e
        have d':Data.seq vs.toArray _=Data.dict es ep:=d
        cases d'
    have nsK:∀ {b:Addr} {m:Str->Option Value},s₁.heap.Ns b m->(j6 s₁.heap H).Ns b m:=fun {b m} ⟨o,es,ep,e,d,r⟩=>⟨o,es,ep,base_of e (noA e d),d,r⟩
    have hKb:K.In (j6 s₁.heap H):=fun b o e=>base_of (KX b o e) (by
      cases q:H b with
      | none=>rfl
      | some u =>
        have e':b=a:=hA b (by rw [q];simp)
        subst e'
        rw [hK (by rw [q];simp)] at e;cases e)
    have hM:Mod K mg (j6 s₁.heap H):=⟨hKb,nsK hns,⟨mb,nsK hb,hbb⟩,let ⟨mc,h1,h2⟩:=hlim;⟨mc,nsK h1,h2⟩⟩
    have e0:m6 P w K mg (j6 s₁.heap H) callerA [] s₁ H:=⟨rfl,hM,fun b o e=>AH e,Nat.le_of_eq (xa _ _),trivial,fun b hb=>absurd (show b ∈ ([]:List Addr) from hb) (by simp),au,.of_eq hg⟩
    refine codeAny_mono ((F _ hKb (nsK hns)).run callerA [] s₁ H ⟨[.ref a],[]⟩ [.ref a] [.ref a] _ _ hr e0 (hbind s₁ (.ref a)) (.cons rfl .nil) (hsp H hO hS)) fun r s' h=>?_
    cases r with
    | error e=>exact (hCX H e s' h).elim
    | ok fl =>
      cases fl with
      | next=>exact False.elim h
      | brk=>exact False.elim h
      | cont=>exact False.elim h
      | ret u =>
        obtain⟨v,H',os,bare,un,hok',r',q⟩:=h
        have q':v=.bl true:=q
        subst q'
        obtain rfl:u=Value.bool true:=r'
        refine⟨rfl,OldK.of_keep fun b o e=>?_,os,bare⟩
        cases q:H b with
        | none=>exact un.keep b o e q (by intro z;exact absurd (show b ∈ ([]:List Addr) from z) (by simp)) (by simp)
        | some u =>
          rcases hO b with z | ⟨ob,xs,z⟩
          · rw [q] at z;cases z
          · have z2:=un.eW b ob _ z
            obtain⟨e1,_⟩:=au b _ z
            obtain⟨e2,_⟩:=hok' b _ z2
            rw [e] at e1;cases e1
            exact e2
  cases hk:K.lookup a with
  | some o =>
    have e:=KX a o hk
    rw [ha] at e
    cases e
    refine core (fun _=>none) (fun _=>.inl rfl) (.inr ⟨_,vs.toArray,_,hk,rfl,rfl,rfl,by rw [List.size_toArray,lenV];exact hl,by simpa using rv⟩) (fun b u z=>by have z':(none:Option HO)=some u:=z;cases z') (fun b z=>absurd rfl z) fun z=>absurd rfl z
  | none =>
    refine core (fun b=>if b=a then some (.iI { cls:=.type "list",data:=.seq vs.toArray } (.lst (ns.map V.int))) else none) (fun b=>?_) (.inl (.inr ⟨{ cls:=.type "list",data:=.seq vs.toArray },if_pos rfl⟩)) (fun b u z=>?_) (fun b z=>?_) fun _=>hk
    · by_cases hb:b=a
      · exact .inr ⟨_,_,if_pos hb⟩
      · exact .inl (if_neg hb)
    · by_cases hb:b=a
      · have z':=(if_pos hb).symm.trans z
        cases z'
        subst hb
        exact⟨ha,by rw [List.length_map];exact hl,vs,_,rv,ha⟩
      · have z':=(if_neg hb).symm.trans z
        cases z'
    · by_cases hb:b=a
      · exact hb
      · exact absurd (if_neg hb) z
abbrev KOf {K:PySem.W.Frag} {h:Heap} (_:K.In h):PySem.W.Frag:=K
theorem AW {l:PySem.W.OpenLaw} {n k:Nat} {q:Program} {loose:List Str} {XP:(Str->Option Value)->Heap->Prop} {YP:World->Heap->Prop} {d:DefRec} {K:Params->PySem.W.Frag} {CX:World->kT} {sp:World->Sp} {x:Str}
  (hn:l.most=some n) (hn2:n<=sizeLine) (hdf:d.params.defaults = []) (hr:b6 k callerA)
  (hY:∀ (w:World) (h:Heap),YP w h->(K w.params).In h)
  (F:∀ (w:World) (mg:Str->Option Value) (fa:Addr) (h:Heap),(K w.params).In h->h.Ns mainGlobals mg->mg d.name=some (.ref fa) ->
   ∃ fd:FuncData,(∀ (s:Shared) (u:Value),BindsTo s fd ⟨[u],[]⟩ [(x,u)]) /\
    ∀ base:Heap,(K w.params).In base->base.Ns mainGlobals mg->aZ l.prog w (K w.params) mg base (CX w) k fa fd [x] (sp w))
  (hsp:∀ (w:World) (H:Hp) (a:Addr) (ns:List Int),ns.length<=n->zg H->ay (K w.params) H a (ns.map V.int)->sp w [.ref a] H (fun v _=>v=.bl true) fun _ _ _=>False)
  (hCX:∀ (w:World) (H:Hp) (s:Shared) (e:Value) (s':Shared),CX w [] H s (fun _ _ _=>False) e s'->False) :
  PySem.W.WalkO q loose XP YP l.row.toRowW d [] (fun f vs=>PySem.call f vs):=by
 refine EA.tO hn hdf fun w b0 s₁ mg mb fa o pm cd doc a vs ns G Y ho hd hcd hmg hobj hints hlen hg=>?_
 have KX:=hY w _ Y
 obtain⟨fd,hb,hF⟩:=F w mg fa _ KX G.T.g hmg
 exact zh KX G.T.g G.T.b G.T.builtins G.T.nolimit hg hobj hints (Nat.le_trans hlen hn2) hr hF hb (fun H hO hS=>hsp w H a ns hlen hO hS) fun H e s'=>hCX w H s₁ e s'
def inClass (s:Stmt) (j:Nat):Stmt:=match s with
 | .ClassDef _ _ _ body _ _ _ _ _ _ _=>body.getD j (.Pass ⟨0,0,0,0⟩)
 | _=>.Pass ⟨0,0,0,0⟩
def dB (s:Stmt):Arguments:=match s with
 | .FunctionDef _ a _ _ _ _ _ _ _ _=>a
 | _=>{ posonlyargs:=[],args:=[],vararg:=none,kwonlyargs:=[],kw_defaults:=[],kwarg:=none,defaults:=[] }
def cI (s:Stmt):List Stmt:=match s with
 | .FunctionDef _ _ b _ _ _ _ _ _ _=>b
 | _=>[]
def ax (s:Stmt):Scope:=match s with
 | .FunctionDef _ _ _ _ _ _ sc _ _ _=>sc
 | _=>{ kind:=.function,names:=[],isGenerator:=false,isCoroutine:=false }
abbrev bS:kT:=fun _ _ _ _ _ _=>False
abbrev E0:XK:=fun _ _ _=>False
theorem Ad {X:Cx}:Passes bS X E0:=fun _ _ _ _ _ _ _ h=>h.elim
structure bT (K:PySem.W.Frag) (x qual:Str) (st:Stmt) (f:Addr) (fd:FuncData):Prop where
 ex:∃ (oc:Value) (od:Option Addr) (kV doc pm:Value) (an:Option Addr) (cdv ct:Value) (osl:Array (Option Value)),
  fd=PySem.W.fnOf x qual (dB st) (cI st) (ax st) .none kV doc pm an cdv ct/\K.lookup f=some ⟨oc,od,.func fd,osl⟩/\PySem.W.codeIn K cdv qual=true
 kp:PySem.W.keepIn K (.ref f)=true
section
variable {P:Program} {w:World} {K:PySem.W.Frag} {mg:Str->Option Value} {base:Heap}
theorem bT.ok {x qual:Str} {st:Stmt} {f:Addr} {fd:FuncData} {N ps:List Str} {k:Nat} {sp:Sp} (F:bT K x qual st f fd) (S:aM N ps (ax st)) (len:∀ vs H Q E,sp vs H Q E->vs.length=ps.length)
  (hbody:∀ (cdv:Value) (A:Around) (outer:List Env) (s:Shared) (H:Hp) (vs:List V) (Q:VK) (E:XK),b6 k (A.deeper (envOfC qual (ax st) s.heap.objs.size f cdv))->sp vs H Q E ->
   ∃ t,gc (cw bS P w K mg base N qual (ax st) f cdv A outer s H E).uu (cI st) t/\t { nx:=fun _ H'=>Q .aW H',rt:=Q } (start N vs) H):aZ P w K mg base bS (k+1) f fd ps sp:=by
 obtain⟨oc,od,kV,doc,pm,an,cdv,ct,osl,rfl,lk,hcd⟩:=F.ex
 refine Ac lk hcd S len fun A outer s H vs Q E hr hsp=>?_
 obtain⟨t,h,q⟩:=hbody cdv A outer s H vs Q E hr hsp
 exact⟨t,h.uu,q⟩
theorem bT.binds {x qual:Str} {st:Stmt} {f:Addr} {fd:FuncData} {ps:List Str} (F:bT K x qual st f fd)
  (h:∀ (kV doc pm:Value) (an:Option Addr) (cdv ct:Value) (us:List Value),us.length=ps.length->bindArgs (PySem.W.fnOf x qual (dB st) (cI st) (ax st) .none kV doc pm an cdv ct) ⟨us,[]⟩=pure (ps.zip us)):Binds K fd ps []:=by
 obtain⟨oc,od,kV,doc,pm,an,cdv,ct,osl,rfl,lk,hcd⟩:=F.ex
 exact .all (h kV doc pm an cdv ct)
theorem xA {x qual:Str} {st:Stmt} {f:Addr} {oc:Value} {od an:Option Addr} {osl:Array (Option Value)} {kV doc pm cdv ct:Value} (l:K.lookup f=some ⟨oc,od,.func (PySem.W.fnOf x qual (dB st) (cI st) (ax st) .none kV doc pm an cdv ct),osl⟩)
  (c:PySem.W.codeIn K cdv qual=true) (k:PySem.W.keepIn K (.ref f)=true):bT K x qual st f (PySem.W.fnOf x qual (dB st) (cI st) (ax st) .none kV doc pm an cdv ct):=⟨⟨oc,od,kV,doc,pm,an,cdv,ct,osl,rfl,l,c⟩,k⟩
end
theorem DS {A:Around} {k:Nat} (hr:b6 k A):A.units+1 < cLine:=Nat.lt_of_le_of_lt (Nat.add_le_add_left (by decide:1<=64) _) hr.units
theorem bD {n:Nat} (h:n<=1000):n < sizeLine:=Nat.lt_of_le_of_lt h (by decide)
section
variable {X:Cx}
theorem pv (i:Nat) {x:Str} {pos:Pos} (hN:X.N[i]? = some x:=by rfl) (hv:Cb X.env.scope x:=by first | exact Or.inl rfl | exact Or.inr (Or.inl rfl) | exact Or.inr (Or.inr rfl)) (hd:(x == ("__debug__" : Str))=false:=by decide)
  (hcd:(x == ("__classdict__" : Str))=false:=by decide):PE X (.Name x pos) (Cd i):=Ce hN hv hd hcd
end
theorem bE {A B:Prop} (h:B):if false=true then A else B:=by
 rw [if_neg Bool.false_ne_true]
 exact h
theorem bo {A B:Prop} (h:A):if true=true then A else B:=by
 rw [if_pos rfl]
 exact h
theorem cC {c A B:Prop} [Decidable c] (h1:c->A) (h2:¬ c->B):if c then A else B:=by
 by_cases h:c
 ·rw [if_pos h]
  exact h1 h
 ·rw [if_neg h]
  exact h2 h
def af (H H':Hp):Prop:=∀ b o,H b=some o->H' b=some o
theorem af.refl (H:Hp):af H H:=fun _ _ h=>h
theorem af.trans {H H1 H2:Hp} (a:af H H1) (b:af H1 H2):af H H2:=fun c o h=>b c o (a c o h)
theorem af.free {H H':Hp} (e:af H H') {l:Addr} (h:H' l=Option.none):H l=Option.none:=by
 cases q:H l with
 | none=>rfl
 | some o =>
  rw [e l o q] at h
  cases h
theorem af.seq {K:PySem.W.Frag} {H H':Hp} {a:Addr} {xs:List V} (e:af H H') (h:ay K H a xs):ay K H' a xs:=by
 rcases h with (h | ⟨o,h⟩) | h
 ·exact .inl (.inl (e _ _ h))
 ·exact .inl (.inr ⟨o,e _ _ h⟩)
 ·exact .inr h
section
variable {X:Cx}
theorem AX:cV X (binaryOp .Mult) (rI IntMulOk fun i j=>.int (i * j)):=uw fun _ _ _ _ _ _ _ hc q=>mul_int q hc
def DT (_i j:Int):Prop:=0 < j/\j.natAbs.log2 < 9000
theorem zi:cV X (binaryOp .FloorDiv) (rI DT fun i j=>.int (i / j)):=uw fun i j _ _ _ _ _ hc q=>by
 have h1:(0:Int) < j:=hc.1
 exact floordiv_int (by omega) (by rw [Int.fdiv_eq_ediv_of_nonneg i (by omega)];exact q) (.inl (PyProof.noPylong_of_log2 hc.2))
inductive E8 (K:PySem.W.Frag) (xs:List V) (H:Hp) (Q:VK):Prop
 | mk (x T t b:_) (_:xs = [x,.ty T]) (_:gv K H x t) (_:PySem.W.kitOne K t (.type T)=some b) (_:Q (.bl b) H)
theorem dZ:eF X (.builtin "isinstance") (E8 X.K):=by
 intro pins s σ H vs us Q I rv h
 obtain⟨x,T,t,b,rfl,ty,e,q⟩:=h
 obtain⟨u,w',rfl,ru,rw'⟩:=vals2 rv
 cases (show w' = Value.type T from rw')
 exact xp I ru ty e fun tk=>⟨.bl b,H,I.tok tk,rfl,q⟩
structure Own (P:Program) (w:World) (K:PySem.W.Frag) (mg:Str->Option Value) (base:Heap) (x:Str) (k:Nat) (ps:List Str) (sp:Sp):Prop where
 ex:∃ f fd,aZ P w K mg base bS k f fd ps sp/\mg x=some (.ref f)/\PySem.W.keepIn K (.ref f)=true/\Binds K fd ps []
variable {x:Str} {k:Nat} {ps:List Str} {sp:Sp} {e:Expr} {es:List Expr} {t:TA} {p pos:Pos}
theorem CI (o:Own X.prog X.w X.K X.mg X.base x k ps sp) (hr:b6 k X.A) (hg:Gl X x) (ha:PA X (e :: es) t)
  (hdb:(x == ("__debug__" : Str))=false:=by decide) (he:starEach (e :: es) X.env=(false,eval e X.env) :: starEach es X.env:=by rfl)
  (hpl:(backTo pos (starEach es X.env)).any (·.1)=false:=by rfl):PE X (.Call (.Name x p) (e :: es) [] pos) (qQ sp [] E0 t):=by
 obtain⟨f,fd,F,hm,hk,hb⟩:=o.ex
 exact uC F hr hg hm hk hb .nil Ad ha hdb he hpl
end
theorem gf {α : Type} {x:α} {xs:List α}:eZ (x :: xs) 0=some x:=di (j:=0) rfl
theorem qe {α : Type} {x y:α} {xs:List α}:eZ (x :: y :: xs) 1=some y:=di (j:=1) rfl
theorem at2 {α : Type} {x y z:α} {xs:List α}:eZ (x :: y :: z :: xs) 2=some z:=di (j:=2) rfl
theorem vX {α : Type} {xs:List α} {i:Int} (h0:0<=i) (h1:i < xs.length):∃ v,eZ xs i=some v/\v ∈ xs:=by
 obtain⟨j,rfl⟩:∃ j:Nat,i=j:=⟨i.toNat,by omega⟩
 have hj:j < xs.length:=by omega
 exact⟨xs[j],di (by simp [hj]),List.getElem_mem hj⟩
theorem bG:bootBuiltins "len" = some (.builtin "len"):=by decide +kernel
theorem CJ:bootBuiltins "min" = some (.builtin "min"):=by decide +kernel
theorem CK:bootBuiltins "max" = some (.builtin "max"):=by decide +kernel
theorem bM:bootBuiltins "isinstance" = some (.builtin "isinstance"):=by decide +kernel
theorem lq:bootBuiltins "int" = some (.type "int"):=by decide +kernel
theorem uG:bootBuiltins "bool" = some (.type "bool"):=by decide +kernel
theorem dm:bootBuiltins "tuple" = some (.type "tuple"):=by decide +kernel
theorem lr:bootBuiltins "str" = some (.type "str"):=by decide +kernel
theorem uH:bootBuiltins "list" = some (.type "list"):=by decide +kernel
def cg (H:Hp) (b:Addr):Prop:=∃ x y:Int,H b=some (.lst [.int x,.int y])/\0<=y/\y < 2147483648
def Fix (b:Addr) (H H':Hp):Prop:=∀ c o,H c=some o->c ≠ b->H' c=some o
theorem Fix.trans {b:Addr} {H H1 H2:Hp} (u:Fix b H H1) (v:Fix b H1 H2):Fix b H H2:=fun c o h n=>v c o (u c o h n) n
theorem Fix.Ae {b:Addr} {H:Hp} {o:HO}:Fix b H (upd H b o):=fun c u h n=>by rw [ar n];exact h
theorem Fix.new {b p:Addr} {H:Hp} {o:HO} (hp:H p=none):Fix b H (upd H p o):=fun c u h _=>by rw [ar (aX h hp)];exact h
theorem Fix.of_same {b:Addr} {H H':Hp} (h:af H H'):Fix b H H':=fun c o e _=>h c o e
theorem af.new {p:Addr} {H:Hp} {o:HO} (hp:H p=none):af H (upd H p o):=fun c u h=>by rw [ar (aX h hp)];exact h
theorem cg.new {b p:Addr} {H:Hp} {o:HO} (h:cg H b) (hp:H p=none):cg (upd H p o) b:=by
 obtain⟨x,y,e,q⟩:=h
 exact⟨x,y,by rw [ar (aX e hp)];exact e,q⟩
theorem cg.same {b:Addr} {H H':Hp} (h:cg H b) (s:af H H'):cg H' b:=by
 obtain⟨x,y,e,q⟩:=h
 exact⟨x,y,s _ _ e,q⟩
theorem om {α : Type} {x0:α}:[x0].length<=sizeLine:=by show 1<=sizeLine;decide
theorem ln2 {α : Type} {x0 x1:α}:[x0,x1].length<=sizeLine:=by show 2<=sizeLine;decide
theorem mK {α : Type} {x0 x1 x2:α}:[x0,x1,x2].length<=sizeLine:=by show 3<=sizeLine;decide
theorem xB {α : Type} {x0 x1 x2 x3:α}:[x0,x1,x2,x3].length<=sizeLine:=by show 4<=sizeLine;decide
theorem FA {α : Type} {x0 x1 x2 x3 x4:α}:[x0,x1,x2,x3,x4].length<=sizeLine:=by show 5<=sizeLine;decide
theorem FC {α : Type} {x0 x1 x2 x3 x4 x5 x6:α}:[x0,x1,x2,x3,x4,x5,x6].length<=sizeLine:=by show 7<=sizeLine;decide
theorem af.rH {b:Addr} {H H1 H2:Hp} (s:af H H1) (n:H b=none) (f:Fix b H1 H2):af H H2:=fun c o e=>f c o (s c o e) (aX e n)
theorem cg.xC {b p:Addr} {H:Hp} {xs:List V} (h:cg H b) (e:H p=some (.tup xs)):p ≠ b:=by
 obtain⟨x,y,e1,_⟩:=h
 exact jf e e1 (by intro z;cases z)
theorem cg.cZ {b p:Addr} {H:Hp} (h:cg H b) (e:H p=none):p ≠ b:=by
 obtain⟨x,y,e1,_⟩:=h
 exact fun z=>aX e1 e z.symm
inductive Af (K:PySem.W.Frag) (vs:List V) (H:Hp) (Q:VK) (_:XK):Prop
 | mk (a:Addr) (ns:List Int) (k:Int) (_:vs = [.ref a,.int k]) (_:ay K H a (ns.map V.int)) (_:0<=k) (_:∀ b H',H b=none->cg H' b->af H H'->Q (.ref b) H')
inductive fN  (vs:List V) (H:Hp) (Q:VK) (_:XK):Prop
 | mk (b:Addr) (m:Int) (_:vs = [.ref b,.int m]) (_:cg H b) (_:(0 < m/\m.natAbs.log2 < 9000)) (_:∀ r H',0<=r->r < m->cg H' b->Fix b H H'->Q (.int r) H')
inductive qT (K:PySem.W.Frag) (vs:List V) (H:Hp) (Q:VK) (_:XK):Prop
 | mk (a:Addr) (ns:List Int) (_:vs = [.ref a]) (_:ay K H a (ns.map V.int)) (_:ns.length<=63) (_:∀ H',Q (.bl true) H')
def gw (cells:List (Str × Addr)):List (Str × NameKind)->List (Str × Addr)->List (Str × Addr)
 | [],cs=>cs
 | (n,k) :: r,cs=>gw cells r (if k == .free then (n,(cells.lookup n).getD 0) :: cs else cs)
theorem kf {scope:Scope} {env:Env} (hf:∀ y ∈ scope.names,y.2=.free->∃ c,env.cells.lookup y.1=some c):closureFor scope env=pure (gw env.cells scope.names []):=by
 have key:∀ (names:List (Str × NameKind)) (cs:List (Str × Addr)),(∀ y ∈ names,y.2=.free->∃ c,env.cells.lookup y.1=some c) ->
   (forIn names cs fun x r=>match x with
    | (name,kind)=>if (kind == NameKind.free)=true then (do let a <-cellOf env name;pure (ForInStep.yield ((name,a) :: r))) else pure (ForInStep.yield r):Sem (List (Str × Addr)))=pure (gw env.cells names cs):=by
  intro names
  induction names with
  | nil=>intro cs _;rfl
  | cons y r ih =>
   intro cs hy
   obtain⟨n,k⟩:=y
   have ih':=fun cs=>ih cs fun z hz=>hy z (List.mem_cons_of_mem _ hz)
   rw [List.forIn_cons]
   by_cases hk:(k == NameKind.free)=true
   ·have e:k=.free:=by simpa using hk
    obtain⟨c,hc⟩:=hy (n,k) List.mem_cons_self e
    have hc':env.cells.lookup n=some c:=hc
    simp only [hk,if_true,cellOf,hc',pure_bind,gw,Option.getD_some]
    exact ih' _
   ·have hk':(k == NameKind.free)=false:=by simpa using hk
    simp only [hk',Bool.false_eq_true,if_false,pure_bind,gw]
    exact ih' _
 unfold closureFor
 have e:=key scope.names [] hf
 show ((forIn scope.names ([]:List (Str × Addr)) fun x r=>match x with
    | (name,kind)=>if (kind == NameKind.free)=true then (do let a <-cellOf env name;pure (ForInStep.yield ((name,a) :: r))) else pure (ForInStep.yield r):Sem (List (Str × Addr))) >>= fun r=>pure r)=_
 rw [e,pure_bind]
theorem jj {cells:List (Str × Addr)}:∀ (names:List (Str × NameKind)) (cs:List (Str × Addr)),(∀ y ∈ names,y.2=.free->∃ c,cells.lookup y.1=some c) ->
  (∀ x c,cs.lookup x=some c->cells.lookup x=some c)->∀ x c,(gw cells names cs).lookup x=some c->cells.lookup x=some c
 | [],_,_,h,x,c,e=>h x c e
 | (n,k) :: r,cs,hf,h,x,c,e=>by
  refine jj r _ (fun y hy=>hf y (List.mem_cons_of_mem _ hy)) (fun z d hz=>?_) x c e
  by_cases hk:(k == NameKind.free)=true
  ·rw [if_pos hk] at hz
   obtain⟨c',hc⟩:=hf (n,k) List.mem_cons_self (by simpa using hk)
   have hc':cells.lookup n=some c':=hc
   rw [List.lookup_cons] at hz
   cases hzn:z == n with
   | true =>
    rw [hzn] at hz
    have:z=n:=by simpa using hzn
    subst this
    rw [hc'] at hz ⊢
    simpa using hz
   | false=>rw [hzn] at hz;exact h z d hz
  ·rw [if_neg hk] at hz;exact h z d hz
theorem mw {cells:List (Str × Addr)} {x:Str}:∀ (names:List (Str × NameKind)) (cs:List (Str × Addr)),((x,NameKind.free) ∈ names\/∃ c,cs.lookup x=some c)->∃ c,(gw cells names cs).lookup x=some c
 | [],_,h=>by
  rcases h with h | h
  ·cases h
  ·exact h
 | (n,k) :: r,cs,h=>by
  refine mw r _ ?_
  by_cases hk:(k == NameKind.free)=true
  ·rw [if_pos hk]
   cases hxn:x == n with
   | true=>exact .inr ⟨_,by rw [List.lookup_cons,hxn]⟩
   | false =>
    rcases h with h | ⟨c,h⟩
    ·rcases List.mem_cons.mp h with h | h
     ·have:x=n:=(Prod.mk.inj h).1
      subst this
      simp at hxn
     ·exact .inl h
    ·exact .inr ⟨c,by rw [List.lookup_cons,hxn];exact h⟩
  ·rw [if_neg hk]
   rcases h with h | h
   ·rcases List.mem_cons.mp h with h | h
    ·have:NameKind.free=k:=(Prod.mk.inj h).2
     subst this
     simp at hk
    ·exact .inl h
   ·exact .inr h
theorem iT {env:Env} {x:Str} {k:NameKind} (hk:k=.cell\/k=.free):∀ {names:List (Str × NameKind)},(∀ y ∈ names,y.2 ≠ .cell) ->
  (names.map fun (n,k)=>if (k == NameKind.free && env.scope.kind == .function && env.kindOf n == some .cell) then (n,NameKind.cell) else (n,k)).lookup x=some k->(x,NameKind.free) ∈ names
 | [],_,h=>by simp at h
 | (n,q) :: r,hc,h=>by
  have ih:=iT (env:=env) (x:=x) hk (names:=r) (fun y hy=>hc y (List.mem_cons_of_mem _ hy))
  have h':List.lookup x ((if (q == NameKind.free && env.scope.kind == .function && env.kindOf n == some .cell)=true then (n,NameKind.cell) else (n,q)) :: _)=some k:=h
  by_cases hq:(q == NameKind.free && env.scope.kind == .function && env.kindOf n == some .cell)=true
  ·rw [if_pos hq,List.lookup_cons] at h'
   have eq:q=.free:=by
    rw [Bool.and_eq_true,Bool.and_eq_true] at hq
    simpa using hq.1.1
   cases hxn:x == n with
   | true =>
    have:x=n:=by simpa using hxn
    subst this;subst eq
    exact List.mem_cons_self
   | false=>rw [hxn] at h';exact List.mem_cons_of_mem _ (ih h')
  ·rw [if_neg hq,List.lookup_cons] at h'
   cases hxn:x == n with
   | true =>
    rw [hxn] at h'
    have:x=n:=by simpa using hxn
    subst this
    have e:q=k:=Option.some.inj h'
    subst e
    rcases hk with hk | hk
    ·exact absurd hk (hc (x,q) List.mem_cons_self)
    ·subst hk;exact List.mem_cons_self
   | false=>rw [hxn] at h';exact List.mem_cons_of_mem _ (ih h')
theorem iU {env:Env} {x:Str}:∀ {names:List (Str × NameKind)},names.lookup x=some .free ->
  (names.map fun (n,k)=>if (k == NameKind.free && env.scope.kind == .function && env.kindOf n == some .cell) then (n,NameKind.cell) else (n,k)).lookup x=some .cell \/
  (names.map fun (n,k)=>if (k == NameKind.free && env.scope.kind == .function && env.kindOf n == some .cell) then (n,NameKind.cell) else (n,k)).lookup x=some .free
 | [],h=>by simp at h
 | (n,q) :: r,h=>by
  have ih:=iU (env:=env) (x:=x) (names:=r)
  show List.lookup x ((if (q == NameKind.free && env.scope.kind == .function && env.kindOf n == some .cell)=true then (n,NameKind.cell) else (n,q)) :: _)=some .cell \/
   List.lookup x ((if (q == NameKind.free && env.scope.kind == .function && env.kindOf n == some .cell)=true then (n,NameKind.cell) else (n,q)) :: _)=some .free
  rw [List.lookup_cons] at h
  by_cases hq:(q == NameKind.free && env.scope.kind == .function && env.kindOf n == some .cell)=true
  ·rw [if_pos hq,List.lookup_cons]
   cases hxn:x == n with
   | true=>exact .inl rfl
   | false=>rw [hxn] at h;exact ih h
  ·rw [if_neg hq,List.lookup_cons]
   cases hxn:x == n with
   | true=>rw [hxn] at h;exact .inr h
   | false=>rw [hxn] at h;exact ih h
def fk (X:Cx) (scope:Scope) (C:Addr) (N':List Str) (fp:List Addr) (s₁ : Shared) (H₁ : Hp):Cx where
 prog:=X.prog
 w:=X.w
 K:=X.K
 mg:=X.mg
 base:=X.base
 A:=X.A
 N:=N'
 b0:=s₁
 qZ:=H₁
 env:=compEnvC scope (gw X.env.cells scope.names []) C X.env
 outer:=X.stack
 stack:=X.stack
 ex:=fp
 fn:=fun _=>false
 calm:=X.calm
 pn:=[]
 xe:=fun _ _=>False
def fS (X:Cx) (scope:Scope):List Str->List Nat->Prop
 | [],[]=>True
 | x :: fr,j :: js=>(X.N[j]? = some x/\(X.env.kindOf x=some .cell\/X.env.kindOf x=some .free)/\scope.names.lookup x=some .free)/\fS X scope fr js
 | _,_=>False
theorem fS.len {X:Cx} {scope:Scope}:∀ {fr:List Str} {js:List Nat},fS X scope fr js->fr.length=js.length
 | [],[],_=>rfl
 | _ :: _,_ :: _,h=>by simp [fS.len h.2]
 | [],_ :: _,h=>h.elim
 | _ :: _,[],h=>h.elim
theorem fS.mem {X:Cx} {scope:Scope} {x:Str}:∀ {fr:List Str} {js:List Nat},fS X scope fr js->x ∈ fr->X.env.kindOf x=some .cell\/X.env.kindOf x=some .free
 | [],[],_,h=>by cases h
 | a :: fr,b :: js,h,hm=>by
  rcases List.mem_cons.mp hm with rfl | hm
  ·exact h.1.2.1
  ·exact fS.mem h.2 hm
 | [],_ :: _,h,_=>h.elim
 | _ :: _,[],h,_=>h.elim
theorem fS.get {X:Cx} {scope:Scope}:∀ {fr:List Str} {js:List Nat} {i:Nat} {x:Str} {j:Nat},fS X scope fr js->fr[i]? = some x->js[i]? = some j ->
  X.N[j]? = some x/\(X.env.kindOf x=some .cell\/X.env.kindOf x=some .free)/\scope.names.lookup x=some .free
 | [],[],_,_,_,_,h,_=>by simp at h
 | a :: fr,b :: js,0,x,j,h,h1,h2=>by
  simp at h1 h2
  subst h1;subst h2
  exact h.1
 | a :: fr,b :: js,i+1,x,j,h,h1,h2=>fS.get h.2 (by simpa using h1) (by simpa using h2)
 | [],_ :: _,_,_,_,h,_,_=>h.elim
 | _ :: _,[],_,_,_,h,_,_=>h.elim
def ib (n:Nat) (js:List Nat) (σ : St):St:=List.replicate n none++js.map fun j=>σ.getD j none
theorem xD {X:Cx} {pins:List (Addr × Obj)} {σ : St} {H:Hp} {s:Shared} {scope:Scope} {fp:List Addr} {C:Addr} {N':List Str} (I:Inv X pins σ H s) (hk:scope.kind=.function) (hcell:∀ y ∈ scope.names,y.2 ≠ .cell)
  (hf:∀ y ∈ scope.names,y.2=.free->∃ c,X.env.cells.lookup y.1=some c) (hC:s.heap.objs.size<=C) (hfp:∀ b ∈ fp,fC X pins H b) (hlt:∀ b ∈ fp,b < s.heap.objs.size):(fk X scope C N' fp s H).Ok:=by
 have ag:∀ x c,(gw X.env.cells scope.names []).lookup x=some c->X.env.cells.lookup x=some c:=jj scope.names [] hf fun x c e=>by simp at e
 refine⟨I.ok.mod,hk,I.ok.glob,I.ok.blt,hC,fun x y c h1 h2=>I.ok.inj x y c (ag x c h1) (ag y c h2),fun x hx=>?_,(fun x c h=>(by cases h)),I.ok.hd,I.ok.frames,.inl rfl,fun b hb=>?_,I.bs,?_,fun b o e hb=>?_,fun b hb=>?_,I.stack,I.fZ⟩
 ·refine mw scope.names [] (.inl ?_)
  rcases hx with hx | hx
  ·exact iT (.inl rfl) hcell hx
  ·exact iT (.inr rfl) hcell hx
 ·obtain⟨h1,h2,h3,h4,h5,h6⟩:=hfp b hb
  exact⟨Nat.ne_of_lt (Nat.lt_of_lt_of_le (hlt b hb) hC),fun x c e=>h5 x c (ag x c e)⟩
 ·exact Nat.le_trans I.ok.jg I.sz
 ·obtain⟨h1,h2,h3,h4,h5,h6⟩:=hfp b hb
  rcases h4 with h4 | h4
  ·exact I.ok.jv b o e h4
  ·exact absurd (Nat.lt_of_lt_of_le (Heap.lt_size e) (Nat.le_trans I.ok.jg h4)) (Nat.lt_irrefl _)
 ·obtain⟨h1,h2,h3,h4,h5,h6⟩:=hfp b hb
  intro z
  rcases List.mem_cons.mp (I.jN b z) with z | z
  ·exact h2 z
  ·exact h3 z
def mL (J:It) (n:Nat) (js:List Nat) (g:TG) (ct:TT) (te:TE) (acc:Addr) (σ : St) (H1:Hp) (Q:VK):Prop :=
 ∃ W:Nat->Nat->List V->St->Hp->Prop,(∃ m,W 0 m [] (ib n js σ) (upd H1 acc (.lst [])))/\∀ i m ys τ H2,W i m ys τ H2->H2 acc=some (.lst ys)/\ys.length < sizeLine /\
  ((J.stop i H2/\Q (.ref acc) H2)\/(J.go i H2/\∃ N:List V->St->Hp->Prop,(∀ ys' τ' H',N ys' τ' H'->∃ m',m' < m/\W (i+1) m' ys' τ' H')/\∀ x H3,J.xc i H2 x H3->g x τ H3 fun τ1 H4=>ct τ1 H4 fun b H5 =>
   if b=true then te τ1 H5 fun y H6=>H6 acc=some (.lst ys)/\N (ys ++ [y]) τ1 (upd H6 acc (.lst (ys ++ [y]))) else N ys τ1 H5))
def CL (n:Nat) (js:List Nat) (wi:TI) (g:TG) (ct:TT) (te:TE):TE:=fun σ H Q=>wi σ H fun J H1=>∀ acc,H1 acc=none->mL J n js g ct te acc σ H1 Q
def rJ (X:Cx) (ifs:List Expr) (t:TT):Prop :=
 ∀ (pins:List (Addr × Obj)) (s:Shared) (σ : St) (H:Hp) (Q:Bool->Hp->Prop),Inv X pins σ H s->t σ H Q ->
  wpAny (model X.prog X.w) X.A (forIn ifs true fun c r=>if r=true then do let ok <-isTrue c X.env (eval c X.env);pure (ForInStep.yield ok) else pure (ForInStep.yield r)) (TP X pins σ Q) X.xe s
def CM:TT:=fun _ H Q=>Q true H
theorem b7 {X:Cx}:rJ X [] CM:=fun _ _ σ H Q I h=>wpAny_pure ⟨H,I,h⟩
theorem uI {X:Cx} {c:Expr} {t:TT} (h:PT X c t):rJ X [c] t:=by
 intro pins s σ H Q I q
 rw [List.forIn_cons]
 simp only [if_true,bind_assoc,pure_bind]
 refine wpAny_bind (aU (h pins s σ H Q I q) fun b s1 h1=>?_)
 exact wpAny_pure h1
section
variable {X:Cx} {pos:Pos}
theorem kY {prog:Program} {w:World} {A:Around} {R:Result->Shared->Prop} {s:Shared} {elt target iter:Expr} {ifs:List Expr} {scope:Scope} {pos:Pos} {it acc:Value} {env:Env} (I:Nat->Shared->Prop)
  (turn:∀ n s,I n s->wpAny (model prog w) A (pyNext it) (fun r s₁=>match r with
   | none=>R (.ok .next) s₁
   | some v=>wpAny (model prog w) A (letOwnedTupleGo target it v) (fun _ s₁'=>wpAny (model prog w) A (assign target env v) (fun _ s₂ =>
     wpAny (model prog w) A (forIn ifs true fun c r=>if r=true then do let ok <-isTrue c env (eval c env);pure (ForInStep.yield ok) else pure (ForInStep.yield r)) (fun ok s₃ =>
      if ok=true then wpAny (model prog w) A (eval elt env) (fun x s₄ =>
       wpAny (model prog w) A (call (.builtin "list.append") [acc,x]) (fun _ s₅=>∃ m,m < n/\I m s₅) (fun _ _=>False) s₄) (fun _ _=>False) s₃
      else ∃ m,m < n/\I m s₃) (fun _ _=>False) s₂) (fun _ _=>False) s₁') (fun _ _=>False) s₁) (fun _ _=>False) s)
  (n:Nat) (h:I n s) :
  codeAny (model prog w) A (.compLoop (.ListComp elt [⟨target,iter,ifs,0⟩] scope pos) 0 it acc env) R s:=by
 refine codeAny_loop rfl I (fun n s hI=>?_) n h
 show wpAny _ A ((compTurn (.ListComp elt [⟨target,iter,ifs,0⟩] scope pos) 0 it acc env).onRaise (fun x=>do noteFrame x env;theTreesLotGoes x)) _ _ s
 refine wpAny_noted ?_
 rw [compTurn_list]
 refine wpAny_bind (wpAny_standAt (wpAny_bind (wpAny_mono (turn n s hI) (fun r s₁ h₁=>?_) fun _ _ h'=>h'.elim)))
 cases r with
 | none=>exact wpAny_pure h₁
 | some v =>
  refine wpAny_bind (wpAny_mono h₁ (fun _ s₁' h₁'=>?_) fun _ _ h'=>h'.elim)
  refine wpAny_bind (wpAny_mono h₁' (fun _ s₂ h₂=>wpAny_bind (wpAny_mono h₂ (fun ok s₃ h₃=>?_) fun _ _ h'=>h'.elim)) fun _ _ h'=>h'.elim)
  cases ok with
  | false=>exact wpAny_pure ⟨rfl,h₃⟩
  | true =>
   exact wpAny_bind (wpAny_bind (wpAny_mono h₃ (fun x s₄ h₄=>wpAny_bind (wpAny_mono h₄ (fun _ s₅ h₅=>wpAny_pure (wpAny_pure ⟨rfl,h₅⟩)) fun _ _ h'=>h'.elim)) fun _ _ h'=>h'.elim))
theorem uJ {pins:List (Addr × Obj)} {σ : St} {H:Hp} {s:Shared} {E:Value->Shared->Prop} {tg elt iter:Expr} {ifs:List Expr} {scope:Scope} {g:TG} {ct:TT} {te:TE} {ts fr:List Str} {js:List Nat}
    {it:Addr} {fp:List Addr} {tn:Nat->Heap->Prop} {J:It} {Q:VK} {RR:Value->Addr->Result->Shared->Prop}
    (hc:X.calm=true) (hkind:scope.kind=.function) (hcell:∀ y ∈ scope.names,y.2 ≠ .cell) (hfree:∀ y ∈ scope.names,y.2=.free->X.env.kindOf y.1=some .cell\/X.env.kindOf y.1=some .free)
    (hfr:fS X scope fr js) (htg:∀ C fp s₁ H₁,PG (fk X scope C (ts++fr) fp s₁ H₁) tg g) (hct:∀ C fp s₁ H₁,rJ (fk X scope C (ts++fr) fp s₁ H₁) ifs ct) (hte:∀ C fp s₁ H₁,PE (fk X scope C (ts++fr) fp s₁ H₁) elt te)
    (I:Inv X pins σ H s) (T:Turn X.prog X.w X.K tg J fp it tn) (st:tn 0 s.heap) (hfp:∀ b ∈ fp,fC X pins H b)
    (h:∀ acc,H acc=none->mL J ts.length js g ct te acc σ H Q)
    (hRR:∀ acc C H' s' m,Inv X pins σ H' s'->s'.heap.Ns C m->H' C=none->s.heap.objs.size<=C->Q (.ref acc) H'->RR (.ref acc) C (.ok .next) s') :
    wpAny (model X.prog X.w) X.A (newList []) (fun acc s₃=>wpAny (model X.prog X.w) X.A (newFunctionEnv scope X.env.globals (gw X.env.cells scope.names []) [] X.env.qual none .none (some X.env)) (fun cenv s₄ =>
      codeAny (model X.prog X.w) X.A (.compStart (.ListComp elt [⟨tg,iter,ifs,0⟩] scope pos) 0 (.ref it) acc { cenv with scope:=relabel scope X.env }) (RR acc cenv.locals) s₄) E s₃) E s:=by
  have hf:∀ y ∈ scope.names,y.2=.free->∃ c,X.env.cells.lookup y.1=some c:=fun y hy e=>I.ok.has y.1 (hfree y hy e)
  have ag:∀ x c,(gw X.env.cells scope.names []).lookup x=some c->X.env.cells.lookup x=some c:=jj scope.names [] hf fun x c e=>by simp at e
  have hlt:∀ b ∈ fp,b < s.heap.objs.size:=fun b hb=>by
    obtain⟨o,e,_⟩:=T.obj _ _ st b hb
    exact Heap.lt_size e
  refine wpAny_newObj_type (wpAny_newFunctionEnv hcell (by intro y hy;simp at hy) (fun h₁ hns₁ hsb₁=>?_) hkind)
  dsimp only at hns₁ hsb₁ ⊢
  generalize hH2:s.heap.push { cls:=.type "list",dict:=none,data:=.seq ([]:List Value).toArray }=G2 at hns₁ hsb₁ ⊢
  have hC:G2.objs.size=s.heap.objs.size+1:=by rw [<-hH2,Heap.size_push]
  have hDC:s.heap.objs.size ≠ G2.objs.size:=by rw [hC];exact Nat.ne_of_lt (Nat.lt_succ_self _)
  have hCle:s.heap.objs.size<=G2.objs.size:=by rw [hC];exact Nat.le_succ _
  have below:∀ b,b < s.heap.objs.size->b ≠ G2.objs.size/\b ≠ s.heap.objs.size:=fun b hb=>⟨by rw [hC];exact Nat.ne_of_lt (Nat.lt_succ_of_lt hb),Nat.ne_of_lt hb⟩
  have old:∀ b o,s.heap.get? b=some o->h₁.get? b=some o:=fun b o e=>hsb₁.extBut b o (below b (Heap.lt_size e)).1 (Heap.get?_push_of_some _ (hH2 ▸ Heap.get?_push_of_some _ e))
  have hacc:h₁.get? s.heap.objs.size=some { cls:=.type "list",data:=.seq ([]:List Value).toArray }:=hsb₁.extBut _ _ hDC (Heap.get?_push_of_some _ (hH2 ▸ Heap.get?_push_size _ rfl))
  have nD:H s.heap.objs.size=none:=I.au.fresh (Nat.le_refl _)
  have nC:H G2.objs.size=none:=I.au.fresh hCle
  obtain⟨W,⟨m0,w0⟩,turn⟩:=h s.heap.objs.size nD
  generalize hXb:fk X scope G2.objs.size (ts++fr) fp s H=Xb
  have Ib:∀ tk,Inv Xb [] (ib ts.length js σ) (upd H s.heap.objs.size (.lst [])) { s with heap:=h₁,toks:=tk }:=by
    intro tk
    subst hXb
    refine⟨xD I hkind hcell hf hCle hfp hlt,rfl,I.bare,Un.laid old (Nat.le_refl _) nD,⟨_,hns₁,fun i x v e1 e2 e3=>?_⟩,fun x c e=>?_,?_,fun x c e=>?_,fun p hp=>absurd (show p ∈ ([]:List (Addr × Obj)) from hp) (by simp),I.au.laid old (Nat.le_refl _) ⟨by show 0<=sizeLine;decide,[],_,.nil,hacc⟩,?_⟩
    · have hi:ts.length<=i:=by
        refine Nat.le_of_not_lt fun hi=>?_
        unfold ib at e2
        rw [List.getElem?_append_left (by simpa using hi),List.getElem?_replicate] at e2
        split at e2 <;> cases e2
      have e1':fr[i - ts.length]? = some x:=by
        have e1'':(ts++fr)[i]? = some x:=e1
        rw [List.getElem?_append_right hi] at e1''
        exact e1''
      unfold ib at e2
      rw [List.getElem?_append_right (by simpa using hi),List.length_replicate,List.getElem?_map] at e2
      cases ej:js[i - ts.length]? with
      | none=>rw [ej] at e2;cases e2
      | some j =>
        rw [ej] at e2
        have e2':σ.getD j none=some v:=by simpa using e2
        obtain⟨q1,q2,q3⟩:=hfr.get e1' ej
        have e2'':σ[j]? = some (some v):=by
          rw [List.getD_eq_getElem?_getD] at e2'
          cases ez:σ[j]? with
          | none=>rw [ez] at e2';cases e2'
          | some z=>rw [ez] at e2';rw [show z=some v from e2']
        obtain⟨m,hn,hl⟩:=I.loc
        obtain⟨u,r,l⟩:=hl j x v q1 e2'' (by
          rcases q2 with q2 | q2
          · exact .inr (.inl q2)
          · exact .inr (.inr q2))
        refine⟨u,r,.inr ⟨iU q3,?_⟩⟩
        rcases l with ⟨l,_⟩ | ⟨_,c,lc,lv⟩
        · rcases q2 with q2 | q2 <;> (rw [l] at q2;cases q2)
        · obtain⟨c',hc'⟩:=mw (cells:=X.env.cells) scope.names [] (.inl (PySem.mem_of_lookup q3))
          have:=ag x c' hc'
          rw [lc] at this
          cases this
          obtain⟨o,ho,hd⟩:=lv
          exact⟨c,hc',o,old _ _ ho,hd⟩
    · obtain⟨v,o,ho,hd⟩:=I.cell x c (ag x c e)
      exact⟨v,o,old _ _ ho,hd⟩
    · show upd H s.heap.objs.size (.lst []) G2.objs.size=none
      rw [ar hDC.symm];exact nC
    · obtain⟨v,o,ho,hd⟩:=I.cell x c (ag x c e)
      rw [ar (Nat.ne_of_lt (Heap.lt_size ho))]
      exact I.cT x c (ag x c e)
    · show (ib ts.length js σ).length=(ts++fr).length
      unfold ib
      rw [List.length_append,List.length_replicate,List.length_map,List.length_append,hfr.len]
  have fpB:∀ {H':Hp},(∀ b ∈ fp,H' b=none)->∀ b ∈ fp,fC Xb [] H' b:=fun {H'} hn b hb=>by
    subst hXb
    obtain⟨h1,h2,h3,h4,h5,h6⟩:=hfp b hb
    refine⟨hn b hb,(below b (hlt b hb)).1,fun z=>?_,.inl hb,fun x c e=>h5 x c (ag x c e),fun p hp=>absurd (show p ∈ ([]:List (Addr × Obj)) from hp) (by simp)⟩
    rcases List.mem_cons.mp (I.jN b z) with z | z
    · exact h2 z
    · exact h3 z
  have fin:∀ {τ : St} {H':Hp} {s':Shared},Inv Xb [] τ H' s'->Q (.ref s.heap.objs.size) H'->RR (.ref s.heap.objs.size) G2.objs.size (.ok .next) s':=fun {τ H' s'} Jb q=>by
    subst hXb
    obtain⟨m,hn,_⟩:=Jb.loc
    refine hRR _ _ H' s' m (I.nY (ch:=fp) Jb.os Jb.base Jb.au Jb.bare fun b hb=>?_) hn Jb.free hCle q
    obtain⟨h1,h2,h3,h4,h5,h6⟩:=hfp b hb
    exact⟨h4,h2,h5,h6⟩
  have loop:∀ tk,codeAny (model X.prog X.w) X.A (.compLoop (.ListComp elt [⟨tg,iter,ifs,0⟩] scope pos) 0 (.ref it) (.ref s.heap.objs.size) (compEnvC scope (gw X.env.cells scope.names []) G2.objs.size X.env))
        (RR (.ref s.heap.objs.size) G2.objs.size) { s with heap:=h₁,toks:=tk }:=by
    intro tk
    refine kY (fun n s'=>∃ i ys τ H',Inv Xb [] τ H' s'/\tn i s'.heap/\(∀ b ∈ fp,H' b=none)/\W i n ys τ H') ?_ m0 ⟨0,[],_,_,Ib tk,T.keep _ _ _ st fun b hb o e=>old b o e,fun b hb=>?_,w0⟩
    · rintro n s3 ⟨i,ys,τ,H3,I3,st3,fr3,w3⟩
      have htg':=htg G2.objs.size fp s H
      have hct':=hct G2.objs.size fp s H
      have hte':=hte G2.objs.size fp s H
      rw [hXb] at htg' hct' hte'
      have eP:Xb.prog=X.prog:=by subst hXb;rfl
      have ew:Xb.w=X.w:=by subst hXb;rfl
      have eK:Xb.K=X.K:=by subst hXb;rfl
      have eA:Xb.A=X.A:=by subst hXb;rfl
      have ec:Xb.calm=true:=by subst hXb;exact hc
      have ee:Xb.env=compEnvC scope (gw X.env.cells scope.names []) G2.objs.size X.env:=by subst hXb;rfl
      have ex:Xb.xe=fun _ _=>False:=by subst hXb;rfl
      rw [<-eP,<-ew,<-eA,<-ee]
      obtain⟨ha,hl,turn'⟩:=turn i n ys τ H3 w3
      rcases turn' with ⟨stop,q⟩ | ⟨go,N,hN,step⟩
      · have hd:=T.done Xb eP ew eK ec i [] s3 τ H3 (fun _ _=>False) I3 (fpB fr3) st3 stop
        rw [<-eP,<-ew] at hd
        refine wpAny_mono hd (fun r s4 hr4=>?_) fun _ _ z=>z
        obtain⟨hr,I4⟩:=hr4
        subst hr
        exact fin I4 q
      · have hd:=T.item Xb eP ew eK ec i [] s3 τ H3 (fun _ _=>False) I3 (fpB fr3) st3 go
        rw [<-eP,<-ew] at hd
        refine wpAny_mono hd (fun r s4 hr4=>?_) fun _ _ z=>z
        obtain⟨u,hr,h4⟩:=hr4
        subst hr
        refine wpAny_mono h4 (fun _ s5 ⟨x,H5,I5,r5,y5,st5,fr5⟩=>?_) fun _ _ z=>z
        have I5':=I5.pinned (fpB fr5) (T.obj _ _ st5)
        have ef:∀ {σ7:St} {H7:Hp} {s7:Shared},Inv Xb ([] ++ jR fp s5.heap) σ7 H7 s7->tn (i+1) s7.heap/\∀ b ∈ fp,H7 b=none:=fun {σ7 H7 s7} I7=>by
          refine⟨T.keep _ _ _ st5 fun b hb o e=>(I7.pin (b,o) (List.mem_append_right _ (List.mem_append_right _ (fj hb e)))).1,fun b hb=>?_⟩
          obtain⟨o,e,d⟩:=T.obj _ _ st5 b hb
          exact (I7.pin (b,o) (List.mem_append_right _ (List.mem_append_right _ (fj hb e)))).2.1
        refine wpAny_mono (htg' _ s5 τ H5 x u _ I5' r5 (step x H5 y5)) (fun _ s6 ⟨τ6,H6,I6,q6⟩=>?_) (fun _ _ z=>by rw [ex] at z;exact z)
        refine wpAny_mono (hct' _ s6 τ6 H6 _ I6 q6) (fun ok s7 ⟨H7,I7,q7⟩=>?_) (fun _ _ z=>by rw [ex] at z;exact z)
        cases ok with
        | false =>
          have q7':N ys τ6 H7:=by rw [if_neg (by simp)] at q7;exact q7
          rw [if_neg (by simp)]
          obtain⟨m',hm,w7⟩:=hN _ _ _ q7'
          exact⟨m',hm,i+1,ys,τ6,H7,I7.fR,(ef I7).1,(ef I7).2,w7⟩
        | true =>
          rw [if_pos rfl] at q7 ⊢
          refine wpAny_mono (hte' _ s7 τ6 H7 _ I7 q7) (fun v s8 ⟨y,H8,I8,r8,ha8,n8⟩=>?_) (fun _ _ z=>by rw [ex] at z;exact z)
          refine wpAny_mono (eD (X:=Xb) _ s8 τ6 H8 (.ref s.heap.objs.size) [y] (.ref s.heap.objs.size) [v] (fun _ H9=>H9=upd H8 s.heap.objs.size (.lst (ys ++ [y]))) I8 rfl (.cons r8 .nil) ⟨_,ys,y,rfl,rfl,ha8,hl,rfl⟩) (fun _ s9 ⟨_,H9,I9,_,e9⟩=>?_) (fun _ _ z=>by rw [ex] at z;exact z)
          subst e9
          obtain⟨m',hm,w8⟩:=hN _ _ _ n8
          exact⟨m',hm,i+1,_,τ6,_,I9.fR,(ef I9).1,(ef I9).2,w8⟩
    · rw [ar (Nat.ne_of_lt (hlt b hb))]
      exact (hfp b hb).1
  exact codeAny_compStart_list (loop _) (T.self _ 0 _ _ _ (T.keep _ _ _ st fun b hb o e=>old b o e) (loop _))
theorem Inv.rK {pins:List (Addr × Obj)} {σ : St} {H H':Hp} {s s':Shared} {C:Addr} {h':Heap} (I:Inv X pins σ H s) {σ':St} (I':Inv X pins σ' H' s') (hC:H' C=none) (hle:s.heap.objs.size<=C) (hsb:Heap.SameBut C s'.heap h') :
  Inv X pins σ' H' { s' with heap:=h' }:=by
 obtain⟨h1,h2,h3,h4,h5,h6⟩:=I.gW (H':=H') hle hC
 exact I'.turned (t':=s'.toks) (fun b o hb e=>hsb.extBut b o hb e) hC h2 h4 h5 h6
theorem cD {tg elt iter:Expr} {ifs:List Expr} {scope:Scope} {wi:TI} {g:TG} {ct:TT} {te:TE} (ts fr:List Str) (js:List Nat)
  (hc:X.calm=true) (hi:PI X tg iter wi) (hkind:scope.kind=.function) (hcell:∀ y ∈ scope.names,y.2 ≠ .cell) (hnames:∀ y ∈ scope.names,y.2=.local->scope.names.lookup y.1=some .local)
  (hfree0:∀ y ∈ scope.names,y.2=.free->y.1 ∈ fr) (hfr:fS X scope fr js)
  (htg:∀ C fp s₁ H₁,PG (fk X scope C (ts++fr) fp s₁ H₁) tg g) (hct:∀ C fp s₁ H₁,rJ (fk X scope C (ts++fr) fp s₁ H₁) ifs ct) (hte:∀ C fp s₁ H₁,PE (fk X scope C (ts++fr) fp s₁ H₁) elt te)
  (hs:∀ x,foldedSetIterable iter X.env x=pure x:=by intro _;rfl):PE X (.ListComp elt [⟨tg,iter,ifs,0⟩] scope pos) (CL ts.length js wi g ct te):=by
 have hfree:∀ y ∈ scope.names,y.2=.free->X.env.kindOf y.1=some .cell\/X.env.kindOf y.1=some .free:=fun y hy e=>hfr.mem (hfree0 y hy e)
 intro pins s σ H Q I h
 rw [eval_ListComp]
 refine wpAny_comprehension_free (use:=none) rfl hs (kf fun y hy e=>I.ok.has y.1 (hfree y hy e)) hkind hnames (aU (hi pins s σ H _ I h) fun xv s1 h1=>aU h1 fun itv s2 h2=>?_)
 obtain⟨it,fp,tn,J,H2,e,I2,T,st2,f2,hW⟩:=h2
 subst e
 refine uJ (RR:=fun acc C=>compPost (model X.prog X.w) X.A X.xe none (EP X pins σ Q) acc C) hc hkind hcell hfree hfr htg hct hte I2 T st2 f2 hW ?_
 intro acc C H' s' m I' hn hC hle q
 exact⟨m,hn,fun h' hsb=>⟨.ref acc,H',I2.rK I' hC hle hsb,rfl,q⟩⟩
theorem gX {tg elt iter:Expr} {ifs:List Expr} {scope:Scope} {wi:TI} {g:TG} {ct:TT} {te:TE} {i:Nat} {y:Str} {py spos:Pos} (ts fr:List Str) (js:List Nat)
  (hsw:swapsWith (.ListComp elt [⟨tg,iter,ifs,0⟩] scope pos) (some (.Name y py)) spos.line X.env=pure true) (hN:X.N.Nodup) (hi0:X.N[i]? = some y) (hx:X.env.scope.names.lookup y=some .local)
  (hc:X.calm=true) (hi:PI X tg iter wi) (hkind:scope.kind=.function) (hcell:∀ y ∈ scope.names,y.2 ≠ .cell) (hnames:∀ y ∈ scope.names,y.2=.local->scope.names.lookup y.1=some .local)
  (hfree0:∀ y ∈ scope.names,y.2=.free->y.1 ∈ fr) (hfr:fS X scope fr js)
  (htg:∀ C fp s₁ H₁,PG (fk X scope C (ts++fr) fp s₁ H₁) tg g) (hct:∀ C fp s₁ H₁,rJ (fk X scope C (ts++fr) fp s₁ H₁) ifs ct) (hte:∀ C fp s₁ H₁,PE (fk X scope C (ts++fr) fp s₁ H₁) elt te)
  (hs:∀ x,foldedSetIterable iter X.env x=pure x:=by intro _;rfl):PS X (.Assign [.Name y py] (.ListComp elt [⟨tg,iter,ifs,0⟩] scope pos) spos) (rq (CL ts.length js wi g ct te) (j8 i)):=by
 have hfree:∀ y ∈ scope.names,y.2=.free->X.env.kindOf y.1=some .cell\/X.env.kindOf y.1=some .free:=fun y hy e=>hfr.mem (hfree0 y hy e)
 intro pins s σ H D I h
 rw [exec_Assign_Name_used _ _ _ _ hsw]
 refine wpAny_bind (wpAny_standAt (wpAny_bind ?_))
 show wpAny _ X.A (do let _ <-comprehension (.ListComp elt [⟨tg,iter,ifs,0⟩] scope pos) scope X.env _ (newList []) false (eval iter X.env) (some (assign (.Name y py) X.env))) _ _ s
 refine wpAny_bind (wpAny_mono (wpAny_comprehension_free (use:=some (assign (.Name y py) X.env)) (Q:=fun _ s'=>SP X pins D .next s') rfl hs (kf fun y hy e=>I.ok.has y.1 (hfree y hy e)) hkind hnames
  (aU (hi pins s σ H _ I h) fun xv s1 h1=>aU h1 fun itv s2 h2=>?_)) (fun _ s' hq=>wpAny_pure (wpAny_pure hq)) fun _ _ e=>e)
 obtain⟨it,fp,tn,J,H2,e,I2,T,st2,f2,hW⟩:=h2
 subst e
 refine uJ (Q:=fun v H'=>D.nx (σ.set i (some v)) H') (RR:=fun acc C=>compPost (model X.prog X.w) X.A X.xe (some (assign (.Name y py) X.env)) (fun _ s'=>SP X pins D .next s') acc C) hc hkind hcell hfree hfr htg hct hte I2 T st2 f2 hW ?_
 intro acc C H' s' m I' hn hC hle q
 show wpAny _ X.A (assign (.Name y py) X.env (.ref acc)) _ _ _
 refine wpAny_assign_Name (pV I' hN hi0 (.inl hx) (v:=.ref acc) rfl (fun s'' I'' hch=>?_) (.inr hx))
 obtain⟨h1,h2,h3,h4,h5,h6⟩:=I2.gW (H':=H') hle hC
 obtain⟨a,hsb,ha⟩:=hch
 refine⟨m,hn.sameBut hsb ?_,fun h' hsb'=>⟨_,H',I2.rK I'' hC hle hsb',q⟩⟩
 rcases ha with ha | ha
 ·rw [ha];exact h2
 ·exact fun z=>h5 y a ha z.symm
end
theorem jV {K:PySem.W.Frag} {a acc:Addr} {xs:List V} {n:Nat} {js:List Nat} {g:TG} {ct:TT} {te:TE} {σ : St} {H1:Hp} {Q:VK} (Pv:Nat->List V->St->Hp->Prop) (h0:Pv 0 [] (ib n js σ) (upd H1 acc (.lst [])))
  (hl:∀ i ys τ H,i<=xs.length->Pv i ys τ H->ay K H a xs/\H acc=some (.lst ys)/\ys.length < sizeLine)
  (hs:∀ i x ys τ H,xs[i]? = some x->Pv i ys τ H->g x τ H fun τ1 H4=>ct τ1 H4 fun b H5=>if b=true then te τ1 H5 fun y H6=>H6 acc=some (.lst ys)/\Pv (i+1) (ys ++ [y]) τ1 (upd H6 acc (.lst (ys ++ [y]))) else Pv (i+1) ys τ1 H5)
  (hd:∀ ys τ H,Pv xs.length ys τ H->Q (.ref acc) H) :
  mL (Cn K a) n js g ct te acc σ H1 Q:=by
 refine⟨fun i m ys τ H=>m=xs.length - i/\i<=xs.length/\Pv i ys τ H,⟨xs.length,by simp,Nat.zero_le _,h0⟩,?_⟩
 rintro i m ys τ H ⟨rfl,hi,p⟩
 obtain⟨q,q2,q3⟩:=hl i ys τ H hi p
 refine⟨q2,q3,?_⟩
 by_cases hlt:i < xs.length
 ·refine .inr ⟨⟨xs,xs[i],q,by simp [hlt]⟩,Pv (i+1),fun ys' τ' H' p'=>⟨xs.length - (i+1),by omega,rfl,hlt,p'⟩,fun x H' y=>?_⟩
  obtain⟨e,y⟩:=y
  subst e
  exact hs i x ys τ _ (y xs q) p
 ·have e:i=xs.length:=by omega
  subst e
  exact .inl ⟨⟨xs,q,Nat.le_refl _⟩,hd ys τ H p⟩
theorem jW {K:PySem.W.Frag} {a acc:Addr} {xs:List V} {n:Nat} {js:List Nat} {g:TG} {ct:TT} {te:TE} {σ : St} {H1:Hp} {Q:VK} (Pv:Nat->List V->St->Hp->Prop) (h0:Pv 0 [] (ib n js σ) (upd H1 acc (.lst [])))
  (hl:∀ i ys τ H,i<=xs.length->Pv i ys τ H->bJ K H a xs/\H acc=some (.lst ys)/\ys.length < sizeLine)
  (hs:∀ i x ys τ H,xs[i]? = some x->Pv i ys τ H->g x τ H fun τ1 H4=>ct τ1 H4 fun b H5=>if b=true then te τ1 H5 fun y H6=>H6 acc=some (.lst ys)/\Pv (i+1) (ys ++ [y]) τ1 (upd H6 acc (.lst (ys ++ [y]))) else Pv (i+1) ys τ1 H5)
  (hd:∀ ys τ H,Pv xs.length ys τ H->Q (.ref acc) H) :
  mL (Co K a) n js g ct te acc σ H1 Q:=by
 refine⟨fun i m ys τ H=>m=xs.length - i/\i<=xs.length/\Pv i ys τ H,⟨xs.length,by simp,Nat.zero_le _,h0⟩,?_⟩
 rintro i m ys τ H ⟨rfl,hi,p⟩
 obtain⟨q,q2,q3⟩:=hl i ys τ H hi p
 refine⟨q2,q3,?_⟩
 by_cases hlt:i < xs.length
 ·refine .inr ⟨⟨xs,xs[i],q,by simp [hlt]⟩,Pv (i+1),fun ys' τ' H' p'=>⟨xs.length - (i+1),by omega,rfl,hlt,p'⟩,fun x H' y=>?_⟩
  obtain⟨e,y⟩:=y
  subst e
  exact hs i x ys τ _ (y xs q) p
 ·have e:i=xs.length:=by omega
  subst e
  exact .inl ⟨⟨xs,q,Nat.le_refl _⟩,hd ys τ H p⟩
theorem m8 {lo:Int} {k:Nat} {acc:Addr} {n:Nat} {js:List Nat} {g:TG} {ct:TT} {te:TE} {σ : St} {H1:Hp} {Q:VK} (Pv:Nat->List V->St->Hp->Prop) (h0:Pv 0 [] (ib n js σ) (upd H1 acc (.lst [])))
  (hl:∀ i ys τ H,i<=k->Pv i ys τ H->H acc=some (.lst ys)/\ys.length < sizeLine)
  (hs:∀ i ys τ H,i < k->Pv i ys τ H->g (.int (lo+i)) τ H fun τ1 H4=>ct τ1 H4 fun b H5=>if b=true then te τ1 H5 fun y H6=>H6 acc=some (.lst ys)/\Pv (i+1) (ys ++ [y]) τ1 (upd H6 acc (.lst (ys ++ [y]))) else Pv (i+1) ys τ1 H5)
  (hd:∀ ys τ H,Pv k ys τ H->Q (.ref acc) H) :
  mL (rA lo k) n js g ct te acc σ H1 Q:=by
 refine⟨fun i m ys τ H=>m=k - i/\i<=k/\Pv i ys τ H,⟨k,by simp,Nat.zero_le _,h0⟩,?_⟩
 rintro i m ys τ H ⟨rfl,hi,p⟩
 obtain⟨q2,q3⟩:=hl i ys τ H hi p
 refine⟨q2,q3,?_⟩
 by_cases hlt:i < k
 ·refine .inr ⟨hlt,Pv (i+1),fun ys' τ' H' p'=>⟨k - (i+1),by omega,rfl,hlt,p'⟩,fun x H' y=>?_⟩
  obtain⟨e,y⟩:=y
  subst e y
  exact hs i ys τ _ hlt p
 ·have e:i=k:=by omega
  subst e
  exact .inl ⟨Nat.le_refl _,hd ys τ H p⟩
section
variable {X:Cx}
end
def E9 (t:TS):TS:=fun D σ H=>∃ M:St->Hp->Prop,t { D with nx:=M } σ H/\∀ σ' H',M σ' H'->D.nx σ' H'
theorem oo {X:Cx} {st:Stmt} {t:TS} (h:PS X st t):PS X st (E9 t):=by
 intro pins s σ H D I q
 obtain⟨M,q,hM⟩:=q
 refine aU (h pins s σ H _ I q) fun f s' hs=>?_
 cases f with
 | next =>
  obtain⟨σ',H',I',m⟩:=hs
  exact⟨σ',H',I',hM _ _ m⟩
 | brk=>exact hs
 | cont=>exact hs
 | ret u=>exact hs
theorem eM {m:Int} (h0:0 < m) (h1:m < 1073741824):m.natAbs.log2 < 9000:=by
 have h:m.natAbs.log2 < 30:=(Nat.log2_lt (by omega)).mpr (by omega)
 omega
theorem o7 {X:Cx} {K:PySem.W.Frag} {es:List Expr} {k:Nat} {t:rm} {n:Nat} {pos:Pos} (hK:X.K=K) (h:PG X (.Tuple es k pos) (yU X.K n t)):PG X (.Tuple es k pos) (yU K n t):=by
 subst hK
 exact h
section
variable {prog:Program} {w:World} {A:Around} {E:Value->Shared->Prop} {s:Shared}
theorem oq {j t:Addr} {n:Nat} {its:Array Value} {x:Value} {Q:Value->Shared->Prop} (hj:s.heap.IsTupleIter j t n) (ht:s.heap.IsTuple t its) (hx:its[n]? = some x)
  (hQ:∀ g,g.IsTupleIter j t (n+1)->Heap.SameBut j s.heap g->Q x { s with heap:=g }):wpAny (model prog w) A (Builtin.SmallTypes.nextOf (.ref j)) Q E s:=by
 obtain⟨ob,eo,ec,ed⟩:=id hj
 obtain⟨ot,et,_,k,ek⟩:=ht
 unfold Builtin.SmallTypes.nextOf
 refine wpAny_bind (wpAny_callSpecial?_slot (name:=Str.ofString "__next__") hj.typeIs F.slot_tuple_iterator_next (wpAny_call_entry F.slot_tuple_iterator_next hj.typeIs F.entry_tuple_iterator_next ?_ (F.args_tuple_iterator_next_1 _)))
 show wpAny _ _ (field (.ref j) 0 >>= _) _ _ s
 refine wpAny_bind (wpAny_field eo ed (x:=.ref t) rfl ?_)
 show wpAny _ _ (if (Value.ref t == Value.none)=true then _ else _) _ _ s
 refine (if_neg (c:=(Value.ref t == Value.none)=true) Bool.false_ne_true) ▸ ?_
 show wpAny _ _ (field (.ref j) 1 >>= _) _ _ s
 refine wpAny_bind (wpAny_field eo ed (x:=.int n 0) rfl (wpAny_bind (wpAny_seqItems et ek ?_)))
 simp only [hx,Int.toNat_natCast]
 refine wpAny_bind (wpAny_setField eo ed (by simp) (wpAny_pure ⟨x,rfl,wpAny_pure (hQ _ ⟨_,Heap.get?_update_self _ eo (Obj.isFreed_of_fields (Obj.data_mapFields ed _)),(Obj.cls_mapFields ..).trans ec,?_⟩ (Heap.SameBut.update ..))⟩))
 rw [Obj.data_mapFields ed];simp [rawInt]
theorem o8 {j t:Addr} {n:Nat} {its:Array Value} {Q:Value->Shared->Prop} (ha:A.handled=none) (hj:s.heap.IsTupleIter j t n) (ht:s.heap.IsTuple t its) (hx:its[n]? = none)
    (hE:∀ g e,Heap.ExtBut j s.heap g->(∃ o,g.get? e=some o/\o.cls=.type "StopIteration")->E (.ref e) { s with heap:=g }):wpAny (model prog w) A (Builtin.SmallTypes.nextOf (.ref j)) Q E s:=by
  obtain⟨ob,eo,ec,ed⟩:=id hj
  obtain⟨ot,et,_,k,ek⟩:=ht
  unfold Builtin.SmallTypes.nextOf
  refine wpAny_bind (wpAny_callSpecial?_slot (name:=Str.ofString "__next__") hj.typeIs F.slot_tuple_iterator_next (wpAny_call_entry F.slot_tuple_iterator_next hj.typeIs F.entry_tuple_iterator_next ?_ (F.args_tuple_iterator_next_1 _)))
  show wpAny _ _ (field (.ref j) 0 >>= _) _ _ s
  refine wpAny_bind (wpAny_field eo ed (x:=.ref t) rfl ?_)
  show wpAny _ _ (if (Value.ref t == Value.none)=true then _ else _) _ _ s
  refine (if_neg (c:=(Value.ref t == Value.none)=true) Bool.false_ne_true) ▸ ?_
  show wpAny _ _ (field (.ref j) 1 >>= _) _ _ s
  refine wpAny_bind (wpAny_field eo ed (x:=.int n 0) rfl (wpAny_bind (wpAny_seqItems et ek ?_)))
  simp only [hx,Int.toNat_natCast]
  refine wpAny_bind (wpAny_rule (wpAny_bind (wpAny_setField eo ed (by simp) ?_)))
  show wpAny _ _ (newExc (.type "StopIteration") [] >>= fun _=>_) _ _ _
  refine wpAny_bind ?_
  simp only [newTuple,newExc]
  refine wpAny_bind (wpAny_newObj_type (wpAny_bind (m:=firstArgMember _ _) (wpAny_of_eq (a:=Value.none) (by first | rfl | (simp only [firstArgMember];rfl)) (wpAny_newObj_type ?_ (by size_fits)))) (by size_fits))
  simp only [raiseNew]
  refine wpAny_bind (wpAny_handled (by
    first | rw [show A.in1.handled=none from ha] | rw [ha]
    exact wpAny_bind (wpAny_pure (wpAny_throw (hE _ _ (((Heap.SameBut.update ..).extBut.push _).push _) ⟨_,Heap.get?_push_size _ rfl,rfl⟩)))))
structure jm (z p q j k a b:Addr):Prop where
 pz:p ≠ z
 qz:q ≠ z
 jz:j ≠ z
 kz:k ≠ z
 pq:p ≠ q
 pj:p ≠ j
 pk:p ≠ k
 qj:q ≠ j
 qk:q ≠ k
 jk:j ≠ k
 az:a ≠ z
 aq:a ≠ q
 aj:a ≠ j
 ak:a ≠ k
 bz:b ≠ z
 bq:b ≠ q
 bj:b ≠ j
 bk:b ≠ k
theorem fm {h g:Heap} {a:Addr} {xs:Array Value} (x:h.IsTuple a xs) (k:∀ o,h.get? a=some o->g.get? a=some o):g.IsTuple a xs:=by
 obtain⟨o,e,r⟩:=x
 exact⟨o,k o e,r⟩
theorem AY {z p q j k a b:Addr} {m n:Nat} {xs ys:Array Value} {x y u v:Value} {Q:Value->Shared->Prop} (D:jm z p q j k a b)
  (gz:IsZip s.heap z p q .none) (gp:IsPair s.heap p (.ref j) (.ref k)) (gq:IsPair s.heap q u v)
  (gj:s.heap.IsTupleIter j a m) (gk:s.heap.IsTupleIter k b n) (ga:s.heap.IsTuple a xs) (gb:s.heap.IsTuple b ys) (hx:xs[m]? = some x) (hy:ys[n]? = some y)
  (hQ:∀ g,IsZip g z p q (rawInt s.heap.objs.size)->IsPair g q x y->g.IsTupleIter j a (m+1)->g.IsTupleIter k b (n+1)->IsPair g s.heap.objs.size x y->g.objs.size=s.heap.objs.size+1 ->
   (∀ c o,c ≠ z->c ≠ q->c ≠ j->c ≠ k->s.heap.get? c=some o->g.get? c=some o)->Q (.ref s.heap.objs.size) { s with heap:=g }) :
  wpAny (model prog w) A (Builtin.«zip.__next__» ⟨[.ref z],[]⟩) (fun fin s'=>∃ v,fin=.done (.ret v)/\Q v s') E s:=by
 show wpAny _ _ (field (.ref z) 2 >>= fun _=>_) _ _ _
 refine wpAny_bind (wpAny_field gz rfl (x:=.bool false) rfl ?_)
 show wpAny _ _ (field (.ref z) 3 >>= fun _=>_) _ _ _
 refine wpAny_bind (wpAny_field gz rfl (x:=.ref p) rfl (wpAny_bind (wpAny_seqItems gp rfl ?_)))
 show wpAny _ _ (Builtin.SmallTypes.ownedTupleIsFree (.ref z) >>= fun _=>_) _ _ _
 refine wpAny_bind ?_
 unfold Builtin.SmallTypes.ownedTupleIsFree
 refine wpAny_bind (wpAny_field gz rfl (x:=.none) rfl (wpAny_pure ?_))
 simp only [if_true]
 refine wpAny_bind (wpAny_rule (wpAny_bind (wpAny_field gz rfl (x:=.ref q) rfl (wpAny_bind (wpAny_setField_rec gz (by simp) fun g1 gz1 t1=>?_)))))
 replace gz1:IsZip g1 z p q .ellipsis:=gz1
 refine wpAny_bind ?_
 simp only [List.forIn_cons,List.forIn_nil,List.zipIdx_cons,List.zipIdx_nil]
 refine wpAny_bind (wpAny_bind (wpAny_onRaise ?_))
 show wpAny _ _ (Builtin.SmallTypes.nextOf (.ref j) >>= fun _=>_) _ _ _
 refine wpAny_bind (oq (gj.extBut t1.extBut D.jz) (fm ga fun o e=>t1.extBut _ _ D.az e) hx fun g2 gj2 t2=>wpAny_pure ?_)
 have gq2:IsPair g2 q u v:=t2.extBut _ _ D.qj (t1.extBut _ _ D.qz gq)
 refine wpAny_bind (wpAny_seqItems gq2 rfl (wpAny_bind (wpAny_updateSeq_pair gq2 fun g3 gq3 t3=>?_)))
 replace gq3:IsPair g3 q x v:=gq3
 refine wpAny_bind (wpAny_letGo (wpAny_pure (wpAny_bind (wpAny_bind (wpAny_onRaise ?_)))))
 show wpAny _ _ (Builtin.SmallTypes.nextOf (.ref k) >>= fun _=>_) _ _ _
 refine wpAny_bind (oq (((gk.extBut t1.extBut D.kz).extBut t2.extBut D.jk.symm).extBut t3.extBut D.qk.symm) (fm gb fun o e=>t3.extBut _ _ D.bq (t2.extBut _ _ D.bj (t1.extBut _ _ D.bz e))) hy fun g4 gk4 t4=>wpAny_pure ?_)
 have gq4:IsPair g4 q x v:=t4.extBut _ _ D.qk gq3
 refine wpAny_bind (wpAny_seqItems gq4 rfl (wpAny_bind (wpAny_updateSeq_pair gq4 fun g5 gq5 t5=>?_)))
 replace gq5:IsPair g5 q x y:=gq5
 refine wpAny_bind (wpAny_letGo (wpAny_pure (wpAny_pure (wpAny_bind (wpAny_seqItems gq5 rfl (wpAny_bind (wpAny_newTuple ?_)))))))
 have ez:g5.objs.size=s.heap.objs.size:=by rw [t5.1,t4.1,t3.1,t2.1,t1.1]
 have gz5:IsZip g5 z p q .ellipsis:=t5.extBut _ _ D.qz.symm (t4.extBut _ _ D.kz.symm (t3.extBut _ _ D.qz.symm (t2.extBut _ _ D.jz.symm gz1)))
 have k5:∀ c o,c ≠ z->c ≠ q->c ≠ j->c ≠ k->s.heap.get? c=some o->g5.get? c=some o:=fun c o c1 c2 c3 c4 e=>t5.extBut _ _ c2 (t4.extBut _ _ c4 (t3.extBut _ _ c2 (t2.extBut _ _ c3 (t1.extBut _ _ c1 e))))
 have gj5:g5.IsTupleIter j a (m+1):=((gj2.extBut t3.extBut D.qj.symm).extBut t4.extBut D.jk).extBut t5.extBut D.qj.symm
 have gk5:g5.IsTupleIter k b (n+1):=gk4.extBut t5.extBut D.qk.symm
 have lz:z < g5.objs.size:=Heap.lt_size gz5
 show wpAny _ _ (Builtin.SmallTypes.ownedTupleHandOut (.ref z) (.ref g5.objs.size) >>= fun _=>_) _ _ _
 refine wpAny_bind ?_
 unfold Builtin.SmallTypes.ownedTupleHandOut
 have gz6:IsZip (g5.push { cls:=.type "tuple",data:=.seq #[x,y] }) z p q .ellipsis:=Heap.get?_push_of_some _ gz5
 refine wpAny_bind (wpAny_setField_rec gz6 (by simp) fun g7 gz7 t7=>?_)
 replace gz7:IsZip g7 z p q (rawInt g5.objs.size):=gz7
 refine wpAny_setField_rec gz7 (by simp) fun g8 gz8 t8=>?_
 replace gz8:IsZip g8 z p q (rawInt g5.objs.size):=gz8
 have up:∀ c o,c ≠ z->g5.get? c=some o->g8.get? c=some o:=fun c o c1 e=>t8.extBut _ _ c1 (t7.extBut _ _ c1 (Heap.get?_push_of_some _ e))
 have gT:IsPair g8 g5.objs.size x y:=t8.extBut _ _ (Nat.ne_of_gt lz) (t7.extBut _ _ (Nat.ne_of_gt lz) (Heap.get?_push_size _ rfl))
 have e8:g8.objs.size=g5.objs.size+1:=by rw [t8.1,t7.1,Heap.size_push]
 rw [ez] at gz8 gT e8
 refine wpAny_pure ⟨_,rfl,?_⟩
 show Q (.ref g5.objs.size) _
 rw [ez]
 refine hQ g8 gz8 (up _ _ D.qz gq5) ?_ ?_ gT e8 fun c o c1 c2 c3 c4 e=>up c o c1 (k5 c o c1 c2 c3 c4 e)
 ·obtain⟨o,e,r⟩:=gj5
  exact⟨o,up _ _ D.jz e,r⟩
 ·obtain⟨o,e,r⟩:=gk5
  exact⟨o,up _ _ D.kz e,r⟩
theorem CN {z p q j k a b:Addr} {m n:Nat} {xs ys:Array Value} {u v:Value} {Q:Fin->Shared->Prop} (ha:A.handled=none) (D:jm z p q j k a b)
  (gz:IsZip s.heap z p q .none) (gp:IsPair s.heap p (.ref j) (.ref k)) (gq:IsPair s.heap q u v)
  (gj:s.heap.IsTupleIter j a m) (gk:s.heap.IsTupleIter k b n) (ga:s.heap.IsTuple a xs) (gb:s.heap.IsTuple b ys) (hend:xs[m]? = none\/ys[n]? = none)
  (hE:∀ g e,(∀ c o,c ≠ z->c ≠ q->c ≠ j->c ≠ k->s.heap.get? c=some o->g.get? c=some o)->(∃ o,g.get? e=some o/\o.cls=.type "StopIteration")->E (.ref e) { s with heap:=g }) :
  wpAny (model prog w) A (Builtin.«zip.__next__» ⟨[.ref z],[]⟩) Q E s:=by
 show wpAny _ _ (field (.ref z) 2 >>= fun _=>_) _ _ _
 refine wpAny_bind (wpAny_field gz rfl (x:=.bool false) rfl ?_)
 show wpAny _ _ (field (.ref z) 3 >>= fun _=>_) _ _ _
 refine wpAny_bind (wpAny_field gz rfl (x:=.ref p) rfl (wpAny_bind (wpAny_seqItems gp rfl ?_)))
 show wpAny _ _ (Builtin.SmallTypes.ownedTupleIsFree (.ref z) >>= fun _=>_) _ _ _
 refine wpAny_bind ?_
 unfold Builtin.SmallTypes.ownedTupleIsFree
 refine wpAny_bind (wpAny_field gz rfl (x:=.none) rfl (wpAny_pure ?_))
 simp only [if_true]
 refine wpAny_bind (wpAny_rule (wpAny_bind (wpAny_field gz rfl (x:=.ref q) rfl (wpAny_bind (wpAny_setField_rec gz (by simp) fun g1 gz1 t1=>?_)))))
 replace gz1:IsZip g1 z p q .ellipsis:=gz1
 refine wpAny_bind ?_
 simp only [List.forIn_cons,List.forIn_nil,List.zipIdx_cons,List.zipIdx_nil]
 refine wpAny_bind (wpAny_bind (wpAny_onRaise ?_))
 show wpAny _ _ (Builtin.SmallTypes.nextOf (.ref j) >>= fun _=>_) _ _ _
 cases hx:xs[m]? with
 | none =>
  refine wpAny_bind (o8 ha (gj.extBut t1.extBut D.jz) (fm ga fun o e=>t1.extBut _ _ D.az e) hx fun g2 e t2 he=>?_)
  obtain⟨oe,eoe,ce⟩:=he
  have gz2:IsZip g2 z p q .ellipsis:=t2 _ _ D.jz.symm gz1
  have ne:e ≠ z:=fun x=>by subst x;rw [gz2] at eoe;cases eoe;simp at ce
  exact wpAny_setField_rec gz2 (by simp) fun g3 _ t3=>hE g3 e (fun c o c1 _ c3 _ x=>t3.extBut _ _ c1 (t2 _ _ c3 (t1.extBut _ _ c1 x))) ⟨oe,t3.extBut _ _ ne eoe,ce⟩
 | some x =>
  have hy:ys[n]? = none:=hend.elim (fun h=>by rw [hx] at h;cases h) id
  refine wpAny_bind (oq (gj.extBut t1.extBut D.jz) (fm ga fun o e=>t1.extBut _ _ D.az e) hx fun g2 gj2 t2=>wpAny_pure ?_)
  have gq2:IsPair g2 q u v:=t2.extBut _ _ D.qj (t1.extBut _ _ D.qz gq)
  refine wpAny_bind (wpAny_seqItems gq2 rfl (wpAny_bind (wpAny_updateSeq_pair gq2 fun g3 gq3 t3=>?_)))
  refine wpAny_bind (wpAny_letGo (wpAny_pure (wpAny_bind (wpAny_bind (wpAny_onRaise ?_)))))
  show wpAny _ _ (Builtin.SmallTypes.nextOf (.ref k) >>= fun _=>_) _ _ _
  refine wpAny_bind (o8 ha (((gk.extBut t1.extBut D.kz).extBut t2.extBut D.jk.symm).extBut t3.extBut D.qk.symm) (fm gb fun o e=>t3.extBut _ _ D.bq (t2.extBut _ _ D.bj (t1.extBut _ _ D.bz e))) hy fun g4 e t4 he=>?_)
  obtain⟨oe,eoe,ce⟩:=he
  have gz4:IsZip g4 z p q .ellipsis:=t4 _ _ D.kz.symm (t3.extBut _ _ D.qz.symm (t2.extBut _ _ D.jz.symm gz1))
  have ne:e ≠ z:=fun x=>by subst x;rw [gz4] at eoe;cases eoe;simp at ce
  exact wpAny_setField_rec gz4 (by simp) fun g5 _ t5=>hE g5 e (fun c o c1 c2 c3 c4 x=>t5.extBut _ _ c1 (t4 _ _ c4 (t3.extBut _ _ c2 (t2.extBut _ _ c3 (t1.extBut _ _ c1 x))))) ⟨oe,t5.extBut _ _ ne eoe,ce⟩
theorem AZ {z p q j k a b:Addr} {m n:Nat} {xs ys:Array Value} {x y u v:Value} {Q:Option Value->Shared->Prop} (D:jm z p q j k a b)
  (gz:IsZip s.heap z p q .none) (gp:IsPair s.heap p (.ref j) (.ref k)) (gq:IsPair s.heap q u v)
  (gj:s.heap.IsTupleIter j a m) (gk:s.heap.IsTupleIter k b n) (ga:s.heap.IsTuple a xs) (gb:s.heap.IsTuple b ys) (hx:xs[m]? = some x) (hy:ys[n]? = some y)
  (hQ:∀ g,IsZip g z p q (rawInt s.heap.objs.size)->IsPair g q x y->g.IsTupleIter j a (m+1)->g.IsTupleIter k b (n+1)->IsPair g s.heap.objs.size x y->g.objs.size=s.heap.objs.size+1 ->
   (∀ c o,c ≠ z->c ≠ q->c ≠ j->c ≠ k->s.heap.get? c=some o->g.get? c=some o)->Q (some (.ref s.heap.objs.size)) { s with heap:=g }) :
  wpAny (model prog w) A (pyNext (.ref z)) Q E s:=by
 have ty:s.TypeIs (.ref z) "zip" := ⟨_,gz,rfl⟩
 unfold pyNext
 exact wpAny_bind (wpAny_attempt (wpAny_callSpecial?_slot (name:=Str.ofString "__next__") ty F.slot_zip_next (wpAny_call_entry F.slot_zip_next ty F.entry_zip_next
   (AY D gz gp gq gj gk ga gb hx hy fun g a1 a2 a3 a4 a5 a6 a7=>wpAny_pure (hQ g a1 a2 a3 a4 a5 a6 a7)) (F.args_zip_next_1 _))))
theorem A0 {z p q j k a b:Addr} {m n:Nat} {xs ys:Array Value} {u v:Value} {Q:Option Value->Shared->Prop} (ha:A.handled=none) (D:jm z p q j k a b)
  (gz:IsZip s.heap z p q .none) (gp:IsPair s.heap p (.ref j) (.ref k)) (gq:IsPair s.heap q u v)
  (gj:s.heap.IsTupleIter j a m) (gk:s.heap.IsTupleIter k b n) (ga:s.heap.IsTuple a xs) (gb:s.heap.IsTuple b ys) (hend:xs[m]? = none\/ys[n]? = none)
  (hQ:∀ g,(∀ c o,c ≠ z->c ≠ q->c ≠ j->c ≠ k->s.heap.get? c=some o->g.get? c=some o)->Q none { s with heap:=g }):wpAny (model prog w) A (pyNext (.ref z)) Q E s:=by
 have ty:s.TypeIs (.ref z) "zip" := ⟨_,gz,rfl⟩
 unfold pyNext
 refine wpAny_bind (wpAny_attempt (wpAny_callSpecial?_slot (name:=Str.ofString "__next__") ty F.slot_zip_next (wpAny_call_entry F.slot_zip_next ty F.entry_zip_next
   (CN ha D gz gp gq gj gk ga gb hend fun g e hk he=>?_) (F.args_zip_next_1 _))))
 obtain⟨o,eo,ec⟩:=he
 exact wpAny_bind (wpAny_isInstance (T := "StopIteration") (b:=true) ⟨o,eo,ec⟩ isSubtype_stop (wpAny_pure (hQ _ hk)))
abbrev xE (h:Heap) (a:Addr):Heap:=h.push { cls:=.type "tuple_iterator",data:=.fields #[.ref a,.int 0 0] }
abbrev Ag (h:Heap) (a b:Addr):Heap:=(xE h a).push { cls:=.type "tuple_iterator",data:=.fields #[.ref b,.int 0 0] }
abbrev Ah (h:Heap) (a b:Addr):Heap:=(Ag h a b).push { cls:=.type "tuple",data:=.seq #[.ref h.objs.size,.ref (xE h a).objs.size] }
abbrev Ai (h:Heap) (a b:Addr):Heap:=(Ah h a b).push { cls:=.type "tuple",data:=.seq #[.none,.none] }
abbrev uK (h:Heap) (a b:Addr):Heap:=(Ai h a b).push { cls:=.type "zip",data:=.fields #[.none,.bool false,.bool false,.ref (Ag h a b).objs.size,.ref (Ah h a b).objs.size] }
theorem CO (a b:Addr) (xs ys:Array Value):Meets (Builtin.«zip.__new__» ⟨[.type "zip",.ref a,.ref b],[]⟩) (fun _ R s=>s.heap.IsTuple a xs/\s.heap.IsTuple b ys /\
   R (.ok (.ret (.ref (Ai s.heap a b).objs.size))) { s with heap:=uK s.heap a b }) :=
 .of_wp fun P w' A' R' s' hh=>by
  obtain⟨hp,g,d,tk,os⟩:=s'
  obtain⟨ga,gb,hh⟩:=hh
  have hsub:=sub_zip
  have la:Heap.IsTuple (Shared.heap ⟨hp,g,d,tk,os⟩) a xs:=ga
  have lb:Heap.IsTuple (Shared.heap ⟨xE hp a,g,d,tk,os⟩) b ys:=fm gb fun o e=>Heap.get?_push_of_some _ e
  wp_walk using wpAny_pyIter_tuple la,wpAny_pyIter_tuple lb
  exact⟨_,rfl,hh⟩
theorem A1 {a b:Addr} {xs ys:Array Value} {Q:Value->Shared->Prop} (ga:s.heap.IsTuple a xs) (gb:s.heap.IsTuple b ys)
  (h:∀ g,IsZip g (s.heap.objs.size+4) (s.heap.objs.size+2) (s.heap.objs.size+3) .none->IsPair g (s.heap.objs.size+2) (.ref s.heap.objs.size) (.ref (s.heap.objs.size+1)) ->
   IsPair g (s.heap.objs.size+3) .none .none->g.IsTupleIter s.heap.objs.size a 0->g.IsTupleIter (s.heap.objs.size+1) b 0 ->
   (∀ c o,s.heap.get? c=some o->g.get? c=some o)->Q (.ref (s.heap.objs.size+4)) { s with heap:=g }) :
  wpAny (model prog w) A (call (.type "zip") [.ref a,.ref b]) Q E s:=by
 refine callType_new F.called_zip (by decide) (F.typeCall_zip_2 _ _) (F.newCall_zip_2 _ _) (fun obj=>F.args_object_init_3 obj _ _) F.entry_zip_new (CO a b xs ys) ⟨ga,gb,?_⟩
 have z1:(xE s.heap a).objs.size=s.heap.objs.size+1:=Heap.size_push ..
 have z2:(Ag s.heap a b).objs.size=s.heap.objs.size+2:=by rw [Heap.size_push,z1]
 have z3:(Ah s.heap a b).objs.size=s.heap.objs.size+3:=by rw [Heap.size_push,z2]
 have z4:(Ai s.heap a b).objs.size=s.heap.objs.size+4:=by rw [Heap.size_push,z3]
 have up:∀ {h:Heap} {c:Addr} {o o':Obj},h.get? c=some o->(h.push o').get? c=some o:=fun e=>Heap.get?_push_of_some _ e
 have q5:(uK s.heap a b).get? (Ai s.heap a b).objs.size=some _:=Heap.get?_push_size _ rfl
 have q4:(uK s.heap a b).get? (Ah s.heap a b).objs.size=some _:=up (Heap.get?_push_size _ rfl)
 have q3:(uK s.heap a b).get? (Ag s.heap a b).objs.size=some _:=up (up (Heap.get?_push_size _ rfl))
 have q2:(uK s.heap a b).get? (xE s.heap a).objs.size=some _:=up (up (up (Heap.get?_push_size _ rfl)))
 have q1:(uK s.heap a b).get? s.heap.objs.size=some _:=up (up (up (up (Heap.get?_push_size _ rfl))))
 show _/\_
 rw [z2,z3,z4] at q5
 rw [z1,z2] at q3
 rw [z3] at q4
 rw [z1] at q2
 rw [z4]
 exact⟨⟨_,q5,rfl⟩,h _ q5 q3 q4 ⟨_,q1,rfl,rfl⟩ ⟨_,q2,rfl,rfl⟩ fun c o x=>up (up (up (up (up x))))⟩
end
section
variable {X:Cx} {pins:List (Addr × Obj)} {σ : List (Option V)} {H H':Hp} {s:Shared} {h':Heap}
theorem Inv.gg {t':Nat} {fp:List Addr} (I:Inv X pins σ H s) (k:∀ b o,b ∉ fp->s.heap.get? b=some o->h'.get? b=some o) (f:∀ b ∈ fp,fC X pins H b):Inv X pins σ H { s with heap:=h',toks:=t' }:=by
 have nit:∀ b u,H b=some u->b ∉ fp:=fun b u e z=>by rw [(f b z).1] at e;cases e
 refine I.step (g':=s.gens) (d':=s.drawn) (ch:=fp) (fun b hb=>?_) (fun b o _ _ hc e _=>k b o hc e) (fun b o _ _ hc e _=>⟨o.slots,k b o hc e⟩) (fun _ _ _ _ n=>n)
  (fun b o hc e=>⟨o,k b o hc e⟩) (fun _ _ e=>e) (fun _ _ _ e=>e) (fun b ps e=>⟨#[],by rw [e];simp⟩) (fun m hm=>?_) (fun b u e=>?_) I.bare
 ·obtain⟨f0,f1,f2,f3,f4,f5⟩:=f b hb
  exact⟨f3,f1,f4,f5⟩
 ·obtain⟨o,es,ep,ho,r⟩:=hm
  exact⟨o,es,ep,k _ o (fun z=>(f _ z).2.1 rfl) ho,r⟩
 ·refine (I.au b u e).iJ (fun c v hc q=>k c v ?_ q) (fun _ q=>q) fun _ _ q=>q
  rcases hc with z | z
  ·rw [z];exact nit b u e
  ·exact nit c _ z
def Aj (K:PySem.W.Frag) (a b:Addr):It :=
 ⟨fun i H=>∃ xs ys x y,bJ K H a xs/\bJ K H b ys/\xs[i]? = some x/\ys[i]? = some y,
  fun i H v H'=>∃ t x y,v=.ref t/\H t=none/\H' = upd H t (.tup [x,y])/\∀ xs ys,bJ K H a xs->bJ K H b ys->xs[i]? = some x/\ys[i]? = some y,
  fun i H=>∃ xs ys,bJ K H a xs/\bJ K H b ys/\(xs.length<=i\/ys.length<=i)⟩
theorem zj {P:Program} {w:World} {K:PySem.W.Frag} {elts:List Expr} {kk:Nat} {pos:Pos} (a b z p q j k:Addr) (D:jm z p q j k a b) :
    Turn P w K (.Tuple elts kk pos) (Aj K a b) [z,p,q,j,k] z (fun i h=>IsZip h z p q .none/\IsPair h p (.ref j) (.ref k)/\(∃ u v,IsPair h q u v)/\h.IsTupleIter j a i/\h.IsTupleIter k b i) where
  mem:=by simp
  obj:=fun i h st c hc=>by
    obtain⟨gz,gp,⟨u,v,gq⟩,⟨oj,ej,cj,dj⟩,⟨ok,ek,ck,dk⟩⟩:=st
    simp only [List.mem_cons,List.not_mem_nil,or_false] at hc
    rcases hc with rfl | rfl | rfl | rfl | rfl
    · exact⟨_,gz,fun v e=>by cases e⟩
    · exact⟨_,gp,fun v e=>by cases e⟩
    · exact⟨_,gq,fun v e=>by cases e⟩
    · exact⟨oj,ej,fun v e=>by rw [dj] at e;cases e⟩
    · exact⟨ok,ek,fun v e=>by rw [dk] at e;cases e⟩
  keep:=fun i h g st kp=>by
    obtain⟨gz,gp,⟨u,v,gq⟩,⟨oj,ej,rj⟩,⟨ok,ek,rk⟩⟩:=st
    exact⟨kp z (by simp) _ gz,kp p (by simp) _ gp,⟨u,v,kp q (by simp) _ gq⟩,⟨oj,kp j (by simp) _ ej,rj⟩,⟨ok,kp k (by simp) _ ek,rk⟩⟩
  item:=by
    intro X hP hw hK hc i pins s σ H E I hf st hg
    subst hP hw hK
    obtain⟨gz,gp,⟨u,v,gq⟩,gj,gk⟩:=st
    obtain⟨xs,ys,x,y,ha,hb,hx,hy⟩:=hg
    obtain⟨is,ra,pa,_⟩:=I.tuple ha
    obtain⟨js,rb,pb,_⟩:=I.tuple hb
    obtain⟨xv,hxv,rx⟩:=ra.get hx
    obtain⟨yv,hyv,ry⟩:=rb.get hy
    have sz:∀ c ∈ [z,p,q,j,k],c ≠ s.heap.objs.size:=fun c hc e=>by
      subst e
      simp only [List.mem_cons,List.not_mem_nil,or_false] at hc
      rcases hc with e | e | e | e | e
      · exact absurd (Heap.lt_size gz) (by rw [<-e];exact Nat.lt_irrefl _)
      · exact absurd (Heap.lt_size gp) (by rw [<-e];exact Nat.lt_irrefl _)
      · exact absurd (Heap.lt_size gq) (by rw [<-e];exact Nat.lt_irrefl _)
      · obtain⟨oj,ej,_⟩:=gj
        exact absurd (Heap.lt_size ej) (by rw [<-e];exact Nat.lt_irrefl _)
      · obtain⟨ok,ek,_⟩:=gk
        exact absurd (Heap.lt_size ek) (by rw [<-e];exact Nat.lt_irrefl _)
    refine AZ D gz gp gq gj gk (show s.heap.IsTuple a is.toArray from pa) (show s.heap.IsTuple b js.toArray from pb) (x:=xv) (y:=yv) (by simpa using hxv) (by simpa using hyv) fun g a1 a2 a3 a4 a5 a6 hk=>?_
    refine⟨.ref s.heap.objs.size,rfl,wpAny_letOwnedTupleGo_zip a1 fun g' gz' sb=>?_⟩
    have fr:=I.au.fresh (a:=s.heap.objs.size) (Nat.le_refl _)
    have I1:Inv X pins σ (upd H s.heap.objs.size (.tup [x,y])) { s with heap:=s.heap.push { cls:=.type "tuple",data:=.seq #[xv,yv] },toks:=s.toks } :=
      I.laid (fun _ _ e=>Heap.get?_push_of_some _ e) (Nat.le_refl _) ⟨by show 2<=sizeLine;decide,[xv,yv],.cons rx (.cons ry .nil),by first | exact IsTup.new _ _ | exact⟨_,Heap.get?_push_size _ rfl,rfl,_,rfl,rfl⟩⟩
    have f1:∀ c ∈ [z,p,q,j,k],fC X pins (upd H s.heap.objs.size (.tup [x,y])) c:=fun c hc=>by
      obtain⟨f0,fr'⟩:=hf c hc
      exact⟨by rw [ar (sz c hc)];exact f0,fr'⟩
    have I2:Inv X pins σ (upd H s.heap.objs.size (.tup [x,y])) { s with heap:=g',toks:=s.toks }:=Inv.gg (s:={ s with heap:=s.heap.push { cls:=.type "tuple",data:=.seq #[xv,yv] },toks:=s.toks }) (fp:=[z,p,q,j,k]) (h':=g') (t':=s.toks) I1 (fun c o hc e=>by
      simp only [List.mem_cons,List.not_mem_nil,or_false,not_or] at hc
      refine sb.extBut _ _ hc.1 ?_
      rcases Heap.get?_push_cases e with ⟨rfl,rfl⟩ | e
      · exact a5
      · exact hk c o hc.1 hc.2.2.1 hc.2.2.2.1 hc.2.2.2.2 e) f1
    refine⟨.ref s.heap.objs.size,_,I2,rfl,⟨_,x,y,rfl,fr,rfl,fun xs' ys' h1 h2=>?_⟩,⟨gz',sb.extBut _ _ D.pz (hk _ _ D.pz D.pq D.pj D.pk gp),⟨xv,yv,sb.extBut _ _ D.qz a2⟩,a3.extBut sb.extBut D.jz,a4.extBut sb.extBut D.kz⟩,fun c hc=>(f1 c hc).1⟩
    rw [I.jh h1 ha,I.jh h2 hb]
    exact⟨hx,hy⟩
  done:=by
    intro X hP hw hK hc i pins s σ H E I hf st hg
    subst hP hw hK
    obtain⟨gz,gp,⟨u,v,gq⟩,gj,gk⟩:=st
    obtain⟨xs,ys,ha,hb,hl⟩:=hg
    obtain⟨is,ra,pa,_⟩:=I.tuple ha
    obtain⟨js,rb,pb,_⟩:=I.tuple hb
    have la:=ra.length
    have lb:=rb.length
    have he:is.toArray[i]? = none\/js.toArray[i]? = none:=by
      rcases hl with h | h
      · exact .inl (by simp;omega)
      · exact .inr (by simp;omega)
    exact A0 (I.ok.hd hc) D gz gp gq gj gk (show s.heap.IsTuple a is.toArray from pa) (show s.heap.IsTuple b js.toArray from pb) he fun g hk=>⟨rfl,I.gg (fp:=[z,p,q,j,k]) (t':=s.toks) (fun c o hc e=>by
      simp only [List.mem_cons,List.not_mem_nil,or_false,not_or] at hc
      exact hk c o hc.1 hc.2.2.1 hc.2.2.2.1 hc.2.2.2.2 e) hf⟩
  self:=fun _ _ _ _ _ st h=>wpAny_pyIter_zip st.1 h
theorem CP {N a b:Nat} (ha:a < N) (hb:b < N):jm (N+4:Nat) (N+2:Nat) (N+3:Nat) N (N+1:Nat) a b :=
 have ne:∀ {u v:Nat},u < v->¬ (u=v):=fun h e=>by omega
 have ne':∀ {u v:Nat},v < u->¬ (u=v):=fun h e=>by omega
 ⟨ne (by omega),ne (by omega),ne (by omega),ne (by omega),ne (by omega),ne' (by omega),ne' (by omega),ne' (by omega),ne' (by omega),ne (by omega),ne (by omega),ne (by omega),ne (by omega),ne (by omega),ne (by omega),ne (by omega),ne (by omega),ne (by omega)⟩
theorem rL:bootBuiltins "zip" = some (.type "zip"):=by decide +kernel
inductive A2 (K:PySem.W.Frag) (R:(It->Hp->Prop)) (vs:List V) (H1:Hp):Prop
 | mk (a b:_) (_:vs = [.ref a,.ref b]) (_:(∃ xs,bJ K H1 a xs)) (_:(∃ ys,bJ K H1 b ys)) (_:R (Aj K a b) H1)
def Fb (K:PySem.W.Frag) (ta:TA):TI:=fun σ H R=>ta σ H fun vs H1=>A2 K R vs H1
theorem CQ {a b:Expr} {ta:TA} {p pos tp:Pos} {elts:List Expr} {kk:Nat} (hg:Gl X "zip") (hm:X.mg "zip" = none) (ha:PA X [a,b] ta) (hs:starEach [a,b] X.env = [(false,eval a X.env),(false,eval b X.env)]:=by rfl) (hs2:starEach [b] X.env = [(false,eval b X.env)]:=by rfl) :
  PI X (.Tuple elts kk tp) (.Call (.Name "zip" p) [a,b] [] pos) (Fb X.K ta):=by
 intro pins s σ H R I h
 refine Call_ (hZ I hg hm rL (PyProof.Rows.callWith_type1 (aU (ha pos pins s σ H _ I h) fun us s1 ⟨vs,H1,I1,r1,q1⟩=>?_) (by rw [hs,hs2]) (by rw [hs2];rfl)))
 obtain⟨x,y,e,⟨xs,hx⟩,⟨ys,hy⟩,q⟩:=q1
 subst e
 cases r1 with
 | cons r rr =>
  cases rr with
  | cons r' rr =>
   cases rr
   cases r
   cases r'
   obtain⟨is,rx,px,_⟩:=I1.tuple hx
   obtain⟨js,ry,py,_⟩:=I1.tuple hy
   have lx:x < s1.heap.objs.size:=px.lt
   have ly:y < s1.heap.objs.size:=py.lt
   refine A1 (show s1.heap.IsTuple x is.toArray from px) (show s1.heap.IsTuple y js.toArray from py) fun g gz gp gq gj gk up=>?_
   refine wpAny_pyIter_zip gz ?_
   have I2:Inv X pins σ H1 { s1 with heap:=g }:=I1.kept (t':=s1.toks) up
   refine⟨_,[s1.heap.objs.size+4,s1.heap.objs.size+2,s1.heap.objs.size+3,s1.heap.objs.size,s1.heap.objs.size+1],_,Aj X.K x y,H1,rfl,I2,zj x y _ _ _ _ _ ?_,⟨gz,gp,⟨_,_,gq⟩,gj,gk⟩,fun c hc=>?_,q⟩
   ·exact CP lx ly
   ·have le:s1.heap.objs.size<=c:=by
     simp only [List.mem_cons,List.not_mem_nil,or_false] at hc
     rcases hc with rfl | rfl | rfl | rfl | rfl
     ·exact Nat.le_add_right _ _
     ·exact Nat.le_add_right _ _
     ·exact Nat.le_add_right _ _
     ·exact Nat.le_refl _
     ·exact Nat.le_add_right _ _
    exact I1.gW le (I1.au.fresh le)
theorem CS {K:PySem.W.Frag} {a b acc:Addr} {xs ys:List V} {n:Nat} {js:List Nat} {g:TG} {ct:TT} {te:TE} {σ : St} {H1:Hp} {Q:VK} (Pv:Nat->List V->St->Hp->Prop) (h0:Pv 0 [] (ib n js σ) (upd H1 acc (.lst [])))
  (hl:∀ i zs τ H,i<=min xs.length ys.length->Pv i zs τ H->bJ K H a xs/\bJ K H b ys/\H acc=some (.lst zs)/\zs.length < sizeLine)
  (hs:∀ i x y zs τ H t,xs[i]? = some x->ys[i]? = some y->H t=none->Pv i zs τ H->g (.ref t) τ (upd H t (.tup [x,y])) fun τ1 H4=>ct τ1 H4 fun b H5=>if b=true then te τ1 H5 fun v H6=>H6 acc=some (.lst zs)/\Pv (i+1) (zs ++ [v]) τ1 (upd H6 acc (.lst (zs ++ [v]))) else Pv (i+1) zs τ1 H5)
  (hd:∀ zs τ H,Pv (min xs.length ys.length) zs τ H->Q (.ref acc) H) :
  mL (Aj K a b) n js g ct te acc σ H1 Q:=by
 refine⟨fun i m zs τ H=>m=min xs.length ys.length - i/\i<=min xs.length ys.length/\Pv i zs τ H,⟨min xs.length ys.length,by simp,Nat.zero_le _,h0⟩,?_⟩
 rintro i m zs τ H ⟨rfl,hi,p⟩
 obtain⟨qa,qb,q2,q3⟩:=hl i zs τ H hi p
 refine⟨q2,q3,?_⟩
 by_cases hlt:i < min xs.length ys.length
 ·have l1:i < xs.length:=by omega
  have l2:i < ys.length:=by omega
  refine .inr ⟨⟨xs,ys,xs[i],ys[i],qa,qb,by simp [l1],by simp [l2]⟩,Pv (i+1),fun zs' τ' H' p'=>⟨min xs.length ys.length - (i+1),by omega,rfl,hlt,p'⟩,fun v H' y=>?_⟩
  obtain⟨t,x,y,rfl,ht,rfl,h⟩:=y
  obtain⟨h1,h2⟩:=h xs ys qa qb
  exact hs i x y zs τ H t h1 h2 ht p
 ·have e:i=min xs.length ys.length:=by omega
  subst e
  refine .inl ⟨⟨xs,ys,qa,qb,?_⟩,hd zs τ H p⟩
  rcases Nat.le_total xs.length ys.length with h | h
  ·exact .inl (by omega)
  ·exact .inr (by omega)
end
section
variable {κ : Type} [DecidableEq κ]
def fT (kvs:List (κ × V)) (k:κ):Option V:=(kvs.find? fun kv=>decide (kv.1=k)).map (·.2)
def putK (kvs:List (κ × V)) (k:κ) (v:V):List (κ × V) :=
 if (kvs.any fun kv=>decide (kv.1=k))=true then kvs.map (fun kv=>if kv.1=k then (kv.1,v) else kv) else kvs ++ [(k,v)]
theorem rM {p:κ × V} {r:List (κ × V)} {k:κ} (e:p.1=k):fT (p :: r) k=some p.2:=by simp [fT,List.find?_cons,e]
theorem rN {p:κ × V} {r:List (κ × V)} {k:κ} (e:¬ p.1=k):fT (p :: r) k=fT r k:=by simp [fT,List.find?_cons,e]
theorem tQ (kvs:List (κ × V)) (k:κ) (v:V):(putK kvs k v).length<=kvs.length+1:=by
 unfold putK
 split
 ·rw [List.length_map];omega
 ·rw [List.length_append,List.length_cons,List.length_nil];omega
theorem fA.getD {o:Option V} {u:Option Value} {d:V} {d':Value} (r:fA o u) (rd:RelV d d'):RelV (o.getD d) (u.getD d'):=by
 cases o with
 | none=>cases u with
  | none=>exact rd
  | some _=>exact (show False from r).elim
 | some _=>cases u with
  | none=>exact (show False from r).elim
  | some _=>exact r
theorem KV.val {kvs:List (κ × V)} {vs:List (κ × Value)} (r:KV kvs vs) (k:κ):fA (fT kvs k) (valueAt vs k):=by
 unfold KV at r
 induction r with
 | nil=>exact True.intro
 | @cons p q ps qs h t ih =>
  obtain⟨h1,h2⟩:=h
  by_cases e:p.1=k
  ·have e':q.1=k:=h1.symm.trans e
   have b:valueAt (q :: qs) k=some q.2:=by simp [valueAt,List.find?_cons,e']
   rw [rM e,b];exact h2
  ·have e':¬ q.1=k:=fun z=>e (h1.trans z)
   have b:valueAt (q :: qs) k=valueAt qs k:=by simp [valueAt,List.find?_cons,e']
   rw [rN e,b];exact ih
theorem KV.any {kvs:List (κ × V)} {vs:List (κ × Value)} (r:KV kvs vs) (k:κ):(kvs.any fun kv=>decide (kv.1=k))=vs.any fun kv=>decide (kv.1=k):=by
 unfold KV at r
 induction r with
 | nil=>rfl
 | cons h t ih=>rw [List.any_cons,List.any_cons,ih,h.1]
theorem KV.Fc {kvs:List (κ × V)} {vs:List (κ × Value)} (r:KV kvs vs) (k:κ) {y:V} {u:Value} (ry:RelV y u) :
  KV (kvs.map fun kv=>if kv.1=k then (kv.1,y) else kv) (vs.map fun kv=>if kv.1=k then (kv.1,u) else kv):=by
 unfold KV at r ⊢
 induction r with
 | nil=>exact .nil
 | @cons p q ps qs h t ih =>
  rw [List.map_cons,List.map_cons]
  refine .cons ?_ ih
  obtain⟨h1,h2⟩:=h
  by_cases e:p.1=k
  ·rw [if_pos e,if_pos (h1.symm.trans e)];exact⟨h1,ry⟩
  ·rw [if_neg e,if_neg (fun z=>e (h1.trans z))];exact⟨h1,h2⟩
theorem KV.put {kvs:List (κ × V)} {vs:List (κ × Value)} (r:KV kvs vs) (k:κ) {y:V} {u:Value} (ry:RelV y u):KV (putK kvs k y) (stored vs k u):=by
 unfold putK stored
 rw [r.any k]
 by_cases e:(vs.any fun kv=>decide (kv.1=k))=true
 ·rw [if_pos e,if_pos e];exact r.Fc k ry
 ·rw [if_neg e,if_neg e];exact Paired.snoc r ⟨rfl,ry⟩
end
theorem vY {P:Program} {w:World} {k:Key} {u:Value} (r:RelV (kV k) u):(cG P w).is k u=true:=by
 cases k with
 | inl i=>obtain⟨t,e⟩:=(show ∃ t,u=Value.int i t from r);subst e;exact tJ P w i t
 | inr x=>obtain⟨t,e⟩:=(show ∃ t,u=Value.str x t from r);subst e;exact tK P w x t
theorem qf {P:Program} {w:World}:∀ {ks:List Key} {us:List Value},Vals (ks.map kV) us->ItemsAre (cG P w) ks us
 | [],_,r=>by rw [List.map_nil] at r;cases r;exact .nil
 | k :: ks,_,r=>by
  rw [List.map_cons] at r
  cases r with
  | cons h t=>exact .cons (vY h) (qf t)
abbrev KT (H:Hp):List (List Key × V)->List (List Key × Addr × Value)->Prop:=Paired fun p q=>p.1=q.1/\H q.2.1=some (.tup (p.1.map kV))/\RelV p.2 q.2.2
theorem KT.val {H:Hp} {kvs:List (List Key × V)} {xs:List (List Key × Addr × Value)} (r:KT H kvs xs) (k:List Key):fA (fT kvs k) ((atKey xs k).map (·.2)):=by
 induction r with
 | nil=>exact True.intro
 | @cons p q ps qs h t ih =>
  obtain⟨h1,_,h2⟩:=h
  by_cases e:p.1=k
  ·have e':q.1=k:=h1.symm.trans e
   have b:atKey (q :: qs) k=some q.2:=by simp [atKey,List.find?_cons,e']
   rw [rM e,b];exact h2
  ·have e':¬ q.1=k:=fun z=>e (h1.trans z)
   have b:atKey (q :: qs) k=atKey qs k:=by simp [atKey,List.find?_cons,e']
   rw [rN e,b];exact ih
section
variable {P:Program} {w:World} {H:Hp} {h:Heap} {a:Addr}
theorem Ak {u:HO} (ok:bZ P w H h) (e:Rd H a u):bw P w H h a u:=e.ok ok
theorem vZ {kvs:List (Key × V)} (ok:bZ P w H h) (e:Rd H a (.dK kvs)):kvs.length<=sizeLine/\(a == sysModules)=false/\∃ vs,KV kvs vs/\h.DictOf (cG P w) a vs :=
 show bw P w H h a (.dK kvs) from Ak ok e
theorem DU {kvs:List (Key × V)} (ok:bZ P w H h) (e:H a=some (.dK kvs)):kvs.length<=sizeLine/\(a == sysModules)=false/\∃ vs,KV kvs vs/\h.DictOf (cG P w) a vs:=vZ ok (.inl e)
theorem xF {ks:List Key} (ok:bZ P w H h) (e:H a=some (.tup (ks.map kV))):(tupleKind (cG P w)).is h ks a:=by
 obtain⟨_,its,r,o,h1,h2,n,h3⟩:=(show bw P w H h a (.tup (ks.map kV)) from ok a _ e)
 exact⟨o,its.toArray,n,h1,h2,h3.1,by simpa using qf r⟩
theorem Al {kvs:List (List Key × V)} (ok:bZ P w H h) (e:Rd H a (.dT kvs)):kvs.length<=sizeLine/\(a == sysModules)=false /\
  ∃ xs,KT H kvs xs/\h.DictOfH (tupleKind (cG P w)) a xs:=by
 obtain⟨z,y,xs,r,o,es,ep,h1,h2,h3,h4,h5⟩:=(show bw P w H h a (.dT kvs) from Ak ok e)
 refine⟨z,y,xs,r,o,es,ep,h1,h2,h3,h4,fun x hx=>?_,h5⟩
 have all:∀ {l:List (List Key × V)} {m:List (List Key × Addr × Value)},KT H l m->∀ x ∈ m,(tupleKind (cG P w)).is h x.1 x.2.1:=by
  intro l m q
  induction q with
  | nil=>intro x hx;exact nomatch hx
  | @cons p q ps qs hq t ih =>
   intro x hx
   rcases List.mem_cons.mp hx with e | hx
   ·subst e
    exact xF ok (by rw [<-hq.1];exact hq.2.1)
   ·exact ih x hx
 exact all r x hx
end
def rO (H:Hp) (a:Addr) (y:V) (r:Option V):Prop :=
 (∃ kvs k,Rd H a (.dK kvs)/\y=kV k/\r=fT kvs k)\/∃ kvs k b,Rd H a (.dT kvs)/\y=.ref b/\H b=some (.tup (k.map kV))/\r=fT kvs k
theorem rO.k {H:Hp} {a:Addr} {kvs:List (Key × V)} {k:Key} (e:H a=some (.dK kvs)):rO H a (kV k) (fT kvs k):=.inl ⟨kvs,k,.inl e,rfl,rfl⟩
section
variable {X:Cx} {pins:List (Addr × Obj)} {σ : St} {H:Hp} {s:Shared} {a:Addr} {y v:V} {u r:Value} {o:Option V} {A:Around} {E:Value->Shared->Prop}
theorem Inv.big (I:Inv X pins σ H s):sysModules < s.heap.objs.size:=by
 have h:mainGlobals < s.heap.objs.size:=(I.mod.glob.keeps I.bk).lt
 exact Nat.lt_trans (by decide) h
theorem A3 {h':Heap} {t':Nat} {ob:HO} (I:Inv X pins σ H s) (mu:w9 (H a)) (hs:Heap.SameBut a s.heap h') (he:∃ q,h'.get? a=some q) (new:bw X.prog X.w (upd H a ob) h' a ob) :
  Inv X pins σ (upd H a ob) { s with heap:=h',toks:=t' } :=
 I.write (x:=a) (e:=a) mu (.inl rfl) (fun b q hb z=>(hs.2 b hb).trans z) he new
theorem CT {P:Program} {w:World} {H':Hp} {h':Heap} {kvs:List (Key × V)} {vs:List (Key × Value)} (z:kvs.length<=sizeLine) (hd:(a == sysModules)=false) (rel:KV kvs vs) (dd:h'.DictOf (cG P w) a vs) :
  bw P w H' h' a (.dK kvs):=⟨z,hd,vs,rel,dd⟩
end
section
variable {X:Cx} {pins:List (Addr × Obj)} {σ : St} {H:Hp} {s:Shared} {a:Addr} {kvs:List (Key × V)} {k:Key} {u:Value} {A:Around} {E:Value->Shared->Prop}
end
section
variable {X:Cx} {o i e value:Expr} {pos pos' tpos:Pos} {td ty tv:TE}
end
theorem zk {P:Program} {w:World} {H:Hp} (h:Heap) (hb:sysModules < h.objs.size):bw P w H (h.push { cls:=.type "dict",data:=.dict #[] }) h.objs.size (.dK []) :=
 ⟨Nat.zero_le _,beq_eq_false_iff_ne.mpr (Ne.symm (Nat.ne_of_lt hb)),[],.nil,Heap.DictOf.new h⟩
section
variable {X:Cx} {pos:Pos}
end
def rQ:List (TE × TE)->St->Hp->(List (V × V)->Hp->Prop)->Prop
 | [],_,H,Q=>Q [] H
 | (tk,tv) :: r,σ,H,Q=>tk σ H fun x H1=>tv σ H1 fun y H2=>rQ r σ H2 fun ps H3=>Q ((x,y) :: ps) H3
abbrev VV:List (V × V)->List (Value × Value)->Prop:=Paired fun p q=>RelV p.1 q.1/\RelV p.2 q.2
def Am (X:Cx) (pos:Pos) (keys:List (Option Expr)) (values:List Expr) (trs:List (TE × TE)):Prop :=
 ∀ (pins:List (Addr × Obj)) (s:Shared) (σ : St) (H:Hp) (Q:List (V × V)->Hp->Prop),Inv X pins σ H s->rQ trs σ H Q ->
  wpAny (model X.prog X.w) X.A (evalPairs (pairTrees keys values X.env pos)) (fun vs s'=>∃ ps H',Inv X pins σ H' s'/\VV ps vs/\Q ps H') X.xe s
theorem uL {X:Cx} {pos:Pos}:Am X pos [] [] []:=fun pins s σ H Q I h=>pairTrees_nil_walk ⟨[],H,I,.nil,h⟩
theorem eG {X:Cx} {pos:Pos} {k v:Expr} {ks:List (Option Expr)} {vs:List Expr} {tk tv:TE} {trs:List (TE × TE)} (hk:PE X k tk) (hv:PE X v tv) (hr:Am X pos ks vs trs) :
  Am X pos (some k :: ks) (v :: vs) ((tk,tv) :: trs):=fun pins s σ H Q I h =>
 pairTrees_cons_walk (aU (hk pins s σ H _ I h) fun u s1 ⟨x,H1,I1,rx,q1⟩=>aU (hv pins s1 σ H1 _ I1 q1) fun w2 s2 ⟨y,H2,I2,ry,q2⟩ =>
  aU (hr pins s2 σ H2 _ I2 q2) fun ws s3 ⟨ps,H3,I3,rel,q3⟩=>⟨(x,y) :: ps,H3,I3,.cons ⟨rx,ry⟩ rel,q3⟩)
def er (kvs more:List (Key × V)):List (Key × V):=more.foldl (fun acc kv=>putK acc kv.1 kv.2) kvs
theorem KV.merge:∀ {more:List (Key × V)} {rs:List (Key × Value)} {kvs:List (Key × V)} {vs:List (Key × Value)},KV more rs->KV kvs vs->KV (er kvs more) (merged vs rs):=by
 intro more rs kvs vs r
 unfold KV at r
 induction r generalizing kvs vs with
 | nil=>intro q;exact q
 | @cons p q ps qs h t ih =>
  intro r0
  have e:KV (putK kvs p.1 p.2) (stored vs q.1 q.2):=by
   have:=r0.put p.1 h.2
   rw [<-h.1];exact this
  exact ih e
theorem kU:∀ (more kvs:List (Key × V)),(er kvs more).length<=kvs.length+more.length
 | [],kvs=>by show kvs.length<=kvs.length+0;omega
 | p :: r,kvs=>by
  have h1:=kU r (putK kvs p.1 p.2)
  have h2:=tQ kvs p.1 p.2
  show (er (putK kvs p.1 p.2) r).length<=_
  rw [List.length_cons];omega
theorem ou {P:Program} {w:World}:∀ {kvs:List (Key × V)} {ws:List (Value × Value)},VV (kvs.map fun kv=>(kV kv.1,kv.2)) ws->∃ rs,Carries (cG P w) ws rs/\KV kvs rs
 | [],_,r=>by rw [List.map_nil] at r;cases r;exact⟨[],True.intro,.nil⟩
 | p :: kvs,_,r=>by
  rw [List.map_cons] at r
  cases r with
  | @cons a b as bs h t =>
   obtain⟨rs,c,q⟩:=ou (P:=P) (w:=w) t
   obtain⟨b1,b2⟩:=b
   exact⟨(p.1,b2) :: rs,⟨vY h.1,rfl,c⟩,.cons ⟨rfl,h.2⟩ q⟩
def DV (trs:List (TE × TE)):TE:=fun σ H Q=>∀ p,H p=none->rQ trs σ (upd H p (.dK [])) fun ps H2=>H2 p=some (.dK [])/\∃ kvs:List (Key × V),ps=kvs.map (fun kv=>(kV kv.1,kv.2))/\kvs.length<=15/\Q (.ref p) (upd H2 p (.dK (er [] kvs)))
theorem uM {X:Cx} {pos:Pos} {keys:List (Option Expr)} {values:List Expr} {trs:List (TE × TE)} (h:Am X pos keys values trs) (hall:keys.all (·.isSome)=true) (hl:keys.length=values.length) (h0:keys ≠ [])
  (h15:keys.length<=15):PE X (.Dict keys values pos) (DV trs):=by
 intro pins s σ H Q I q
 have hn:=I.au.fresh (Nat.le_refl s.heap.objs.size)
 have I1:=I.laid (a:=s.heap.objs.size) (o:=.dK []) (h':=s.heap.push { cls:=.type "dict",data:=.dict #[] }) (t':=s.toks) (fun _ _ q=>Heap.get?_push_of_some _ q) (Nat.le_refl _) (zk s.heap I.big)
 refine wpAny_Dict_walk (knd:=cG X.prog X.w) hall hl h0 h15 (aU (h pins _ σ _ _ I1 (q _ hn)) fun ws s2 ⟨ps,H2,I2,rel,e,kvs,ep,lk,q2⟩=>?_)
 subst ep
 obtain⟨rs,c,rk⟩:=ou (P:=X.prog) (w:=X.w) rel
 obtain⟨z,hd,vs0,r0,dd⟩:=DU I2.au e
 cases r0
 refine⟨rs,c,dd,fun h' dd' hs=>⟨.ref s.heap.objs.size,_,?_,rfl,q2⟩⟩
 have hz:(er [] kvs).length<=sizeLine:=by
  have h1:=kU kvs []
  rw [List.length_nil] at h1
  rw [sizeLine_eq];omega
 have he:∃ q,h'.get? s.heap.objs.size=some q:=let ⟨q,_,_,hq,_⟩:=dd';⟨q,hq⟩
 exact A3 I2 (by rw [e];exact True.intro) hs he (CT hz hd (rk.merge .nil) dd')
structure M1 (X:Cx) (o:Expr) (m:Str) (apos:Pos) (e:Expr) (cpos:Pos):Prop where
 base:attributeBase o m X.env (eval o X.env)=eval o X.env
 b3:((backTo cpos (starEach [e] X.env)).all (fun x=>!x.1) && (backToKw cpos (keywordEach [] X.env)).all (fun x=>x.1.isSome)
  && decide (([e]:List Expr).length+([]:List Keyword).length+(if ([]:List Keyword).isEmpty then 0 else 1) < 30))=true
 line:(apos.endLine == cpos.line)=true
 trees:backTo cpos (starEach [e] X.env) = [(false,eval e X.env)]
structure M2 (X:Cx) (o:Expr) (m:Str) (apos:Pos) (e f:Expr) (cpos:Pos):Prop where
 base:attributeBase o m X.env (eval o X.env)=eval o X.env
 b3:((backTo cpos (starEach [e,f] X.env)).all (fun x=>!x.1) && (backToKw cpos (keywordEach [] X.env)).all (fun x=>x.1.isSome)
  && decide (([e,f]:List Expr).length+([]:List Keyword).length+(if ([]:List Keyword).isEmpty then 0 else 1) < 30))=true
 line:(apos.endLine == cpos.line)=true
 trees:backTo cpos (starEach [e,f] X.env) = [(false,eval e X.env),(false,eval f X.env)]
def EB (H:Hp) (a:Addr):Prop:=(∃ kvs,Rd H a (.dK kvs))\/∃ kvs,Rd H a (.dT kvs)
theorem CU {X:Cx} {pins:List (Addr × Obj)} {σ : St} {H:Hp} {s:Shared} {a:Addr} (I:Inv X pins σ H s) (d:EB H a) :
  s.TypeIs (.ref a) "dict" /\ (∀ b,Value.ref a=.ref b->∃ ob,s.heap.get? b=some ob/\ob.dict=none)/\(a == sysModules)=false:=by
 rcases d with ⟨kvs,e⟩ | ⟨kvs,e⟩
 ·obtain⟨_,hd,vs,_,dd⟩:=vZ I.au e
  refine⟨dd.typeIs,fun b q=>?_,hd⟩
  cases q
  obtain⟨ob,_,_,h1,h2,_⟩:=dd
  exact⟨ob,h1,h2.2.1⟩
 ·obtain⟨_,hd,xs,_,dd⟩:=Al I.au e
  refine⟨dd.typeIs,fun b q=>?_,hd⟩
  cases q
  obtain⟨ob,_,_,h1,h2,_⟩:=dd
  exact⟨ob,h1,h2.2.1⟩
section
variable {X:Cx} {pins:List (Addr × Obj)} {σ : St} {H:Hp} {s:Shared} {a:Addr} {y d:V} {u r:Value} {o:Option V} {A:Around} {E:Value->Shared->Prop}
theorem CV {Q:Value->Shared->Prop} (hu:A.units+1 < cLine) (I:Inv X pins σ H s) (g:rO H a y o) (ry:RelV y u) (rd:RelV d r) (h:∀ w' s',Inv X pins σ H s'->RelV (o.getD d) w'->Q w' s') :
  wpAny (model X.prog X.w) A (call (.builtin "dict.get") [.ref a,u,r]) Q E s:=by
 rcases g with ⟨kvs,k,e,ey,l⟩ | ⟨kvs,k,b,e,ey,eb,l⟩
 ·subst ey
  obtain⟨z,hd,vs,rel,dd⟩:=vZ I.au e
  refine call_meetsIn PySem.F.slot_dict_get dd.typeIs PySem.F.entry_dict_get (PySem.F.args_dict_get_3 _ _ _) (meets_dict_get_default (cG X.prog X.w) a (vY ry) hd r) ⟨_,dd.mapOf,h _ _ (I.tok _) ?_⟩
  rw [l]
  exact (rel.val k).getD rd
 ·subst ey
  cases (show u=Value.ref b from ry)
  obtain⟨z,hd,xs,rel,dd⟩:=Al I.au e
  refine call_meetsIn PySem.F.slot_dict_get dd.typeIs PySem.F.entry_dict_get (PySem.F.args_dict_get_3 _ _ _) (meetsH_dict_get_default (tupleKind (cG X.prog X.w)) a b hd r) ⟨tupleKind_room_in1 hu,k,xs,xF I.au eb,dd,h _ _ (I.tok _) ?_⟩
  rw [l]
  exact (rel.val k).getD rd
end
section
variable {X:Cx} {o e f:Expr} {apos cpos:Pos} {td ty tx:TE}
end
section
variable {X:Cx} {pins:List (Addr × Obj)} {σ : St} {H:Hp} {s:Shared} {a:Addr} {kvs:List (Key × V)} {A:Around} {E:Value->Shared->Prop}
end
section
variable {X:Cx} {pins:List (Addr × Obj)} {σ : St} {H:Hp} {s:Shared} {a:Addr} {y:V} {u:Value} {A:Around} {E:Value->Shared->Prop}
end
section
variable {X:Cx}
end
section
variable {κ : Type} [DecidableEq κ]
end
structure v3 (K:PySem.W.Frag) (mg:Str->Option Value) (nm:Str) (a:Addr) (D:List (Str × Addr)):Prop where
 CW:mg nm=some (.ref a)
 lk:∃ es ep,K.lookup a=some ⟨.type "dict",none,.dict es ep,#[]⟩/\KTD.Rows (fun d v=>v=Value.ref d) es.toList D
section
variable {prog:Program} {w:World} {A:Around} {E:Value->Shared->Prop} {s:Shared}
theorem zl {a d:Addr} {o:Obj} {es:Array DictEntry} {ep:Nat} {k:Str} {t:Tok} {D:List (Str × Addr)} {Q:Option Value->Shared->Prop} (ho:s.heap.get? a=some o) (hd:o.data=.dict es ep)
  (hr:KTD.Rows (fun d v=>v=Value.ref d) es.toList D) (ha:KTD.datumAt k D=some d) (q:Q (some (.ref d)) { s with toks:=s.toks+1 }):wpAny (model prog w) A (dictGet a (.str k t)) Q E s:=by
 unfold dictGet
 try with_reducible refine wpAny_holding ?_
 refine wpAny_bind (wpAny_pyHash_str (wpAny_bind (KTD.kt_dictFind_strs (s:={ s with toks:=s.toks+1 }) ho hd (by have:=hr.exact;obtain⟨l⟩:=es;simpa using this) ?_)))
 have hq:Q (findBy (fun k v=>v.isStr k) es k) { s with toks:=s.toks+1 }:=by
  obtain⟨v,hv,rfl⟩:=hr.find_some ha
  have e:findBy (fun k v=>v.isStr k) es k=some (.ref d):=by
   rw [<-hv]
   obtain⟨l⟩:=es
   simp [findBy]
  rw [e]
  exact q
 rw [findBy_of_findIdx?] at hq
 cases hi:es.findIdx? fun e=>e.key.isStr k with
 | some i=>rw [hi] at hq;exact wpAny_bind (wpAny_dictEntries (s:={ s with toks:=s.toks+1 }) ho hd (wpAny_pure hq))
 | none=>rw [hi] at hq;exact wpAny_pure hq
end
section
variable {X:Cx}
end
mutual
inductive bh (H:Hp):V->PyData->Prop
 | aW:bh H .aW .none
 | bl (b:Bool):bh H (.bl b) (.bool b)
 | int (i:Int):bh H (.int i) (.int i)
 | str (x:Str):bh H (.str x) (.str x)
 | lst {p:Addr} {xs:List V} {ds:List PyData}:H p=some (.lst xs)->aN H xs ds->bh H (.ref p) (.list ds)
 | tup {p:Addr} {xs:List V} {ds:List PyData}:H p=some (.tup xs)->aN H xs ds->bh H (.ref p) (.tuple ds)
inductive aN (H:Hp):List V->List PyData->Prop
 | nil:aN H [] []
 | cons {x:V} {xs:List V} {d:PyData} {ds:List PyData}:bh H x d->aN H xs ds->aN H (x :: xs) (d :: ds)
end
section
variable {P:Program} {w:World} {H:Hp} {h:Heap}
mutual
theorem bh.reads (ok:bZ P w H h):∀ {x:V} {d:PyData} {v:Value},bh H x d->RelV x v->∃ as,Reads h v d as
 | _,_,v,.aW,r=>by
  cases (show v=Value.none from r)
  exact⟨_,.none⟩
 | _,_,v,.bl b,r=>by
  cases (show v=Value.bool b from r)
  exact⟨_,.bool b⟩
 | _,_,v,.int i,r=>by
  obtain⟨t,e⟩:=(show ∃ t,v=Value.int i t from r)
  cases e
  exact⟨_,.int i t⟩
 | _,_,v,.str x,r=>by
  obtain⟨t,e⟩:=(show ∃ t,v=Value.str x t from r)
  cases e
  exact⟨_,.str x t⟩
 | _,_,v,.lst (p:=p) (xs:=xs) e ds,r=>by
  cases (show v=Value.ref p from r)
  obtain⟨_,its,n,rv,h1⟩:=(show bw P w H h p (.lst xs) from ok p _ e)
  obtain⟨as,ra⟩:=aN.reads ok ds rv
  exact⟨_,.list (vs:=its.toArray) h1 rfl rfl (by simpa using ra)⟩
 | _,_,v,.tup (p:=p) (xs:=xs) e ds,r=>by
  cases (show v=Value.ref p from r)
  obtain⟨_,its,rv,o,h1,h2,n,h3⟩:=(show bw P w H h p (.tup xs) from ok p _ e)
  obtain⟨as,ra⟩:=aN.reads ok ds rv
  exact⟨_,.tuple (vs:=its.toArray) h1 h2 h3.1 (by simpa using ra)⟩
theorem aN.reads (ok:bZ P w H h):∀ {xs:List V} {ds:List PyData} {vs:List Value},aN H xs ds->Vals xs vs->∃ as,ReadsAll h vs ds as
 | _,_,_,.nil,.nil=>⟨_,.nil⟩
 | _,_,_,.cons r rs,.cons q qs=>by
  obtain⟨as,ra⟩:=bh.reads ok r q
  obtain⟨bs,rb⟩:=aN.reads ok rs qs
  exact⟨_,.cons ra rb⟩
end
end
section
variable {X:Cx}
inductive CY (neg:Bool) (x:V) (y:V) (H:Hp) (Q:VK):Prop
 | mk (dx dy:_) (_:bh H x dx) (_:bh H y dy) (_:dx.canLay0=true) (_:dy.canLay0=true) (_:min dx.depth dy.depth<=60) (_:Q (.bl (if neg then !PyData.eqv dx dy else PyData.eqv dx dy)) H)
theorem lu (hu:X.A.units+64 < cLine):cV X (compareOp .Eq) (CY false):=by
 intro pins s σ H x y v u Q I rx ry h
 obtain⟨dx,dy,r1,r2,c1,c2,hd,q⟩:=h
 obtain⟨as,ra⟩:=r1.reads I.au rx
 obtain⟨bs,rb⟩:=r2.reads I.au ry
 exact PySem.SeqAt.compareEq_reads ra rb c1 c2 (by omega) ⟨.bl _,H,I,rfl,q⟩
theorem ow (hu:X.A.units+64 < cLine):cV X (compareOp .NotEq) (CY true):=by
 intro pins s σ H x y v u Q I rx ry h
 obtain⟨dx,dy,r1,r2,c1,c2,hd,q⟩:=h
 obtain⟨as,ra⟩:=r1.reads I.au rx
 obtain⟨bs,rb⟩:=r2.reads I.au ry
 exact PySem.SeqAt.neOverData X.prog X.w X.A X.xe s v u dx dy as bs _ ra rb c1 c2 (by omega) ⟨.bl _,H,I,rfl,q⟩
end
def one (c:Nat):Str:=⟨#[c]⟩
theorem rR (rest:List Str):∀ a:Array Nat,(rest.foldl (fun acc p=>acc++Str.empty.cps++p.cps) a).toList=a.toList++rest.flatMap (·.cps.toList):=by
 induction rest with
 | nil=>intro a;simp
 | cons x r ih =>
  intro a
  rw [List.foldl_cons,ih]
  have e:Str.empty.cps = #[]:=rfl
  simp [e]
theorem join_ones (cs:List Nat):(Txt.join Str.empty (cs.map one)).cps.toList=cs:=by
 cases cs with
 | nil=>rfl
 | cons c r =>
  show (List.foldl (fun acc p=>acc++Str.empty.cps++p.cps) (#[c]:Array Nat) (r.map one)).toList=c :: r
  rw [rR]
  simp only [List.flatMap_map,one]
  simp
theorem zm:Str.ofString "" = Str.empty:=by decide +kernel
theorem v5 {ys:List Str}:∀ {us:List Value},Vals (ys.map V.str) us->StrsAre us ys:=by
 induction ys with
 | nil=>intro us r;cases r;exact .nil
 | cons y ys ih =>
  intro us r
  cases r with
  | cons h t =>
   obtain⟨k,e⟩:=h
   subst e
   exact .cons y k (ih t)
section
variable {X:Cx}
inductive rJoin (K:PySem.W.Frag) (x:V) (vs:List V) (H:Hp) (Q:VK):Prop
 | mk (z:Str) (p:Addr) (ys:List Str) (_:x=.str z) (_:vs = [.ref p]) (_:ay K H p (ys.map V.str)) (_:(ys.map (·.length)).sum+ys.length * z.length<=16777216) (_:Q (.str (Txt.join z ys)) H)
theorem dM:rE X "str.join" (rJoin X.K):=by
 intro pins s σ H x vs v us Q I rx rv h
 obtain⟨z,p,ys,rfl,rfl,hS,hz,q⟩:=h
 obtain⟨t,e⟩:=(show ∃ t,v=Value.str z t from rx)
 subst e
 obtain⟨u,rfl,ru⟩:=vals1 rv
 cases (show u=Value.ref p from ru)
 obtain⟨its,rv',pl,_⟩:=I.list hS
 exact join_list pl.isList (by simpa using v5 rv') hz fun t' k=>⟨.str _,H,I.tok k,⟨_,rfl⟩,q⟩
end
inductive m9 where
 | put (x:Str) (n:Int)
 | copy (x y:Str)
 | add (x:Str) (n:Int)
 | read (x:Str)
 | tell (x:Str)
inductive End where
 | stop
 | go (p:Nat)
 | An (less:Bool) (x:Str) (n:Int) (p q:Nat)
abbrev Piece:=List m9 × End
def wT (b:Bool):Str:=if b=true then "less" else "is"
def eT:m9->PyData
 | .put x n=>.tuple [.str "put",.str x,.int n]
 | .copy x y=>.tuple [.str "copy",.str x,.str y]
 | .add x n=>.tuple [.str "add",.str x,.int n]
 | .read x=>.tuple [.str "read",.str x]
 | .tell x=>.tuple [.str "tell",.str x]
def lA:End->PyData
 | .stop=>.tuple [.str "stop"]
 | .go p=>.tuple [.str "go",.int p]
 | .An b x n p q=>.tuple [.str (wT b),.str x,.int n,.int p,.int q]
def fO (p:Piece):PyData:=.tuple [.tuple (p.1.map eT),lA p.2]
def DX (ps:List Piece):PyData:=.tuple (ps.map fO)
structure dW (x:Str):Prop where
 lo:1<=x.length
 hi:x.length<=8
 az:∀ c ∈ x.cps.toList,97<=c/\c<=122
def eU (n:Int):Prop:=-(10 ^ 40) < n/\n < 10 ^ 40
def jX (xs:List Str):m9->Prop
 | .put x n=>x ∈ xs/\eU n
 | .copy x y=>x ∈ xs/\y ∈ xs
 | .add x n=>x ∈ xs/\eU n
 | .read x=>x ∈ xs
 | .tell x=>x ∈ xs
def oy (xs:List Str) (count:Nat):End->Prop
 | .stop=>True
 | .go p=>p < count
 | .An _ x n p q=>x ∈ xs/\eU n/\p < count/\q < count
structure CZ (xs:List Str) (most:Nat) (ps:List Piece):Prop where
 Ao:∀ p ∈ ps,p.1.length<=most/\∀ d ∈ p.1,jX xs d
 ends:∀ p ∈ ps,oy xs ps.length p.2
mutual
def dE:PyData->Bool
 | .list _=>false
 | .tuple xs=>cJ xs
 | _=>true
def cJ:List PyData->Bool
 | []=>true
 | x :: xs=>dE x && cJ xs
end
mutual
theorem bh.b5 {H H':Hp} (k:∀ p xs,H p=some (.tup xs)->H' p=some (.tup xs)):∀ {x:V} {d:PyData},bh H x d->dE d=true->bh H' x d
 | _,_,.aW,_=>.aW
 | _,_,.bl b,_=>.bl b
 | _,_,.int i,_=>.int i
 | _,_,.str x,_=>.str x
 | _,_,.lst _ _,h=>nomatch h
 | _,_,.tup e ds,h=>.tup (k _ _ e) (aN.b5 k ds h)
theorem aN.b5 {H H':Hp} (k:∀ p xs,H p=some (.tup xs)->H' p=some (.tup xs)):∀ {xs:List V} {ds:List PyData},aN H xs ds->cJ ds=true->aN H' xs ds
 | _,_,.nil,_=>.nil
 | _,_,.cons r rs,h=>by
  simp only [cJ,Bool.and_eq_true] at h
  exact .cons (bh.b5 k r h.1) (aN.b5 k rs h.2)
end
theorem bh.fix {b:Addr} {H H':Hp} {x:V} {d:PyData} (r:bh H x d) (hb:cg H b) (f:Fix b H H') (n:dE d=true):bh H' x d :=
 r.b5 (fun p xs e=>f p _ e (hb.xC e)) n
theorem bh.same {H H':Hp} {x:V} {d:PyData} (r:bh H x d) (f:af H H') (n:dE d=true):bh H' x d :=
 r.b5 (fun p xs e=>f p _ e) n
theorem aN.fix {b:Addr} {H H':Hp} {xs:List V} {ds:List PyData} (r:aN H xs ds) (hb:cg H b) (f:Fix b H H') (n:cJ ds=true):aN H' xs ds :=
 r.b5 (fun p xs e=>f p _ e (hb.xC e)) n
theorem aN.same {H H':Hp} {xs:List V} {ds:List PyData} (r:aN H xs ds) (f:af H H') (n:cJ ds=true):aN H' xs ds :=
 r.b5 (fun p xs e=>f p _ e) n
theorem aN.put {H:Hp} {xs ys:List V} {ds:List PyData} {l:Addr} {o:HO} (r:aN H xs ds) (hl:H l=some (.lst ys)) (n:cJ ds=true):aN (upd H l o) xs ds :=
 r.b5 (fun p zs e=>by rw [ar (jf e hl (by intro z;cases z))];exact e) n
theorem aN.app {H:Hp} {x:V} {d:PyData}:∀ {xs:List V} {ds:List PyData},aN H xs ds->bh H x d->aN H (xs ++ [x]) (ds ++ [d])
 | _,_,.nil,q=>.cons q .nil
 | _,_,.cons r rs,q=>.cons r (aN.app rs q)
theorem aN.len {H:Hp}:∀ {xs:List V} {ds:List PyData},aN H xs ds->xs.length=ds.length
 | _,_,.nil=>rfl
 | _,_,.cons _ rs=>by simp [aN.len rs]
theorem mP (d:m9):dE (eT d)=true:=by cases d <;> rfl
theorem kg (e:End):dE (lA e)=true:=by cases e <;> rfl
theorem eN:∀ ds:List m9,cJ (ds.map eT)=true
 | []=>rfl
 | d :: ds=>by show (dE (eT d) && cJ (ds.map eT))=true;rw [mP,eN ds];rfl
theorem lB (p:Piece):dE (fO p)=true:=by
 show (cJ (p.1.map eT) && (dE (lA p.2) && true))=true
 rw [eN,kg];rfl
theorem dC:∀ ps:List Piece,cJ (ps.map fO)=true
 | []=>rfl
 | p :: ps=>by show (dE (fO p) && cJ (ps.map fO))=true;rw [lB,dC ps];rfl
structure fo (H:Hp) (b l:Addr) (xs:List Str):Prop where
 at_:H l=some (.lst (xs.map V.str))
 ne:l ≠ b
 v7:xs ≠ []
 b3:xs.length<=1000
 ok:∀ x ∈ xs,dW x
theorem fo.fix {H H':Hp} {b l:Addr} {xs:List Str} (h:fo H b l xs) (f:Fix b H H'):fo H' b l xs:=⟨f l _ h.at_ h.ne,h.ne,h.v7,h.b3,h.ok⟩
theorem fo.pos {H:Hp} {b l:Addr} {xs:List Str} (h:fo H b l xs):0 < ((xs.map V.str).length:Int)/\((xs.map V.str).length:Int) < 1073741824:=by
 have h1:=h.v7
 have h2:=h.b3
 have h3:0 < xs.length:=by cases xs with | nil=>exact absurd rfl h1 | cons _ _=>simp
 rw [List.length_map]
 omega
inductive uN  (vs:List V) (H:Hp) (Q:VK) (_:XK):Prop
 | mk (b:Addr) (_:vs = [.ref b]) (_:cg H b) (_:∀ l xs H',fo H' b l xs->xs.length<=4->cg H' b->Fix b H H'->Q (.ref l) H')
inductive nc  (vs:List V) (H:Hp) (Q:VK) (_:XK):Prop
 | mk (b:Addr) (_:vs = [.ref b]) (_:cg H b) (_:∀ n H',eU n->cg H' b->Fix b H H'->Q (.int n) H')
inductive xG  (vs:List V) (H:Hp) (Q:VK) (_:XK):Prop
 | mk (b l:Addr) (xs:List Str) (_:vs = [.ref b,.ref l]) (_:cg H b) (_:fo H b l xs) (_:∀ v d H',bh H' v (eT d)->jX xs d->cg H' b->Fix b H H'->Q v H')
inductive xH  (vs:List V) (H:Hp) (Q:VK) (_:XK):Prop
 | mk (b l:Addr) (xs:List Str) (c:Nat) (_:vs = [.ref b,.ref l,.int c]) (_:cg H b) (_:fo H b l xs) (_:0 < c) (_:c < 1073741824) (_:∀ v e H',bh H' v (lA e)->oy xs c e->cg H' b->Fix b H H'->Q v H')
inductive xI  (vs:List V) (H:Hp) (Q:VK) (_:XK):Prop
 | mk (b:Addr) (c m:Nat) (_:vs = [.ref b,.int c,.int m]) (_:cg H b) (_:0 < c) (_:c<=1000) (_:m<=1000) (_:∀ v xs ps H',bh H' v (DX ps)->ps.length=c->CZ xs m ps->((∀ x ∈ xs,dW x)/\xs.length<=4)->cg H' b->Fix b H H'->Q v H')
def oz:Str := "abcdefghijklmnopqrstuvwxyz"
theorem rS:oz.cps.toList=(List.range 26).map (· + 97):=by decide +kernel
theorem uO:oz.length<=sizeLine:=by decide +kernel
theorem xJ {r:Int} (h0:0<=r) (h1:r < 26):∃ c,eZ oz.cps.toList r=some c/\97<=c/\c<=122:=by
 have hl:oz.cps.toList.length=26:=by rw [rS];simp
 obtain⟨c,hc,hm⟩:=vX (xs:=oz.cps.toList) h0 (by rw [hl];exact h1)
 refine⟨c,hc,?_⟩
 rw [rS] at hm
 obtain⟨k,hk,rfl⟩:=List.mem_map.mp hm
 have:=List.mem_range.mp hk
 omega
theorem fU {xs:List Str} {r:Int} (h0:0<=r) (h1:r < ((xs.map V.str).length:Int)):∃ x,eZ (xs.map V.str) r=some (V.str x)/\x ∈ xs:=by
 obtain⟨v,hv,hm⟩:=vX h0 h1
 obtain⟨x,hx,rfl⟩:=List.mem_map.mp hm
 exact⟨x,hv,hx⟩
theorem e7 {σ : L2.St} {H:Hp} {Q:Bool->Hp->Prop} (h:Q true H):CM σ H Q:=h
theorem aI {i:Nat} {v:V} {σ : L2.St} {H:Hp} {Q:L2.St->Hp->Prop} (h:Q (σ.set i (some v)) H):j8 i v σ H Q:=h
theorem bh.dN {H:Hp} {v:V} {ds:List PyData} (h:bh H v (.tuple ds)):∃ p xs,v=.ref p/\H p=some (.tup xs)/\aN H xs ds:=by
 cases h with
 | tup e r=>exact⟨_,_,rfl,e,r⟩
theorem aN.cons_inv {H:Hp} {xs:List V} {d:PyData} {ds:List PyData} (h:aN H xs (d :: ds)):∃ x r,xs=x :: r/\bh H x d/\aN H r ds:=by
 cases h with
 | cons a b=>exact⟨_,_,rfl,a,b⟩
theorem aN.nil_inv {H:Hp} {xs:List V} (h:aN H xs []):xs = []:=by cases h;rfl
theorem aN.get {H:Hp}:∀ {xs:List V} {ds:List PyData} {i:Nat} {d:PyData},aN H xs ds->ds[i]? = some d->∃ x,xs[i]? = some x/\bh H x d
 | _,_,_,_,.nil,e=>by simp at e
 | _,_,0,_,.cons r _,e=>by
  simp at e
  subst e
  exact⟨_,rfl,r⟩
 | _,_,i+1,d,.cons _ t,e=>by
  obtain⟨x,h1,h2⟩:=aN.get (i:=i) (d:=d) t (by simpa using e)
  exact⟨x,by simpa using h1,h2⟩
theorem aT {n:Nat} (h:n<=1000000):n < sizeLine:=Nat.lt_of_le_of_lt h (by decide)
theorem bO {c:Bool} {A B:Prop} (hc:c=false) (h:B):if c=true then A else B:=by subst hc;exact bE h
theorem cf {c:Bool} {A B:Prop} (hc:c=true) (h:A):if c=true then A else B:=by subst hc;exact bo h
inductive v9 (Q:VK) (a:Addr) (y:V) (z:V) (H3:Hp):Prop
 | mk (o v:_) (_:rO H3 a y o) (_:o.getD z=v) (_:Q v H3)
inductive wa (ty:TE) (tx:TE) (σ : St) (Q:VK) (x:V) (H1:Hp):Prop
 | mk (a:_) (_:x=.ref a) (_:EB H1 a) (_:ty σ H1 fun y H2=>tx σ H2 fun z H3=>v9 Q a y z H3)
def A4 (td ty tx:TE):TE:=fun σ H Q=>td σ H fun x H1=>wa ty tx σ Q x H1
theorem xK {X:Cx} {o e f:Expr} {apos cpos:Pos} {td ty tx:TE} (hu:X.A.units+1 < cLine) (ho:PE X o td) (he:PE X e ty) (hf:PE X f tx) (m:M2 X o "get" apos e f cpos):PE X (.Call (.Attribute o "get" apos) [e,f] [] cpos) (A4 td ty tx):=by
 intro pins s σ H Q I h
 refine wpAny_Call_method m.base m.b3 m.line PySem.F.plainAttrs_dict PySem.F.slot_dict_get PySem.F.type_dict_get (aU (ho pins s σ H _ I h) fun u s1 ⟨x,H1,I1,rx,a,ex,d,q1⟩=>?_)
 subst ex
 obtain rfl:u=Value.ref a:=rx
 obtain⟨t1,t2,_⟩:=CU I1 d
 refine⟨t1,t2,?_⟩
 rw [m.trees]
 refine Calls.callWith_builtin rfl (Calls.evalArgs_plain (Calls.spliced_cons (aU (he pins s1 σ H1 _ I1 q1) fun iv s2 ⟨y,H2,I2,ry,q2⟩ =>
  Calls.spliced_cons (aU (hf pins s2 σ H2 _ I2 q2) fun fv s3 ⟨z,H3,I3,rz,ov,v,g,ev,q3⟩=>Calls.spliced_nil ?_))))
 exact CV hu I3 g ry rz fun w' s4 I4 rw'=>⟨v,H3,I4,by rw [<-ev];exact rw',q3⟩
structure RS where
 qU:Nat
 place:Nat
 w:Str->Int
 taken:Nat
 told:List Int
 word:Str
 FJ:List Nat
def vO:Option Int->V
 | none=>.aW
 | some i=>.int i
abbrev Rs:=Option (Option Int × Option Int)
def dO:Option Int->PyData
 | none=>.none
 | some i=>.int i
def dR:Rs->PyData
 | none=>.none
 | some (a,b)=>.tuple [dO a,dO b]
theorem af.put {H H':Hp} {l:Addr} {o:HO} (s:af H H') (n:H l=none):af H (upd H' l o):=fun c u e=>by rw [ar (aX e n)];exact s c u e
structure zo (P:Program) (w:World) (K:PySem.W.Frag) (mg:Str->Option Value) (base:Heap) (C:Addr) (m:Str) (k:Nat) (ps:List Str) (sp:Sp):Prop where
 cl:kQ K C
 ex:∃ f fd,aZ P w K mg base bS k f fd ps sp/\Meth K C m f/\Binds K fd ps []
section
variable {X:Cx} {C:Addr} {m x:Str} {k:Nat} {ps:List Str} {sp:Sp} {oe e:Expr} {es:List Expr} {ta:TE} {t:TA} {p pos apos:Pos}
theorem A5 {pl:Sem Bool} (o:zo X.prog X.w X.K X.mg X.base C m k ps sp) (he:PE X oe ta) (hr:b6 k X.A) (ha:PA X (e :: es) t)
  (hst:starEach (e :: es) X.env=(false,eval e X.env) :: starEach es X.env:=by rfl) (hpl:(backTo pos (starEach es X.env)).any (·.1)=false:=by rfl)
  (ht:eval (.Call (.Attribute oe m apos) (e :: es) [] pos) X.env=(do
   let ov <-eval oe X.env
   standAt apos.atName
   let (f,first) <-holding [ov] (getMethod ov m pl)
   callWith pos f first (backTo pos (starEach (e :: es) X.env)) (backToKw pos (keywordEach [] X.env))):=by rfl) :
  PE X (.Call (.Attribute oe m apos) (e :: es) [] pos) (Aa C m sp [] E0 ta t):=by
 obtain⟨f,fd,F,hm,hb⟩:=o.ex
 exact AO he o.cl hm F hr hb .nil Ad ha hst hpl ht
end
theorem zp {k:Str} {v:V} {l:List (Str × V)}:((k,v) :: l).lookup k=some v:=by simp [List.lookup]
theorem C0 {k k':Str} {v:V} {l:List (Str × V)} {o:Option V} (h:¬ k=k') (e:l.lookup k=o):((k',v) :: l).lookup k=o:=by
 rw [List.lookup_cons,beq_false_of_ne h];exact e
section
variable {a0 a1 a2 a3 a4 a5 a6 a7 z:V}
end
section
variable {C:Addr} {H H':Hp} {p pl d nl sl:Addr} {plv:V} {nums:List Int} {S:RS} {m:Nat}
end
end L2
namespace HT
open PySem PyProof.Rows PySem.Spec
section
variable {prog:Program} {w:World} {A:Around} {E:Value->Shared->Prop} {s:Shared}
theorem mD {t sl:Addr} {items:Array Value} {vl vu:Value} {lo hi:Option Int} {Q:Value->Shared->Prop} (ht:IsTup s.heap t items) (hs:s.heap.IsSliceOf sl vl vu .none) (pl:IsPart vl lo) (pu:IsPart vu hi)
  (hw:bA items.size 0 lo=0/\bA items.size items.size hi=items.size) (h:Q (.ref t) s):wpAny (model prog w) A (getItem (.ref t) (.ref sl)) Q E s:=by
 obtain⟨os,hos,hcs,hds⟩:=id hs
 have hTs:s.TypeIs (.ref sl) "slice" := ⟨os,hos,hcs⟩
 unfold getItem
 try with_reducible refine wpAny_holding ?_
 first | refine wpAny_bind (wpAny_pure ?_) | skip
 refine wpAny_bind (wpAny_sequenceKey ht.typeIs (by decide) ?_)
 refine wpAny_bind (wpAny_callSpecial?_slot (name:=Str.ofString "__getitem__") ht.typeIs PyProof.Rows.slot_tuple_getitem
  (wpAny_call_entry PyProof.Rows.slot_tuple_getitem ht.typeIs entry_tuple_getitem ?_ (args_tuple_getitem _ _)))
 show wpAny _ _ (Builtin.Tuple.tupleItemsOf (.ref t) >>= _) _ _ s
 refine wpAny_bind (tupleItemsOf_ ht ?_)
 refine wpAny_bind (wpAny_typeOf hTs ?_)
 rw [if_pos (by decide)]
 refine wpAny_bind (iQ hs pl pu ?_)
 have hno:((((bA items.size 0 lo:Nat):Int) == 0 && (1:Int) == 1 && (bA items.size items.size hi - bA items.size 0 lo) == items.size)=true):=by
  rw [hw.1,hw.2]
  simp
 show wpAny _ _ (if (((bA items.size 0 lo:Nat):Int) == 0 && (1:Int) == 1 && (bA items.size items.size hi - bA items.size 0 lo) == items.size)=true then _ else _) _ _ s
 rw [if_pos hno]
 refine wpAny_bind ?_
 unfold Builtin.Tuple.tupleIsExact
 refine wpAny_bind (wpAny_typeOf ht.typeIs (wpAny_pure ?_))
 rw [if_pos (by decide)]
 refine wpAny_bind (wpAny_rule ?_)
 first
  | exact wpAny_pure ⟨_,rfl,wpAny_pure h⟩
  | exact wpAny_bind (wpAny_pure (wpAny_pure ⟨_,rfl,wpAny_pure h⟩))
  | exact wpAny_pure (wpAny_pure ⟨_,rfl,wpAny_pure h⟩)
end
end HT
namespace L2
open PySem PySem.Spec PyProof.Rows
section
variable {X:Cx}
inductive DY (K:PySem.W.Frag) (x:V) (lo:Option Int) (hi:Option Int) (H:Hp) (Q:VK):Prop
 | mk (a xs:_) (_:x=.ref a) (_:bJ K H a xs) (_:((HT.bA xs.length 0 lo=0/\HT.bA xs.length xs.length hi=xs.length)->Q (.ref a) H)) (_:(¬ (HT.bA xs.length 0 lo=0/\HT.bA xs.length xs.length hi=xs.length)->∀ p,H p=none->Q (.ref p) (upd H p (.tup (eS xs lo hi)))))
theorem A6:xt X (DY X.K):=by
 intro pins s σ H x v vl vu lo hi sl Q I rx hs pl pu h
 obtain⟨a,xs,rfl,hx,q1,q2⟩:=h
 by_cases hw:HT.bA xs.length 0 lo=0/\HT.bA xs.length xs.length hi=xs.length
 ·cases rx
  obtain⟨its,r,ht,hz⟩:=I.tuple hx
  have hlen:its.toArray.size=xs.length:=by rw [List.size_toArray];exact r.length.symm
  refine⟨"tuple",_,PyProof.Rows.slot_tuple_getitem.lookup,ht.typeIs,?_⟩
  exact HT.mD ht hs pl pu (by rw [hlen];exact hw) ⟨.ref a,H,I,rfl,q1 hw⟩
 ·exact CA pins s σ H (.ref a) v vl vu lo hi sl Q I rx hs pl pu ⟨a,xs,rfl,hx,hw,q2 hw⟩
end
def KTup (K:PySem.W.Frag) (a:Addr) (ks:List Str):Prop:=∃ (o:Obj) (its:Array Value) (n:Nat),K.lookup a=some o/\o.cls=.type "tuple" /\ o.data=.seq its n/\its.size<=sizeLine/\Vals (ks.map V.str) its.toList
structure zq (K:PySem.W.Frag) (mg:Str->Option Value) (aE s0 s1 s2 s3:Addr):Prop where
 tab:v3 K mg "END_PARTS" aE [("stop",s0),("go",s1),("less",s2),("is",s3)]
 q0:KTup K s0 []
 q1:KTup K s1 ["piece"]
 q2:KTup K s2 ["name", "number", "piece", "piece"]
 q3:KTup K s3 ["name", "number", "piece", "piece"]
section
variable {prog:Program} {w:World} {A:Around} {E:Value->Shared->Prop} {s:Shared}
end
section
variable {X:Cx}
end
section
variable {X:Cx}
end
end L2
namespace LS
open PySem
open PySem.Spec PyProof.Rows
section
variable {prog:Program} {w:World} {K:Type} [DecidableEq K] {knd:KeyKind prog w K}
variable {A:Around} {E:Value->Shared->Prop} {s:Shared}
variable {a:Addr} {ks:List K} {o:Obj} {es:Array (Int × Value)} {ep:Nat} {t:SetTable} {h h':Heap}
end
section
variable {prog:Program} {w:World} {A:Around} {E:Value->Shared->Prop} {s:Shared}
end
section
variable {prog:Program} {w:World} {K:Type} [DecidableEq K] {knd:KeyKind prog w K}
variable {A:Around} {E:Value->Shared->Prop} {s:Shared} {a:Addr} {ks:List K} {o:Obj} {es:Array (Int × Value)} {ep:Nat} {t:SetTable}
end
section
variable {prog:Program} {w:World} {K:Type} [DecidableEq K] {knd:KeyKind prog w K}
variable {A:Around} {E:Value->Shared->Prop} {s:Shared} {a I:Addr} {ks:List K} {o:Obj} {es:Array (Int × Value)} {ep:Nat} {t:SetTable}
end
open PySem.Calls PySem.W
section
variable {prog:Program} {w:World} {K:Type} [DecidableEq K] {knd:KeyKind prog w K}
variable {A:Around} {E:Value->Shared->Prop} {s:Shared} {a:Addr} {ks:List K} {o:Obj} {es:Array (Int × Value)} {ep:Nat} {t:SetTable}
end
end LS
namespace L2
open PySem PySem.Spec PyProof.Rows LS
section
variable {prog:Program} {w:World} {A:Around} {E:Value->Shared->Prop} {s:Shared} {a:Addr} {ks:List Key} {o:Obj} {es:Array (Int × Value)} {ep:Nat} {t:SetTable}
end
section
variable {X:Cx} {pins:List (Addr × Obj)} {σ : List (Option V)} {H:Hp} {s:Shared}
end
end L2
namespace LS
open PySem PySem.Spec PyProof.Rows L2
section
variable {K:Type} [DecidableEq K]
end
section
variable {prog:Program} {w:World} {A:Around} {E:Value->Shared->Prop} {s:Shared}
end
section
variable {prog:Program} {w:World} {A:Around} {E:Value->Shared->Prop} {s:Shared}
end
end LS
namespace L2
open PySem PySem.Spec PyProof.Rows LS
section
variable {X:Cx}
theorem Inv.FE {pins:List (Addr × Obj)} {σ : List (Option V)} {H:Hp} {s:Shared} {n:Nat} (I:Inv X pins σ H s):Inv X pins σ H { s with toks:=n }:=⟨I.ok,I.os,I.bare,I.base,I.loc,I.cell,I.free,I.cT,I.pin,I.au,I.len⟩
variable {o e:Expr} {es:List Expr} {to:TE} {t:TA} {name:Str} {apos cpos:Pos} {id:String} {r:V->List V->Hp->VK->Prop}
end
structure wb (K:PySem.W.Frag) (mg:Str->Option Value) (aD d0 d1 d2 d3 d4:Addr):Prop where
 tab:v3 K mg "DEED_PARTS" aD [("put",d0),("copy",d1),("add",d2),("read",d3),("tell",d4)]
 q0:KTup K d0 ["name", "number"]
 q1:KTup K d1 ["name", "name"]
 q2:KTup K d2 ["name", "number"]
 q3:KTup K d3 ["name"]
 q4:KTup K d4 ["name"]
theorem fq {k:Str} {d:Addr} {D:List (Str × Addr)}:KTD.datumAt k ((k,d) :: D)=some d:=by
 show (if decide (k=k)=true then some d else KTD.datumAt k D)=some d
 rw [if_pos (decide_eq_true rfl)]
theorem eI {k x:Str} {d:Addr} {D:List (Str × Addr)} {o:Option Addr} (h:¬ k=x) (e:KTD.datumAt k D=o):KTD.datumAt k ((x,d) :: D)=o:=by
 show (if decide (k=x)=true then some d else KTD.datumAt k D)=o
 rw [if_neg (by rw [decide_eq_false h];decide)]
 exact e
section
variable {X:Cx}
end
section
variable {a0 a1 z:V}
end
section
variable {C D:Addr} {H H':Hp} {wp p pl d nl sl:Addr} {plv:V} {nums:List Int} {S:RS} {m:Nat}
end
section
variable (C D:Addr)
end
section
variable {C D:Addr} {H H':Hp} {wp p pl d nl sl st d2 tl bl np:Addr} {plv:V} {nums nums':List Int} {S S':RS} {m m':Nat}
end
section
variable (C D:Addr)
end
section
variable {C D:Addr} {H0 H H1 H2:Hp} {wp p pl d nl sl st st' d2 tl bl np b:Addr} {plv:V} {nums more:List Int} {S S':RS} {m m':Nat}
end
section
variable {X:Cx}
inductive DZ  (x:V) (y:V) (H:Hp) (Q:VK):Prop
 | mk (a b xs ys:_) (_:x=.ref a) (_:y=.ref b) (_:H a=some (.tup xs)) (_:H b=some (.tup ys)) (_:xs.length+ys.length<=sizeLine) (_:∀ t H',H' t=some (.tup (xs++ys))->af H H'->Q (.ref t) H')
theorem uP:cV X (binaryOp .Add) DZ:=by
 intro pins s σ H x y v u Q I rx ry h
 obtain⟨a,b,xs,ys,rfl,rfl,ha,hb,hz,q⟩:=h
 cases rx
 cases ry
 obtain⟨its,r1,p1,_⟩:=I.tuple (bJ.of ha)
 obtain⟨its2,r2,p2,_⟩:=I.tuple (bJ.of hb)
 by_cases hx:xs = []
 ·subst hx
  have hi:its = []:=r1.o5.mpr rfl
  subst hi
  obtain⟨⟨cls,dd,data,sl⟩,ho,hc,n,hd⟩:=id p1
  obtain⟨⟨cls2,dd2,data2,sl2⟩,ho2,hc2,n2,hd2⟩:=id p2
  simp only at hc hd hc2 hd2
  subst hc hd hc2 hd2
  exact concat_meets ⟨_,ho,rfl⟩ ⟨_,ho2,rfl⟩ noFill_tuple_add seq_tuple_add PySem.F.slot_tuple_add PySem.F.entry_tuple_add (PySem.F.args_tuple_add_2 _ _)
   (tuple_addW0 a b [].toArray its2.toArray n n2 dd dd2 sl sl2 (by simp)) ⟨ho,ho2,⟨.ref b,H,I,rfl,q b H hb (af.refl H)⟩⟩
 ·refine HT.AR p1 p2 (fun z=>hx (r1.o5.mp z)) (fun z=>⟨.ref a,H,I,rfl,q a H (by rw [r2.o5.mp z,List.append_nil];exact ha) (af.refl H)⟩) (fun z=>?_) (by rw [<-r1.length,<-r2.length];exact hz)
  have fr:=I.au.fresh (a:=s.heap.objs.size) (Nat.le_refl _)
  refine⟨.ref s.heap.objs.size,_,I.laid (t':=s.toks) (o:=.tup (xs++ys)) (fun b ob q=>Heap.get?_push_of_some _ q) (Nat.le_refl _) ?_,rfl,q _ _ aa (af.new fr)⟩
  exact⟨by rw [List.length_append];exact hz,_,r1.append r2,⟨_,Heap.get?_push_size _ rfl,rfl,_,rfl,rfl⟩⟩
end
section
variable {ps:List Piece} {nums more:List Int} {S S0:RS} {m n:Nat}
end
section
variable {ps:List Piece} {nums more:List Int} {S:RS} {m n:Nat}
end
inductive Call where
 | hand (ns:List Int)
 | go (n:Nat)
structure C1 where
 S:RS
 nums:List Int
 m:Nat
structure WA where
 wp:Addr
 p:Addr
 pl:Addr
 d:Addr
 nl:Addr
 sl:Addr
section
variable {C D:Addr} {H H' H0:Hp} {x y:WA} {pv pv':V} {s s':C1} {c:Addr} {o:HO}
end
section
variable (C D:Addr)
end
section
variable {C D:Addr} {H0 H H1:Hp} {w0 w1 w2:WA} {wl cl nb:Addr} {plv ov:V} {x0 x1 x2 x':C1} {n0 n1 n':List Int} {vs:List V} {cs:List Call}
end
end L2
namespace PySem
section
variable {prog:Program} {w:World} {A:Around} {E:Value->Shared->Prop} {s:Shared}
end
end PySem
namespace PySem
section
variable {prog:Program} {w:World} {K:Type} [DecidableEq K] {knd:KeyKind prog w K} {A:Around} {s:Shared}
end
end PySem
namespace L2
open PySem PySem.Spec PyProof.Rows
theorem rT:∀ {xs:List V} {us:List Value} {j:Nat} {x:V},Vals xs us->xs[j]? = some x->∃ u,us[j]? = some u/\RelV x u
 | _,_,_,_,.nil,e=>by simp at e
 | _,_,0,_,.cons r _,e=>by
  cases (Option.some.inj e)
  exact⟨_,rfl,r⟩
 | _,_,j+1,x,.cons _ t,e=>by
  obtain⟨u,h1,h2⟩:=rT (j:=j) (x:=x) t (by simpa using e)
  exact⟨u,by simpa using h1,h2⟩
section
variable {X:Cx}
theorem all_range (bs:List Bool):((List.range bs.length).all fun i=>(bs[i]?).getD true)=bs.all id:=by
 rw [Bool.eq_iff_iff]
 simp only [List.all_eq_true,List.mem_range]
 constructor
 ·intro h b hb
  obtain⟨i,hi,rfl⟩:=List.getElem_of_mem hb
  have:=h i hi
  simpa [hi] using this
 ·intro h i hi
  have:=h bs[i] (List.getElem_mem hi)
  simpa [hi] using this
theorem ic (hc:X.calm=true):eF X (.builtin "all") (fun vs H Q=>∃ (p:Addr) (bs:List Bool),vs = [.ref p]/\ay X.K H p (bs.map V.bl)/\Q (.bl (bs.all id)) H):=by
 intro pins s σ H vs us Q I r h
 obtain⟨p,bs,rfl,hS,q⟩:=h
 obtain⟨u,rfl,ru⟩:=vals1 r
 cases (show u=Value.ref p from ru)
 obtain⟨its,rv,pl,hz⟩:=I.list hS
 have hl:=pl.isList
 have hlt:p < s.heap.objs.size:=by
  obtain⟨_,e,_⟩:=hl
  exact Heap.lt_size e
 have hsz:its.toArray.size=bs.length:=by
  have:=rv.length
  simp at this
  simp [this]
 refine call_all_walk (wpAny_pyIter_list hl ?_)
 refine⟨s.heap.objs.size,[s.heap.objs.size,p],[s.heap.objs.size],its.toArray.size,_,_,fun j=>(bs[j]?).getD true,rfl,Walks.list (A:=X.A.in1) (I.ok.hd hc) _ p (Nat.ne_of_lt hlt) its.toArray,
  ⟨⟨_,Heap.get?_push_size _ rfl,rfl,rfl⟩,hl.push _⟩,fun j v t Q' E' hP hQ=>?_,fun g tk hk=>?_⟩
 ·have hj:its[j]? = some v:=by simpa using hP
  have hjl:j < bs.length:=by
   have:=(List.getElem?_eq_some_iff.mp hj).1
   rw [<-rv.length,List.length_map] at this
   exact this
  have hb:bs[j]? = some bs[j]:=by simp [hjl]
  obtain⟨w',hw,rw'⟩:=rT (j:=j) (x:=V.bl bs[j]) rv (by rw [List.getElem?_map,hb];rfl)
  rw [hj] at hw
  cases hw
  cases (show v=Value.bool bs[j] from rw')
  have hQ':Q' ((bs[j]?).getD true) t:=hQ
  rw [hb] at hQ'
  exact wpAny_truthy_bool hQ'
 ·refine⟨.bl (bs.all id),H,?_,?_,q⟩
  ·refine I.kept (t':=tk) fun b o e=>hk b o (fun hm=>?_) (Heap.get?_push_of_some _ e)
   rw [List.mem_singleton.mp hm] at e
   exact Nat.lt_irrefl _ (Heap.lt_size e)
  ·show _=Value.bool (bs.all id)
   rw [hsz,all_range]
end
abbrev Sx:=Option Int × Option Int
def Fd:Sx:=(none,none)
section
variable {X:Cx}
end
theorem lC:bootBuiltins "all" = some (.builtin "all"):=by decide +kernel
section
variable {C D:Addr} {H0 H H1:Hp} {w0 w1:WA} {plv:V} {x0 x1 x':C1}
end
open LS
section
variable {X:Cx}
end
section
variable {a0 a1 z:V}
end
section
variable {C r m d:Addr} {H H':Hp} {ms:List Nat}
end
section
variable (C:Addr)
end
theorem jY:∀ ds:List PyData,(∀ d ∈ ds,d.canLay0=true)->(PyData.tuple ds).canLay0=true
 | [],_=>rfl
 | d :: ds,h=>by
  have ih:=jY ds fun x hx=>h x (List.mem_cons_of_mem _ hx)
  show (d.canLay0 && (PyData.tuple ds).canLay0)=true
  rw [h d (List.mem_cons_self ..),ih]
  rfl
theorem jZ {m:Nat}:∀ ds:List PyData,(∀ d ∈ ds,d.depth<=m)->PyData.depthAll ds<=m
 | [],_=>Nat.zero_le _
 | d :: ds,h=>by
  have ih:=jZ ds fun x hx=>h x (List.mem_cons_of_mem _ hx)
  have h1:=h d (List.mem_cons_self ..)
  show max d.depth (PyData.depthAll ds)<=m
  omega
theorem C2 {X:Cx} {K:PySem.W.Frag} {o e:Expr} {es:List Expr} {to:TE} {t:TA} {name:Str} {apos cpos:Pos} {T id:String} {r:V->List V->Hp->VK->Prop} (hK:X.K=K) (pa:PlainAttrs T) (slot:Slot T name id) (hty:typeOf (.builtin id)=pure (.type "method_descriptor")) (hm:rE X id r) (ho:PE X o to) (ha:PA X (e :: es) t)
  (hbase:attributeBase o name X.env (eval o X.env)=eval o X.env:=by rfl)
  (hfew:((backTo cpos (starEach (e :: es) X.env)).all (fun x=>!x.1) && (backToKw cpos (keywordEach [] X.env)).all (fun x=>x.1.isSome)
   && decide ((e :: es).length+([]:List Keyword).length+(if ([]:List Keyword).isEmpty then 0 else 1) < 30))=true:=by rfl)
  (hline:(apos.endLine == cpos.line)=true:=by rfl) (hs:starEach (e :: es) X.env=(false,eval e X.env) :: starEach es X.env:=by rfl) (hplain:(backTo cpos (starEach es X.env)).any (·.1)=false:=by rfl) :
  PE X (.Call (.Attribute o name apos) (e :: es) [] cpos) (Ez K T r to t):=by
 subst hK
 exact bU pa slot hty hm ho ha hbase hfew hline hs hplain
section
variable {X:Cx} {tg:Expr}
theorem qg:eF X (.type "int") (fun vs H Q=>∃ (x:Str) (n:Int),vs = [.str x]/\PySem.intText? x=some n/\x.length<=640/\Q (.int n) H):=by
 intro pins s σ H xs us Q I r h
 obtain⟨x,n,rfl,hn,hl,q⟩:=h
 obtain⟨u,rfl,t,rfl⟩:=vals1 r
 exact PySem.W.KIN.call_text hn hl ⟨.int n,H,I.FE,⟨_,rfl⟩,q⟩
theorem qH:rE X "str.startswith" (fun x vs H Q=>∃ a b:Str,x=.str a/\vs = [.str b]/\Q (.bl (Txt.startswith a b)) H):=by
 intro pins s σ H x vs v us Q I rx rv h
 obtain⟨a,b,rfl,rfl,q⟩:=h
 obtain⟨t,rfl⟩:=(show ∃ t,v=Value.str a t from rx)
 obtain⟨u,rfl,t',rfl⟩:=vals1 rv
 exact SC.startswith ⟨.bl _,H,I,rfl,q⟩
theorem jn:cV X (compareOp .LtE) (fun x y H Q=>∃ i j,x=.str i/\y=.str j/\Q (.bl (!decide (j.cps.toList < i.cps.toList))) H):=by
 intro pins s σ H x y v u Q I rx ry h
 obtain⟨i,j,rfl,rfl,q⟩:=h
 obtain⟨t,rfl⟩:=rx
 obtain⟨t',rfl⟩:=ry
 exact P.le_str (bN I q rfl)
inductive Fe  (x:V) (lo:Option Int) (hi:Option Int) (H:Hp) (Q:VK):Prop
 | mk (a:Str) (_:x=.str a) (_:a.length<=1000000) (_:Q (.str (Txt.slice a lo hi)) H)
theorem dX:xt X Fe:=by
 intro pins s σ H x v vl vu lo hi sl Q I rx hs pl pu h
 obtain⟨a,rfl,ha,q⟩:=h
 obtain⟨t,rfl⟩:=(show ∃ t,v=Value.str a t from rx)
 refine⟨"str",_,F.slot_str_getitem.lookup,typeIs_str _ _ _,?_⟩
 have hz:∀ l u,(Txt.slice a l u).length<=sizeLine:=fun l u=>Nat.le_trans (Txt.slice_le a _ _) (Nat.le_of_lt (aT ha))
 cases pl with
 | none=>cases pu with
  | none=>exact wpAny_getItem_str_slice (l:=none) (u:=none) (st:=none) hs rfl (post_val_or_str ⟨hz _ _,fun t' k=>⟨.str _,H,I.tok k,⟨_,rfl⟩,q⟩⟩)
  | int j uj=>exact wpAny_getItem_str_slice (l:=none) (u:=some (j,uj)) (st:=none) hs rfl (post_val_or_str ⟨hz _ _,fun t' k=>⟨.str _,H,I.tok k,⟨_,rfl⟩,q⟩⟩)
 | int i ui=>cases pu with
  | none=>exact wpAny_getItem_str_slice (l:=some (i,ui)) (u:=none) (st:=none) hs rfl (post_val_or_str ⟨hz _ _,fun t' k=>⟨.str _,H,I.tok k,⟨_,rfl⟩,q⟩⟩)
  | int j uj=>exact wpAny_getItem_str_slice (l:=some (i,ui)) (u:=some (j,uj)) (st:=none) hs rfl (post_val_or_str ⟨hz _ _,fun t' k=>⟨.str _,H,I.tok k,⟨_,rfl⟩,q⟩⟩)
def C3 (x:Str):It:=⟨fun i _=>i < x.cps.size,fun i H v H'=>H' = H/\∃ c,x.cps[i]? = some c/\v=.str ⟨#[c]⟩,fun i _=>i=x.cps.size⟩
theorem rV {P:Program} {w:World} {K:PySem.W.Frag} {tg:Expr} {ty:String} (it:Addr) (x:Str) (t:Tok) (hn:["enumerate", "zip", "dict_itemiterator", "dict_reverseitemiterator", "odict_iterator", "itertools.zip_longest", "itertools.pairwise"].contains ty=false)
  (W:∀ A:Around,A.handled=none->Walks P w A it [it] [it] x.cps.size (SignAt x) (fun i h=>h.IsStrIter it ty x t i))
  (S:∀ (A:Around) (i:Nat) (s:Shared) (Q:Value->Shared->Prop) (E:Value->Shared->Prop),s.heap.IsStrIter it ty x t i->Q (.ref it) s->wpAny (model P w) A (pyIter (.ref it)) Q E s):Turn P w K tg (C3 x) [it] it (fun i h=>h.IsStrIter it ty x t i) where
 mem:=by simp
 obj:=fun i h st b hb=>by
  have e:b=it:=by simpa using hb
  subst e
  obtain⟨o,e,c,d⟩:=st
  exact⟨o,e,fun v z=>by rw [d] at z;cases z⟩
 keep:=fun i h h' st k=>by
  obtain⟨o,e,r⟩:=st
  exact⟨o,k it (by simp) o e,r⟩
 item:=by
  intro X hP hw hK hc i pins s σ H E I hf st hg
  subst hP hw hK
  obtain⟨f0,f1,f2,f3,f4,f5⟩:=hf it (by simp)
  refine (W X.A (I.ok.hd hc)).item i s _ _ hg st fun v h' tk hv st' kk=>?_
  obtain⟨c,u,hc',rfl⟩:=hv
  have I1:Inv X pins σ H { s with heap:=h',toks:=tk }:=I.turned (fun b o hb e=>kk b o (by simpa using hb) e) f0 f1 f3 f4 f5
  obtain⟨o,e,c1,d⟩:=id st'
  exact⟨_,rfl,qP (s:={ s with heap:=h',toks:=tk }) e c1 d hn ⟨.str ⟨#[c]⟩,H,I1,⟨u,rfl⟩,⟨rfl,c,hc',rfl⟩,st',fun b hb=>(hf b hb).1⟩⟩
 done:=by
  intro X hP hw hK hc i pins s σ H E I hf st hg
  subst hP hw hK
  obtain⟨f0,f1,f2,f3,f4,f5⟩:=hf it (by simp)
  cases (show i=x.cps.size from hg)
  exact (W X.A (I.ok.hd hc)).done s _ _ st fun h' tk kk=>⟨rfl,I.turned (fun b o hb e=>kk b o (by simpa using hb) e) f0 f1 f3 f4 f5⟩
 self:=fun A i s Q E st h=>S A i s Q E st h
def Ff (tl:TE):TI:=fun σ H R=>tl σ H fun v H1=>∃ x:Str,v=.str x/\R (C3 x) H1
theorem oA {l:Expr} {tl:TE} (hl:PE X l tl):PI X tg l (Ff tl):=by
 intro pins s σ H R I h
 refine aU (hl pins s σ H _ I h) fun v s1 ⟨x,H1,I1,r1,q1⟩=>?_
 obtain⟨z,rfl,q⟩:=q1
 obtain⟨t,rfl⟩:=(show ∃ t,v=Value.str z t from r1)
 cases ha:z.cps.all (· < 128)
 ·refine wpAny_pyIter_wide ha ?_
  refine⟨s1.heap.objs.size,[s1.heap.objs.size],_,_,H1,rfl,I1.kept (t':=s1.toks) fun b o e=>Heap.get?_push_of_some _ e,rV _ z t (ty := "str_iterator") (by decide) (fun A hA=>Walks.strWide hA _ z t) (fun _ _ _ _ _ st h=>wpAny_pyIter_striter_wide st h),⟨_,Heap.get?_push_size _ rfl,rfl,rfl⟩,fun b hb=>?_,q⟩
  have e:b=s1.heap.objs.size:=by simpa using hb
  subst e
  exact I1.gW (Nat.le_refl _) (I1.au.fresh (Nat.le_refl _))
 ·refine wpAny_pyIter_ascii ha ?_
  refine⟨s1.heap.objs.size,[s1.heap.objs.size],_,_,H1,rfl,I1.kept (t':=s1.toks) fun b o e=>Heap.get?_push_of_some _ e,rV _ z t (ty := "str_ascii_iterator") (by decide) (fun A hA=>Walks.strAscii hA _ z t) (fun _ _ _ _ _ st h=>wpAny_pyIter_striter_ascii st h),⟨_,Heap.get?_push_size _ rfl,rfl,rfl⟩,fun b hb=>?_,q⟩
  have e:b=s1.heap.objs.size:=by simpa using hb
  subst e
  exact I1.gW (Nat.le_refl _) (I1.au.fresh (Nat.le_refl _))
theorem oB {acc:Addr} {x:Str} {n:Nat} {js:List Nat} {g:TG} {ct:TT} {te:TE} {σ : St} {H1:Hp} {Q:VK} (Pv:Nat->List V->St->Hp->Prop) (h0:Pv 0 [] (ib n js σ) (upd H1 acc (.lst [])))
  (hl:∀ i ys τ H,i<=x.cps.size->Pv i ys τ H->H acc=some (.lst ys)/\ys.length < sizeLine)
  (hs:∀ i c ys τ H,x.cps[i]? = some c->Pv i ys τ H->g (.str ⟨#[c]⟩) τ H fun τ1 H4=>ct τ1 H4 fun b H5=>if b=true then te τ1 H5 fun y H6=>H6 acc=some (.lst ys)/\Pv (i+1) (ys ++ [y]) τ1 (upd H6 acc (.lst (ys ++ [y]))) else Pv (i+1) ys τ1 H5)
  (hd:∀ ys τ H,Pv x.cps.size ys τ H->Q (.ref acc) H) :
  mL (C3 x) n js g ct te acc σ H1 Q:=by
 refine⟨fun i m ys τ H=>m=x.cps.size - i/\i<=x.cps.size/\Pv i ys τ H,⟨x.cps.size,by simp,Nat.zero_le _,h0⟩,?_⟩
 rintro i m ys τ H ⟨rfl,hi,p⟩
 obtain⟨q2,q3⟩:=hl i ys τ H hi p
 refine⟨q2,q3,?_⟩
 by_cases hlt:i < x.cps.size
 ·refine .inr ⟨hlt,Pv (i+1),fun ys' τ' H' p'=>⟨x.cps.size - (i+1),by omega,rfl,hlt,p'⟩,fun v H' y=>?_⟩
  obtain⟨e,c,hc,rfl⟩:=y
  subst e
  exact hs i c ys τ _ hc p
 ·have e:i=x.cps.size:=by omega
  subst e
  exact .inl ⟨rfl,hd ys τ H p⟩
end
open PySem.Builtin.Str PySem.Builtin PySem.StrLaws PySem.NumText
def sg (x:Str):List Nat:=x.cps.toList
theorem lF {x y:Str} (h:sg x=sg y):x=y:=by
 obtain⟨a⟩:=x
 obtain⟨b⟩:=y
 exact congrArg Str.mk (Array.toList_inj.mp h)
theorem aY (x:Str):(sg x).length=x.length:=Array.length_toList
theorem rW (x:Str) (l u:Option Int):Txt.slice x l u=sliceText x l u:=rfl
theorem uQ {x:Str} {i:Nat} (h:i<=x.length):sg (Txt.slice x (some (i:Int)) none)=(sg x).drop i:=by
 have hl:=aY x
 rw [rW,sliceText_from ⟨by omega,by show (i:Int)<=((sg x).length:Nat);omega⟩]
 show ((sg x).drop (i:Int).toNat).take _=_
 rw [Int.toNat_natCast]
 refine List.take_of_length_le ?_
 rw [List.length_drop]
 show _<=(((sg x).length:Int) - (i:Int)).toNat
 omega
theorem Ea {x:Str} {j:Nat} (h:j<=x.length):sg (Txt.slice x none (some (j:Int)))=(sg x).take j:=by
 have hl:=aY x
 rw [rW,sliceText_to ⟨by omega,by show (j:Int)<=((sg x).length:Nat);omega⟩]
 show ((sg x).drop 0).take ((j:Int) - 0).toNat=_
 rw [List.drop_zero,Int.sub_zero,Int.toNat_natCast]
theorem xM (x y:Str):sg (x++y)=sg x++sg y:=by
 show (x.cps++y.cps).toList=_
 rw [Array.toList_append]
 rfl
structure bf (m:Nat) (x:Str):Prop where
 b3:x.length<=m
 ok:∀ c ∈ sg x,c < 0x110000
theorem bf.mono {m k:Nat} {x:Str} (h:bf m x) (hk:m<=k):bf k x:=⟨Nat.le_trans h.b3 hk,h.ok⟩
theorem bf.app {m k:Nat} {x y:Str} (h:bf m x) (h':bf k y):bf (m+k) (x++y):=by
 refine⟨?_,fun c hc=>?_⟩
 ·have:=aY (x++y)
  rw [xM,List.length_append,aY,aY] at this
  have:=h.b3
  have:=h'.b3
  omega
 ·rw [xM] at hc
  rcases List.mem_append.mp hc with hc | hc
  ·exact h.ok c hc
  ·exact h'.ok c hc
theorem bf.slice {m:Nat} {x:Str} (h:bf m x) (l u:Option Int):bf m (Txt.slice x l u):=by
 refine⟨Nat.le_trans (Txt.slice_le x l u) h.b3,fun c hc=>?_⟩
 unfold Txt.slice at hc
 split at hc
 ·exact h.ok c hc
 ·obtain⟨i,_,hi⟩:=List.mem_filterMap.mp (show c ∈ (strSliceIndices l u 1 x.length).filterMap (x.cps[·]?) from hc)
  exact h.ok c (Array.mem_toList_iff.mpr (Array.mem_of_getElem? hi))
theorem bf.one {c:Nat} (h:c < 0x110000):bf 1 ⟨#[c]⟩:=⟨Nat.le_refl 1,fun d hd=>by rw [List.mem_singleton.mp (show d ∈ [c] from hd)];exact h⟩
theorem bf.lay {m:Nat} {x:Str} (h:bf m x):PyData.canLay0 (.str x)=true:=by
 show (x.cps.all fun c=>decide (c < 0x110000))=true
 rw [<-Array.all_toList,List.all_eq_true]
 exact fun c hc=>decide_eq_true (h.ok c hc)
def cS (c:Nat):Bool:=decide (48<=c) && decide (c<=57)
def dG:List Nat->List Nat
 | 45 :: r=>r
 | l=>l
def eV (x:Str):Bool:=decide (1<=(dG (sg x)).length) && (decide ((dG (sg x)).length<=40) && ((dG (sg x)).all cS && !(decide ((dG (sg x)).head? = some 48) && decide (x ≠ "0"))))
def eE (x:Str):Option Int:=if eV x=true then PySem.intText? x else none
theorem xN (x:Str):Txt.startswith x "-" = decide ((sg x).head? = some 45):=by
 obtain⟨⟨cs⟩⟩:=x
 cases cs with
 | nil=>rfl
 | cons c r =>
  show (decide (0+1<=(c :: r).length) && ((c :: r).toArray.extract 0 (0+1) == #[45]))=_
  have e:(c :: r).toArray.extract 0 (0+1) = #[c]:=by simp
  rw [e]
  show (decide (0+1<=r.length+1) && (#[c] == #[45]))=decide (some c=some 45)
  rw [decide_eq_true (by omega:0+1<=r.length+1),Bool.true_and]
  by_cases h:c=45
  ·subst h;rfl
  ·rw [decide_eq_false (fun z=>h (Option.some.inj z))]
   simp [h]
theorem fb {l:List Nat} (h:l.head? = some 45):l=45 :: dG l:=by
 cases l with
 | nil=>cases h
 | cons c r=>cases h;rfl
theorem gY {l:List Nat} (h:¬ l.head? = some 45):dG l=l:=by
 cases l with
 | nil=>rfl
 | cons c r =>
  unfold dG
  split
  ·next e=>injection e with e1 e2;subst e1;exact absurd rfl h
  ·rfl
theorem good_reads {x:Str} (hl:x.length<=640) (h:eV x=true):∃ n,PySem.intText? x=some n:=by
 unfold eV at h
 rw [Bool.and_eq_true,Bool.and_eq_true,Bool.and_eq_true] at h
 obtain⟨h1,h2,h3,h4⟩:=h
 have hd:∀ c ∈ dG (sg x),48<=c/\c<=57:=fun c hc=>by
  have:=List.all_eq_true.mp h3 c hc
  unfold cS at this
  rw [Bool.and_eq_true] at this
  exact⟨of_decide_eq_true this.1,of_decide_eq_true this.2⟩
 have hne:dG (sg x) ≠ []:=fun z=>by rw [z] at h1;cases h1
 by_cases hm:(sg x).head? = some 45
 ·exact⟨_,intText_neg (fb hm) hd hne (by omega)⟩
 ·rw [gY hm] at hd hne
  exact⟨_,intText_digits hd hne (by omega)⟩
theorem le_0 (c:Nat):(!decide ((⟨#[c]⟩:Str).cps.toList < ("0" : Str).cps.toList))=decide (48<=c):=by
 have e:("0" : Str).cps.toList = [48]:=by decide +kernel
 rw [e]
 show (!decide ([c] < [48]))=_
 by_cases h:48<=c
 ·rw [decide_eq_true h,decide_eq_false (fun z=>by rw [List.cons_lt_cons_iff] at z;rcases z with z | ⟨_,z⟩;omega;cases z)];rfl
 ·rw [decide_eq_false h,decide_eq_true (List.cons_lt_cons_iff.mpr (.inl (by omega)))];rfl
theorem Fg (c:Nat):(!decide (("9" : Str).cps.toList < (⟨#[c]⟩:Str).cps.toList))=decide (c<=57):=by
 have e:("9" : Str).cps.toList = [57]:=by decide +kernel
 rw [e]
 show (!decide ([57] < [c]))=_
 by_cases h:c<=57
 ·rw [decide_eq_true h,decide_eq_false (fun z=>by rw [List.cons_lt_cons_iff] at z;rcases z with z | ⟨_,z⟩;omega;cases z)];rfl
 ·rw [decide_eq_false h,decide_eq_true (List.cons_lt_cons_iff.mpr (.inl (by omega)))];rfl
theorem uR {x f:Str} (hf:sg f=dG (sg x)):eV x=(decide (1<=f.length) && (decide (f.length<=40) && ((sg f).all cS && !(decide ((sg f).head? = some 48) && decide (x ≠ "0"))))):=by
 unfold eV
 rw [<-hf,aY]
theorem xO (c:Nat):(!(Builtin.Str.occurrences ("0123456789" : Str) ⟨#[c]⟩ 0 ("0123456789" : Str).length 1).isEmpty)=cS c:=by
 rw [PySem.StrLaws.found_one]
 have e:("0123456789" : Str).cps.toList = [48,49,50,51,52,53,54,55,56,57]:=by decide +kernel
 rw [e]
 unfold cS
 by_cases h:48<=c/\c<=57
 ·rw [decide_eq_true h.1,decide_eq_true h.2]
  refine decide_eq_true ?_
  obtain⟨h1,h2⟩:=h
  simp
  omega
 ·have:¬ c ∈ [48,49,50,51,52,53,54,55,56,57]:=fun z=>h (by simp at z;omega)
  rw [decide_eq_false this]
  by_cases h1:48<=c
  ·rw [decide_eq_true h1,decide_eq_false (fun z=>h ⟨h1,z⟩)];rfl
  ·rw [decide_eq_false h1];rfl
theorem xP {f:Str} (h:1<=f.length):∃ c,(sg f).head? = some c/\eZ f.cps.toList 0=some c:=by
 have hl:=aY f
 cases e:sg f with
 | nil=>rw [e] at hl;simp at hl;omega
 | cons c r=>exact⟨c,rfl,di (j:=0) (by show (sg f)[0]? = some c;rw [e];rfl)⟩
theorem rX (c:Nat):decide (V.str ⟨#[c]⟩=V.str "0")=decide (c=48):=by
 have e:("0" : Str)=⟨#[48]⟩:=by decide +kernel
 rw [e]
 by_cases h:c=48
 ·subst h;rw [decide_eq_true rfl,decide_eq_true rfl]
 ·rw [decide_eq_false h,decide_eq_false (fun z=>h (by injection z with z;injection z with z;injection z with z;injection z))]
theorem xQ (x:Str):decide (V.str (Txt.slice x none (some 1))=V.str "-")=decide ((sg x).head? = some 45):=by
  have e:sg ("-" : Str) = [45]:=by decide +kernel
  have hl:=aY x
  cases hx:sg x with
  | nil =>
    have:x=⟨#[]⟩:=lF hx
    subst this
    decide +kernel
  | cons c r =>
    rw [hx] at hl
    have h1:sg (Txt.slice x none (some 1))=(sg x).take 1:=Ea (x:=x) (j:=1) (by simp at hl;omega)
    rw [hx] at h1
    show _=decide (some c=some 45)
    by_cases h:c=45
    · subst h
      rw [decide_eq_true (congrArg V.str (lF (h1.trans e.symm))),decide_eq_true rfl]
    · rw [decide_eq_false (fun z=>h (by
        have h2:=congrArg sg (V.str.inj z)
        rw [show sg (Txt.slice x none (some 1)) = [c] from h1,e] at h2
        injection h2)),decide_eq_false (fun z=>h (Option.some.inj z))]
theorem ng {H:Hp}:∀ l:List Nat,aN H (l.map fun c=>V.str ⟨#[c]⟩) (l.map fun c=>PyData.str ⟨#[c]⟩)
 | []=>.nil
 | _ :: l=>.cons (.str _) (ng l)
theorem o9:∀ ds:List PyData,(∀ d ∈ ds,d.canLay0=true)->(PyData.list ds).canLay0=true
 | [],_=>rfl
 | d :: ds,h=>by
  have ih:=o9 ds fun x hx=>h x (List.mem_cons_of_mem _ hx)
  show (d.canLay0 && (PyData.list ds).canLay0)=true
  rw [h d (List.mem_cons_self ..),ih]
  rfl
theorem rY (l:List Nat):PyData.eqv (.list (l.map fun c=>PyData.str ⟨#[c]⟩)) (.list [])=l.isEmpty:=by cases l <;> rfl
theorem filter_nil (l:List Nat):(l.filter fun c=>!cS c).isEmpty=l.all cS:=by
 induction l with
 | nil=>rfl
 | cons c l ih =>
  cases h:cS c with
  | true=>rw [List.filter_cons_of_neg (by simp [h]),List.all_cons,h,Bool.true_and];exact ih
  | false=>rw [List.filter_cons_of_pos (by simp [h]),List.all_cons,h,Bool.false_and];rfl
theorem A7 {x:Str} {m:Nat} (hx:bf m x) {r:Int} (h0:0<=r) (h1:r < (x.length:Int)):∃ c,eZ x.cps.toList r=some c/\c < 0x110000/\c ∈ sg x:=by
 obtain⟨j,rfl⟩:∃ j:Nat,r=j:=⟨r.toNat,by omega⟩
 have hl:=aY x
 have hj:j < (sg x).length:=by omega
 exact⟨(sg x)[j],di (by show (sg x)[j]? = _;rw [List.getElem?_eq_getElem hj]),hx.ok _ (List.getElem_mem _),List.getElem_mem _⟩
section
variable {P:Program} {w:World} {K:PySem.W.Frag} {mg:Str->Option Value} {base h:Heap} {x q m:Str} {st:Stmt} {f C:Addr} {fd:FuncData} {k:Nat} {ps:List Str} {sp:Sp}
structure bI (K:PySem.W.Frag) (x:Str) (st:Stmt) (f:Addr) (fd:FuncData):Prop where
 a:PySem.W.nsIn K mainGlobals x=some (some (.ref f))
 F:bT K x x st f fd
structure kh (K:PySem.W.Frag) (C:Addr) (x q:Str) (st:Stmt) (f:Addr) (fd:FuncData):Prop where
 a:PySem.W.findIn K (.ref C) x=some (some (.ref f))
 i:PySem.W.isFn K (.ref f)=true
 F:bT K x q st f fd
section
variable {oc:Value} {od an:Option Addr} {osl:Array (Option Value)} {kV doc pm cdv ct:Value}
theorem def_mk (a:PySem.W.nsIn K mainGlobals x=some (some (.ref f))) (l:K.lookup f=some ⟨oc,od,.func (PySem.W.fnOf x x (dB st) (cI st) (ax st) .none kV doc pm an cdv ct),osl⟩)
  (c:PySem.W.codeIn K cdv x=true) (k:PySem.W.keepIn K (.ref f)=true):bI K x st f (PySem.W.fnOf x x (dB st) (cI st) (ax st) .none kV doc pm an cdv ct):=⟨a,xA l c k⟩
theorem met_mk (a:PySem.W.findIn K (.ref C) x=some (some (.ref f))) (i:PySem.W.isFn K (.ref f)=true) (l:K.lookup f=some ⟨oc,od,.func (PySem.W.fnOf x q (dB st) (cI st) (ax st) .none kV doc pm an cdv ct),osl⟩)
  (c:PySem.W.codeIn K cdv q=true) (k:PySem.W.keepIn K (.ref f)=true):kh K C x q st f (PySem.W.fnOf x q (dB st) (cI st) (ax st) .none kV doc pm an cdv ct):=⟨a,i,xA l c k⟩
end
def jo (x q:Str) (st:Stmt) (ps:List Str):Prop:=∀ (kV doc pm:Value) (an:Option Addr) (cdv ct:Value) (us:List Value),us.length=ps.length->bindArgs (PySem.W.fnOf x q (dB st) (cI st) (ax st) .none kV doc pm an cdv ct) ⟨us,[]⟩=pure (ps.zip us)
theorem bH (P:Program) (w:World) (base:Heap) (X:K.In h) (G:h.Ns mainGlobals mg) (d:bI K x st f fd) (o:aZ P w K mg base bS k f fd ps sp) (b:jo x x st ps):Own P w K mg base x k ps sp:=⟨⟨_,_,o,PySem.W.mg_of X G d.a,d.F.kp,d.F.binds b⟩⟩
theorem A8 (P:Program) (w:World) (base:Heap) (mg:Str->Option Value) (T:kQ K C) (d:kh K C x q st f fd) (o:aZ P w K mg base bS k f fd ps sp) (b:jo x q st ps):zo P w K mg base C x k ps sp:=⟨T,⟨_,_,o,⟨d.a,d.i,d.F.kp⟩,d.F.binds b⟩⟩
section
variable {p1 p2 p3 p4 p5 p6:Str}
theorem gJ (h:∀ (kV doc pm:Value) (an:Option Addr) (cdv ct u1:Value),bindArgs (PySem.W.fnOf x q (dB st) (cI st) (ax st) .none kV doc pm an cdv ct) ⟨[u1],[]⟩=pure [(p1,u1)]):jo x q st [p1]:=fun _ _ _ _ _ _ us hl=>match us,hl with | [_],_=>h ..
theorem kW (h:∀ (kV doc pm:Value) (an:Option Addr) (cdv ct u1 u2:Value),bindArgs (PySem.W.fnOf x q (dB st) (cI st) (ax st) .none kV doc pm an cdv ct) ⟨[u1,u2],[]⟩=pure [(p1,u1),(p2,u2)]):jo x q st [p1,p2]:=fun _ _ _ _ _ _ us hl=>match us,hl with | [_,_],_=>h ..
theorem oE (h:∀ (kV doc pm:Value) (an:Option Addr) (cdv ct u1 u2 u3:Value),bindArgs (PySem.W.fnOf x q (dB st) (cI st) (ax st) .none kV doc pm an cdv ct) ⟨[u1,u2,u3],[]⟩=pure [(p1,u1),(p2,u2),(p3,u3)]):jo x q st [p1,p2,p3]:=fun _ _ _ _ _ _ us hl=>match us,hl with | [_,_,_],_=>h ..
end
end
theorem cA {N ps:List Str} {sc:Scope} (h1:sc.kind=.function:=by rfl) (h2:sc.isCoroutine=false:=by rfl) (h3:sc.isGenerator=false:=by rfl) (h4:N.Nodup:=by decide +kernel) (h5:N.take ps.length=ps:=by rfl) (h6:∀ x ∈ ps,sc.names.lookup x=some .local\/sc.names.lookup x=some .cell:=by decide +kernel) (h7:∀ y ∈ sc.names,y.2 ≠ .free:=by decide +kernel):aM N ps sc:=⟨h1,h2,h3,h4,h5,h6,h7⟩
theorem aF {X:Cx} {x:Str} {k m:Nat} {ps:List Str} {sp:Sp} {e:Expr} {es:List Expr} {t:TA} {p pos:Pos} (o:Own X.prog X.w X.K X.mg X.base x k ps sp) (hr:b6 m X.A) (ha:PA X (e :: es) t) (hk:k<=m:=by decide) (hg:Gl X x:=by rfl)
  (hdb:(x == ("__debug__" : Str))=false:=by decide) (he:starEach (e :: es) X.env=(false,eval e X.env) :: starEach es X.env:=by rfl) (hpl:(backTo pos (starEach es X.env)).any (·.1)=false:=by rfl):PE X (.Call (.Name x p) (e :: es) [] pos) (qQ sp [] E0 t):=CI o (hr.mono hk) hg ha hdb he hpl
theorem aP {X:Cx} {i:Nat} {x:Str} {e:Expr} {te:TE} {pos pos':Pos} (hN:X.N.Nodup) (he:PE X e te) (hi:X.N[i]? = some x:=by rfl) (hx:Loc X.env.scope x:=by first | exact Or.inl rfl | exact Or.inr rfl) (hs:swapsWith e (some (.Name x pos')) pos.line X.env=pure false:=by rfl) (hf:X.fn x=true\/X.env.scope.names.lookup x=some .local:=by first | exact .inl rfl | exact .inr rfl | assumption) :
  PS X (.Assign [.Name x pos'] e pos) (rq te (j8 i)):=Cm hN hi hx he hs hf
theorem bu {X:Cx} {i:Nat} {x:Str} {pos:Pos} (hN:X.N.Nodup) (hi:X.N[i]? = some x:=by rfl) (hx:Loc X.env.scope x:=by first | exact Or.inl rfl | exact Or.inr rfl) (hf:X.fn x=true\/X.env.scope.names.lookup x=some .local:=by first | exact .inl rfl | exact .inr rfl | assumption):PG X (.Name x pos) (j8 i):=AJ hN hi hx hf
theorem bg {X:Cx} {a b:Expr} {ta tb:TE} {pos:Pos} {r:R2} (hr:xu X r) (ha:PE X a ta) (hb:PE X b tb) (hs:uF b:=by exact fun _ _=>rfl):PE X (.Subscript a b pos) (uv r ta tb):=DQ hr ha hb hs
theorem av {X:Cx} {e1:Expr} {t1:TE} (h1:PE X e1 t1) (s1:starEach [e1] X.env=(false,eval e1 X.env) :: starEach [] X.env:=by rfl):PA X [e1] (fQ t1 oZ):=(bP h1 dQ s1)
theorem aL {X:Cx} {e1 e2:Expr} {t1 t2:TE} (h1:PE X e1 t1) (h2:PE X e2 t2) (s1:starEach [e1,e2] X.env=(false,eval e1 X.env) :: starEach [e2] X.env:=by rfl) (s2:starEach [e2] X.env=(false,eval e2 X.env) :: starEach [] X.env:=by rfl):PA X [e1,e2] (fQ t1 (fQ t2 oZ)):=(bP h1 (bP h2 dQ s2) s1)
theorem du {X:Cx} {e1 e2 e3:Expr} {t1 t2 t3:TE} (h1:PE X e1 t1) (h2:PE X e2 t2) (h3:PE X e3 t3) (s1:starEach [e1,e2,e3] X.env=(false,eval e1 X.env) :: starEach [e2,e3] X.env:=by rfl) (s2:starEach [e2,e3] X.env=(false,eval e2 X.env) :: starEach [e3] X.env:=by rfl) (s3:starEach [e3] X.env=(false,eval e3 X.env) :: starEach [] X.env:=by rfl):PA X [e1,e2,e3] (fQ t1 (fQ t2 (fQ t3 oZ))):=(bP h1 (bP h2 (bP h3 dQ s3) s2) s1)
theorem C4 {X:Cx} {e1 e2 e3 e4:Expr} {t1 t2 t3 t4:TE} (h1:PE X e1 t1) (h2:PE X e2 t2) (h3:PE X e3 t3) (h4:PE X e4 t4) (s1:starEach [e1,e2,e3,e4] X.env=(false,eval e1 X.env) :: starEach [e2,e3,e4] X.env:=by rfl) (s2:starEach [e2,e3,e4] X.env=(false,eval e2 X.env) :: starEach [e3,e4] X.env:=by rfl) (s3:starEach [e3,e4] X.env=(false,eval e3 X.env) :: starEach [e4] X.env:=by rfl) (s4:starEach [e4] X.env=(false,eval e4 X.env) :: starEach [] X.env:=by rfl):PA X [e1,e2,e3,e4] (fQ t1 (fQ t2 (fQ t3 (fQ t4 oZ)))):=(bP h1 (bP h2 (bP h3 (bP h4 dQ s4) s3) s2) s1)
section
variable {prog:Program} {w:World} {A:Around} {E:Value->Shared->Prop} {s:Shared}
theorem zr {Q:Int->Shared->Prop} (h:∀ n tk,Q n { s with toks:=tk }):wpAny (model prog w) A (pyHash .none) Q E s:=by
 show wpAny _ _ (pyHashByItsType .none) _ _ _
 exact PySem.W.pyHash_slot (T := "NoneType") rfl PySem.F.slot_NoneType_hash PySem.F.entry_NoneType_hash (PySem.F.args_NoneType_hash_1 _) (by decide) (.inl rfl) (wpAny_bind (wpAny_pure (wpAny_bind (wpAny_mkInt (wpAny_pure ⟨_,_,rfl,h _ _⟩)))))
theorem zt {d:Addr} {o:Obj} {es:Array DictEntry} {ep:Nat} {hsh:Int} {Q:Option Nat->Shared->Prop} (ho:s.heap.get? d=some o) (hd:o.data=.dict es ep) (hall:∀ e ∈ es,∃ x t,e.key=.str x t) (h:Q none s):wpAny (model prog w) A (dictFind d .none hsh) Q E s:=by
 have hv:((Value.none :: (placesWithHash es.size (fun i=>es[i]?.map (·.hash)) hsh).filterMap fun i=>es[i]?.map (·.key)).all carriedByValue)=true:=by
  refine List.all_eq_true.mpr fun v hv=>?_
  rcases List.mem_cons.mp hv with rfl | hv
  ·rfl
  ·obtain⟨i,_,hi⟩:=List.mem_filterMap.mp hv
   obtain⟨e,he,rfl⟩:=Option.map_eq_some_iff.mp hi
   obtain⟨x,t,ek⟩:=hall e (Array.mem_of_getElem? he)
   rw [ek]
   rfl
 unfold dictFind
 try with_reducible refine wpAny_holding ?_
 refine wpAny_bind (wpAny_dictEntries ho hd ?_)
 dsimp only
 rw [if_pos hv]
 unfold dictWalkPlain
 refine wpAny_bind (wpAny_forIn_list _ (fun _ b s'=>s' = s/\b=(none,())) _ ?_ ?_ _ _ ⟨rfl,rfl⟩)
 ·rintro i rest b s' ⟨rfl,rfl⟩
  cases he:es[i]? with
  | none=>exact wpAny_pure ⟨rfl,rfl⟩
  | some e =>
   obtain⟨x,t,ek⟩:=hall e (Array.mem_of_getElem? he)
   dsimp only
   by_cases hh:(e.hash == hsh)=true
   ·rw [if_pos hh,ek]
    refine wpAny_bind (wpAny_dictEpoch ho hd (wpAny_bind (SeqAt.EqAt.str_none x t prog w E _ (wpAny_bind (wpAny_dictEpoch ho hd ?_)))))
    show wpAny _ _ (if (ep != ep)=true then _ else _) _ E _
    rw [if_neg (by simp)]
    exact wpAny_bind (wpAny_rule (wpAny_pure ⟨rfl,rfl⟩))
   ·rw [if_neg hh]
    exact wpAny_pure ⟨rfl,rfl⟩
 ·rintro b s' ⟨rfl,rfl⟩
  exact wpAny_pure h
theorem rZ {a:Addr} {o:Obj} {es:Array DictEntry} {ep:Nat} {k:Str} {t:Tok} {D:List (Str × Addr)} {Q:Option Value->Shared->Prop} (ho:s.heap.get? a=some o) (hd:o.data=.dict es ep)
  (hr:KTD.Rows (fun d v=>v=Value.ref d) es.toList D) (ha:KTD.datumAt k D=none) (q:Q none { s with toks:=s.toks+1 }):wpAny (model prog w) A (dictGet a (.str k t)) Q E s:=by
 unfold dictGet
 try with_reducible refine wpAny_holding ?_
 refine wpAny_bind (wpAny_pyHash_str (wpAny_bind (KTD.kt_dictFind_strs (s:={ s with toks:=s.toks+1 }) ho hd (by have:=hr.exact;obtain⟨l⟩:=es;simpa using this) ?_)))
 have hq:Q (findBy (fun k v=>v.isStr k) es k) { s with toks:=s.toks+1 }:=by
  have e:findBy (fun k v=>v.isStr k) es k=none:=by
   rw [<-hr.find_none ha]
   obtain⟨l⟩:=es
   simp [findBy]
  rw [e]
  exact q
 rw [findBy_of_findIdx?] at hq
 cases hi:es.findIdx? fun e=>e.key.isStr k with
 | some i=>rw [hi] at hq;exact wpAny_bind (wpAny_dictEntries (s:={ s with toks:=s.toks+1 }) ho hd (wpAny_pure hq))
 | none=>rw [hi] at hq;exact wpAny_pure hq
theorem xR {R:Addr->Value->Prop} {es:List DictEntry} {D:List (Str × Addr)} (h:KTD.Rows R es D):∀ e ∈ es,∃ x t,e.key=.str x t:=by
 induction h with
 | nil=>exact fun _ h=>nomatch h
 | cons hk _ _ ih =>
  intro e he
  rcases List.mem_cons.mp he with rfl | he
  ·exact⟨_,_,hk⟩
  ·exact ih e he
theorem tS {a:Addr} {o:Obj} {es:Array DictEntry} {ep:Nat} {D:List (Str × Addr)} {Q:Option Value->Shared->Prop} (ho:s.heap.get? a=some o) (hd:o.data=.dict es ep)
  (hr:KTD.Rows (fun d v=>v=Value.ref d) es.toList D) (q:∀ tk,Q none { s with toks:=tk }):wpAny (model prog w) A (dictGet a .none) Q E s:=by
 unfold dictGet
 try with_reducible refine wpAny_holding ?_
 exact wpAny_bind (zr fun n tk=>wpAny_bind (zt (s:={ s with toks:=tk }) ho hd (fun e he=>xR hr e (Array.mem_toList_iff.mpr he)) (wpAny_pure (q tk))))
def tabAt (D:List (Str × Addr)):V->Option (Option Addr)
 | .str x=>some (KTD.datumAt x D)
 | .aW=>some none
 | _=>none
def lG:Option Addr->V
 | some d=>.ref d
 | none=>.aW
theorem zu {a:Addr} {o:Obj} {es:Array DictEntry} {ep:Nat} {D:List (Str × Addr)} {y:V} {u:Value} {r:Option Addr} {Q:Value->Shared->Prop} (ty:s.TypeIs (.ref a) "dict") (hs:(a == sysModules)=false) (ho:s.heap.get? a=some o) (hd:o.data=.dict es ep)
  (hr:KTD.Rows (fun d v=>v=Value.ref d) es.toList D) (ry:RelV y u) (ha:tabAt D y=some r) (q:∀ v tk,RelV (lG r) v->Q v { s with toks:=tk }):wpAny (model prog w) A (call (.builtin "dict.get") [.ref a,u]) Q E s:=by
 refine wpAny_call_entry PySem.F.slot_dict_get ty PySem.F.entry_dict_get ?_ (PySem.F.args_dict_get_2 _ _)
 show wpAny _ _ (dictGet a u >>= _) _ _ s
 cases y with
 | str x =>
  obtain⟨t,rfl⟩:=(show ∃ t,u=Value.str x t from ry)
  cases hx:KTD.datumAt x D with
  | some d =>
   obtain rfl:some d=r:=by simpa [tabAt,hx] using ha
   exact wpAny_bind (zl ho hd hr hx (wpAny_pure ⟨_,rfl,q _ _ rfl⟩))
  | none =>
   obtain rfl:none=r:=by simpa [tabAt,hx] using ha
   refine wpAny_bind (rZ ho hd hr hx ?_)
   show wpAny _ _ (Builtin.Dict.missed a _ >>= _) _ _ _
   exact wpAny_bind (wpAny_missed_other hs (wpAny_pure ⟨.none,rfl,q _ _ rfl⟩))
 | aW =>
  cases (show u=Value.none from ry)
  obtain rfl:none=r:=by simpa [tabAt] using ha
  refine wpAny_bind (tS ho hd hr fun tk=>?_)
  show wpAny _ _ (Builtin.Dict.missed a _ >>= _) _ _ _
  exact wpAny_bind (wpAny_missed_other hs (wpAny_pure ⟨.none,rfl,q _ _ rfl⟩))
 | _=>cases ha
end
section
variable {X:Cx}
inductive Eb (D:List (Str × Addr)) (ty:TE) (σ : St) (H:Hp) (Q:VK):Prop
 | mk (_:ty σ H fun y H1=>∃ r,tabAt D y=some r/\Q (lG r) H1)
theorem lH {nm:Str} {a:Addr} {D:List (Str × Addr)} {e:Expr} {p apos cpos:Pos} {ty:TE} (G:v3 X.K X.mg nm a D) (hs:(a == sysModules)=false) (hg:Gl X nm) (he:PE X e ty) (m:M1 X (.Name nm p) "get" apos e cpos) (hdb:(nm == ("__debug__" : Str))=false:=by decide) :
  PE X (.Call (.Attribute (.Name nm p) "get" apos) [e] [] cpos) (Eb D ty):=by
 intro pins s σ H Q I h
 obtain⟨h⟩:=h
 obtain⟨es,ep,hk,hr⟩:=G.lk
 refine wpAny_Call_method m.base m.b3 m.line PySem.F.plainAttrs_dict PySem.F.slot_dict_get PySem.F.type_dict_get (aU (dJ (v:=.ref a) hg G.CW rfl hdb pins s σ H (fun x H1=>x=.ref a/\ty σ H1 fun y H1=>∃ r,tabAt D y=some r/\Q (lG r) H1) I ⟨rfl,h⟩) fun u s1 ⟨x,H1,I1,rx,ex,q1⟩=>?_)
 subst ex
 obtain rfl:u=Value.ref a:=rx
 have ho1:=I1.cy a _ hk
 refine⟨⟨_,ho1,rfl⟩,?_,?_⟩
 ·intro b q
  cases q
  exact⟨_,ho1,rfl⟩
 rw [m.trees]
 refine Calls.callWith_builtin rfl (Calls.evalArgs_plain (Calls.spliced_cons (aU (he pins s1 σ H1 _ I1 q1) fun iv s2 ⟨y,H2,I2,ry,r,hy,q2⟩=>Calls.spliced_nil ?_)))
 have ho2:=I2.cy a _ hk
 exact zu ⟨_,ho2,rfl⟩ hs ho2 rfl hr ry hy fun v tk rv=>⟨lG r,H2,I2.tok tk,rv,q2⟩
end
def cE (c:Nat):Bool:=decide (97<=c) && decide (c<=122)
def iz:PyData->Bool
 | .str x=>(decide (1<=x.length) && decide (x.length<=8)) && (sg x).all cE
 | _=>false
def j0:PyData->Bool
 | .int _=>true
 | _=>false
def bQ (d:PyData) (k:Str) (n:Nat):Bool :=
 if k = "name" then iz d else if k = "number" then j0 d else match d with
  | .int i=>decide (0<=i) && decide (i < (n:Int))
  | _=>false
def wc:PyData->Bool
 | .str _=>true
 | _=>false
def ki:PyData->Bool
 | .tuple _=>true
 | _=>false
def Ap:PyData->Bool
 | .bool _=>true
 | _=>false
def intD:PyData->Bool
 | .int _=>true
 | .bool _=>true
 | _=>false
def eu:PyData->Option Str
 | .tuple (.str x :: _)=>some x
 | _=>none
def iE (x:Str):Option (List Str) :=
 if x = "put" then some ["name", "number"] else if x = "copy" then some ["name", "name"] else if x = "add" then some ["name", "number"] else if x = "read" then some ["name"] else if x = "tell" then some ["name"] else none
def pd (x:Str):Option (List Str) :=
 if x = "stop" then some [] else if x = "go" then some ["piece"] else if x = "less" then some ["name", "number", "piece", "piece"] else if x = "is" then some ["name", "number", "piece", "piece"] else none
def b4:List PyData->List Str->Nat->Bool
 | [],[],_=>true
 | d :: ds,k :: ks,n=>bQ d k n && b4 ds ks n
 | _,_,_=>false
def jx (d:PyData) (ks:Option (List Str)) (n:Nat):Bool:=match ks,d with
 | some ks,.tuple (_ :: ds)=>decide (ds.length=ks.length) && b4 ds ks n
 | _,_=>false
def dI (d:PyData):Bool:=jx d ((eu d).bind iE) 0
def kj (d:PyData) (n:Nat):Bool:=jx d ((eu d).bind pd) n
def b9 (d:PyData) (n:Nat):Bool:=match d with
 | .tuple [.tuple ds,e]=>decide (ds.length<=12) && (ds.all dI && kj e n)
 | _=>false
mutual
def dz:PyData->Bool
 | .str x=>decide (x.length<=300000) && (sg x).all fun c=>decide (c < 0x110000)
 | .tuple ds=>decide (ds.length<=300000) && ft ds
 | .list ds=>decide (ds.length<=300000) && ft ds
 | _=>true
def ft:List PyData->Bool
 | []=>true
 | d :: ds=>dz d && ft ds
end
theorem fV {K:PySem.W.Frag} {H:Hp} {x:V} {d:PyData} (h:bh H x d):∃ t,gv K H x t/\PySem.W.kitOne K t (.type "str")=some (wc d)/\PySem.W.kitOne K t (.type "int")=some (intD d)/\PySem.W.kitOne K t (.type "bool")=some (Ap d)/\PySem.W.kitOne K t (.type "tuple")=some (ki d):=by
 cases h with
 | aW=>exact⟨_,.aW,rfl,rfl,rfl,rfl⟩
 | bl b=>exact⟨_,.bl b,rfl,rfl,rfl,rfl⟩
 | int i=>exact⟨_,.int i,rfl,rfl,rfl,rfl⟩
 | str x=>exact⟨_,.str x,rfl,rfl,rfl,rfl⟩
 | lst e _=>exact⟨_,.lst e,rfl,rfl,rfl,rfl⟩
 | tup e _=>exact⟨_,.tup e,rfl,rfl,rfl,rfl⟩
theorem Fh (c:Nat):(!decide ((⟨#[c]⟩:Str).cps.toList < ("a" : Str).cps.toList))=decide (97<=c):=by
 have e:("a" : Str).cps.toList = [97]:=by decide +kernel
 rw [e]
 show (!decide ([c] < [97]))=_
 by_cases h:97<=c
 ·rw [decide_eq_true h,decide_eq_false (by rw [List.cons_lt_cons_iff];simp;omega)];rfl
 ·rw [decide_eq_false h,decide_eq_true (by rw [List.cons_lt_cons_iff];simp;omega)];rfl
theorem Fi (c:Nat):(!decide (("z" : Str).cps.toList < (⟨#[c]⟩:Str).cps.toList))=decide (c<=122):=by
 have e:("z" : Str).cps.toList = [122]:=by decide +kernel
 rw [e]
 show (!decide ([122] < [c]))=_
 by_cases h:c<=122
 ·rw [decide_eq_true h,decide_eq_false (by rw [List.cons_lt_cons_iff];simp;omega)];rfl
 ·rw [decide_eq_false h,decide_eq_true (by rw [List.cons_lt_cons_iff];simp;omega)];rfl
theorem zv (d:PyData):j0 d=(intD d && !Ap d):=by cases d <;> rfl
theorem A9 {d:PyData} (h:wc d=false):iz d=false:=by cases d <;> first | rfl | cases h
theorem zw {d:PyData} (h:ki d=false):eu d=none:=by cases d <;> first | rfl | cases h
theorem C5 {H:Hp} {x:V} {d:PyData} (h:bh H x d) (e:wc d=true):∃ y,x=.str y/\d=.str y:=by cases h <;> first | exact⟨_,rfl,rfl⟩ | cases e
theorem sd {H:Hp} {x:V} {d:PyData} (h:bh H x d) (e:ki d=true):∃ p xs ds,x=.ref p/\d=.tuple ds/\H p=some (.tup xs)/\aN H xs ds:=by cases h <;> first | exact⟨_,_,_,rfl,rfl,‹_›,‹_›⟩ | cases e
theorem C6 {H:Hp} {x:V} {d:PyData} (h:bh H x d) (e:j0 d=true):∃ i,x=.int i/\d=.int i:=by cases h <;> first | exact⟨_,rfl,rfl⟩ | cases e
inductive se (vs:List V) (H:Hp) (Q:VK) (_:XK):Prop
 | mk (x:V) (d:PyData) (_:vs = [x]) (_:bh H x d) (_:Q (.bl (j0 d)) H)
inductive uS (vs:List V) (H:Hp) (Q:VK) (_:XK):Prop
 | mk (x:V) (d:PyData) (_:vs = [x]) (_:bh H x d) (_:dz d=true) (_:∀ H',af H H'->Q (.bl (iz d)) H')
inductive uT (vs:List V) (H:Hp) (Q:VK) (_:XK):Prop
 | mk (x:V) (d:PyData) (k:Str) (n:Nat) (_:vs = [x,.str k,.int n]) (_:bh H x d) (_:dz d=true) (_:∀ H',af H H'->Q (.bl (bQ d k n)) H')
def we:Option Str->V
 | some x=>.str x
 | none=>.aW
inductive nh (vs:List V) (H:Hp) (Q:VK) (_:XK):Prop
 | mk (x:V) (d:PyData) (_:vs = [x]) (_:bh H x d) (_:Q (we (eu d)) H)
inductive iV (K:PySem.W.Frag):V->Option (List Str)->Prop
 | no:iV K .aW none
 | some (a:Addr) (ks:List Str):KTup K a ks->iV K (.ref a) (some ks)
inductive sh (K:PySem.W.Frag) (vs:List V) (H:Hp) (Q:VK) (_:XK):Prop
 | mk (x:V) (d:PyData) (kv:V) (ks:Option (List Str)) (n:Nat) (_:vs = [x,kv,.int n]) (_:bh H x d) (_:dz d=true) (_:iV K kv ks) (_:(ks ≠ none->∃ d0 ds,d=.tuple (d0 :: ds))) (_:∀ H',af H H'->Q (.bl (jx d ks n)) H')
theorem lI:∀ {ds:List PyData} {i:Nat} {d:PyData},ft ds=true->ds[i]? = some d->dz d=true
 | d0 :: ds,0,d,h,e=>by
  simp only [ft,Bool.and_eq_true] at h
  cases e
  exact h.1
 | d0 :: ds,i+1,d,h,e=>by
  simp only [ft,Bool.and_eq_true] at h
  exact lI h.2 (by simpa using e)
def iW (ds:List PyData) (ks:List Str) (n:Nat):List Bool:=(ds.zip ks).map fun p=>bQ p.1 p.2 n
theorem qh:∀ (ds:List PyData) (ks:List Str) (n:Nat),ds.length=ks.length->(iW ds ks n).all id=b4 ds ks n
 | [],[],n,_=>rfl
 | d :: ds,k :: ks,n,h=>by
  show (bQ d k n && (iW ds ks n).all id)=(bQ d k n && b4 ds ks n)
  rw [qh ds ks n (by simpa using h)]
mutual
theorem bh.bB {H H':Hp} (f:af H H'):∀ {x:V} {d:PyData},bh H x d->bh H' x d
 | _,_,.aW=>.aW
 | _,_,.bl b=>.bl b
 | _,_,.int i=>.int i
 | _,_,.str x=>.str x
 | _,_,.lst e r=>.lst (f _ _ e) (aN.bB f r)
 | _,_,.tup e r=>.tup (f _ _ e) (aN.bB f r)
theorem aN.bB {H H':Hp} (f:af H H'):∀ {xs:List V} {ds:List PyData},aN H xs ds->aN H' xs ds
 | _,_,.nil=>.nil
 | _,_,.cons a r=>.cons (bh.bB f a) (aN.bB f r)
end
theorem Ba {K:PySem.W.Frag} {mg:Str->Option Value} {aD d0 d1 d2 d3 d4:Addr} (G:wb K mg aD d0 d1 d2 d3 d4) (o:Option Str):∃ r,tabAt [("put",d0),("copy",d1),("add",d2),("read",d3),("tell",d4)] (we o)=some r/\iV K (lG r) (o.bind iE):=by
 cases o with
 | none=>exact⟨none,rfl,.no⟩
 | some x =>
  refine⟨_,rfl,?_⟩
  show iV K (lG (KTD.datumAt x [("put",d0),("copy",d1),("add",d2),("read",d3),("tell",d4)])) (iE x)
  unfold iE
  by_cases h0:x = "put"
  ·rw [if_pos h0,h0,fq];exact .some _ _ G.q0
  rw [if_neg h0,eI h0 rfl]
  by_cases h1:x = "copy"
  ·rw [if_pos h1,h1,fq];exact .some _ _ G.q1
  rw [if_neg h1,eI h1 rfl]
  by_cases h2:x = "add"
  ·rw [if_pos h2,h2,fq];exact .some _ _ G.q2
  rw [if_neg h2,eI h2 rfl]
  by_cases h3:x = "read"
  ·rw [if_pos h3,h3,fq];exact .some _ _ G.q3
  rw [if_neg h3,eI h3 rfl]
  by_cases h4:x = "tell"
  ·rw [if_pos h4,h4,fq];exact .some _ _ G.q4
  rw [if_neg h4,eI h4 rfl]
  exact .no
theorem C7 {K:PySem.W.Frag} {mg:Str->Option Value} {aE s0 s1 s2 s3:Addr} (G:zq K mg aE s0 s1 s2 s3) (o:Option Str):∃ r,tabAt [("stop",s0),("go",s1),("less",s2),("is",s3)] (we o)=some r/\iV K (lG r) (o.bind pd):=by
 cases o with
 | none=>exact⟨none,rfl,.no⟩
 | some x =>
  refine⟨_,rfl,?_⟩
  show iV K (lG (KTD.datumAt x [("stop",s0),("go",s1),("less",s2),("is",s3)])) (pd x)
  unfold pd
  by_cases h0:x = "stop"
  ·rw [if_pos h0,h0,fq];exact .some _ _ G.q0
  rw [if_neg h0,eI h0 rfl]
  by_cases h1:x = "go"
  ·rw [if_pos h1,h1,fq];exact .some _ _ G.q1
  rw [if_neg h1,eI h1 rfl]
  by_cases h2:x = "less"
  ·rw [if_pos h2,h2,fq];exact .some _ _ G.q2
  rw [if_neg h2,eI h2 rfl]
  by_cases h3:x = "is"
  ·rw [if_pos h3,h3,fq];exact .some _ _ G.q3
  rw [if_neg h3,eI h3 rfl]
  exact .no
theorem xS {d:PyData} {x:Str} (h:eu d=some x):∃ d0 ds,d=.tuple (d0 :: ds):=by
 unfold eu at h
 split at h
 ·exact⟨_,_,rfl⟩
 ·cases h
theorem qi {d:PyData} {f:Str->Option (List Str)} (h:(eu d).bind f ≠ none):∃ d0 ds,d=.tuple (d0 :: ds):=by
 cases e:eu d with
 | none=>rw [e] at h;exact absurd rfl h
 | some x=>exact xS e
inductive uU (vs:List V) (H:Hp) (Q:VK) (_:XK):Prop
 | mk (x:V) (d:PyData) (_:vs = [x]) (_:bh H x d) (_:dz d=true) (_:∀ H',af H H'->Q (.bl (dI d)) H')
inductive xT (vs:List V) (H:Hp) (Q:VK) (_:XK):Prop
 | mk (x:V) (d:PyData) (n:Nat) (_:vs = [x,.int n]) (_:bh H x d) (_:dz d=true) (_:∀ H',af H H'->Q (.bl (kj d n)) H')
inductive si (vs:List V) (H:Hp) (Q:VK) (_:XK):Prop
 | mk (x:V) (d:PyData) (n:Nat) (_:vs = [x,.int n]) (_:bh H x d) (_:dz d=true) (_:∀ H',af H H'->Q (.bl (b9 d n)) H')
theorem zx {d:PyData} {n:Nat} (h:ki d=false):b9 d n=false:=by cases d <;> first | rfl | cases h
theorem xU {ds:List PyData} {n:Nat} (h:¬ ds.length=2):b9 (.tuple ds) n=false:=by
 unfold b9
 split
 ·rename_i e;cases e;exact absurd rfl h
 ·rfl
theorem xV {d1 d2:PyData} {n:Nat} (h:ki d1=false):b9 (.tuple [d1,d2]) n=false:=by cases d1 <;> first | rfl | cases h
theorem aN.Bb {H:Hp} {xs:List V} {ds:List PyData} (r:aN H xs ds) (h:dz (.tuple ds)=true):xs.length<=300000/\ft ds=true:=by
 simp only [dz,Bool.and_eq_true] at h
 exact⟨by rw [r.len];exact of_decide_eq_true h.1,h.2⟩
theorem hJ {X:Cx} {K:PySem.W.Frag} (hK:X.K=K):eF X (.builtin "len") (fun xs H Q=>∃ p ys,xs = [V.ref p]/\(ay K H p ys\/bJ K H p ys)/\Q (V.int (ys.length:Nat)) H):=by subst hK;exact aV
theorem Bc {x:Str} (h:dz (.str x)=true):x.length<=300000/\∀ c ∈ sg x,c < 0x110000:=by
 simp only [dz,Bool.and_eq_true] at h
 exact⟨of_decide_eq_true h.1,fun c hc=>of_decide_eq_true (List.all_eq_true.mp h.2 c hc)⟩
theorem wg (c:Nat):(!(Builtin.Str.occurrences ("abcdefghijklmnopqrstuvwxyz" : Str) ⟨#[c]⟩ 0 ("abcdefghijklmnopqrstuvwxyz" : Str).length 1).isEmpty)=cE c:=by
 rw [PySem.StrLaws.found_one]
 have e:("abcdefghijklmnopqrstuvwxyz" : Str).cps.toList = [97,98,99,100,101,102,103,104,105,106,107,108,109,110,111,112,113,114,115,116,117,118,119,120,121,122]:=by decide +kernel
 rw [e]
 unfold cE
 by_cases h:97<=c/\c<=122
 ·rw [decide_eq_true h.1,decide_eq_true h.2]
  refine decide_eq_true ?_
  obtain⟨h1,h2⟩:=h
  simp
  omega
 ·rw [decide_eq_false (fun z=>h (by simp at z;omega))]
  by_cases h1:97<=c
  ·rw [decide_eq_true h1,decide_eq_false (fun z=>h ⟨h1,z⟩)];rfl
  ·rw [decide_eq_false h1];rfl
theorem wj (l:List Nat):(l.filter fun c=>!cE c).isEmpty=l.all cE:=by
 induction l with
 | nil=>rfl
 | cons c l ih =>
  cases h:cE c with
  | true=>rw [List.filter_cons_of_neg (by simp [h]),List.all_cons,h,Bool.true_and];exact ih
  | false=>rw [List.filter_cons_of_pos (by simp [h]),List.all_cons,h,Bool.false_and];rfl
theorem Ec {x:Str} (h0:¬ x = "put") (h1:¬ x = "copy") (h2:¬ x = "add") (h3:¬ x = "read") (h4:¬ x = "tell"):iE x=none:=by
 unfold iE
 rw [if_neg h0,if_neg h1,if_neg h2,if_neg h3,if_neg h4]
theorem pf (d:PyData) (n:Nat):bQ d "name" n=iz d:=if_pos rfl
theorem ph (d:PyData) (n:Nat):bQ d "number" n=j0 d:=by
 unfold bQ
 rw [if_neg (by decide +kernel),if_pos rfl]
section
variable {X:Cx}
end
@[irreducible] def d8 (X:Cx) (e:Expr) (t:TE):Prop:=PE X e t
@[irreducible] def mQ (X:Cx) (e:List Expr) (t:TA):Prop:=PA X e t
@[irreducible] def lJ (X:Cx) (e:Stmt) (t:TS):Prop:=PS X e t
@[irreducible] def gZ (X:Cx) (e:List Stmt) (t:TS):Prop:=gc X e t
section
variable {X:Cx} {e a b o:Expr} {es:List Expr} {st:Stmt} {rest:List Stmt} {te ta tb to:TE} {t:TA} {u v:TS} {pos:Pos}
theorem d8.mk (h:PE X e te):d8 X e te:=by unfold d8;exact h
theorem d8.out (h:d8 X e te):PE X e te:=by unfold d8 at h;exact h
theorem mQ.mk (h:PA X es t):mQ X es t:=by unfold mQ;exact h
theorem mQ.out (h:mQ X es t):PA X es t:=by unfold mQ at h;exact h
theorem lJ.mk (h:PS X st u):lJ X st u:=by unfold lJ;exact h
theorem lJ.out (h:lJ X st u):PS X st u:=by unfold lJ at h;exact h
theorem gZ.mk (h:gc X rest u):gZ X rest u:=by unfold gZ;exact h
theorem gZ.out (h:gZ X rest u):gc X rest u:=by unfold gZ at h;exact h
theorem de (h:lJ X st u) (r:gZ X rest v):gZ X (st :: rest) (Cg u v):=.mk (ae h.out r.out)
theorem ni (h:lJ X st u):gZ X [st] u:=.mk (ai h.out)
theorem pA (he:d8 X e te):lJ X (.Return (some e) pos) (Ci te):=.mk (aw he.out)
theorem gx {i:Nat} {x:Str} {pos':Pos} (hN:X.N.Nodup) (he:d8 X e te) (hi:X.N[i]? = some x:=by rfl) (hx:Loc X.env.scope x:=by first | exact Or.inl rfl | exact Or.inr rfl) (hs:swapsWith e (some (.Name x pos')) pos.line X.env=pure false:=by rfl) (hf:X.fn x=true\/X.env.scope.names.lookup x=some .local:=by first | exact .inl rfl | exact .inr rfl | assumption) :
  lJ X (.Assign [.Name x pos'] e pos) (rq te (j8 i)):=.mk (aP hN he.out hi hx hs hf)
theorem sj:gZ X [] z7:=.mk aG
theorem xW {c:Expr} {tc:TT} {body orelse:List Stmt} (ht:PT X c tc) (hb:gZ X body u) (ho:gZ X orelse v):lJ X (.If c body orelse pos) (Cj tc u v):=.mk (aQ ht hb.out ho.out)
theorem C8 {op:Operator} {r:R2} (ho:cV X (binaryOp op) r) (ha:d8 X a ta) (hb:d8 X b tb):d8 X (.BinOp a op b pos) (uv r ta tb):=.mk (aH ho ha.out hb.out)
theorem pB (h:mQ X es t):d8 X (.List es pos) (Cw t):=.mk (bX h.out)
theorem pC:mQ X [] oZ:=.mk dQ
theorem bb (h:d8 X e te) (r:mQ X es t) (hs:starEach (e :: es) X.env=(false,eval e X.env) :: starEach es X.env:=by rfl):mQ X (e :: es) (fQ te t):=.mk (bP h.out r.out hs)
theorem bL {x j pos}:d8 X (.Constant (.str x) j pos) (tC (.str x)):=.mk ao
end
section
variable {P:Program} {w:World} {K:PySem.W.Frag} {mg:Str->Option Value} {base:Heap}
theorem bT.FF {x qual:Str} {st:Stmt} {f:Addr} {fd:FuncData} {N ps:List Str} {k:Nat} {sp:Sp} (F:bT K x qual st f fd) (S:aM N ps (ax st)) (len:∀ vs H Q E,sp vs H Q E->vs.length=ps.length)
  (hbody:∀ (cdv:Value) (A:Around) (outer:List Env) (s:Shared) (H:Hp) (vs:List V) (Q:VK) (E:XK),b6 k (A.deeper (envOfC qual (ax st) s.heap.objs.size f cdv))->sp vs H Q E ->
   ∃ t,gZ (cw bS P w K mg base N qual (ax st) f cdv A outer s H E).uu (cI st) t/\t { nx:=fun _ H'=>Q .aW H',rt:=Q } (start N vs) H):aZ P w K mg base bS (k+1) f fd ps sp :=
 F.ok S len fun cdv A outer s H vs Q E hr h=>by
  obtain⟨t,h1,h2⟩:=hbody cdv A outer s H vs Q E hr h
  exact⟨t,h1.out,h2⟩
end
section
variable {X:Cx}
end
theorem sk {xs:List V} {k:Nat} (h:k<=xs.length):eS xs (some (k:Int)) none=xs.drop k:=by
 unfold eS
 rw [HT.AS,HT.rD,Nat.min_eq_left h]
 exact List.take_of_length_le (by rw [List.length_drop];omega)
theorem sm:∀ {ds:List PyData},(∀ e ∈ ds,dz e=true)->ft ds=true
 | [],_=>rfl
 | d :: ds,h=>by
  show (dz d && ft ds)=true
  rw [h d List.mem_cons_self,sm fun e he=>h e (List.mem_cons_of_mem _ he)]
  rfl
theorem pD {ds:List PyData} (hl:ds.length<=300000) (h:∀ e ∈ ds,dz e=true):dz (.tuple ds)=true:=by
 show (decide (ds.length<=300000) && ft ds)=true
 rw [decide_eq_true hl,sm h]
 rfl
theorem cF:∀ {ds:List PyData},(∀ e ∈ ds,dE e=true)->cJ ds=true
 | [],_=>rfl
 | d :: ds,h=>by
  show (dE d && cJ ds)=true
  rw [h d List.mem_cons_self,cF fun e he=>h e (List.mem_cons_of_mem _ he)]
  rfl
open Builtin Builtin.Str
def wk (s sub:Str) (hi limit:Nat) (st:Array Nat × Nat) (i:Nat):Array Nat × Nat :=
 if ((st.1.size < limit/\st.2<=i)/\i+sub.length<=hi)/\subAt s sub i=true then (st.1.push i,i+sub.length) else st
theorem nj (s sub:Str) (hi limit:Nat):∀ (l:List Nat) (st:Array Nat × Nat),(forIn l st (occBody s sub hi limit)).run=l.foldl (wk s sub hi limit) st
 | [],st=>rfl
 | i :: l,st=>by
  rw [List.forIn_cons,List.foldl_cons]
  unfold occBody wk
  split
  ·exact nj s sub hi limit l _
  ·exact nj s sub hi limit l _
theorem qp (z:Str):∀ (rest:List Str) (a:Array Nat),(rest.foldl (fun acc p=>acc++z.cps++p.cps) a).toList=a.toList++(rest.map sg).flatMap (fun q=>sg z++q)
 | [],a=>by rw [List.foldl_nil,List.map_nil,List.flatMap_nil,List.append_nil]
 | x :: r,a=>by
  rw [List.foldl_cons,qp z r,List.map_cons,List.flatMap_cons,Array.toList_append,Array.toList_append,List.append_assoc,List.append_assoc,List.append_assoc]
  rfl
theorem j1 (z p:Str) (qs:List Str):sg (Txt.join z (p :: qs))=sg p++(qs.map sg).flatMap (fun q=>sg z++q):=by
 show (List.foldl (fun acc q=>acc++z.cps++q.cps) p.cps qs).toList=_
 exact qp z qs p.cps
open PySem.W
def iA (i:Int):Str:=PySem.Str.ofString (toString i)
theorem pE:∀ (k m:Nat),m < 10 ^ (k+1)->(Nat.toDigits 10 m).length<=k+1
 | 0,m,h=>by
  rw [Nat.toDigits_of_lt_base (by simpa using h)]
  exact Nat.le_refl _
 | k+1,m,h=>by
  by_cases hm:m < 10
  ·rw [Nat.toDigits_of_lt_base hm]
   show 1<=_
   omega
  ·have h10:m % 10 < 10:=Nat.mod_lt m (by decide)
   have t:Nat.toDigits 10 (m / 10)++Nat.toDigits 10 (m % 10)=Nat.toDigits 10 (10 * (m / 10)+m % 10):=Nat.toDigits_append_toDigits (by decide) (by omega) h10
   rw [Nat.div_add_mod] at t
   have:=pE k (m / 10) (by rw [Nat.div_lt_iff_lt_mul (by decide),<-Nat.pow_succ];exact h)
   rw [<-t,List.length_append,Nat.toDigits_of_lt_base h10]
   show _+1<=_
   omega
theorem uV (m:Nat):∀ c ∈ (Nat.toDigits 10 m).map Char.toNat,48<=c/\c<=57:=fun c hc=>by
 obtain⟨ch,hch,e⟩:=List.mem_map.mp hc
 have r:=digit_range (Nat.isDigit_of_mem_toDigits (by decide) (by decide) hch)
 rw [<-e]
 exact r
theorem oF (m:Nat):sg (iA (m:Int))=(Nat.toDigits 10 m).map Char.toNat:=PySem.W.KIN.signs_num m
theorem so (m:Nat):sg (iA (Int.negSucc m))=45 :: (Nat.toDigits 10 (m+1)).map Char.toNat:=by
 show (PySem.Str.ofString (toString (Int.negSucc m))).cps.toList=_
 rw [signs_ofString]
 show ("-" ++ Nat.repr (m+1)).toList.map Char.toNat=_
 rw [String.toList_append,List.map_append,Nat.toList_repr]
 rfl
theorem qr {i:Int}:∀ c ∈ sg (iA i),c=45\/(48<=c/\c<=57):=by
 cases i with
 | ofNat m =>
  intro c hc
  rw [show sg (iA (Int.ofNat m))=_ from oF m] at hc
  exact .inr (uV m c hc)
 | negSucc m =>
  intro c hc
  rw [so] at hc
  rcases List.mem_cons.mp hc with h | h
  ·exact .inl h
  ·exact .inr (uV _ c h)
theorem uW {i:Int} (h:eU i):(sg (iA i)).length<=41/\0 < (sg (iA i)).length:=by
 obtain⟨h1,h2⟩:=h
 cases i with
 | ofNat m =>
  have hm:m < 10 ^ (39+1):=by have h2:(m:Int) < 10 ^ 40:=h2;omega
  rw [show sg (iA (Int.ofNat m))=_ from oF m,List.length_map]
  have:=pE 39 m hm
  have:=toDigits_len_ge 10 m
  omega
 | negSucc m =>
  have hm:m+1 < 10 ^ (39+1):=by rw [Int.negSucc_eq] at h1;omega
  rw [so,List.length_cons,List.length_map]
  have:=pE 39 (m+1) hm
  omega
theorem Bd {x:Str} (h:dW x):eE x=none:=by
 unfold eE
 rw [if_neg]
 intro z
 unfold eV at z
 have hl:=h.lo
 rw [<-aY] at hl
 cases e:sg x with
 | nil=>rw [e] at hl;exact absurd hl (by decide)
 | cons c r =>
  have hc:=h.az c (by show c ∈ sg x;rw [e];exact List.mem_cons_self)
  have hf:dG (sg x)=sg x:=gY (by rw [e];intro z;have z:c=45:=Option.some.inj z;omega)
  rw [hf,e,List.all_cons,show cS c=false by unfold cS;rw [decide_eq_false (show ¬ c<=57 by omega),Bool.and_false],Bool.false_and,Bool.false_and,Bool.and_false,Bool.and_false] at z
  cases z
section
variable {X:Cx}
theorem lK:eF X (.type "str") (fun vs H Q=>(∃ x:Str,vs = [.str x]/\Q (.str x) H)\/∃ i:Int,vs = [.int i]/\i.natAbs.log2 < 1920/\Q (.str (iA i)) H):=by
 intro pins s σ H xs us Q I r h
 rcases h with ⟨x,rfl,q⟩ | ⟨i,rfl,hi,q⟩
 ·obtain⟨u,rfl,t,rfl⟩:=vals1 r
  exact PySem.P.str_of_str ⟨.str x,H,I,⟨_,rfl⟩,q⟩
 ·obtain⟨u,rfl,t,rfl⟩:=vals1 r
  exact PySem.P.str_of_int hi ⟨.str (iA i),H,I.tok _,⟨_,rfl⟩,q⟩
end
section
variable {prog:Program} {w:World} {A:Around} {E:Value->Shared->Prop} {s:Shared} {Q:Value->Shared->Prop}
theorem xX {x y:Str} {t u:Tok} (hy:(y.length == 0)=false) (hz:x.length+2<=sizeLine)
  (h:∀ (l:List (Str × Tok)) (k:Nat),l.map (·.1)=Txt.split x y->Q (.ref s.heap.objs.size) { s with heap:=s.heap.push { cls:=.type "list",data:=.seq (strValues l).toArray },toks:=k }) :
  wpAny (model prog w) A (call (.builtin "str.split") [.str x t,.str y u]) Q E s:=by
 by_cases h1:(decide (x.length < y.length) || decide (Builtin.Str.strKind x < Builtin.Str.strKind y))=true
 ·exact call_meets F.slot_str_split (typeIs_str _ _ _) F.entry_str_split (F.args_str_split_2 _ _) (meets_str_split_cannot_occur x y t u h1) (h [(x,t)] s.toks (if_pos h1).symm)
 have h1f:=Bool.eq_false_iff.mpr h1
 by_cases h2:(Builtin.Str.occurrences x y 0 x.length (x.length+1)).isEmpty=true
 ·exact call_meets F.slot_str_split (typeIs_str _ _ _) F.entry_str_split (F.args_str_split_2 _ _) (meets_str_split_not_found x y t u h1f hy h2) (h [(x,t)] s.toks ((if_neg h1).trans (if_pos h2)).symm)
 have h2f:=Bool.eq_false_iff.mpr h2
 have hn:(Builtin.Str.partsBetween x (Builtin.Str.occurrences x y 0 x.length (x.length+1)) y.length).length<=sizeLine:=by
  have e1:=StrLaws.occ_length_le x y 0 x.length (x.length+1)
  rw [length_partsBetween]
  omega
 refine call_meets F.slot_str_split (typeIs_str _ _ _) F.entry_str_split (F.args_str_split_2 _ _) (meets_str_split_sep x y t u h1f hy h2f (by omega) hn) ?_
 have hh:=h (numbered s.toks (Builtin.Str.partsBetween x (Builtin.Str.occurrences x y 0 x.length (x.length+1)) y.length)) (s.toks+(Builtin.Str.partsBetween x (Builtin.Str.occurrences x y 0 x.length (x.length+1)) y.length).length) ((numbered_texts _ _).trans ((if_neg h1).trans (if_neg h2)).symm)
 rw [<-strsFrom_eq] at hh
 exact hh
end
section
variable {X:Cx}
inductive C9 (x:V) (vs:List V) (H:Hp) (Q:VK):Prop
 | mk (a b:Str) (_:x=.str a) (_:vs = [.str b]) (_:(b.length == 0)=false) (_:a.length<=1000000) (_:∀ l,H l=none->Q (.ref l) (upd H l (.lst ((Txt.split a b).map V.str))))
theorem oG:∀ (l:List (Str × Tok)) (xs:List Str),l.map (·.1)=xs->Vals (xs.map V.str) (strValues l)
 | [],_,e=>by subst e;exact .nil
 | (x,t) :: l,_,e=>by subst e;exact .cons ⟨t,rfl⟩ (oG l _ rfl)
theorem d7:rE X "str.split" C9:=by
 intro pins s σ H x vs v us Q I rx rv h
 obtain⟨a,b,rfl,rfl,hb,ha,q⟩:=h
 obtain⟨t,e⟩:=(show ∃ t,v=Value.str a t from rx)
 subst e
 obtain⟨u,rfl,t',rfl⟩:=vals1 rv
 have hn:=split_le a b
 have hsz:1000002<=sizeLine:=by decide
 refine xX hb (by omega) fun l k e=>?_
 refine⟨.ref s.heap.objs.size,_,I.laid (t':=k) (o:=.lst ((Txt.split a b).map V.str)) (fun c o ho=>Heap.get?_push_of_some _ ho) (Nat.le_refl _) (show bw X.prog X.w _ _ _ (.lst ((Txt.split a b).map V.str)) from ⟨by rw [List.length_map];omega,strValues l,0,oG l _ e,Heap.get?_push_size _ rfl⟩),rfl,q _ (I.au.fresh (Nat.le_refl _))⟩
end
section
variable {prog:Program} {w:World} {A:Around} {E:Value->Shared->Prop} {s:Shared}
theorem qt (hh:A.handled=none) (it l:Addr) (hne:l ≠ it) (its:Array Value):Draws prog w A it [it,l] its.size (fun i v=>its[i]? = some v) (fun i h=>h.IsTupleIter it l i/\h.IsTuple l its) where
 live:=fun _ _ st=>let ⟨o,ho,_⟩:=st.1;⟨o,ho⟩
 frame:=fun _ _ _ st hk=>⟨st.1.at fun o e=>hk it (by simp) o e,fm st.2 fun o e=>hk l (by simp) o e⟩
 item:=fun i s Q E hi st hQ=>oq st.1 st.2 (x:=its[i]) (by simp [hi]) fun g gi sb=>hQ _ g s.toks (by simp [hi]) ⟨gi,fm st.2 fun o e=>sb.extBut _ _ hne e⟩ sb
 done:=fun s Q E st hE=>o8 hh st.1 st.2 (by simp) hE
abbrev Aq (h:Heap) (l:Addr):Heap:=h.push { cls:=.type "tuple_iterator",data:=.fields #[.ref l,.int 0 0] }
abbrev EC (h:Heap) (l:Addr):Heap:=(Aq h l).push { cls:=.type "enumerate",data:=.fields #[.none,.bool false,.ref h.objs.size,rawInt 0,.none,.none] }
theorem Dc (l:Addr) (its:Array Value):Meets (Builtin.«enumerate.__new__» ⟨[.type "enumerate",.ref l],[]⟩) (fun _ R s=>s.heap.IsTuple l its/\R (.ok (.ret (.ref (Aq s.heap l).objs.size))) { s with heap:=EC s.heap l }) :=
 .of_wp fun P w' A' R' s' hh=>by
  obtain⟨hp,g,d,tk,os⟩:=s'
  obtain⟨gl,hh⟩:=hh
  have hsub:=sub_enumerate
  have la:Heap.IsTuple (Shared.heap ⟨hp,g,d,tk,os⟩) l its:=gl
  obtain⟨ol,el,cl,kl,dl⟩:=id gl
  wp_walk using AutoSeq1.wpAny_loadPart' el
  refine wpAny_stack_any fun st=>wpAny_pure ?_
  split
  ·rename_i c _ _ _ _ _
   cases (c == Value.type "enumerate")
   ·wp_walk using AutoSeq1.wpAny_loadPart' el,wpAny_pyIter_tuple la
    exact⟨_,rfl,hh⟩
   ·wp_walk using AutoSeq1.wpAny_loadPart' el,wpAny_pyIter_tuple la
    exact⟨_,rfl,hh⟩
  ·wp_walk using AutoSeq1.wpAny_loadPart' el,wpAny_pyIter_tuple la
   exact⟨_,rfl,hh⟩
theorem Be {l:Addr} {its:Array Value} {Q:Value->Shared->Prop} (hL:s.heap.IsTuple l its)
  (h:∀ g,IsEnum g (s.heap.objs.size+1) s.heap.objs.size 0 .none->g.IsTupleIter s.heap.objs.size l 0->(∀ b o,s.heap.get? b=some o->g.get? b=some o)->Q (.ref (s.heap.objs.size+1)) { s with heap:=g }) :
  wpAny (model prog w) A (call (.type "enumerate") [.ref l]) Q E s:=by
 refine callType_new F.called_enumerate (by decide) (F.typeCall_enumerate_1 _) (F.newCall_enumerate_1 _) (fun obj=>F.args_object_init_2 obj _) F.entry_enumerate_new (Dc l its) ⟨hL,?_⟩
 have hz:(Aq s.heap l).objs.size=s.heap.objs.size+1:=Heap.size_push ..
 have he:IsEnum (EC s.heap l) (Aq s.heap l).objs.size s.heap.objs.size 0 .none:=Heap.get?_push_size _ rfl
 show _/\_
 rw [hz] at he ⊢
 exact⟨⟨_,he,rfl⟩,h _ he ⟨_,Heap.get?_push_of_some _ (Heap.get?_push_size _ rfl),rfl,rfl⟩ fun b o x=>Heap.get?_push_of_some _ (Heap.get?_push_of_some _ x)⟩
end
def sr (Sq:Hp->Addr->List V->Prop) (a:Addr):It :=
 ⟨fun i H=>∃ xs x,Sq H a xs/\xs[i]? = some x,
  fun i H v H'=>∃ t x,v=.ref t/\H t=none/\H' = upd H t (.tup [.int (i:Nat),x])/\∀ xs,Sq H a xs->xs[i]? = some x,
  fun i H=>∃ xs,Sq H a xs/\xs.length=i⟩
section
variable {X:Cx} {pins:List (Addr × Obj)} {σ : List (Option V)} {H:Hp} {s:Shared}
theorem uX {a e it:Addr} {n i:Nat} {x:V} {Pv:Nat->Value->Prop} {St:Nat->Heap->Prop} {E:Value->Shared->Prop} {elts:List Expr} {kk:Nat} {pos:Pos}
  (D:Draws X.prog X.w X.A.in1 it [it,a] n Pv St) (I:Inv X pins σ H s) (hf:∀ b ∈ [e,it],fC X pins H b) (he:∃ old,IsEnum s.heap e it i old) (hst:St i s.heap) (hlt:i < n) (hne:e ≠ it) (hea:e ≠ a) (hx:∀ v,Pv i v->RelV x v) :
  wpAny (model X.prog X.w) X.A (pyNext (.ref e)) (fun r s1=>∃ u,r=some u /\
   wpAny (model X.prog X.w) X.A (letOwnedTupleGo (.Tuple elts kk pos) (.ref e) u) (fun _ s2=>∃ v H',Inv X pins σ H' s2/\RelV v u/\(∃ t,v=.ref t/\H t=none/\H' = upd H t (.tup [.int (i:Nat),x]))/\((∃ old,IsEnum s2.heap e it (i+1:Nat) old)/\St (i+1) s2.heap)/\∀ b ∈ [e,it],H' b=none) E s1) E s:=by
 obtain⟨old,he⟩:=he
 have lite:it < s.heap.objs.size:=by obtain⟨_,y⟩:=D.live _ _ hst;exact Heap.lt_size y
 have lee:e < s.heap.objs.size:=Heap.lt_size he
 have sz:∀ c ∈ [e,it],c ≠ s.heap.objs.size:=fun c hc z=>by
  subst z
  simp only [List.mem_cons,List.not_mem_nil,or_false] at hc
  rcases hc with z | z
  ·rw [<-z] at lee;exact absurd lee (Nat.lt_irrefl _)
  ·rw [<-z] at lite;exact absurd lite (Nat.lt_irrefl _)
 refine wpAny_pyNext_enum_itemD D he hst hlt hne (by simp only [List.mem_cons,List.not_mem_nil,or_false,not_or];exact⟨hne,hea⟩) fun xv h' tk px ho hs' hT hsz hk=>?_
 refine⟨.ref s.heap.objs.size,rfl,wpAny_letOwnedTupleGo_enum ho fun g' ge sb=>?_⟩
 have fr:=I.au.fresh (a:=s.heap.objs.size) (Nat.le_refl _)
 have I1:Inv X pins σ (upd H s.heap.objs.size (.tup [.int (i:Nat),x])) { s with heap:=s.heap.push { cls:=.type "tuple",data:=.seq #[.int i tk,xv] },toks:=tk+1 } :=
  I.laid (fun _ _ e=>Heap.get?_push_of_some _ e) (Nat.le_refl _) ⟨by show 2<=sizeLine;decide,[.int i tk,xv],.cons ⟨tk,rfl⟩ (.cons (hx xv px) .nil),by first | exact IsTup.new _ _ | exact⟨_,Heap.get?_push_size _ rfl,rfl,_,rfl,rfl⟩⟩
 have f1:∀ c ∈ [e,it],fC X pins (upd H s.heap.objs.size (.tup [.int (i:Nat),x])) c:=fun c hc=>by
  obtain⟨f0,fr'⟩:=hf c hc
  exact⟨by rw [ar (sz c hc)];exact f0,fr'⟩
 have I2:Inv X pins σ (upd H s.heap.objs.size (.tup [.int (i:Nat),x])) { s with heap:=g',toks:=tk+1 }:=Inv.gg (s:={ s with heap:=s.heap.push { cls:=.type "tuple",data:=.seq #[.int i tk,xv] },toks:=tk+1 }) (fp:=[e,it]) (h':=g') (t':=tk+1) I1 (fun c o hc q=>by
  simp only [List.mem_cons,List.not_mem_nil,or_false,not_or] at hc
  refine sb.extBut _ _ hc.1 ?_
  rcases Heap.get?_push_cases q with ⟨rfl,rfl⟩ | q
  ·exact hT
  ·exact hk c o hc.1 hc.2 q) f1
 refine⟨.ref s.heap.objs.size,_,I2,rfl,⟨_,rfl,fr,rfl⟩,⟨⟨xv,by simpa using ge⟩,D.frame _ _ _ hs' fun b hb o q=>(sb.2 b fun z=>?_).trans q⟩,fun c hc=>(f1 c hc).1⟩
 subst z
 simp only [List.mem_cons,List.not_mem_nil,or_false] at hb
 exact hb.elim hne hea
theorem wm {P:Program} {w:World} {K:PySem.W.Frag} {elts:List Expr} {kk:Nat} {pos:Pos} (a e it:Addr) (hne:e ≠ it) (hea:e ≠ a) (hia:a ≠ it) :
  Turn P w K (.Tuple elts kk pos) (sr (bJ K) a) [e,it] e (fun i h=>(∃ old,IsEnum h e it (i:Nat) old)/\h.IsTupleIter it a i) where
 mem:=by simp
 obj:=fun i h st c hc=>by
  obtain⟨⟨old,ge⟩,⟨oj,ej,cj,dj⟩⟩:=st
  simp only [List.mem_cons,List.not_mem_nil,or_false] at hc
  rcases hc with rfl | rfl
  ·exact⟨_,ge,fun v e=>by cases e⟩
  ·exact⟨oj,ej,fun v e=>by rw [dj] at e;cases e⟩
 keep:=fun i h g st kp=>by
  obtain⟨⟨old,ge⟩,⟨oj,ej,rj⟩⟩:=st
  exact⟨⟨old,kp e (by simp) _ ge⟩,⟨oj,kp it (by simp) _ ej,rj⟩⟩
 item:=by
  intro X hP hw hK hc i pins s σ H E I hf st hg
  subst hP hw hK
  obtain⟨xs,x,ha,hx⟩:=hg
  obtain⟨is,ra,pa,_⟩:=I.tuple ha
  have la:=ra.length
  have hil:i < is.toArray.size:=by have:=(List.getElem?_eq_some_iff.mp hx).1;simp;omega
  refine wpAny_mono (uX (elts:=elts) (kk:=kk) (pos:=pos) (qt (A:=X.A.in1) (I.ok.hd hc) it a hia is.toArray) I hf st.1 ⟨st.2,show s.heap.IsTuple a is.toArray from pa⟩ hil hne hea (x:=x) (fun v hv=>?_)) (fun r s1 hr=>?_) fun _ _ z=>z
  ·obtain⟨u,hu,ru⟩:=ra.get hx
   have:is[i]? = some v:=by simpa using hv
   rw [hu] at this
   cases this
   exact ru
  ·obtain⟨u,e1,hgo⟩:=hr
   refine⟨u,e1,wpAny_mono hgo (fun _ s2 ⟨v,H',I',rv,⟨t,e2,ht,e3⟩,⟨g1,g2⟩,g3⟩=>⟨v,H',I',rv,⟨t,x,e2,ht,e3,fun xs' h1=>by rw [I.jh h1 ha];exact hx⟩,⟨g1,g2.1⟩,g3⟩) fun _ _ z=>z⟩
 done:=by
  intro X hP hw hK hc i pins s σ H E I hf st hg
  subst hP hw hK
  obtain⟨xs,ha,hl⟩:=hg
  obtain⟨is,ra,pa,_⟩:=I.tuple ha
  obtain⟨⟨old,ge⟩,gi⟩:=st
  have la:=ra.length
  have hsz:is.toArray.size=i:=by simp;omega
  refine wpAny_pyNext_enum_endD (qt (A:=X.A.in1) (I.ok.hd hc) it a hia is.toArray) ge ⟨by rw [hsz];exact gi,show s.heap.IsTuple a is.toArray from pa⟩ fun h' eb=>⟨rfl,I.gg (fp:=[e,it]) (t':=s.toks) (fun c o hc q=>?_) hf⟩
  simp only [List.mem_cons,List.not_mem_nil,or_false,not_or] at hc
  exact eb c o hc.2 q
 self:=fun _ _ _ _ _ st h=>wpAny_pyIter_enum st.1.choose_spec h
theorem wq {P:Program} {w:World} {K:PySem.W.Frag} {elts:List Expr} {kk:Nat} {pos:Pos} (a e it:Addr) (hne:e ≠ it) (hea:e ≠ a) (hia:a ≠ it) :
  Turn P w K (.Tuple elts kk pos) (sr (ay K) a) [e,it] e (fun i h=>(∃ old,IsEnum h e it (i:Nat) old)/\h.IsListIter it a i) where
 mem:=by simp
 obj:=fun i h st c hc=>by
  obtain⟨⟨old,ge⟩,⟨oj,ej,cj,dj⟩⟩:=st
  simp only [List.mem_cons,List.not_mem_nil,or_false] at hc
  rcases hc with rfl | rfl
  ·exact⟨_,ge,fun v e=>by cases e⟩
  ·exact⟨oj,ej,fun v e=>by rw [dj] at e;cases e⟩
 keep:=fun i h g st kp=>by
  obtain⟨⟨old,ge⟩,⟨oj,ej,rj⟩⟩:=st
  exact⟨⟨old,kp e (by simp) _ ge⟩,⟨oj,kp it (by simp) _ ej,rj⟩⟩
 item:=by
  intro X hP hw hK hc i pins s σ H E I hf st hg
  subst hP hw hK
  obtain⟨xs,x,ha,hx⟩:=hg
  obtain⟨is,ra,pa,_⟩:=I.list ha
  have la:=ra.length
  have hil:i < is.toArray.size:=by have:=(List.getElem?_eq_some_iff.mp hx).1;simp;omega
  refine wpAny_mono (uX (elts:=elts) (kk:=kk) (pos:=pos) (Draws.list (A:=X.A.in1) (I.ok.hd hc) it a hia is.toArray) I hf st.1 ⟨st.2,pa.isList⟩ hil hne hea (x:=x) (fun v hv=>?_)) (fun r s1 hr=>?_) fun _ _ z=>z
  ·obtain⟨u,hu,ru⟩:=ra.get hx
   have:is[i]? = some v:=by simpa using hv
   rw [hu] at this
   cases this
   exact ru
  ·obtain⟨u,e1,hgo⟩:=hr
   refine⟨u,e1,wpAny_mono hgo (fun _ s2 ⟨v,H',I',rv,⟨t,e2,ht,e3⟩,⟨g1,g2⟩,g3⟩=>⟨v,H',I',rv,⟨t,x,e2,ht,e3,fun xs' h1=>by rw [I.mY h1 ha];exact hx⟩,⟨g1,g2.1⟩,g3⟩) fun _ _ z=>z⟩
 done:=by
  intro X hP hw hK hc i pins s σ H E I hf st hg
  subst hP hw hK
  obtain⟨xs,ha,hl⟩:=hg
  obtain⟨is,ra,pa,_⟩:=I.list ha
  obtain⟨⟨old,ge⟩,gi⟩:=st
  have la:=ra.length
  have hsz:is.toArray.size=i:=by simp;omega
  refine wpAny_pyNext_enum_endD (Draws.list (A:=X.A.in1) (I.ok.hd hc) it a hia is.toArray) ge ⟨by rw [hsz];exact gi,pa.isList⟩ fun h' eb=>⟨rfl,I.gg (fp:=[e,it]) (t':=s.toks) (fun c o hc q=>?_) hf⟩
  simp only [List.mem_cons,List.not_mem_nil,or_false,not_or] at hc
  exact eb c o hc.2 q
 self:=fun _ _ _ _ _ st h=>wpAny_pyIter_enum st.1.choose_spec h
theorem sx:bootBuiltins "enumerate" = some (.type "enumerate"):=by decide +kernel
def Ed (K:PySem.W.Frag) (ta:TA):TI:=fun σ H R=>ta σ H fun vs H1=>∃ a,vs = [.ref a]/\((∃ xs,bJ K H1 a xs)/\R (sr (bJ K) a) H1\/(∃ xs,ay K H1 a xs)/\R (sr (ay K) a) H1)
theorem Bf {a:Expr} {ta:TA} {p pos tp:Pos} {elts:List Expr} {kk:Nat} (hg:Gl X "enumerate") (hm:X.mg "enumerate" = none) (ha:PA X [a] ta) (hs:starEach [a] X.env = [(false,eval a X.env)]:=by rfl) :
  PI X (.Tuple elts kk tp) (.Call (.Name "enumerate" p) [a] [] pos) (Ed X.K ta):=by
 intro pins s σ H R I h
 refine Call_ (hZ I hg hm sx (PyProof.Rows.callWith_type1 (aU (ha pos pins s σ H _ I h) fun us s1 ⟨vs,H1,I1,r1,q1⟩=>?_) hs rfl))
 obtain⟨x,e,q⟩:=q1
 subst e
 cases r1 with
 | cons r rr =>
  cases rr
  cases r
  have le1:∀ c ∈ [s1.heap.objs.size+1,s1.heap.objs.size],s1.heap.objs.size<=c:=fun c hc=>by
   simp only [List.mem_cons,List.not_mem_nil,or_false] at hc
   rcases hc with rfl | rfl
   ·exact Nat.le_succ _
   ·exact Nat.le_refl _
  rcases q with ⟨⟨xs,hx⟩,q⟩ | ⟨⟨xs,hx⟩,q⟩
  ·obtain⟨is,rx,px,_⟩:=I1.tuple hx
   have lx:x < s1.heap.objs.size:=px.lt
   refine Be (show s1.heap.IsTuple x is.toArray from px) fun g ge gi up=>?_
   refine wpAny_pyIter_enum ge ?_
   have I2:Inv X pins σ H1 { s1 with heap:=g }:=I1.kept (t':=s1.toks) up
   exact⟨_,[s1.heap.objs.size+1,s1.heap.objs.size],_,sr (bJ X.K) x,H1,rfl,I2,wm x _ _ (Nat.ne_of_gt (Nat.lt_succ_self _)) (Nat.ne_of_gt (Nat.lt_succ_of_lt lx)) (Nat.ne_of_lt lx),⟨⟨_,ge⟩,gi⟩,fun c hc=>I1.gW (le1 c hc) (I1.au.fresh (le1 c hc)),q⟩
  ·obtain⟨is,rx,px,_⟩:=I1.list hx
   have lx:x < s1.heap.objs.size:=by obtain⟨o,eo,_⟩:=px.isList;exact Heap.lt_size eo
   refine call_enumerate_list px.isList fun g ge gi _ up=>?_
   refine wpAny_pyIter_enum ge ?_
   have I2:Inv X pins σ H1 { s1 with heap:=g }:=I1.kept (t':=s1.toks) up
   exact⟨_,[s1.heap.objs.size+1,s1.heap.objs.size],_,sr (ay X.K) x,H1,rfl,I2,wq x _ _ (Nat.ne_of_gt (Nat.lt_succ_self _)) (Nat.ne_of_gt (Nat.lt_succ_of_lt lx)) (Nat.ne_of_lt lx),⟨⟨_,ge⟩,gi⟩,fun c hc=>I1.gW (le1 c hc) (I1.au.fresh (le1 c hc)),q⟩
end
theorem Bg {Sq:Hp->Addr->List V->Prop} {a acc:Addr} {xs:List V} {n:Nat} {js:List Nat} {g:TG} {ct:TT} {te:TE} {σ : St} {H1:Hp} {Q:VK} (Pv:Nat->List V->St->Hp->Prop) (h0:Pv 0 [] (ib n js σ) (upd H1 acc (.lst [])))
  (hl:∀ i zs τ H,i<=xs.length->Pv i zs τ H->Sq H a xs/\H acc=some (.lst zs)/\zs.length < sizeLine)
  (hs:∀ i x zs τ H t,xs[i]? = some x->H t=none->Pv i zs τ H->g (.ref t) τ (upd H t (.tup [.int (i:Nat),x])) fun τ1 H4=>ct τ1 H4 fun b H5=>if b=true then te τ1 H5 fun v H6=>H6 acc=some (.lst zs)/\Pv (i+1) (zs ++ [v]) τ1 (upd H6 acc (.lst (zs ++ [v]))) else Pv (i+1) zs τ1 H5)
  (hd:∀ zs τ H,Pv xs.length zs τ H->Q (.ref acc) H) :
  mL (sr Sq a) n js g ct te acc σ H1 Q:=by
 refine⟨fun i m zs τ H=>m=xs.length - i/\i<=xs.length/\Pv i zs τ H,⟨xs.length,by simp,Nat.zero_le _,h0⟩,?_⟩
 rintro i m zs τ H ⟨rfl,hi,p⟩
 obtain⟨qa,q2,q3⟩:=hl i zs τ H hi p
 refine⟨q2,q3,?_⟩
 by_cases hlt:i < xs.length
 ·refine .inr ⟨⟨xs,xs[i],qa,by simp [hlt]⟩,Pv (i+1),fun zs' τ' H' p'=>⟨xs.length - (i+1),by omega,rfl,hlt,p'⟩,fun v H' y=>?_⟩
  obtain⟨t,x,rfl,ht,rfl,h⟩:=y
  exact hs i x zs τ H t (h xs qa) ht p
 ·have e:i=xs.length:=by omega
  subst e
  exact .inl ⟨⟨xs,qa,rfl⟩,hd zs τ H p⟩
def cQ:PyData->Str
 | .str x=>x
 | .int i=>iA i
 | _ => ""
def pF (d:PyData):Prop:=(∃ x,d=.str x/\dW x)\/∃ i,d=.int i/\eU i
def stepT (ds:List PyData):Str:=Txt.join " " (ds.map cQ)
def nq:PyData->List PyData
 | .tuple ds=>ds
 | _=>[]
def gy (p:Piece):List (List PyData):=(p.1.map fun d=>nq (eT d)) ++ [nq (lA p.2)]
def df (p:Piece):Str:=Txt.join "; " ((gy p).map stepT)
def Ee (ps:List Piece):Str:=Txt.join "\n" (ps.map df)
structure lL (ds:List PyData):Prop where
 hd:∃ x r,ds=.str x :: r
 ok:∀ d ∈ ds,pF d
 b3:ds.length<=5
structure pG (xs:List Str) (m c:Nat) (p:Piece):Prop where
 nm:∀ x ∈ xs,dW x
 b3:p.1.length<=m
 ds:∀ d ∈ p.1,jX xs d
 en:oy xs c p.2
theorem Ar {x:Str} (h:(decide (1<=x.length) && (decide (x.length<=8) && (sg x).all fun c=>decide (97<=c) && decide (c<=122)))=true):dW x:=by
 rw [Bool.and_eq_true,Bool.and_eq_true] at h
 refine⟨of_decide_eq_true h.1,of_decide_eq_true h.2.1,fun c hc=>?_⟩
 have:=List.all_eq_true.mp h.2.2 c hc
 rw [Bool.and_eq_true] at this
 exact⟨of_decide_eq_true this.1,of_decide_eq_true this.2⟩
theorem lM {p c:Nat} (h:p < c) (hc:c<=400):eU (p:Int):=by
 unfold eU
 omega
theorem uY {xs:List Str} (hn:∀ x ∈ xs,dW x) {d:m9} (h:jX xs d):lL (nq (eT d))/\eT d=.tuple (nq (eT d)):=by
 have W:∀ {x:Str},(decide (1<=x.length) && (decide (x.length<=8) && (sg x).all fun c=>decide (97<=c) && decide (c<=122)))=true->pF (.str x):=fun h=>.inl ⟨_,rfl,Ar h⟩
 cases d with
 | put x n =>
  refine⟨⟨⟨_,_,rfl⟩,fun e he=>?_,(by show 3<=5;decide)⟩,rfl⟩
  rcases List.mem_cons.mp he with rfl | he;· exact W (by decide +kernel)
  rcases List.mem_cons.mp he with rfl | he;· exact .inl ⟨_,rfl,hn _ h.1⟩
  rw [List.mem_singleton.mp he];exact .inr ⟨_,rfl,h.2⟩
 | copy x y =>
  refine⟨⟨⟨_,_,rfl⟩,fun e he=>?_,(by show 3<=5;decide)⟩,rfl⟩
  rcases List.mem_cons.mp he with rfl | he;· exact W (by decide +kernel)
  rcases List.mem_cons.mp he with rfl | he;· exact .inl ⟨_,rfl,hn _ h.1⟩
  rw [List.mem_singleton.mp he];exact .inl ⟨_,rfl,hn _ h.2⟩
 | add x n =>
  refine⟨⟨⟨_,_,rfl⟩,fun e he=>?_,(by show 3<=5;decide)⟩,rfl⟩
  rcases List.mem_cons.mp he with rfl | he;· exact W (by decide +kernel)
  rcases List.mem_cons.mp he with rfl | he;· exact .inl ⟨_,rfl,hn _ h.1⟩
  rw [List.mem_singleton.mp he];exact .inr ⟨_,rfl,h.2⟩
 | read x =>
  refine⟨⟨⟨_,_,rfl⟩,fun e he=>?_,(by show 2<=5;decide)⟩,rfl⟩
  rcases List.mem_cons.mp he with rfl | he;· exact W (by decide +kernel)
  rw [List.mem_singleton.mp he];exact .inl ⟨_,rfl,hn _ h⟩
 | tell x =>
  refine⟨⟨⟨_,_,rfl⟩,fun e he=>?_,(by show 2<=5;decide)⟩,rfl⟩
  rcases List.mem_cons.mp he with rfl | he;· exact W (by decide +kernel)
  rw [List.mem_singleton.mp he];exact .inl ⟨_,rfl,hn _ h⟩
theorem xY {xs:List Str} (hn:∀ x ∈ xs,dW x) {c:Nat} {e:End} (h:oy xs c e) (hc:c<=400):lL (nq (lA e))/\lA e=.tuple (nq (lA e)):=by
 have W:∀ {x:Str},(decide (1<=x.length) && (decide (x.length<=8) && (sg x).all fun c=>decide (97<=c) && decide (c<=122)))=true->pF (.str x):=fun h=>.inl ⟨_,rfl,Ar h⟩
 cases e with
 | stop =>
  refine⟨⟨⟨_,_,rfl⟩,fun e he=>?_,(by show 1<=5;decide)⟩,rfl⟩
  rw [List.mem_singleton.mp he];exact W (by decide +kernel)
 | go p =>
  refine⟨⟨⟨_,_,rfl⟩,fun e he=>?_,(by show 2<=5;decide)⟩,rfl⟩
  rcases List.mem_cons.mp he with rfl | he;· exact W (by decide +kernel)
  rw [List.mem_singleton.mp he];exact .inr ⟨_,rfl,lM h hc⟩
 | An b x n p q =>
  refine⟨⟨⟨_,_,rfl⟩,fun e he=>?_,(by show 5<=5;decide)⟩,rfl⟩
  rcases List.mem_cons.mp he with rfl | he;· cases b <;> exact W (by decide +kernel)
  rcases List.mem_cons.mp he with rfl | he;· exact .inl ⟨_,rfl,hn _ h.1⟩
  rcases List.mem_cons.mp he with rfl | he;· exact .inr ⟨_,rfl,h.2.1⟩
  rcases List.mem_cons.mp he with rfl | he;· exact .inr ⟨_,rfl,lM h.2.2.1 hc⟩
  rw [List.mem_singleton.mp he];exact .inr ⟨_,rfl,lM h.2.2.2 hc⟩
theorem zy {d:PyData} (h:pF d):∀ c ∈ sg (cQ d),c=45\/(48<=c/\c<=57)\/(97<=c/\c<=122):=by
 rcases h with ⟨x,rfl,h⟩ | ⟨i,rfl,h⟩
 ·exact fun c hc=>.inr (.inr (h.az c hc))
 ·exact fun c hc=>(qr c hc).imp id .inl
theorem sy {d:PyData} (h:pF d):(cQ d).length<=41:=by
 rcases h with ⟨x,rfl,h⟩ | ⟨i,rfl,h⟩
 ·have:=h.hi
  show x.length<=41
  omega
 ·show (iA i).length<=41
  rw [<-aY]
  exact (uW h).1
def aJ (x:Str):PyData:=match eE x with
 | some i=>.int i
 | none=>.str x
theorem Ef:sg (" " : Str)=32 :: []:=by decide +kernel
theorem Eg:sg ("; " : Str)=59 :: [32]:=by decide +kernel
theorem eQ:PySem.Builtin.Str.strKind (" " : Str)=1:=by decide +kernel
theorem pH:PySem.Builtin.Str.strKind ("; " : Str)=1:=by decide +kernel
theorem hG:PySem.Builtin.Str.strKind ("\n" : Str)=1:=by decide +kernel
theorem km {z p:Str} {qs:List Str} {c:Nat} (h:c ∈ sg (Txt.join z (p :: qs))):c ∈ sg z\/∃ q ∈ p :: qs,c ∈ sg q:=by
 rw [j1] at h
 rcases List.mem_append.mp h with h | h
 ·exact .inr ⟨p,List.mem_cons_self,h⟩
 ·obtain⟨l,hl,hc⟩:=List.mem_flatMap.mp h
  obtain⟨q,hq,rfl⟩:=List.mem_map.mp hl
  rcases List.mem_append.mp hc with hc | hc
  ·exact .inl hc
  ·exact .inr ⟨q,List.mem_cons_of_mem _ hq,hc⟩
theorem wu {ds:List PyData} (h:lL ds):∀ c ∈ sg (stepT ds),c=32\/c=45\/(48<=c/\c<=57)\/(97<=c/\c<=122):=fun c hc=>by
 obtain⟨x,r,rfl⟩:=h.hd
 rcases km hc with hc | ⟨q,hq,hc⟩
 ·rw [Ef] at hc
  exact .inl (List.mem_singleton.mp hc)
 ·obtain⟨d,hd,rfl⟩:=List.mem_map.mp (show q ∈ (PyData.str x :: r).map cQ from hq)
  exact .inr (zy (h.ok d hd) c hc)
theorem sA {z:Str} {k:Nat}:∀ {qs:List Str} {p:Str},(∀ q ∈ p :: qs,q.length<=k)->(Txt.join z (p :: qs)).length<=(qs.length+1) * (k+z.length):=by
 intro qs p h
 rw [<-aY,j1,List.length_append]
 have hp:=h p List.mem_cons_self
 have e:((qs.map sg).flatMap fun q=>sg z++q).length<=qs.length * (k+z.length):=by
  have h':∀ q ∈ qs,q.length<=k:=fun q hq=>h q (List.mem_cons_of_mem _ hq)
  clear h hp
  induction qs with
  | nil=>exact Nat.zero_le _
  | cons q qs ih =>
   rw [List.map_cons,List.flatMap_cons,List.length_append,List.length_append,aY,aY,List.length_cons,Nat.succ_mul]
   have:=ih fun q' h=>h' q' (List.mem_cons_of_mem _ h)
   have:=h' q List.mem_cons_self
   omega
 rw [aY,Nat.succ_mul]
 omega
theorem sC {ds:List PyData} (h:lL ds):(stepT ds).length<=210:=by
 obtain⟨x,r,rfl⟩:=h.hd
 have h1:(stepT (.str x :: r)).length<=((r.map cQ).length+1) * (41+(" " : Str).length):=sA (p:=cQ (.str x)) (qs:=r.map cQ) fun q hq=>by
  obtain⟨d,hd,rfl⟩:=List.mem_map.mp (show q ∈ (PyData.str x :: r).map cQ from hq)
  exact sy (h.ok d hd)
 have h2:=h.b3
 rw [List.length_cons] at h2
 rw [List.length_map,show (" " : Str).length=1 by decide +kernel] at h1
 have:(r.length+1) * (41+1)<=5 * 42:=Nat.mul_le_mul (by omega) (Nat.le_refl _)
 omega
theorem lN {xs:List Str} {m c:Nat} {p:Piece} (h:pG xs m c p) (hc:c<=400):∀ ds ∈ gy p,lL ds:=fun ds hd=>by
 rcases List.mem_append.mp hd with hd | hd
 ·obtain⟨d,hd',rfl⟩:=List.mem_map.mp hd
  exact (uY h.nm (h.ds d hd')).1
 ·rw [List.mem_singleton.mp hd]
  exact (xY h.nm h.en hc).1
theorem mR (p:Piece):∃ s r,gy p=s :: r:=by
 unfold gy
 cases p.1 with
 | nil=>exact⟨_,_,rfl⟩
 | cons d ds=>exact⟨_,_,rfl⟩
theorem tT {xs:List Str} {m c:Nat} {p:Piece} (h:pG xs m c p) (hc:c<=400):∀ x ∈ sg (df p),x=59\/x=32\/x=45\/(48<=x/\x<=57)\/(97<=x/\x<=122):=fun x hx=>by
 have ok:=lN h hc
 unfold df at hx
 obtain⟨s,r,e⟩:=mR p
 rw [e] at ok hx
 rcases km hx with hx | ⟨q,hq,hx⟩
 ·rw [Eg] at hx
  rcases List.mem_cons.mp hx with hx | hx
  ·exact .inl hx
  ·exact .inr (.inl (List.mem_singleton.mp hx))
 ·obtain⟨d,hd,rfl⟩:=List.mem_map.mp (show q ∈ (s :: r).map stepT from hq)
  exact .inr (wu (ok d hd) x hx)
theorem xZ {xs:List Str} {m c:Nat} {p:Piece} (h:pG xs m c p) (hc:c<=400):(df p).length<=(m+1) * 212:=by
 have ok:=lN h hc
 have hl:(gy p).length<=m+1:=by
  unfold gy
  rw [List.length_append,List.length_map]
  have:=h.b3
  show _+1<=_
  omega
 unfold df
 obtain⟨s,r,e⟩:=mR p
 rw [e] at ok hl ⊢
 have h1:(Txt.join "; " ((s :: r).map stepT)).length<=((r.map stepT).length+1) * (210+("; " : Str).length):=sA (p:=stepT s) (qs:=r.map stepT) fun q hq=>by
  obtain⟨d,hd,rfl⟩:=List.mem_map.mp (show q ∈ (s :: r).map stepT from hq)
  exact sC (ok d hd)
 rw [List.length_map,show ("; " : Str).length=2 by decide +kernel] at h1
 rw [List.length_cons] at hl
 exact Nat.le_trans h1 (Nat.mul_le_mul hl (Nat.le_refl _))
def vW (x:Str):V:=match eE x with
 | some i=>.int i
 | none=>.str x
theorem Eh {H:Hp} (x:Str):bh H (vW x) (aJ x):=by
 unfold vW aJ
 cases eE x with
 | none=>exact .str _
 | some i=>exact .int _
inductive uZ (vs:List V) (H:Hp) (Q:VK) (_:XK):Prop
 | mk (x:V) (ds:List PyData) (_:vs = [x]) (_:bh H x (.tuple ds)) (_:lL ds) (_:∀ H',af H H'->Q (.str (stepT ds)) H')
inductive mS (vs:List V) (H:Hp) (Q:VK) (_:XK):Prop
 | mk (x:V) (p:Piece) (xs:List Str) (m c:Nat) (_:vs = [x]) (_:bh H x (fO p)) (_:pG xs m c p) (_:m<=12) (_:c<=400) (_:∀ H',af H H'->Q (.str (df p)) H')
theorem pI {i:Int} (h:eU i):i.natAbs.log2 < 1920:=by
 obtain⟨h1,h2⟩:=h
 by_cases hz:i.natAbs=0
 ·rw [hz];decide
 rw [Nat.log2_lt hz]
 have:i.natAbs < 10 ^ 40:=by omega
 exact Nat.lt_of_lt_of_le this (by decide +kernel)
theorem j2:∀ {k:Nat} (ys:List Str),(∀ y ∈ ys,y.length<=k)->(ys.map (·.length)).sum<=ys.length * k
 | k,[],_=>Nat.zero_le _
 | k,y :: ys,h=>by
  rw [List.map_cons,List.sum_cons,List.length_cons,Nat.succ_mul]
  have:=j2 ys fun z hz=>h z (List.mem_cons_of_mem _ hz)
  have:=h y List.mem_cons_self
  omega
theorem aN.snoc_inv {H:Hp} {d:PyData}:∀ {ds:List PyData} {xs:List V},aN H xs (ds ++ [d])->∃ ys y,xs=ys ++ [y]/\aN H ys ds/\bh H y d
 | [],xs,h=>by
  obtain⟨x,r,rfl,h1,h2⟩:=aN.cons_inv h
  have z:=h2.nil_inv
  subst z
  exact⟨[],x,rfl,.nil,h1⟩
 | e :: ds,xs,h=>by
  obtain⟨x,r,rfl,h1,h2⟩:=aN.cons_inv h
  obtain⟨ys,y,rfl,h3,h4⟩:=aN.snoc_inv h2
  exact⟨x :: ys,y,rfl,.cons h1 h3,h4⟩
theorem sD {xs:List V} {x:V}:eS (xs ++ [x]) none (some (-1))=xs:=by
 unfold eS
 have e:HT.bA (xs ++ [x]).length (xs ++ [x]).length (some (-1))=xs.length:=by
  show (if (-1:Int) < 0 then ((-1:Int)+((xs ++ [x]).length:Int)).toNat else min (-1:Int).toNat (xs ++ [x]).length)=_
  rw [if_pos (by decide),List.length_append]
  show ((-1:Int)+((xs.length+1:Nat):Int)).toNat=_
  omega
 rw [e,HT.rD,List.drop_zero,Nat.sub_zero,List.take_left]
section
variable {X:Cx} {K:PySem.W.Frag}
theorem zz (h:X.K=K):rE X "str.join" (rJoin K):=by
 subst h
 exact dM
theorem Bh {tg l:Expr} {tl:TE} (h:X.K=K) (hl:PE X l tl):PI X tg l (Cq K tl):=by
 subst h
 exact jQ hl
end
section
variable {X:Cx} {pins:List (Addr × Obj)} {σ : L2.St} {H:Hp} {s:Shared} {a:Addr}
end
section
variable {X:Cx}
end
section
variable {X:Cx} {pos:Pos}
end
section
variable {X:Cx} {pos:Pos}
end
section
variable {X:Cx} {pos:Pos}
end
section
variable {X:Cx} {pos:Pos}
end
theorem nr {α : Type} {P:List α->Prop} (h0:P []) (h1:∀ l x,P l->P (l ++ [x])) (l:List α):P l:=by
 have:∀ m:List α,P m.reverse:=fun m=>by
  induction m with
  | nil=>exact h0
  | cons x r ih=>rw [List.reverse_cons];exact h1 _ _ ih
 have:=this l.reverse
 rwa [List.reverse_reverse] at this
section
variable {X:Cx} {K:PySem.W.Frag}
end
theorem nu {α β : Type} {f g:α->Option β}:∀ {l:List α},(∀ x ∈ l,f x=g x)->l.filterMap f=l.filterMap g
 | [],_=>rfl
 | x :: r,h=>by
  rw [List.filterMap_cons,List.filterMap_cons,h x List.mem_cons_self,nu fun y hy=>h y (List.mem_cons_of_mem _ hy)]
theorem zA {α : Type} (xs:List α):(List.range xs.length).filterMap (fun k=>xs[xs.length - 1 - k]?)=xs.reverse:=by
 refine nr (P:=fun xs=>(List.range xs.length).filterMap (fun k=>xs[xs.length - 1 - k]?)=xs.reverse) rfl (fun l x ih=>?_) xs
 show (List.range (l ++ [x]).length).filterMap (fun k=>(l ++ [x])[(l ++ [x]).length - 1 - k]?)=(l ++ [x]).reverse
 rw [List.length_append,List.length_singleton,List.range_succ_eq_map,List.filterMap_cons,List.filterMap_map,List.reverse_append]
 have e0:(l ++ [x])[l.length+1 - 1 - 0]? = some x:=by simp
 rw [e0]
 show x :: _=x :: l.reverse
 rw [<-ih]
 congr 1
 refine nu fun k hk=>?_
 have hk:k < l.length:=List.mem_range.mp hk
 show (l ++ [x])[l.length+1 - 1 - (k+1)]? = _
 rw [List.getElem?_append_left (by omega)]
 congr 1
 omega
theorem qu (n:Nat):sliceRange ((n:Int) - 1) (-1) (-1)=(List.range n).map fun k=>n - 1 - k:=by
 unfold sliceRange
 have h:¬ ((-1:Int) > 0):=by decide
 simp only [if_neg h]
 by_cases hn:n=0
 ·subst hn;rfl
 ·rw [if_pos (by omega)]
  have e:(((n:Int) - 1 - -1 - -1 - 1) / (- -1)).toNat=n:=by
   have:((n:Int) - 1 - -1 - -1 - 1)=n:=by omega
   rw [this]
   simp
  rw [e]
  refine List.map_congr_left fun k hk=>?_
  have hk:=List.mem_range.mp hk
  omega
theorem zB (items:Array Value):slicePick items none none (some (-1))=items.toList.reverse.toArray:=by
 unfold slicePick
 show ((sliceRange ((items.size:Int) - 1) (-1) (-1)).filterMap (items[·]?)).toArray=_
 rw [qu,List.filterMap_map,<-zA items.toList,Array.length_toList]
 congr 1
 refine nu fun k _=>?_
 show items[items.size - 1 - k]? = items.toList[items.size - 1 - k]?
 rw [Array.getElem?_toList]
theorem Vals.rev:∀ {xs:List V} {us:List Value},Vals xs us->Vals xs.reverse us.reverse
 | _,_,.nil=>.nil
 | _,_,.cons h t=>by
  rw [List.reverse_cons,List.reverse_cons]
  exact (Vals.rev t).append (.cons h .nil)
section
variable {X:Cx}
def Ei (K:PySem.W.Frag) (te:TE) (ts:TO):TE:=fun σ H Q=>te σ H fun x H1=>ts σ H1 fun c H2=>c=some (-1)/\∃ l xs,x=.ref l/\ay K H2 l xs/\∀ p,H2 p=none->Q (.ref p) (upd H2 p (.lst xs.reverse))
theorem Bi {e st:Expr} {te:TE} {ts:TO} {p2 pos:Pos} (he:PE X e te) (hs:PO X (some st) ts):PE X (.Subscript e (.Slice none none (some st) p2) pos) (Ei X.K te ts):=by
 intro pins s σ H Q I h
 refine Subscript_ (aU (he pins s σ H _ I h) fun v s1 ⟨x,H1,I1,r1,q1⟩=>?_)
 refine wpAny_Slice ?_
 rw [evalPart_none]
 refine wpAny_pure (wpAny_pure (aU (hs pins s1 σ H1 _ I1 q1) fun vs s3 ⟨c,H3,I3,pc,q3⟩=>?_))
 obtain⟨rfl,l,xs,rfl,hS,q⟩:=q3
 cases r1
 have I4:Inv X pins σ H3 { s3 with heap:=s3.heap.push { cls:=.type "slice",data:=.fields #[.none,.none,vs] } }:=I3.kept (t':=s3.toks) fun b ob q=>Heap.get?_push_of_some _ q
 obtain⟨its,rv,pl,hz⟩:=I4.list hS
 have hl:=pl.isList
 have hzz:its.length<=sizeLine:=by rw [<-rv.length];exact hz
 show wpAny (model X.prog X.w) X.A (subscriptTail e (.Slice none none (some st) p2) (.ref l) (.ref s3.heap.objs.size)) (EP X pins σ Q) X.xe { s3 with heap:=s3.heap.push { cls:=.type "slice",data:=.fields #[.none,.none,vs] } }
 refine tail_any (ops:=[.ref l,.ref s3.heap.objs.size]) hl.typeIs list_getitem_lookup ?_ (by with_unfolding_all rfl)
 refine wpAny_getItem_list_slice hl (Heap.IsSliceOf.new ..) .none .none pc (by simp) ?_ (by simpa using hzz)
 rw [zB]
 refine⟨.ref _,_,I4.laid (t':=s3.toks) (o:=.lst xs.reverse) (fun b ob q=>Heap.get?_push_of_some _ q) (Nat.le_refl _) ?_,rfl,q _ (I4.au.fresh (Nat.le_refl _))⟩
 exact⟨by rw [List.length_reverse];exact hz,its.reverse,_,rv.rev,Heap.get?_push_size _ rfl⟩
end
section
variable {X:Cx}
theorem x8:rE X "str.count" (fun x vs H Q=>∃ a b:Str,x=.str a/\vs = [.str b]/\Q (.int (Txt.count a b)) H):=by
 intro pins s σ H x vs v us Q I rx rv h
 obtain⟨a,b,rfl,rfl,q⟩:=h
 obtain⟨t,rfl⟩:=(show ∃ t,v=Value.str a t from rx)
 obtain⟨u,rfl,t',rfl⟩:=vals1 rv
 exact SC.count ⟨.int _,H,I.tok _,⟨_,rfl⟩,q⟩
inductive Ej (te:TE) (ts:TO) (σ : St) (H:Hp) (Q:VK):Prop
 | mk (_:te σ H fun x H1=>ts σ H1 fun c H2=>c=some (-1)/\∃ z:Str,x=.str z/\z.length<=1000000/\∀ y:Str,y.length<=z.length->(∀ c ∈ sg y,c ∈ sg z)->Q (.str y) H2)
theorem Bj {e st:Expr} {te:TE} {ts:TO} {p2 pos:Pos} (he:PE X e te) (hs:PO X (some st) ts):PE X (.Subscript e (.Slice none none (some st) p2) pos) (Ej te ts):=by
 intro pins s σ H Q I h
 obtain⟨h⟩:=h
 refine Subscript_ (aU (he pins s σ H _ I h) fun v s1 ⟨x,H1,I1,r1,q1⟩=>?_)
 refine wpAny_Slice ?_
 rw [evalPart_none]
 refine wpAny_pure (wpAny_pure (aU (hs pins s1 σ H1 _ I1 q1) fun vs s3 ⟨c,H3,I3,pc,q3⟩=>?_))
 obtain⟨rfl,z,rfl,hz,q⟩:=q3
 obtain⟨t,rfl⟩:=(show ∃ t,v=Value.str z t from r1)
 have I4:Inv X pins σ H3 { s3 with heap:=s3.heap.push { cls:=.type "slice",data:=.fields #[.none,.none,vs] } }:=I3.kept (t':=s3.toks) fun b ob q=>Heap.get?_push_of_some _ q
 show wpAny (model X.prog X.w) X.A (subscriptTail e (.Slice none none (some st) p2) (.str z t) (.ref s3.heap.objs.size)) (EP X pins σ Q) X.xe { s3 with heap:=s3.heap.push { cls:=.type "slice",data:=.fields #[.none,.none,vs] } }
 refine tail_any (ops:=[.str z t,.ref s3.heap.objs.size]) (typeIs_str _ z t) F.slot_str_getitem.lookup ?_ (by with_unfolding_all rfl)
 cases pc with
 | int _ u =>
  refine wpAny_getItem_str_slice (l:=none) (u:=none) (st:=some (-1,u)) ⟨_,Heap.get?_push_size _ rfl,rfl,rfl⟩ (by rfl) ?_
  unfold sliceMade
  rw [if_neg (by show ¬ (false && _)=true;rw [Bool.false_and];decide)]
  have hp:∀ y:Str,y=⟨((slicePicked z none none (some (-1,u))).filterMap (z.cps[·]?)).toArray⟩->y.length<=z.length/\∀ c ∈ sg y,c ∈ sg z:=fun y hy=>by
   subst hy
   refine⟨?_,fun c hc=>?_⟩
   ·show (List.toArray _).size<=_
    rw [List.size_toArray]
    refine Nat.le_trans (List.length_filterMap_le ..) ?_
    show (sliceRange ((z.length:Int) - 1) (-1) (-1)).length<=_
    rw [qu,List.length_map,List.length_range]
    exact Nat.le_refl _
   ·obtain⟨i,_,hi⟩:=List.mem_filterMap.mp (show c ∈ (slicePicked z none none (some (-1,u))).filterMap (z.cps[·]?) from hc)
    exact Array.mem_toList_iff.mpr (Array.mem_of_getElem? hi)
  generalize hy:(⟨((slicePicked z none none (some (-1,u))).filterMap (z.cps[·]?)).toArray⟩:Str)=y
  obtain⟨h1,h2⟩:=hp y hy.symm
  refine⟨Nat.le_trans h1 (Nat.le_of_lt (aT hz)),?_⟩
  exact⟨.str y,H3,I4.tok _,⟨_,rfl⟩,q y h1 h2⟩
end
theorem zC (x:Str):1<=strKind x:=by
 unfold PySem.Builtin.Str.strKind
 split
 ·decide
 ·split <;> decide
theorem nv {x z:Str} (hk:strKind z=1) (hz:0 < z.length):Txt.split x z=partsFrom x z.length 0 (occurrences x z 0 x.length (x.length+1)):=by
 unfold Txt.split
 have one:occurrences x z 0 x.length (x.length+1) = []->[x] = partsFrom x z.length 0 (occurrences x z 0 x.length (x.length+1)):=fun e=>by
  rw [e]
  show [x] = [strSub x 0 x.length]
  rw [sub_whole]
 split
 ·rename_i h
  refine one ?_
  rw [hk,Bool.or_eq_true,decide_eq_true_eq,decide_eq_true_eq] at h
  have hlt:x.length < z.length:=h.resolve_right (by have:=zC x;omega)
  rw [occ_eq,nj]
  have:∀ (l:List Nat) (st:Array Nat × Nat),l.foldl (wk x z x.length (x.length+1)) st=st:=fun l=>by
   induction l with
   | nil=>exact fun _=>rfl
   | cons i l ih =>
    intro st
    rw [List.foldl_cons,show wk x z x.length (x.length+1) st i=st from if_neg fun w=>by have:=w.1.2;omega]
    exact ih st
  rw [this]
 ·split
  ·rename_i h
   exact one (List.isEmpty_iff.mp h)
  ·rw [partsBetween_eq]
theorem join_split {x z:Str} (hk:strKind z=1) (hz:0 < z.length):Txt.join z (Txt.split x z)=x:=by
 obtain⟨f,h⟩:=occ_chain x z (x.length+1)
 rw [nv hk hz]
 show glued z _=x
 rw [glued_eq_join,join_partsFrom x z _ 0 f h,sub_whole]
theorem dA {x z:Str} (hk:strKind z=1) (hz:0 < z.length):∃ p r,Txt.split x z=p :: r:=by
 rw [nv hk hz]
 exact partsFrom_ne x z.length 0 _
theorem zD {z:Str} {ps:List Str} {p:Str} (h:p ∈ ps):p.length<=(Txt.join z ps).length/\∀ c ∈ sg p,c ∈ sg (Txt.join z ps):=by
 cases ps with
 | nil=>cases h
 | cons a r =>
  rw [<-aY (Txt.join z (a :: r)),j1,List.length_append]
  rcases List.mem_cons.mp h with rfl | h
  ·exact⟨by rw [aY];omega,fun c hc=>List.mem_append_left _ hc⟩
  ·rename_i h0
   have e:∃ u v:List Nat,(r.map sg).flatMap (fun q=>sg z++q)=u++(sg p++v):=by
    clear h0
    induction r with
    | nil=>cases h
    | cons b r ih =>
     rw [List.map_cons,List.flatMap_cons]
     rcases List.mem_cons.mp h with rfl | h
     ·exact⟨sg z,_,by rw [List.append_assoc]⟩
     ·obtain⟨u,v,e⟩:=ih h
      exact⟨(sg z++sg b)++u,v,by rw [e,List.append_assoc,List.append_assoc,List.append_assoc]⟩
   obtain⟨u,v,e⟩:=e
   rw [e]
   refine⟨by rw [List.length_append,List.length_append,aY p];omega,fun c hc=>List.mem_append_right _ (List.mem_append_right _ (List.mem_append_left _ hc))⟩
theorem iX {x z:Str} {m:Nat} (hk:strKind z=1) (hz:0 < z.length) (h:bf m x):∀ p ∈ Txt.split x z,bf m p:=fun p hp=>by
 have:=zD (z:=z) hp
 rw [join_split hk hz] at this
 exact⟨Nat.le_trans this.1 h.b3,fun c hc=>h.ok c (this.2 c hc)⟩
theorem ny (z:Str):∀ ps:List Str,(ps.map (·.length)).sum+ps.length * z.length<=(Txt.join z ps).length+z.length
 | []=>by show 0+0 * _<=_;omega
 | p :: r=>by
  have e:∀ r:List Str,((r.map sg).flatMap (fun q=>sg z++q)).length=(r.map (·.length)).sum+r.length * z.length:=fun r=>by
   induction r with
   | nil=>simp
   | cons b r ih=>rw [List.map_cons,List.flatMap_cons,List.length_append,List.length_append,ih,List.map_cons,List.sum_cons,List.length_cons,aY,aY,Nat.succ_mul];omega
  rw [<-aY (Txt.join z (p :: r)),j1,List.length_append,e,List.map_cons,List.sum_cons,List.length_cons,aY,Nat.succ_mul]
  omega
theorem pJ {z:Str} {m:Nat} {ps:List Str} (hz:∀ c ∈ sg z,c < 0x110000) (hp:∀ p ∈ ps,∀ c ∈ sg p,c < 0x110000) (hm:(ps.map (·.length)).sum+ps.length * z.length<=m):bf m (Txt.join z ps):=by
 cases ps with
 | nil=>exact⟨Nat.zero_le _,fun c hc=>by cases hc⟩
 | cons p r =>
  have e:∀ r:List Str,((r.map sg).flatMap (fun q=>sg z++q)).length=(r.map (·.length)).sum+r.length * z.length:=fun r=>by
   induction r with
   | nil=>simp
   | cons b r ih=>rw [List.map_cons,List.flatMap_cons,List.length_append,List.length_append,ih,List.map_cons,List.sum_cons,List.length_cons,aY,aY,Nat.succ_mul];omega
  refine⟨?_,fun c hc=>?_⟩
  ·rw [List.map_cons,List.sum_cons,List.length_cons,Nat.succ_mul] at hm
   rw [<-aY,j1,List.length_append,e,aY]
   omega
  ·rcases km hc with h | ⟨q,hq,h⟩
   ·exact hz c h
   ·exact hp q hq c h
theorem u6:∀ fs:List Nat,(∀ c ∈ fs,48<=c/\c<=57)->fs ≠ []->fs.head? ≠ some 48->(Nat.toDigits 10 (digitsVal fs)).map Char.toNat=fs:=by
 intro fs
 refine nr (P:=fun fs=>(∀ c ∈ fs,48<=c/\c<=57)->fs ≠ []->fs.head? ≠ some 48->(Nat.toDigits 10 (digitsVal fs)).map Char.toNat=fs) (fun _ z=>absurd rfl z) (fun l c ih h _ hh=>?_) fs
 have hc:=h c (by simp)
 have ev:digitsVal (l ++ [c])=digitsVal l * 10+(c - 48):=by
  unfold digitsVal
  rw [List.foldl_append]
  rfl
 have one:∀ c:Nat,48<=c->c<=57->(Nat.toDigits 10 (c - 48)).map Char.toNat = [c]:=fun c h1 h2=>by
  obtain rfl | rfl | rfl | rfl | rfl | rfl | rfl | rfl | rfl | rfl:c=48\/c=49\/c=50\/c=51\/c=52\/c=53\/c=54\/c=55\/c=56\/c=57:=by omega
  all_goals decide
 by_cases hl:l = []
 ·subst hl
  rw [ev]
  show (Nat.toDigits 10 (0 * 10+(c - 48))).map Char.toNat = [c]
  rw [Nat.zero_mul,Nat.zero_add]
  exact one c hc.1 hc.2
 ·have hh':l.head? ≠ some 48:=by
   cases l with
   | nil=>exact absurd rfl hl
   | cons a r=>exact hh
  have ih:=ih (fun d hd=>h d (List.mem_append_left _ hd)) hl hh'
  have hv:0 < digitsVal l:=Nat.pos_of_ne_zero fun z=>by
   rw [z] at ih
   have:l = [48]:=by rw [<-ih];decide
   rw [this] at hh'
   exact hh' rfl
  have t:Nat.toDigits 10 (digitsVal l)++Nat.toDigits 10 (c - 48)=Nat.toDigits 10 (10 * digitsVal l+(c - 48)):=Nat.toDigits_append_toDigits (by decide) hv (by omega)
  rw [ev,Nat.mul_comm,<-t,List.map_append,ih,one c hc.1 hc.2]
theorem oH {y:Str} (h:eV y=true):1<=(dG (sg y)).length/\(dG (sg y)).length<=40/\(∀ c ∈ dG (sg y),48<=c/\c<=57)/\((dG (sg y)).head? = some 48->y = "0"):=by
 unfold eV at h
 rw [Bool.and_eq_true,Bool.and_eq_true,Bool.and_eq_true] at h
 obtain⟨h1,h2,h3,h4⟩:=h
 refine⟨of_decide_eq_true h1,of_decide_eq_true h2,fun c hc=>?_,fun z=>?_⟩
 ·have:=List.all_eq_true.mp h3 c hc
  unfold cS at this
  rw [Bool.and_eq_true] at this
  exact⟨of_decide_eq_true this.1,of_decide_eq_true this.2⟩
 ·rw [decide_eq_true z] at h4
  by_cases hy:y = "0"
  ·exact hy
  ·rw [decide_eq_true (show y ≠ "0" from hy)] at h4
   cases h4
theorem nA {y:Str} (h:eV y=true):y.length<=41:=by
 obtain⟨_,h2,_⟩:=oH h
 rw [<-aY]
 by_cases hm:(sg y).head? = some 45
 ·rw [fb hm,List.length_cons];omega
 ·rw [gY hm] at h2;omega
theorem u7 {y:Str} {i:Int} (h:eE y=some i):iA i=y/\eU i:=by
 unfold eE at h
 by_cases hg:eV y=true
 rotate_left
 ·rw [if_neg hg] at h;cases h
 rw [if_pos hg] at h
 obtain⟨h1,h2,h3,h4⟩:=oH hg
 have hl:=nA hg
 have hne:dG (sg y) ≠ []:=fun z=>by rw [z] at h1;exact absurd h1 (by decide)
 have lim:∀ fs:List Nat,(∀ c ∈ fs,48<=c/\c<=57)->digitsVal fs < 10 ^ fs.length:=fun fs=>by
  refine nr (P:=fun fs=>(∀ c ∈ fs,48<=c/\c<=57)->digitsVal fs < 10 ^ fs.length) (fun _=>by decide) (fun l c ih hh=>?_) fs
  have:=ih fun d hd=>hh d (List.mem_append_left _ hd)
  have hc:=hh c (by simp)
  unfold digitsVal at this ⊢
  rw [List.foldl_append,List.length_append,Nat.pow_add]
  show List.foldl _ 0 l * 10+(c - 48) < _ * 10 ^ 1
  omega
 have lt:=lim _ h3
 have lt40:digitsVal (dG (sg y)) < 10 ^ 40:=Nat.lt_of_lt_of_le lt (Nat.pow_le_pow_right (by decide) h2)
 have c40:((10:Nat) ^ 40:Int)=(10:Int) ^ 40:=by decide +kernel
 by_cases hm:(sg y).head? = some 45
 ·have e:=intText_neg (x:=y) (fb hm) h3 hne (by omega)
  rw [h] at e
  have ei:i = -((digitsVal (dG (sg y)):Nat):Int):=Option.some.inj e
  clear e
  have nz:(dG (sg y)).head? ≠ some 48:=fun z=>by
   have:=h4 z
   subst this
   exact absurd hm (by decide +kernel)
  have hd:=u6 _ h3 hne nz
  generalize digitsVal (dG (sg y))=v at *
  have hv:0 < v:=Nat.pos_of_ne_zero fun z=>by
   rw [z] at hd
   have:dG (sg y) = [48]:=by rw [<-hd];decide
   rw [this] at nz
   exact nz rfl
  obtain⟨k,rfl⟩:∃ k,v=k+1:=⟨v - 1,by omega⟩
  have ek:i=Int.negSucc k:=by rw [ei];rfl
  subst ek
  refine⟨lF ?_,?_⟩
  ·rw [so,hd]
   exact (fb hm).symm
  ·constructor <;> omega
 ·rw [gY hm] at h3 hne h4 lt40
  have e:=intText_digits (x:=y) h3 hne (by omega)
  rw [h] at e
  have ei:=Option.some.inj e
  subst ei
  refine⟨?_,?_⟩
  ·by_cases nz:(sg y).head? = some 48
   ·have:=h4 nz
    subst this
    refine lF ?_
    rw [oF]
    decide +kernel
   ·refine lF ?_
    rw [oF]
    exact u6 _ h3 hne nz
  ·have lt40:digitsVal y.cps.toList < 10 ^ 40:=lt40
   constructor <;> omega
theorem Bk (y:Str):cQ (aJ y)=y:=by
 unfold aJ
 cases h:eE y with
 | none=>rfl
 | some i=>exact (u7 h).1
theorem x9 {y:Str} (h:iz (.str y)=true):dW y:=by
 have h:((decide (1<=y.length) && decide (y.length<=8)) && (sg y).all cE)=true:=h
 rw [Bool.and_eq_true,Bool.and_eq_true] at h
 refine⟨of_decide_eq_true h.1.1,of_decide_eq_true h.1.2,fun c hc=>?_⟩
 have:=List.all_eq_true.mp h.2 c hc
 unfold cE at this
 rw [Bool.and_eq_true] at this
 exact⟨of_decide_eq_true this.1,of_decide_eq_true this.2⟩
def kindS (c:Nat):Str:=if c=120 then "name" else if c=110 then "number" else "piece"
def jq (c:Nat) (y:Str) (n:Nat):Option PyData :=
 if c=120 then (if iz (.str y)=true then some (.str y) else none) else match eE y with
  | none=>none
  | some i=>if c=112/\(i < 0\/(n:Int)<=i) then none else some (.int i)
theorem iY {c:Nat} (hc:c=120\/c=110\/c=112) (y:Str) (n:Nat):jq c y n=if bQ (aJ y) (kindS c) n=true then some (aJ y) else none:=by
 unfold jq aJ
 rcases hc with rfl | rfl | rfl
 ·rw [if_pos rfl,show kindS 120 = "name" from rfl,pf]
  cases h:eE y with
  | none=>rfl
  | some i =>
   have hn:iz (.str y)=false:=Bool.eq_false_iff.mpr fun z=>by
    rw [Bd (x9 z)] at h;cases h
   rw [hn]
   rfl
 ·rw [if_neg (by decide),show kindS 110 = "number" from by decide +kernel,ph]
  cases h:eE y with
  | none=>rfl
  | some i=>rfl
 ·rw [if_neg (by decide),show kindS 112 = "piece" from by decide +kernel]
  have e:∀ d,bQ d "piece" n=(match d with | .int i=>decide (0<=i) && decide (i < (n:Int)) | _=>false):=fun d=>by
   unfold bQ
   rw [if_neg (by decide +kernel),if_neg (by decide +kernel)] <;> cases d <;> rfl
  rw [e]
  cases h:eE y with
  | none=>rfl
  | some i =>
   show (if 112=112/\(i < 0\/(n:Int)<=i) then none else some (PyData.int i))=if (decide (0<=i) && decide (i < (n:Int)))=true then some (PyData.int i) else none
   by_cases z:i < 0\/(n:Int)<=i
   ·rw [if_pos ⟨rfl,z⟩,if_neg (by simp;omega)]
   ·rw [if_neg (fun w=>z w.2),if_pos (by simp;omega)]
def qV:List Nat->List Str->Nat->Option (List PyData)
 | [],[],_=>some []
 | c :: cs,y :: ys,n=>(jq c y n).bind fun d=>(qV cs ys n).map (d :: ·)
 | _,_,_=>none
theorem nF:∀ {cs:List Nat} (ys:List Str) (n:Nat),(∀ c ∈ cs,c=120\/c=110\/c=112)->cs.length=ys.length ->
  qV cs ys n=if b4 (ys.map aJ) (cs.map kindS) n=true then some (ys.map aJ) else none
 | [],[],n,_,_=>rfl
 | c :: cs,y :: ys,n,h,hl=>by
  have ih:=nF (cs:=cs) ys n (fun d hd=>h d (List.mem_cons_of_mem _ hd)) (by simpa using hl)
  show (jq c y n).bind (fun d=>(qV cs ys n).map (d :: ·))=if (bQ (aJ y) (kindS c) n && b4 (ys.map aJ) (cs.map kindS) n)=true then some (aJ y :: ys.map aJ) else none
  rw [iY (h c List.mem_cons_self),ih]
  cases bQ (aJ y) (kindS c) n with
  | false=>rfl
  | true =>
   cases b4 (ys.map aJ) (cs.map kindS) n with
   | false=>rfl
   | true=>rfl
def fu (w:Str):Option Str:=if w = "put" then some "xn" else if w = "add" then some "xn" else if w = "copy" then some "xx" else if w = "read" then some "x" else if w = "tell" then some "x" else none
def iZ (w:Str):Option Str:=if w = "stop" then some "" else if w = "go" then some "p" else if w = "less" then some "xnpp" else if w = "is" then some "xnpp" else none
theorem nG (w:Str):iE w=(fu w).map fun x=>(sg x).map kindS:=by
 unfold fu
 by_cases h1:w = "put"
 ·subst h1;rw [if_pos rfl];decide +kernel
 by_cases h2:w = "add"
 ·subst h2;rw [if_neg h1,if_pos rfl];decide +kernel
 by_cases h3:w = "copy"
 ·subst h3;rw [if_neg h1,if_neg h2,if_pos rfl];decide +kernel
 by_cases h4:w = "read"
 ·subst h4;rw [if_neg h1,if_neg h2,if_neg h3,if_pos rfl];decide +kernel
 by_cases h5:w = "tell"
 ·subst h5;rw [if_neg h1,if_neg h2,if_neg h3,if_neg h4,if_pos rfl];decide +kernel
 rw [if_neg h1,if_neg h2,if_neg h3,if_neg h4,if_neg h5,Ec h1 h3 h2 h4 h5]
 rfl
theorem u9 (w:Str):pd w=(iZ w).map fun x=>(sg x).map kindS:=by
 unfold iZ pd
 by_cases h1:w = "stop"
 ·subst h1;rw [if_pos rfl,if_pos rfl];decide +kernel
 by_cases h2:w = "go"
 ·subst h2;rw [if_neg h1,if_pos rfl,if_neg h1,if_pos rfl];decide +kernel
 by_cases h3:w = "less"
 ·subst h3;rw [if_neg h1,if_neg h2,if_pos rfl,if_neg h1,if_neg h2,if_pos rfl];decide +kernel
 by_cases h4:w = "is"
 ·subst h4;rw [if_neg h1,if_neg h2,if_neg h3,if_pos rfl,if_neg h1,if_neg h2,if_neg h3,if_pos rfl];decide +kernel
 rw [if_neg h1,if_neg h2,if_neg h3,if_neg h4,if_neg h1,if_neg h2,if_neg h3,if_neg h4]
 rfl
structure i0 (x:Str):Prop where
 sg:∀ c ∈ sg x,c=120\/c=110\/c=112
 asc:x.cps.all (· < 128)=true
 b3:x.length<=4
theorem i0.zE {w x:Str} (h:fu w=some x):i0 x:=by
 have:x = "xn" \/ x = "xx" \/ x = "x" := by
  unfold fu at h
  repeat (first | (split at h;· cases h;simp) | cases h)
 rcases this with rfl | rfl | rfl <;> exact⟨by decide +kernel,by decide +kernel,by decide +kernel⟩
theorem i0.end_ {w x:Str} (h:iZ w=some x):i0 x:=by
 have:x = "" \/ x = "p" \/ x = "xnpp" := by
  unfold iZ at h
  repeat (first | (split at h;· cases h;simp) | cases h)
 rcases this with rfl | rfl | rfl <;> exact⟨by decide +kernel,by decide +kernel,by decide +kernel⟩
theorem gA:0 < (" " : Str).length:=by decide +kernel
theorem sE:0 < ("; " : Str).length:=by decide +kernel
theorem j3:0 < ("\n" : Str).length:=by decide +kernel
def aO (x:Str):List PyData:=match Txt.split x " " with
 | []=>[]
 | w :: ys=>.str w :: ys.map aJ
def gh (S:Str->Option Str) (x:Str) (n:Nat):Option (List PyData):=match Txt.split x " " with
 | []=>none
 | w :: ys=>match S w with
  | none=>none
  | some s=>if s.length=ys.length then (qV (sg s) ys n).map (.str w :: ·) else none
theorem va (d:PyData) (n:Nat):dI d=jx d ((eu d).bind iE) n:=by
 unfold dI jx
 split
 ·rename_i ks d0 ds h
  cases d0 with
  | str w =>
   have hk:iE w=some ks:=h
   congr 1
   have:∀ {ks:List Str} {ds:List PyData},(∀ k ∈ ks,k = "name" \/ k = "number")->b4 ds ks 0=b4 ds ks n:=by
    intro ks
    induction ks with
    | nil=>intro ds _;cases ds <;> rfl
    | cons k ks ih =>
     intro ds hk
     cases ds with
     | nil=>rfl
     | cons d ds =>
      show (bQ d k 0 && b4 ds ks 0)=(bQ d k n && b4 ds ks n)
      rw [ih fun k hk'=>hk k (List.mem_cons_of_mem _ hk')]
      rcases hk k List.mem_cons_self with rfl | rfl
      ·rw [pf,pf]
      ·rw [ph,ph]
   refine this fun k hkk=>?_
   rw [nG] at hk
   obtain⟨x,hx,rfl⟩:=Option.map_eq_some_iff.mp hk
   obtain⟨c,hc,rfl⟩:=List.mem_map.mp hkk
   have:x = "xn" \/ x = "xx" \/ x = "x" := by
    unfold fu at hx
    repeat (first | (split at hx;· cases hx;simp) | cases hx)
   have hs:c=120\/c=110:=by
    have h1:∀ c ∈ sg ("xn" : Str),c=120\/c=110:=by decide +kernel
    have h2:∀ c ∈ sg ("xx" : Str),c=120\/c=110:=by decide +kernel
    have h3:∀ c ∈ sg ("x" : Str),c=120\/c=110:=by decide +kernel
    rcases this with rfl | rfl | rfl
    ·exact h1 c hc
    ·exact h2 c hc
    ·exact h3 c hc
   rcases hs with rfl | rfl
   ·exact .inl rfl
   ·exact .inr (by decide +kernel)
  | _=>cases h
 ·rfl
theorem mT {S:Str->Option Str} {K:Str->Option (List Str)} (hK:∀ w,K w=(S w).map fun x=>(sg x).map kindS) (hS:∀ w x,S w=some x->i0 x) (x:Str) (n:Nat) :
  gh S x n=if jx (.tuple (aO x)) ((eu (.tuple (aO x))).bind K) n=true then some (aO x) else none:=by
 unfold gh aO
 obtain⟨w,ys,e⟩:=dA (x:=x) eQ gA
 rw [e]
 dsimp only
 show _=if jx (.tuple (.str w :: ys.map aJ)) (K w) n=true then some (PyData.str w :: ys.map aJ) else none
 rw [hK]
 cases hw:S w with
 | none=>rfl
 | some s =>
  dsimp only
  have ok:=hS w s hw
  show (if s.length=ys.length then _ else none)=if (decide ((ys.map aJ).length=((sg s).map kindS).length) && b4 (ys.map aJ) ((sg s).map kindS) n)=true then _ else none
  rw [List.length_map,List.length_map,aY]
  by_cases hl:s.length=ys.length
  ·rw [if_pos hl,decide_eq_true hl.symm,Bool.true_and,nF ys n ok.sg (by rw [aY];exact hl)]
   cases b4 (ys.map aJ) ((sg s).map kindS) n <;> rfl
  ·rw [if_neg hl,decide_eq_false (fun z=>hl z.symm),Bool.false_and]
   rfl
theorem sF (x:Str) (n:Nat):gh fu x n=if dI (.tuple (aO x))=true then some (aO x) else none:=by
 rw [va _ n]
 exact mT nG (fun _ _=>i0.zE) x n
theorem tU (x:Str) (n:Nat):gh iZ x n=if kj (.tuple (aO x)) n=true then some (aO x) else none:=mT u9 (fun _ _=>i0.end_) x n
def partsOf (x:Str):List Str:=Txt.split x "; "
def bp (x:Str):PyData:=.tuple [.tuple ((partsOf x).dropLast.map fun t=>.tuple (aO t)),.tuple (aO ((partsOf x).getLastD ""))]
def bC (x:Str):List Str:=Txt.split x "\n"
open PySem.Calls Builtin.Getset_descriptor
structure iq (K:PySem.W.Frag) (C:Addr):Prop where
 ga:findIn K (.ref C) "__getattribute__" = some (some (.builtin "BaseException.__getattribute__"))
 gn:findIn K (.ref C) "__getattr__" = some none
 cl:findIn K (.ref C) "__class__" = some (some (.builtin "object.__class__"))
 ob:mroIn K C (.type "object")=some true
 bx:mroIn K C (.type "BaseException")=some true
structure sG (K:PySem.W.Frag) (C:Addr):Prop extends iq K C where
 ok:excIn K C [.type "ValueError",.type "Exception",.type "BaseException",.type "object"] "ValueError.__new__" = true
section
variable {prog:Program} {w:World} {A:Around} {E:Value->Shared->Prop} {s:Shared} {K:Frag} {x C:Addr}
def fw (h:Heap) (x C:Addr):Prop:=∃ o,h.get? x=some o/\o.cls=.ref C
theorem fw.ty {M:Model} {h:Heap} (I:fw h x C):Looks M h (typeOf (.ref x)) (.ref C):=by
 obtain⟨o,h1,h2⟩:=I
 exact h2 ▸ (Looks.ld h1).andThen .now
theorem ya {nameV:Value} {R:Result->Shared->Prop} (X:K.In s.heap) (I:fw s.heap x C) (T:iq K C)
  (h:wpAny (model prog w) (A.in1) (Builtin.«object.__getattribute__» ⟨[.ref x,nameV],[]⟩) (fun f s'=>match f with | .done r=>R (.ok r) s' | _=>False) (fun e s'=>R (.error e) s') s) :
  codeAny (model prog w) A (.call (.builtin "BaseException.__getattribute__") ⟨[.ref x,nameV],[]⟩) R s:=by
 have LI:Looks (model prog w) s.heap (isInstance (.ref x) (.type "BaseException")) true:=I.ty.andThen (looks_mroIn X T.bx)
 have hk:builtinKind "BaseException.__getattribute__" = some .slot:=by decide +kernel
 have hs:splitId "BaseException.__getattribute__" = some ("BaseException", "__getattribute__"):=by decide +kernel
 have ha:=PySem.F.args_bexc_ga (.ref x) nameV
 refine codeAny_call_builtin PySem.F.attr_ValueError.ga.plain PySem.F.entry_bexc_ga ?_
 generalize Builtin.«object.__getattribute__» ⟨[.ref x,nameV],[]⟩=body at h ⊢
 simp only [checkBuiltinCall,hk,hs]
 refine wpAny_bind (LI.at ?_)
 obtain⟨hh,g,d,t,os⟩:=s
 repeat (any_goals (first | assumption | wp_step))
 refine wpAny_mono h (fun f s' z=>?_) fun _ _ z=>z
 rcases f with _ | _
 ·exact z
 ·exact z.elim
theorem Dd {R:Result->Shared->Prop} {tp:Value} (X:K.In s.heap) (I:fw s.heap x C) (hm:mroIn K C (.type "object")=some true) (h:R (.ok (.ret (.ref C))) s) :
  codeAny (model prog w) A (.call (.builtin "getset_descriptor.__get__") ⟨[.builtin "object.__class__",.ref x,tp],[]⟩) R s:=by
 have T0:=I.ty (M:=model prog w)
 have T1:=looks_mroIn (M:=model prog w) X hm
 obtain⟨hh,g,dr,t,os⟩:=s
 refine codeAny_call_builtin KF.slot_gs.plain KF.entry_gs (KF.slot_gs.check _ _ _ _ _ _ _ _ KF.type_class (KF.args_gs _ _ _) ?_)
 unfold Builtin.«getset_descriptor.__get__» descrGet;rw [dga_obj];refine wpAny_bind (wpAny_pure ?_)
 unfold descrGetter descrCheckInstance descrNameAndClass isInstance;simp only [KF.owner_class];repeat lk
 refine⟨Code.quiet_builtin _ (by decide +kernel),codeAny_builtin KF.entry_class ?_⟩;unfold Builtin.«object.__class__» shownTypeOf;repeat lk
 exact h
theorem yb {M:Model} {h:Heap} {name:Str} {a g:Value} (X:K.In h) (ha:findIn K (.ref C) name=some (some a)) (hg:specialIn K a "__get__" = some (some g)) (ht:takesIn K a=some true):Looks M h (Builtin.ObjectAttr.find (.ref x) (.ref C) name) (.bind g a):=by
 have q1:=looks_findIn (M:=M) X ha
 have q2:Looks M h (Builtin.ObjectAttr.getOf (some a)) (some g):=looks_specialIn X hg
 have q3:=looks_takesIn (M:=M) X ht
 exact q1.andThen (q2.andThen ((show Looks M h (Builtin.ObjectAttr.dataDescriptor? (some a) (some g)) (some (g,a)) from q3.andThen .now).andThen (Looks.tag .now)))
theorem Bm:specialIn K (.builtin "object.__class__") "__get__" = some (some (.builtin "getset_descriptor.__get__")):=by
 show (typeIn K (.builtin "object.__class__")).bind _=_
 rw [show typeIn K (.builtin "object.__class__")=some (.type "getset_descriptor") from by show pureOf (fastBuiltinType "object.__class__")=_;decide +kernel]
 show fastLookup "getset_descriptor" "__get__" = _
 decide +kernel
theorem Bn:takesIn K (.builtin "object.__class__")=some true:=by
 unfold takesIn
 rw [show specialIn K (.builtin "object.__class__") "__set__" = some (some (.builtin "getset_descriptor.__set__")) from by
  show (typeIn K (.builtin "object.__class__")).bind _=_
  rw [show typeIn K (.builtin "object.__class__")=some (.type "getset_descriptor") from by show pureOf (fastBuiltinType "object.__class__")=_;decide +kernel]
  show fastLookup "getset_descriptor" "__set__" = _
  decide +kernel]
theorem yc {Q:Option Value->Shared->Prop} (X:K.In s.heap) (I:fw s.heap x C) (T:iq K C) (h:Q (some (.ref C)) { s with toks:=s.toks+1 }):wpAny (model prog w) A (getAttr? (.ref x) "__class__") Q E s:=by
 have T0:=I.ty (M:=model prog w)
 have T1:=looks_findIn (M:=model prog w) X T.ga
 have T2:=looks_findIn (M:=model prog w) X T.gn
 have LF:=yb (M:=model prog w) (x:=x) X T.cl Bm Bn
 obtain⟨hh,g,d,t,os⟩:=s
 unfold getAttr? getAttrBy? getAttrBy
 refine wpAny_bind (wpAny_mkText (wpAny_bind (wpAny_attempt (wpAny_holding (wpAny_bind (T0.at (wpAny_bind (T1.at ?_))))))))
 show wpAny _ _ (getAttrByItsOwn _ _ _ _ _ _) _ _ _
 unfold getAttrByItsOwn hookBefore
 have f3:=PySem.F.attr_ValueError.ga.bind (.ref x)
 repeat (any_goals (first | assumption | (with_reducible refine T2.at ?_) | wp_step))
 refine ya X I T ?_
 repeat (any_goals (first | assumption | (with_reducible refine T0.at ?_) | (with_reducible refine LF.at ?_) | wp_step))
 refine Dd X I T.ob ?_
 repeat (any_goals (first | assumption | (with_reducible refine handed_on rfl ?_) | wp_step))
theorem nH (T:iq K C):KitX K (.ref x) (.ref C) (fun h=>fw h x C):=by
 obtain⟨cd,hc,_⟩:=Option.bind_eq_some_iff.mp T.ob
 have lk:∃ c d sl,K.lookup C=some ⟨c,d,.cls cd,sl⟩:=by
  unfold clsIn at hc
  split at hc
  ·rename_i ho;cases hc;exact⟨_,_,_,ho⟩
  ·cases hc
 obtain⟨c',d',sl',ho⟩:=lk
 refine⟨fun _ _ _ I=>I.ty,fun _ _ X _=>?_,fun h tp dd its n sl X htp=>?_,fun X I k=>yc X I T k⟩
 ·intro A' Q' E' s' k q
  unfold isType loadHead
  exact wpAny_bind (wpAny_loadPart (k _ _ (X _ _ ho)) (wpAny_pure q))
 ·refine Bool.eq_false_iff.mpr fun q=>?_
  have e:=(X _ _ ho).symm.trans ((Value.ref.inj (beq_iff_eq.mp q)).symm ▸ htp)
  cases e
end
def wx (e C:Addr):HO:=.ext fun h=>fw h e C
theorem Bo {P:Program} {w:World} {H:Hp} {h:Heap} {e C:Addr} (ok:bZ P w H h) (he:H e=some (wx e C)):fw h e C:=(show bw P w H h e (wx e C) from ok e _ he).1
theorem Bp {P:Program} {w:World} {H:Hp} {h:Heap} {e C:Addr} (q:fw h e C):bw P w H h e (wx e C) :=
 ⟨q,(let ⟨o,h1,_⟩:=q;⟨o,h1⟩),fun _ _ ⟨o,h1,h2⟩ k=>⟨o,k o h1,h2⟩⟩
section
variable {X:Cx}
theorem qv:∀ {cs:List Addr} {us:List Value},Vals (cs.map V.ref) us->us=cs.map Value.ref
 | [],_,r=>by cases r;rfl
 | c :: cs,_,.cons h t=>by rw [qv t,show _=Value.ref c from h];rfl
end
def b8 (h h':Heap):Prop:=∀ b o,h.get? b=some o->∃ o',h'.get? b=some o'/\o'.dict=o.dict
theorem b8.refl (h:Heap):b8 h h:=fun _ o e=>⟨o,e,rfl⟩
theorem b8.trans {h h1 h2:Heap} (x:b8 h h1) (y:b8 h1 h2):b8 h h2:=fun b o e=>by
 obtain⟨o1,e1,d1⟩:=x b o e
 obtain⟨o2,e2,d2⟩:=y b o1 e1
 exact⟨o2,e2,d2.trans d1⟩
def cb {α : Type}:Sem α->Prop
 | .rule _ k | .at _ k | .point _ k=>cb (k ())
 | .load _ _ k=>∀ o,cb (k o)
 | .update _ _ f k=>(∀ o:Obj,(f o).dict=o.dict/\(o.isFreed=false->(f o).isFreed=false))/\cb (k ())
 | .alloc _ k=>∀ a,cb (k a)
 | .loadIfAlive _ k=>∀ o,cb (k o)
 | .fresh k=>∀ t,cb (k t)
 | .ask k=>∀ t,cb (k t)
 | .handled _ k=>∀ t,cb (k t)
 | .stack k=>∀ t,cb (k t)
 | .thread k=>∀ t,cb (k t)
 | .pure _ | .raise _ | .unsupported _ | .finish _=>True
 | _=>False
theorem alive {h:Heap} {a:Addr} {o:Obj} (e:h.get? a=some o):o.isFreed=false:=by
 unfold Heap.get? at e
 split at e
 ·cases e
 ·rename_i n
  obtain⟨c,d,dt,sl⟩:=o
  cases dt <;> first | rfl | exact absurd e (n _ _ _)
theorem qw {h:Heap} {a:Addr} {f:Obj->Obj} (hf:∀ o:Obj,(f o).dict=o.dict/\(o.isFreed=false->(f o).isFreed=false)):b8 h (h.update a f):=fun b o e=>by
 by_cases z:a=b
 ·subst z
  exact⟨f o,Heap.get?_update_self f e ((hf o).2 (alive e)),(hf o).1⟩
 ·exact⟨o,by rw [Heap.get?_update_other _ _ z];exact e,rfl⟩
theorem Bq {α : Type} {M:Model} {Γ : PySem.Ctx} {Q:α->Pos->Shared->Prop} {E:Value->Pos->Shared->Prop} (t:Sem α) (m:cb t):∀ (p:Pos) (s:Shared),Sem.wp M Γ t Q E p s ->
  Sem.wp M Γ t (fun a p' s'=>Q a p' s'/\b8 s.heap s'.heap) (fun a p' s'=>E a p' s'/\b8 s.heap s'.heap) p s:=by
 induction t with
 | pure a=>exact fun p s h=>⟨h,b8.refl _⟩
 | raise a=>exact fun p s h=>⟨h,b8.refl _⟩
 | unsupported=>exact fun p s h=>h
 | finish=>exact fun p s h=>h
 | rule _ k ih=>exact fun p s h=>ih () m p s h
 | «at» p' k ih=>exact fun p s h=>ih () m p' s h
 | point _ k ih=>exact fun p s h=>ih () m p s h
 | load a _ k ih=>exact fun p s ⟨o,e,h⟩=>⟨o,e,ih o (m o) p s h⟩
 | update a _ f k ih=>exact fun p s ⟨e,h⟩=>⟨e,Sem.wp_mono _ _ _ (fun _ _ _ z=>⟨z.1,(qw m.1).trans z.2⟩) (fun _ _ _ z=>⟨z.1,(qw m.1).trans z.2⟩) _ _ (ih () m.2 p _ h)⟩
 | alloc o k ih=>exact fun p s h=>Sem.wp_mono _ _ _ (fun _ _ _ z=>⟨z.1,b8.trans (fun b o e=>⟨o,Heap.get?_push_of_some _ e,rfl⟩) z.2⟩) (fun _ _ _ z=>⟨z.1,b8.trans (fun b o e=>⟨o,Heap.get?_push_of_some _ e,rfl⟩) z.2⟩) _ _ (ih _ (m _) p _ h)
 | loadIfAlive a k ih=>exact fun p s h=>ih _ (m _) p s h
 | fresh k ih=>exact fun p s h=>ih _ (m _) p _ h
 | ask k ih=>exact fun p s h=>ih _ (m _) p s h
 | handled _ k ih=>exact fun p s h=>ih _ (m _) p s h
 | stack k ih=>exact fun p s h=>ih _ (m _) p s h
 | thread k ih=>exact fun p s h=>ih _ (m _) p s h
 | _=>exact m.elim
theorem fW {α : Type} {M:Model} {A:Around} {Q:α->Shared->Prop} {E:Value->Shared->Prop} {t:Sem α} {s:Shared} (m:cb t) (h:wpAny M A t Q E s) :
  wpAny M A t (fun a s'=>Q a s'/\b8 s.heap s'.heap) (fun a s'=>E a s'/\b8 s.heap s'.heap) s:=fun Γ p hΓ=>Bq t m p s (h Γ p hΓ)
theorem gm {α β : Type} {f:α->Sem β} (hf:∀ a,cb (f a)):∀ {m:Sem α},cb m->cb (m >>= f):=by
 intro m
 show cb m->cb (m.bind f)
 induction m with
 | pure a=>exact fun _=>hf a
 | raise | unsupported | finish=>exact fun h=>h
 | rule _ k ih | «at» _ k ih | point _ k ih=>exact fun h=>ih () h
 | load _ _ k ih | alloc _ k ih | loadIfAlive _ k ih | fresh k ih | ask k ih | handled _ k ih | stack k ih | thread k ih=>exact fun h x=>ih x (h x)
 | update _ _ g k ih=>exact fun h=>⟨h.1,ih () h.2⟩
 | _=>exact fun h=>h.elim
theorem ie {α : Type} {a:α}:cb (pure a:Sem α):=True.intro
theorem i3 {α : Type} {a:String}:cb (unsupported a:Sem α):=True.intro
theorem i4 {α : Type} {c:Prop} [Decidable c] {a b:Sem α} (ha:cb a) (hb:cb b):cb (if c then a else b):=by split <;> assumption
theorem ig {a:Addr}:cb (load a):=fun _=>True.intro
theorem jy {a:Addr} {g:Array Value->Array Value}:cb (update a (Obj.mapFields g)):=⟨fun o=>by obtain⟨c,d,dt,sl⟩:=o;cases dt <;> exact⟨rfl,id⟩,True.intro⟩
theorem iF {o:Obj}:cb (alloc o):=fun _=>True.intro
theorem gB:cb stack:=fun _=>True.intro
theorem kn {v:Value} {i:Nat}:cb (field v i):=by
 unfold field fieldsOf
 repeat (any_goals (first | exact ie | exact i3 | exact ig | exact oJ | exact jy | exact iF | exact gB | (with_reducible refine i4 ?_ ?_) | (with_reducible refine gm (fun _=>?_) ?_) | split))
theorem kX {v x:Value} {i:Nat}:cb (setField v i x):=by
 unfold setField updateField
 repeat (any_goals (first | exact ie | exact i3 | exact ig | exact oJ | exact jy | exact iF | exact gB | (with_reducible refine i4 ?_ ?_) | (with_reducible refine gm (fun _=>?_) ?_) | split))
theorem hR {e:Value} {f:Option Addr}:cb (setFlight e f):=by
 unfold setFlight
 repeat (any_goals (first | exact ie | exact i3 | exact ig | exact oJ | exact jy | exact iF | exact gB | (with_reducible exact kn) | (with_reducible exact kX) | (with_reducible refine i4 ?_ ?_) | (with_reducible refine gm (fun _=>?_) ?_) | split))
theorem oM:∀ l:List Env,cb (readyFrames l)
 | []=>True.intro
 | env :: outer=>by
  have ih:=oM outer
  unfold readyFrames behindIsImport keptBack underTheClaimsCaller
  have up:∀ (f:Addr) (g:Obj->Array (Option Value)),cb (update f fun o=>{ o with slots:=g o }):=fun f g=>⟨fun o=>⟨rfl,fun h=>by obtain⟨c,d,dt,sl⟩:=o;cases dt <;> first | rfl | exact h⟩,True.intro⟩
  repeat (any_goals (first | exact ih | exact ie | exact i3 | exact ig | exact up _ _ | exact gB | (with_reducible exact kn) | (with_reducible refine i4 ?_ ?_) | (with_reducible refine gm (fun _=>?_) ?_) | split))
theorem qx {e:Value} {env:Env}:cb (noteFrame e env):=by
 unfold noteFrame EntryCells.newEntry newFields newObj newObjAsIs PySem.frameOf frameObject frameEnvs entryPlaceOf
 repeat (any_goals (first | exact oM _ | exact ie | exact i3 | exact ig | exact iF | exact gB | (with_reducible exact kn) | (with_reducible exact kX) | (with_reducible refine i4 ?_ ?_) | (with_reducible refine gm (fun _=>?_) ?_) | split))
theorem i5 {e:Value} {env:Env}:cb (leaving env e):=gm (fun _=>hR) qx
section
variable {P:Program} {w:World} {H H':Hp} {h h':Heap} {a:Addr} {o:HO}
theorem bw.get (x:bw P w H h a o):∃ u,h.get? a=some u:=by
 cases o with
 | lst xs=>obtain⟨_,_,_,_,e⟩:=x;exact⟨_,e⟩
 | tup xs=>obtain⟨_,_,_,o,e,_⟩:=x;exact⟨_,e⟩
 | dK kvs=>obtain⟨_,_,_,_,o,_,_,e,_⟩:=x;exact⟨_,e⟩
 | dT kvs=>obtain⟨_,_,_,_,o,_,_,e,_⟩:=x;exact⟨_,e⟩
 | set S n=>obtain⟨o,_,_,_,e,_⟩:=x;exact⟨_,e⟩
 | ins C dx fs=>obtain⟨_,_,_,e,_⟩:=x;exact⟨_,e⟩
 | own y=>obtain⟨_,e⟩:=x;exact⟨_,e⟩
 | xd fs=>obtain⟨_,⟨_,_,_,e,_⟩,_⟩:=x;exact⟨_,e⟩
 | z5 lo hi=>obtain⟨_,_,_,e⟩:=x;exact⟨_,e⟩
 | iI ob u=>obtain⟨e,_⟩:=x;exact⟨_,e⟩
 | pU ps=>exact⟨_,(show h.get? a=some _ from x)⟩
 | met f y=>exact⟨_,(show h.get? a=some _ from x)⟩
 | ext φ=>obtain⟨_,⟨u,e⟩,_⟩:=x;exact⟨u,e⟩
theorem bZ.ef (x:bZ P w H h) (k:∀ b u v,H b=some v->h.get? b=some u->h'.get? b=some u):bZ P w H h':=fun a o e =>
 (x a o e).iJ (fun b u hb q=>by
  rcases hb with rfl | hb
  ·exact k _ u _ e q
  ·exact k b u _ hb q) (fun _ q=>q) fun _ _ q=>q
end
structure FG (outer:List Env) (old:Heap) (H':Hp) (ea:Addr) (cls:Value) (od:Option Addr) (h:Heap):Prop where
 aW:H' ea=none
 new:old.get? ea=none
 FH:∀ dx,od=some dx->∃ o,h.get? ea=some o/\o.dict=some dx
 De:∃ B a0,Heap.FlyingW B outer ea cls a0 h/\∀ b o,h.get? b=some o->((∃ v,H' b=some v)\/∃ u,old.get? b=some u)->b ∉ bt outer->B.get? b=some o
inductive lO (P:Program) (w:World) (outer:List Env) (H:Hp) (s:Shared) (E:XK) (e:Value) (s':Shared):Prop
 | mk (ea:Addr) (cls:Value) (od:Option Addr) (H':Hp) (_:e=.ref ea) (_:s'.os=s.os) (_:AllBare s'.gens) (_:Un (bt outer) [] H H' s.heap s'.heap) (_:bZ P w H' s'.heap) (_:FG outer s.heap H' ea cls od s'.heap) (_:E cls od H')
abbrev cW (P:Program) (w:World):kT:=lO P w
section
variable {X:Cx} {pins:List (Addr × Obj)} {σ : St} {H H':Hp} {s s':Shared}
theorem cc {env:Env} {outer:List Env} {L:Addr} (hf:env.frame=some L) {b:Addr}:b ∈ bt (env :: outer) ↔ b=L\/b ∈ bt outer:=by
 unfold bt
 rw [List.filterMap_cons,hf]
 exact List.mem_cons
theorem As {l:List Env}:∀ env ∈ l,∀ b,env.frame=some b->b ∈ bt l:=fun env he b hb=>List.mem_filterMap.mpr ⟨env,he,hb⟩
theorem lP {outer:List Env} {h0 h1 h2:Heap} {ea:Addr} {cls a0:Value} {B:Heap} {l:List Env} (un:Un (bt outer) [] H H' h0 h1)
  (kp:∀ b o,h1.get? b=some o->b ∉ bt l->((∃ v,H' b=some v)\/∃ u,h0.get? b=some u)->h2.get? b=some o)
  (sl:∀ b o,h1.get? b=some o->b ∈ bt l->∃ sl,h2.get? b=some { o with slots:=sl })
  (hl:∀ b ∈ bt l,b ∈ bt outer\/h0.get? b=none) (hs:∀ b ∈ bt outer,b ∈ bt l):Un (bt outer) [] H H' h0 h2 where
 keep:=fun b o q n hb hx=>kp b o (un.keep b o q n hb hx) (fun z=>by
  rcases hl b z with y | y
  ·exact hb y
  ·rw [q] at y;cases y) (.inr ⟨o,q⟩)
 slot:=fun b o q n hb hx=>by
  obtain⟨s1,e1⟩:=un.slot b o q n hb hx
  obtain⟨s2,e2⟩:=sl b _ e1 (hs b hb)
  exact⟨s2,e2⟩
 free:=un.free
 there:=fun b o q hx=>by
  obtain⟨o',e1⟩:=un.there b o q hx
  by_cases z:b ∈ bt l
  ·obtain⟨s2,e2⟩:=sl b _ e1 z
   exact⟨_,e2⟩
  ·exact⟨_,kp b o' e1 z (.inr ⟨o,q⟩)⟩
 b5:=un.b5
 eW:=un.eW
 fB:=un.fB
end
section
variable {P:Program} {w:World} {K:PySem.W.Frag} {mg:Str->Option Value} {base:Heap} {N:List Str} {qual:Str} {scope:Scope} {f:Addr} {cd:Value} {A:Around} {outer:List Env} {s s2:Shared} {H H1:Hp} {E:XK} {pins:List (Addr × Obj)} {σ : St}
theorem ij (I:Inv (cw (cW P w) P w K mg base N qual scope f cd A outer s H E) pins σ H1 s2) {b:Addr} {u:Obj} (h:s.heap.get? b=some u):b ≠ s.heap.objs.size:=Nat.ne_of_lt (Heap.lt_size h)
theorem wz (I:Inv (cw (cW P w) P w K mg base N qual scope f cd A outer s H E) pins σ H1 s2) {h':Heap} {e:Addr} {cls:Value} {args:List Value} (hx:Heap.MadeExcOf s2.heap h' e cls args) (q:E cls none H1) :
  (cw (cW P w) P w K mg base N qual scope f cd A outer s H E).xe (.ref e) { s2 with heap:=h' }:=by
 have hst:=I.stack
 show wpAny (model P w) (A.deeper (envOfC qual scope s.heap.objs.size f cd)) (leaving (envOfC qual scope s.heap.objs.size f cd) (.ref e)) (fun _ s''=>lO P w outer H s E (.ref e) s'') (fun e' s''=>lO P w outer H s E e' s'') _
 have fL:(envOfC qual scope s.heap.objs.size f cd).frame=some s.heap.objs.size:=rfl
 have hstk:s2.heap.FunFrames base (envOfC qual scope s.heap.objs.size f cd :: outer):=hst
 have free:∀ b ∈ bt (envOfC qual scope s.heap.objs.size f cd :: outer),H1 b=none:=I.fZ
 refine wpAny_leaves_madeW (base:=hideAll s2.heap (bt (envOfC qual scope s.heap.objs.size f cd :: outer))) (outer:=outer) I.ok.frames fL (fun b o q=>of_hideAll _ q) (funFrames_hide hstk As) hx fun h'' t hfl htup ht hup=>?_
 have kp:∀ b o,s2.heap.get? b=some o->b ∉ bt (envOfC qual scope s.heap.objs.size f cd :: outer)->h''.get? b=some o:=fun b o e1 e2=>hfl.1 b o (hideAll_get _ e1 e2)
 have sl:∀ b o,s2.heap.get? b=some o->b ∈ bt (envOfC qual scope s.heap.objs.size f cd :: outer)->∃ sl,h''.get? b=some { o with slots:=sl }:=fun b o e1 e2=>by
  obtain⟨_,o',ho,hn⟩:=hstk.mem e2
  rw [e1] at ho;cases ho
  exact hup b o (hx.keeps b o e1) hn
 have ub:Un (bt outer) [] H H1 s.heap s2.heap:=I.base
 have nT:∀ b v,H1 b=some v->b ∉ bt (envOfC qual scope s.heap.objs.size f cd :: outer):=fun b v e1 e2=>by rw [free b e2] at e1;cases e1
 refine⟨e,cls,none,H1,rfl,I.os,I.bare,lP (ea:=e) (cls:=cls) (a0:=.none) (B:=h') (l:=envOfC qual scope s.heap.objs.size f cd :: outer) ub (fun b o e1 e2 _=>kp b o e1 e2) sl (fun b hb=>?_) (fun b hb=>(cc fL).mpr (.inr hb)),?_,⟨?_,?_,(fun _ z=>nomatch z),_,_,hfl,fun b o e1 e2 e3=>?_⟩,q⟩
 ·rcases (cc fL).mp hb with z | z
  ·right;rw [z];exact Heap.get?_none_of_le (Nat.le_refl _)
  ·exact .inl z
 ·exact bZ.ef I.au fun b u v e1 e2=>kp b u e2 (nT b v e1)
 ·cases z:H1 e with
  | none=>rfl
  | some v =>
   obtain⟨u,hu⟩:=(I.au e v z).get
   have:=hx.new
   rw [hu] at this;cases this
 ·cases z:s.heap.get? e with
  | none=>rfl
  | some u =>
   obtain⟨o',ho⟩:=ub.there e u z (by simp)
   have:=hx.new
   rw [ho] at this;cases this
 ·have nf:b ∉ bt (envOfC qual scope s.heap.objs.size f cd :: outer):=fun z=>by
   rcases (cc fL).mp z with y | y
   ·rcases e2 with ⟨v,hv⟩ | ⟨u,hu⟩
    ·exact nT b v hv z
    ·exact ij I hu y
   ·exact e3 y
  obtain⟨o2,ho2⟩:∃ o2,s2.heap.get? b=some o2:=by
   rcases e2 with ⟨v,hv⟩ | ⟨u,hu⟩
   ·exact (I.au b v hv).get
   ·exact ub.there b u hu (by simp)
  have:=kp b o2 ho2 nf
  rw [e1] at this;cases this
  exact hideAll_get _ ho2 nf
theorem Br:Passes (cW P w) (cw (cW P w) P w K mg base N qual scope f cd A outer s H E) E:=by
 intro pins σ H1 s2 e s3 I hc
 obtain⟨ea,cls,od,H',rfl,hos,hb,un,au,De,q⟩:=hc
 obtain⟨hn,hnew,hdic,B,a0,hfl,hk⟩:=De
 have hst:=I.stack
 have fL:(envOfC qual scope s.heap.objs.size f cd).frame=some s.heap.objs.size:=rfl
 have hfl:Heap.FlyingW B (envOfC qual scope s.heap.objs.size f cd :: outer) ea cls a0 s3.heap:=hfl
 have hk:∀ b o,s3.heap.get? b=some o->((∃ v,H' b=some v)\/∃ u,s2.heap.get? b=some u)->b ∉ bt (envOfC qual scope s.heap.objs.size f cd :: outer)->B.get? b=some o:=hk
 have un:Un (bt (envOfC qual scope s.heap.objs.size f cd :: outer)) [] H1 H' s2.heap s3.heap:=un
 have ub:Un (bt outer) [] H H1 s.heap s2.heap:=I.base
 have hstk:s2.heap.FunFrames base (envOfC qual scope s.heap.objs.size f cd :: outer):=hst
 have free:∀ b ∈ bt (envOfC qual scope s.heap.objs.size f cd :: outer),H1 b=none:=I.fZ
 have free':∀ b ∈ bt (envOfC qual scope s.heap.objs.size f cd :: outer),H' b=none:=fun b hb=>by
  obtain⟨_,o,ho,_⟩:=hstk.mem hb
  exact un.free b o ho (free b hb) (by simp)
 show wpAny (model P w) (A.deeper (envOfC qual scope s.heap.objs.size f cd)) (leaving (envOfC qual scope s.heap.objs.size f cd) (.ref ea)) (fun _ s''=>lO P w outer H s E (.ref ea) s'') (fun e' s''=>lO P w outer H s E e' s'') _
 refine wpAny_mono (fW i5 (wpAny_leaves_onW (E:=fun _ _=>False) (Q:=fun _ s4=>Heap.FlyingW B outer ea cls a0 s4.heap/\s3.heap.UpToSlots s4.heap/\s4.os=s3.os/\s4.gens=s3.gens) (outer:=outer) I.ok.frames fL hfl fun h'' z1 z2=>⟨z1,z2,rfl,rfl⟩)) (fun _ s4 z=>?_) fun _ _ z=>z.1.elim
 obtain⟨⟨hfl',hup,os4,gs4⟩,hds⟩:=z
 obtain⟨h'',g4,d4,t4,o4⟩:=s4
 dsimp only at hfl' hup hds os4 gs4
 have kp:∀ b o,s3.heap.get? b=some o->b ∉ bt (envOfC qual scope s.heap.objs.size f cd :: outer)->((∃ v,H' b=some v)\/∃ u,s2.heap.get? b=some u)->h''.get? b=some o:=fun b o e1 e2 e3=>hfl'.1 b o (hk b o e1 e3 e2)
 have sl:∀ b o,s3.heap.get? b=some o->b ∈ bt (envOfC qual scope s.heap.objs.size f cd :: outer)->∃ sl,h''.get? b=some { o with slots:=sl }:=fun b o e1 e2=>by
  obtain⟨_,o',ho,hn⟩:=hfl.2.2.1.mem e2
  rw [e1] at ho;cases ho
  exact hup b o e1 hn
 have nT:∀ b v,H' b=some v->b ∉ bt (envOfC qual scope s.heap.objs.size f cd :: outer):=fun b v e1 e2=>by rw [free' b e2] at e1;cases e1
 have old:∀ b u,s.heap.get? b=some u->∃ u,s2.heap.get? b=some u:=fun b u hu=>ub.there b u hu (by simp)
 have up:Un (bt outer) [] H H' s.heap s3.heap:=by
  refine⟨fun b o q n hb hx=>?_,fun b o q n hb hx=>?_,fun b o q n hx=>?_,fun b o q hx=>?_,fun b xs e=>un.b5 b xs (ub.b5 b xs e),fun b o xs e=>un.eW b o xs (ub.eW b o xs e),fun b ps e=>?_⟩
  ·exact un.keep b o (ub.keep b o q n hb hx) (ub.free b o q n hx) (fun z=>by
    rcases (cc fL).mp z with y | y
    ·exact ij I q y
    ·exact hb y) hx
  ·obtain⟨s1,e1⟩:=ub.slot b o q n hb hx
   obtain⟨s4,e2⟩:=un.slot b _ e1 (ub.free b o q n hx) ((cc fL).mpr (.inr hb)) hx
   exact⟨s4,e2⟩
  ·obtain⟨o',e1⟩:=ub.there b o q hx
   exact un.free b o' e1 (ub.free b o q n hx) hx
  ·obtain⟨o',e1⟩:=ub.there b o q hx
   exact un.there b o' e1 hx
  ·obtain⟨m1,e1⟩:=ub.fB b ps e
   obtain⟨m2,e2⟩:=un.fB b _ e1
   exact⟨m1++m2,by rw [e2,Array.append_assoc]⟩
 refine⟨ea,cls,od,H',rfl,os4.trans (hos.trans I.os),gs4 ▸ hb,lP (ea:=ea) (cls:=cls) (a0:=.none) (B:=B) (l:=envOfC qual scope s.heap.objs.size f cd :: outer) up (fun b o e1 e2 e3=>kp b o e1 e2 (e3.imp id fun ⟨u,hu⟩=>old b u hu)) sl (fun b hb=>?_) (fun b hb=>(cc fL).mpr (.inr hb)),?_,⟨hn,?_,fun dx z=>?_,B,a0,hfl',fun b o e1 e2 e3=>?_⟩,q⟩
 ·rcases (cc fL).mp hb with z | z
  ·right;rw [z];exact Heap.get?_none_of_le (Nat.le_refl _)
  ·exact .inl z
 ·exact bZ.ef au fun b u v e1 e2=>kp b u e2 (nT b v e1) (.inl ⟨v,e1⟩)
 ·cases z:s.heap.get? ea with
  | none=>rfl
  | some u =>
   obtain⟨o',ho⟩:=old ea u z
   rw [hnew] at ho;cases ho
 ·obtain⟨o1,q1,q2⟩:=hdic dx z
  obtain⟨o2,q3,q4⟩:=hds _ _ q1
  exact⟨o2,q3,q4.trans q2⟩
 ·have nf:b ∉ bt (envOfC qual scope s.heap.objs.size f cd :: outer):=fun z=>by
   rcases (cc fL).mp z with y | y
   ·rcases e2 with ⟨v,hv⟩ | ⟨u,hu⟩
    ·exact nT b v hv z
    ·exact ij I hu y
   ·exact e3 y
  have e2':(∃ v,H' b=some v)\/∃ u,s2.heap.get? b=some u:=e2.imp id fun ⟨u,hu⟩=>old b u hu
  obtain⟨o2,ho2⟩:∃ o2,s3.heap.get? b=some o2:=by
   rcases e2' with ⟨v,hv⟩ | ⟨u,hu⟩
   ·exact (au b v hv).get
   ·exact un.there b u hu (by simp)
  have z:=kp b o2 ho2 nf e2'
  rw [e1] at z;cases z
  exact hk b o ho2 e2' nf
end
theorem Bt {K:Frag} {h:Heap} {C:Addr} {bmB:List Value} {newId:String} (X:K.In h) (q:excIn K C bmB newId=true) :
  ∃ bm N nm qn bs hdct sn sub ab col dd k0 k1 k2 k3 k5 mN,h.get? C=some (excClassObj nm qn C N bs bm hdct sn sub ab col dd k0 k1 k2 k3 k5 newId)/\h.Ns N mN/\mN "__init__" = none/\OwnTail h bmB bm:=by
 unfold excIn at q
 split at q
 ·rename_i dd cd sl ho
  split at q
  ·rename_i C' bm k0 k1 k2 k3 n k5 hm hs
   simp only [Bool.and_eq_true,beq_iff_eq,Bool.not_eq_true'] at q
   obtain⟨⟨⟨⟨⟨e1,e2⟩,hdel⟩,ht⟩,au⟩,hni⟩:=q
   subst e1 e2
   obtain⟨nm,bs,mro,ns,qn,hd,sn,sub,ab,col,del⟩:=cd
   dsimp only at hm hdel au hni
   subst hm hdel
   obtain⟨l⟩:=sl
   simp only at hs
   subst hs
   exact⟨bm,ns,nm,qn,bs,hd,sn,sub,ab,col,dd,k0,k1,k2,k3,k5,_,X _ _ ho,.of_isNs (isNs_of_in X au),nsMap_none_of_in X au hni,tail_of_in X ht⟩
  ·cases q
 ·cases q
section
variable {X:Cx}
inductive ED (te:TE) (σ : St) (H:Hp) (Q:VK):Prop
 | mk (_:te σ H fun x H1=>∃ i:Int,x=.int i/\i.natAbs < 10 ^ 50/\∀ y:Str,y.length<=1000->Q (.str y) H1)
theorem vb {i:Int} (h:i.natAbs < 10 ^ 50):(Str.ofString (toString i)).length<=51:=by
 have e:=int_text_length_le10 (k:=50) (by decide) h
 have:(Str.ofString (toString i)).length=(toString i).length:=PySem.ofString_length _
 omega
theorem vc {i:Int} (h:i.natAbs < 10 ^ 50):i.natAbs.log2 < 1920:=by
 by_cases z:i.natAbs=0
 ·rw [z];decide
 ·exact (Nat.log2_lt z).mpr (Nat.lt_trans h (by decide +kernel))
theorem Df {a b:Str} {ka kb:Nat} {pa pb pe pos:Pos} {e:Expr} {te:TE} (he:PE X e te) (ha:a.length<=400:=by decide +kernel) (hb:b.length<=400:=by decide +kernel) :
  PE X (.JoinedStr [.Constant (.str a) ka pa,.FormattedValue e (-1) none pe,.Constant (.str b) kb pb] pos) (ED te):=by
 intro pins s σ H Q I h
 obtain⟨h⟩:=h
 have hz:1000<=sizeLine:=by decide
 refine JoinedStr_many (joinParts_cons (Calls.Constant_str ⟨?_,?_⟩))
 ·rw [strLen_append];show 0+_<=_;omega
 refine joinParts_cons (FormattedValue_plain (aU (he pins _ σ H _ (I.tok _) h) fun u s1 ⟨x,H1,I1,rx,i,hi,hl,q⟩=>?_))
 subst hi
 obtain⟨t,rfl⟩:=(show ∃ t,u=Value.int i t from rx)
 have hn:=vb hl
 refine formatField_int_small (vc hl) ⟨?_,?_⟩
 ·rw [strLen_append,strLen_append];show 0+_+(Str.ofString (toString i)).length<=_;omega
 refine joinParts_cons (Calls.Constant_str ⟨?_,?_⟩)
 ·rw [strLen_append,strLen_append,strLen_append];show 0+_+(Str.ofString (toString i)).length+_<=_;omega
 refine joinParts_nil ⟨.str _,H1,(I1.tok _),⟨_,rfl⟩,q _ ?_⟩ ?_
 ·rw [strLen_append,strLen_append,strLen_append];show 0+_+(Str.ofString (toString i)).length+_<=_;omega
 ·rw [strLen_append,strLen_append,strLen_append];show 0+_+(Str.ofString (toString i)).length+_<=_;omega
theorem Dg {a:Str} {ka:Nat} {pa pe pos:Pos} {e:Expr} {te:TE} (he:PE X e te) (ha:a.length<=400:=by decide +kernel) :
  PE X (.JoinedStr [.Constant (.str a) ka pa,.FormattedValue e (-1) none pe] pos) (ED te):=by
 intro pins s σ H Q I h
 obtain⟨h⟩:=h
 have hz:1000<=sizeLine:=by decide
 refine JoinedStr_many (joinParts_cons (Calls.Constant_str ⟨?_,?_⟩))
 ·rw [strLen_append];show 0+_<=_;omega
 refine joinParts_cons (FormattedValue_plain (aU (he pins _ σ H _ (I.tok _) h) fun u s1 ⟨x,H1,I1,rx,i,hi,hl,q⟩=>?_))
 subst hi
 obtain⟨t,rfl⟩:=(show ∃ t,u=Value.int i t from rx)
 have hn:=vb hl
 refine formatField_int_small (vc hl) ⟨?_,?_⟩
 ·rw [strLen_append,strLen_append];show 0+_+(Str.ofString (toString i)).length<=_;omega
 refine joinParts_nil ⟨.str _,H1,(I1.tok _),⟨_,rfl⟩,q _ ?_⟩ ?_
 ·rw [strLen_append,strLen_append];show 0+_+(Str.ofString (toString i)).length<=_;omega
 ·rw [strLen_append,strLen_append];show 0+_+(Str.ofString (toString i)).length<=_;omega
end
section
variable {P:Program} {w:World} {K:PySem.W.Frag} {mg:Str->Option Value} {base:Heap} {N:List Str} {qual:Str} {scope:Scope} {f:Addr} {cd:Value} {A:Around} {outer:List Env} {s:Shared} {H:Hp} {E:XK}
inductive Dh (C:Addr) (E:XK) (t:TA) (D:Ends) (σ : St) (H:Hp):Prop
 | mk (_:t σ H fun vs H1=>vs.length<=1000/\E (.ref C) none H1)
theorem zF {x:Str} {C:Addr} {e:Expr} {es:List Expr} {t:TA} {np cpos pos:Pos} (T:sG K C) (hm:mg x=some (.ref C))
  (ha:PA (cw (cW P w) P w K mg base N qual scope f cd A outer s H E) (e :: es) t)
  (hg:Gl (cw (cW P w) P w K mg base N qual scope f cd A outer s H E) x:=by rfl) (hdb:(x == ("__debug__" : Str))=false:=by decide)
  (he:starEach (e :: es) (cw (cW P w) P w K mg base N qual scope f cd A outer s H E).env=(false,eval e (cw (cW P w) P w K mg base N qual scope f cd A outer s H E).env) :: starEach es (cw (cW P w) P w K mg base N qual scope f cd A outer s H E).env:=by rfl)
  (hpl:(backTo cpos (starEach es (cw (cW P w) P w K mg base N qual scope f cd A outer s H E).env)).any (·.1)=false:=by rfl) :
  PS (cw (cW P w) P w K mg base N qual scope f cd A outer s H E) (.Raise (some (.Call (.Name x np) (e :: es) [] cpos)) none pos) (Dh C E t):=by
 intro pins s1 σ H1 D I h
 obtain⟨h⟩:=h
 obtain⟨bm,N',nm,qn,bs,hdct,sn,sub,ab,col,dd,k0,k1,k2,k3,k5,mN,hC,hN,hni,T1⟩:=Bt (h:=base) I.ok.mod.qY T.ok
 refine wpAny_Raise_call_subU (C:=C) (N:=N') (nm:=nm) (q:=qn) (bs:=bs) (bm:=bm) (hdct:=hdct) (sn:=sn) (sub:=sub) (ab:=ab) (col:=col) (dd:=dd) (k0:=k0) (k1:=k1) (k2:=k2) (k3:=k3) (k5:=k5) (mN:=mN) PySem.F.excBase_ValueError PySem.F.excBase_ValueError.hasB PySem.F.excBase_ValueError (T1.hasType PySem.F.excBase_ValueError.hasBase) (I.ok.hd rfl) (by rw [he];show (false || _)=false;exact hpl) hni ?_
 refine gK I hg hm ⟨rfl,?_⟩ hdb
 have ha':=ha cpos pins s1 σ H1 _ I h
 rw [he] at ha' ⊢
 refine Calls.evalArgs_plain (aU ha' fun us s2 ⟨vs,H2,I2,r,hl,q⟩=>?_)
 have bk:∀ b o,base.get? b=some o->s2.heap.get? b=some o:=I2.bk
 refine⟨rfl,?_,bk _ _ hC,hN.keeps bk,T1.keeps bk,fun h' e hx=>wz I2 hx q⟩
 show us.length<=sizeLine
 rw [<-r.length]
 exact Nat.le_trans hl (by decide)
end
structure pK (P:Program) (w:World) (K:PySem.W.Frag) (mg:Str->Option Value) (base:Heap) (x:Str) (k:Nat) (ps:List Str) (sp:Sp):Prop where
 ex:∃ f fd,aZ P w K mg base (cW P w) k f fd ps sp/\mg x=some (.ref f)/\PySem.W.keepIn K (.ref f)=true/\Binds K fd ps []
structure wA (P:Program) (w:World) (K:PySem.W.Frag) (mg:Str->Option Value) (base:Heap) (C:Addr) (x:Str) (k:Nat) (ps:List Str) (sp:Sp):Prop where
 ex:∃ f fd,aZ P w K mg base (cW P w) k f fd ps sp/\Mk K C f/\mg x=some (.ref C)/\Binds K fd ps []
section
variable {X:Cx} {C:Addr} {x:Str} {k m:Nat} {ps:List Str} {sp:Sp} {e:Expr} {es:List Expr} {t:TA} {p pos:Pos} {E:XK}
theorem oO (o:pK X.prog X.w X.K X.mg X.base x k ps sp) (hx:Passes (cW X.prog X.w) X E) (hr:b6 m X.A) (ha:PA X (e :: es) t) (hk:k<=m:=by decide) (hg:Gl X x:=by rfl) (hdb:(x == ("__debug__" : Str))=false:=by decide)
  (he:starEach (e :: es) X.env=(false,eval e X.env) :: starEach es X.env:=by rfl) (hpl:(backTo pos (starEach es X.env)).any (·.1)=false:=by rfl):PE X (.Call (.Name x p) (e :: es) [] pos) (qQ sp [] E t):=by
 obtain⟨f,fd,F,hm,hk',hb⟩:=o.ex
 exact uC F (hr.mono hk) hg hm hk' hb .nil hx ha hdb he hpl
theorem Bu (o:wA X.prog X.w X.K X.mg X.base C x k ps sp) (hx:Passes (cW X.prog X.w) X E) (hr:b6 m X.A) (ha:PA X (e :: es) t) (hk:k+1<=m:=by decide) (hg:Gl X x:=by rfl) (hdb:(x == ("__debug__" : Str))=false:=by decide)
  (he:starEach (e :: es) X.env=(false,eval e X.env) :: starEach es X.env:=by rfl) (hpl:(backTo pos (starEach es X.env)).any (·.1)=false:=by rfl):PE X (.Call (.Name x p) (e :: es) [] pos) (Ab C sp [] E t):=by
 obtain⟨f,fd,F,M,hm,hb⟩:=o.ex
 exact AQ M F (hr.mono hk) hg hm hb .nil hx ha hdb he hpl
end
section
variable {P:Program} {w:World} {K:PySem.W.Frag} {mg:Str->Option Value} {base:Heap}
theorem bT.Di {x qual:Str} {st:Stmt} {f:Addr} {fd:FuncData} {N ps:List Str} {k:Nat} {sp:Sp} (F:bT K x qual st f fd) (S:aM N ps (ax st)) (len:∀ vs H Q E,sp vs H Q E->vs.length=ps.length)
  (hbody:∀ (cdv:Value) (A:Around) (outer:List Env) (s:Shared) (H:Hp) (vs:List V) (Q:VK) (E:XK),b6 k (A.deeper (envOfC qual (ax st) s.heap.objs.size f cdv))->sp vs H Q E ->
   ∃ t,gc (cw (cW P w) P w K mg base N qual (ax st) f cdv A outer s H E) (cI st) t/\t { nx:=fun _ H'=>Q .aW H',rt:=Q } (start N vs) H):aZ P w K mg base (cW P w) (k+1) f fd ps sp:=by
 obtain⟨oc,od,kV,doc,pm,an,cdv,ct,osl,rfl,lk,hcd⟩:=F.ex
 exact Ac lk hcd S len fun A outer s H vs Q E hr hsp=>hbody cdv A outer s H vs Q E hr hsp
end
section
variable {X:Cx}
def Cx.tries (X:Cx) (pn:List (Addr × Obj)) (xe:Value->Shared->Prop):Cx:={ X with pn:=pn,xe:=xe }
def Cx.fc (X:Cx) (e:Addr):Cx:={ X with A:=X.A.mark (some (.ref e)),calm:=false,xe:=fun _ _=>False }
theorem Cx.Ok.tries {pn:List (Addr × Obj)} {xe:Value->Shared->Prop} (ok:X.Ok):(X.tries pn xe).Ok :=
 ⟨ok.mod,ok.kind,ok.glob,ok.blt,ok.above,ok.inj,ok.has,ok.mG,ok.hd,ok.frames,ok.nW,ok.rg,ok.bs,ok.jg,ok.jv,ok.j7,ok.eX,ok.kP⟩
theorem Cx.Ok.gr {pn:List (Addr × Obj)} {xe:Value->Shared->Prop} (ok:(X.tries pn xe).Ok):X.Ok :=
 ⟨ok.mod,ok.kind,ok.glob,ok.blt,ok.above,ok.inj,ok.has,ok.mG,ok.hd,ok.frames,ok.nW,ok.rg,ok.bs,ok.jg,ok.jv,ok.j7,ok.eX,ok.kP⟩
theorem Cx.Ok.fc {e:Addr} (ok:X.Ok):(X.fc e).Ok :=
 ⟨ok.mod,ok.kind,ok.glob,ok.blt,ok.above,ok.inj,ok.has,ok.mG,(fun z=>nomatch z),ok.frames,ok.nW,ok.rg,ok.bs,ok.jg,ok.jv,ok.j7,ok.eX,ok.kP⟩
variable {pins:List (Addr × Obj)} {σ : St} {H:Hp} {s:Shared}
theorem Inv.tries {xe:Value->Shared->Prop} (I:Inv X pins σ H s):Inv (X.tries (X.pn++pins) xe) [] σ H s :=
 ⟨I.ok.tries,I.os,I.bare,I.base,I.loc,I.cell,I.free,I.cT,fun p hp=>I.pin p (by rw [List.append_nil] at hp;exact hp),I.au,I.len⟩
theorem Inv.gr {xe:Value->Shared->Prop} {pins':List (Addr × Obj)} (I:Inv (X.tries (X.pn++pins) xe) pins' σ H s):Inv X pins σ H s :=
 ⟨I.ok.gr,I.os,I.bare,I.base,I.loc,I.cell,I.free,I.cT,fun p hp=>I.pin p (List.mem_append_left _ hp),I.au,I.len⟩
theorem Inv.fc {e:Addr} (I:Inv X pins σ H s):Inv (X.fc e) pins σ H s:=⟨I.ok.fc,I.os,I.bare,I.base,I.loc,I.cell,I.free,I.cT,I.pin,I.au,I.len⟩
theorem Inv.uncaught {e:Addr} (ok:X.Ok) (I:Inv (X.fc e) pins σ H s):Inv X pins σ H s:=⟨ok,I.os,I.bare,I.base,I.loc,I.cell,I.free,I.cT,I.pin,I.au,I.len⟩
theorem tV {M:Model} {A:Around} {E:Value->Shared->Prop} {K:Frag} {e CE C:Addr} {Q:Bool->Shared->Prop} (KI:K.In s.heap) (I:fw s.heap e CE) (hb:mroIn K C (.type "BaseException")=some true) (ht:typeIn K (.ref C)=some (.type "type")) (hs:mroIn K CE (.ref C)=some true) (hq:Q true s) :
  wpAny M A (excMatches (.ref e) (.ref C)) Q E s:=by
 have T0:=I.ty (M:=M)
 have T1:=looks_mroIn (M:=M) KI hb
 have T2:=looks_mroIn (M:=M) KI hs
 have T3:=looks_typeIn (M:=M) KI ht
 have f:=tc_notTuple
 obtain⟨cd,hc,_⟩:=Option.bind_eq_some_iff.mp hb
 have lk:∃ c d sl,K.lookup C=some ⟨c,d,.cls cd,sl⟩:=by
  unfold clsIn at hc
  split at hc
  ·rename_i ho;cases hc;exact⟨_,_,_,ho⟩
  ·cases hc
 obtain⟨c',d',sl',ho⟩:=lk
 have hC:=KI _ _ ho
 obtain⟨hh,g,d,t,os⟩:=s
 unfold excMatches
 repeat (any_goals (first | assumption | (with_reducible refine T0.at ?_) | (with_reducible refine T1.at ?_) | (with_reducible refine T2.at ?_) | (with_reducible refine T3.at ?_) | (with_reducible refine wpAny_loadPart_at hC ?_) | wp_step))
theorem Inv.Au {e:Addr} {o:HO} (I:Inv X pins σ H s) (n0:X.b0.heap.get? e=none) (nL:e ≠ X.env.locals) (nC:∀ x c,X.env.cells.lookup x=some c->c ≠ e) (nP:∀ p ∈ X.pn++pins,p.1 ≠ e) (he:H e=none) (new:bw X.prog X.w (upd H e o) s.heap e o):Inv X pins σ (upd H e o) s:=by
 have hb:∀ b u,H b=some u->(upd H e o) b=some u:=fun b u q=>by rw [ar (aX q he)];exact q
 refine⟨I.ok,I.os,I.bare,⟨I.base.keep,I.base.slot,fun b u q n hx=>?_,I.base.there,fun b xs q=>hb _ _ (I.base.b5 b xs q),fun b u xs q=>hb _ _ (I.base.eW b u xs q),fun b ps q=>?_⟩,I.loc,I.cell,?_,fun x c q=>?_,fun p hp=>?_,fun b u q=>?_,I.len⟩
 ·rw [ar (fun z=>by rw [z,n0] at q;cases q)];exact I.base.free b u q n hx
 ·obtain⟨m,q'⟩:=I.base.fB b ps q
  exact⟨m,hb _ _ q'⟩
 ·rw [ar (Ne.symm nL)];exact I.free
 ·rw [ar (nC x c q)];exact I.cT x c q
 ·obtain⟨a,b,c⟩:=I.pin p hp
  exact⟨a,by rw [ar (nP p hp)];exact b,c⟩
 ·by_cases z:b=e
  ·subst z;rw [aa] at q;cases q;exact new
  ·rw [ar z] at q
   exact (I.au b u q).iJ (fun _ _ _ q=>q) (fun c q=>hb _ _ q) fun c xs q=>hb _ _ q
theorem jr {M:Model} {A:Around} {E:Value->Shared->Prop} {i:Nat} {n:Str} {pos:Pos} {Q:Unit->Shared->Prop} (I:Inv X pins σ H s) (hN:X.N.Nodup) (hi:X.N[i]? = some n) (hl:X.env.kindOf n=some .local)
  (h:∀ s',Inv X pins (σ.set i none) H s'->Q () s'):wpAny M A (do bindName X.env n .none;unbindBehindTheSuite X.env n pos) Q E s:=by
 obtain⟨m,hn,hl'⟩:=id I.loc
 have hcls:(X.env.scope.kind == .class || (X.env.scope.kind == .module && X.env.locals != X.env.globals))=false:=by rw [I.ok.kind];rfl
 refine wpAny_nameGoes_keeps hl hn hcls fun h' v hn' hs=>h _ ?_
 have oldne:∀ b o,X.b0.heap.get? b=some o->b ≠ X.env.locals:=fun b o e=>Nat.ne_of_lt (Nat.lt_of_lt_of_le (Heap.lt_size e) I.ok.above)
 refine⟨I.ok,I.os,I.bare,⟨fun b o e n hb hx=>(hs.2 b (oldne b o e)).trans (I.base.keep b o e n hb hx),fun b o e n hb hx=>?_,I.base.free,fun b o e hx=>?_,I.base.b5,I.base.eW,I.base.fB⟩,⟨_,hn',fun j y v' e1 e2 e3=>?_⟩,fun y c e=>?_,I.free,I.cT,fun p hp=>?_,fun b ob e=>?_,by simpa using I.len⟩
 ·obtain⟨sl,e1⟩:=I.base.slot b o e n hb hx
  exact⟨sl,(hs.2 b (oldne b o e)).trans e1⟩
 ·obtain⟨o',e1⟩:=I.base.there b o e hx
  exact⟨o',(hs.2 b (oldne b o e)).trans e1⟩
 ·by_cases hj:j=i
  ·subst hj
   have hlt:j < σ.length:=by rw [I.len];exact (List.getElem?_eq_some_iff.mp hi).1
   rw [List.getElem?_set_self hlt] at e2
   cases e2
  ·rw [List.getElem?_set_ne (Ne.symm hj)] at e2
   obtain⟨u',r',q⟩:=hl' j y v' e1 e2 e3
   refine⟨u',r',?_⟩
   rcases q with ⟨k,e⟩ | ⟨k,c,e,z⟩
   ·refine .inl ⟨k,?_⟩
    have:y ≠ n:=fun e=>hj (mV hN e1 (e ▸ hi))
    simp [this,e]
   ·exact .inr ⟨k,c,e,z.sameBut hs (I.nX y c e)⟩
 ·obtain⟨w',z⟩:=I.cell y c e
  exact⟨w',z.sameBut hs (I.nX y c e)⟩
 ·obtain⟨e,n,ne,nf,d⟩:=I.pin p hp
  exact⟨(hs.2 p.1 ne).trans e,n,ne,nf,d⟩
 ·have fr:=I.free
  refine (I.au b ob e).iJ (fun c w' hc q=>(hs.2 c ?_).trans q) (fun _ q=>q) fun _ _ q=>q
  rintro rfl
  rcases hc with rfl | hc
  ·rw [fr] at e;cases e
  ·rw [fr] at hc;cases hc
def ve (i:Nat) (D:Ends):Ends:={ nx:=fun σ H=>D.nx (σ.set i none) H,rt:=D.rt,bk:=fun σ H=>D.bk (σ.set i none) H,ct:=fun σ H=>D.ct (σ.set i none) H }
end
theorem qI:bootBuiltins "ValueError" = some (.type "ValueError"):=by decide +kernel
section
variable {P:Program} {w:World} {K:PySem.W.Frag} {mg:Str->Option Value} {base h:Heap} {x q m:Str} {st:Stmt} {f C:Addr} {fd:FuncData} {k:Nat} {ps:List Str} {sp:Sp}
theorem vf (P:Program) (w:World) (base:Heap) (X:K.In h) (G:h.Ns mainGlobals mg) (d:bI K x st f fd) (o:aZ P w K mg base (cW P w) k f fd ps sp) (b:jo x x st ps):pK P w K mg base x k ps sp:=⟨⟨_,_,o,PySem.W.mg_of X G d.a,d.F.kp,d.F.binds b⟩⟩
theorem zG (P:Program) (w:World) (base:Heap) (X:K.In h) (G:h.Ns mainGlobals mg) (aC:PySem.W.nsIn K mainGlobals m=some (some (.ref C))) (mk:PySem.W.makesIn K C=true) (kc:PySem.W.keepIn K (.ref C)=true) (d:kh K C "__init__" q st f fd) (o:aZ P w K mg base (cW P w) k f fd ps sp) (b:jo "__init__" q st ps):wA P w K mg base C m k ps sp:=⟨⟨_,_,o,⟨mk,d.a,d.i,kc⟩,PySem.W.mg_of X G aC,d.F.binds b⟩⟩
end
abbrev yd:List Value:=[.type "ValueError",.type "Exception",.type "BaseException",.type "object"]
section
variable {X:Cx}
theorem Inv.exc {pins:List (Addr × Obj)} {σ : St} {H:Hp} {s:Shared} {h':Heap} {e:Addr} {cls:Value} {us:List Value} {o:HO} (I:Inv X pins σ H s) (hx:Heap.MadeExcOf s.heap h' e cls us) (hex:X.ex = []) (new:bw X.prog X.w (upd H e o) h' e o):H e=none/\Inv X pins σ (upd H e o) { s with heap:=h' }:=by
 have J:Inv X pins σ H { s with heap:=h' }:=I.kept (t':=s.toks) hx.keeps
 have ne:∀ b u,s.heap.get? b=some u->b ≠ e:=fun b u q z=>by rw [z,hx.new] at q;cases q
 have he:H e=none:=by
  cases z:H e with
  | none=>rfl
  | some v=>obtain⟨u,hu⟩:=(I.au e v z).get;exact absurd rfl (ne e u hu)
 refine⟨he,J.Au ?_ ?_ (fun x c q=>?_) (fun p hp=>?_) he new⟩
 ·cases z:X.b0.heap.get? e with
  | none=>rfl
  | some u =>
   obtain⟨o',q⟩:=I.base.there e u z (by rw [hex];exact fun z=>nomatch z)
   exact absurd rfl (ne e o' q)
 ·obtain⟨m,⟨o,_,_,ho,_⟩,_⟩:=I.loc
  exact (ne _ o ho).symm
 ·obtain⟨v,o,ho,_⟩:=I.cell x c q
  exact ne c o ho
 ·exact ne p.1 p.2 (I.pin p hp).1
end
theorem wB {K:Frag} {h:Heap} {N:Addr} {mN:Str->Option Value} {n:Str} {v:Value} (X:K.In h) (G:h.Ns N mN) (e:nsIn K N n=some (some v)):mN n=some v:=by
 obtain⟨o,es,ep,ho,hd,_,hf⟩:=G;unfold nsIn at e;split at e
 ·rename_i q
  have z:=X _ _ q;rw [ho] at z;cases z;cases hd;split at e
  ·rename_i he
   cases e;rw [<-hf];unfold nsFind findBy;rw [<-Array.find?_toList,he];rfl
  ·split at e <;> cases e
 ·cases e
def i6 (K:Frag) (C:Addr) (f:Addr):Bool:=match K.lookup C with
 | some ⟨.type "type",_,.cls cd,sl⟩=>(match cd.mro,sl.toList with
  | .ref D :: bm,[_,_,_,_,some (.builtin n),_]=>D == C && (n == "ValueError.__new__" && (!cd.hasDel && (tailIn K yd bm && (nsOkIn K cd.ns && nsIn K cd.ns "__init__" == some (some (.ref f))))))
  | _,_=>false)
 | _=>false
theorem sH {K:Frag} {h:Heap} {C f:Addr} (X:K.In h) (q:i6 K C f=true) :
  ∃ bm N nm qn bs hdct sn sub ab col dd k0 k1 k2 k3 k5 mN,h.get? C=some (excClassObj nm qn C N bs bm hdct sn sub ab col dd k0 k1 k2 k3 k5 "ValueError.__new__")/\h.Ns N mN/\mN "__init__" = some (.ref f)/\OwnTail h yd bm:=by
 unfold i6 at q
 split at q
 ·rename_i dd cd sl ho
  split at q
  ·rename_i C' bm k0 k1 k2 k3 n k5 hm hs
   simp only [Bool.and_eq_true,beq_iff_eq,Bool.not_eq_true'] at q
   obtain⟨e1,e2,hdel,ht,au,hni⟩:=q
   subst e1 e2
   obtain⟨nm,bs,mro,ns,qn,hd,sn,sub,ab,col,del⟩:=cd
   dsimp only at hm hdel au hni
   subst hm hdel
   obtain⟨l⟩:=sl
   simp only at hs
   subst hs
   exact⟨bm,ns,nm,qn,bs,hd,sn,sub,ab,col,dd,k0,k1,k2,k3,k5,_,X _ _ ho,.of_isNs (isNs_of_in X au),wB X (.of_isNs (isNs_of_in X au)) hni,tail_of_in X ht⟩
  ·cases q
 ·cases q
section
variable {prog:Program} {w:World} {A:Around} {E:Value->Shared->Prop} {h:Heap} {g:Array GenState} {d:Drawn} {t:Nat} {os:OsState}
variable {nm q:Str} {C N:Addr} {bs bm:List Value} {hdct:Bool} {sn:List Str} {sub:List Value} {ab:Bool} {col:Option Bool} {dd:Option Addr} {k0 k1 k2 k3 k5:Option Value}
theorem tW (T:OwnTail h yd bm) {mN:Str->Option Value} {rest:List Value} {fI:Addr} {oI:Obj} {Q:Fin->Shared->Prop}
  (hC:h.get? C=some (excClassObj nm q C N bs bm hdct sn sub ab col dd k0 k1 k2 k3 k5 "ValueError.__new__")) (hn:h.Ns N mN) (hi:mN "__init__" = some (.ref fI)) (hfI:h.get? fI=some oI) (hfc:oI.cls=.type "function")
  (hq:∀ h' e,Heap.MadeExcOf h h' e (.ref C) rest->wpAny (model prog w) A (call (.ref fI) (.ref e :: rest)) (fun r s'=>r=.none/\Q (.done (.ret (.ref e))) s') E ⟨h',g,d,t,os⟩) (hrest:rest.length<=sizeLine) :
  wpAny (model prog w) A (Builtin.«type.__call__» ⟨.ref C :: rest,[]⟩) Q E ⟨h,g,d,t,os⟩:=by
 repeat (first | with_reducible refine wpAny_loadPart_at hC ?_ | with_reducible refine wpAny_madeBy_exc hC ?_ | wp_step)
 refine codeAny_call_builtin_code (Code.quiet_builtin _ PySem.F.excBase_ValueError.quiet) (wpAny_check_new_subU PySem.F.excBase_ValueError PySem.F.excBase_ValueError.hasB T hC ?_)
 refine codeAny_exc_new_subU PySem.F.excBase_ValueError PySem.F.excBase_ValueError.hasB PySem.F.excBase_ValueError T hC ?_ hrest
 show wpAny _ _ _ _ _ _
 generalize hh1:(h.push { cls:=.type "tuple",data:=.seq rest.toArray }).push { cls:=.ref C,data:=.fields #[.ref h.objs.size,.none,.none,.none,.bool false,.none] }=h1
 have kk:∀ b o,h.get? b=some o->h1.get? b=some o:=fun b o e=>by rw [<-hh1];exact Heap.get?_push_of_some _ (Heap.get?_push_of_some _ e)
 have hget:h1.get? (h.objs.size+1)=some { cls:=.ref C,data:=.fields #[.ref h.objs.size,.none,.none,.none,.bool false,.none] }:=by rw [<-hh1];heap_get
 have htup:h1.get? h.objs.size=some { cls:=.type "tuple",data:=.seq rest.toArray }:=by rw [<-hh1];exact Heap.get?_push_of_some _ (Heap.get?_push_at rfl rfl)
 have hC1:=kk _ _ hC
 have hcC:(Value.ref C :: bm).contains (.ref C)=true:=by simp
 unfold isInstance
 repeat (first | with_reducible refine wpAny_loadPart_at hget ?_ | (with_reducible refine wpAny_isSubtype_exc hC1 ?_;rw [hcC]) | wp_step)
 show wpAny _ _ (typeLookup (.ref C) _) _ _ _
 refine wpAny_typeLookup_tail hC1 (hn.keeps kk) (T.keeps kk) PySem.F.excBase_ValueError.mroIs PySem.F.excBase_ValueError.init.lookup ?_
 rw [hi]
 refine wpAny_holding (wpAny_bind ?_)
 unfold bindSpecial
 refine wpAny_bind (wpAny_typeOf (T := "function") ⟨_,kk _ _ hfI,hfc⟩ ?_)
 rw [if_pos (by decide)]
 refine wpAny_pure (wpAny_bind (wpAny_mono (hq _ (h.objs.size+1) ⟨kk,Heap.get?_none_of_le (Nat.le_succ _),h.objs.size,hget,Heap.get?_none_of_le (Nat.le_refl _),htup⟩) (fun r s' hr=>?_) fun _ _ x=>x))
 obtain⟨rfl,hQ⟩:=hr
 wp_walk
 exact hQ
theorem wC (T:OwnTail h yd bm) {mN:Str->Option Value} {rest:List Value} {fI:Addr} {oI:Obj} {Q:Value->Shared->Prop}
  (hC:h.get? C=some (excClassObj nm q C N bs bm hdct sn sub ab col dd k0 k1 k2 k3 k5 "ValueError.__new__")) (hn:h.Ns N mN) (hi:mN "__init__" = some (.ref fI)) (hfI:h.get? fI=some oI) (hfc:oI.cls=.type "function")
  (hq:∀ h' e,Heap.MadeExcOf h h' e (.ref C) rest->wpAny (model prog w) (A.under (.builtin "type.__call__" ⟨.ref C :: rest,[]⟩)) (call (.ref fI) (.ref e :: rest)) (fun r s'=>r=.none/\Q (.ref e) s') E ⟨h',g,d,t,os⟩) (hrest:rest.length<=sizeLine) :
  wpAny (model prog w) A (call (.ref C) rest) Q E ⟨h,g,d,t,os⟩:=by
 have f1:=tc_lookup
 have f2:=tc_bind (.ref C)
 have hT:(⟨h,g,d,t,os⟩:Shared).TypeIs (.ref C) "type" := ⟨_,hC,rfl⟩
 refine wpAny_call (codeAny_of_tree ?_)
 show wpAny _ _ (callAny (.ref C) _) _ _ _
 repeat (any_goals (first | assumption | with_reducible refine wpAny_loadPart_at hC ?_ | wp_step))
 refine⟨rfl,?_⟩
 refine codeAny_call_builtin_at (Code.quiet_builtin _ (by decide +kernel)) entry_typeCall (wpAny_check_type_call_sub hC (tW T hC hn hi hfI hfc (fun h' e hm=>?_) hrest))
 exact hq h' e hm
end
def i7 (e C:Addr):HO:=.ext fun h=>∃ t0:Addr,h.get? e=some { cls:=.ref C,data:=.fields #[.ref t0,.none,.none,.none,.bool false,.none] }
def jA (e C dx:Addr):HO:=.ext fun h=>∃ t0:Addr,h.get? e=some { cls:=.ref C,dict:=some dx,data:=.fields #[.ref t0,.none,.none,.none,.bool false,.none] }
theorem vg {P:Program} {w:World} {H:Hp} {h:Heap} {e C:Addr} (ok:bZ P w H h) (he:H e=some (i7 e C)):∃ t0:Addr,h.get? e=some { cls:=.ref C,data:=.fields #[.ref t0,.none,.none,.none,.bool false,.none] }:=(show bw P w H h e (i7 e C) from ok e _ he).1
theorem vh {P:Program} {w:World} {H:Hp} {h:Heap} {e C dx:Addr} (ok:bZ P w H h) (he:H e=some (jA e C dx)):∃ t0:Addr,h.get? e=some { cls:=.ref C,dict:=some dx,data:=.fields #[.ref t0,.none,.none,.none,.bool false,.none] }:=(show bw P w H h e (jA e C dx) from ok e _ he).1
theorem vi {P:Program} {w:World} {H:Hp} {h:Heap} {e C t0:Addr} (q:h.get? e=some { cls:=.ref C,data:=.fields #[.ref t0,.none,.none,.none,.bool false,.none] }):bw P w H h e (i7 e C) :=
 ⟨⟨t0,q⟩,⟨_,q⟩,fun _ _ ⟨t0,q⟩ k=>⟨t0,k _ q⟩⟩
theorem Bv {P:Program} {w:World} {H:Hp} {h:Heap} {e C dx t0:Addr} (q:h.get? e=some { cls:=.ref C,dict:=some dx,data:=.fields #[.ref t0,.none,.none,.none,.bool false,.none] }):bw P w H h e (jA e C dx) :=
 ⟨⟨t0,q⟩,⟨_,q⟩,fun _ _ ⟨t0,q⟩ k=>⟨t0,k _ q⟩⟩
structure Fj (K:Frag) (C f:Addr):Prop where
 ok:i6 K C f=true
 fn:isFn K (.ref f)=true
 kp:keepIn K (.ref C)=true
structure wF (P:Program) (w:World) (K:PySem.W.Frag) (mg:Str->Option Value) (base:Heap) (C:Addr) (x:Str) (k:Nat) (ps:List Str) (sp:Sp):Prop where
 ex:∃ f fd,aZ P w K mg base bS k f fd ps sp/\Fj K C f/\mg x=some (.ref C)/\Binds K fd ps []
section
variable {X:Cx} {C:Addr} {x:Str} {k m:Nat} {ps:List Str} {sp:Sp} {e:Expr} {es:List Expr} {t:TA} {p pos:Pos}
end
structure Dj (K:Frag) (C:Addr):Prop where
 ga:specialIn K (.ref C) "__getattribute__" = some (some (.builtin "type.__getattribute__"))
 rd:readsIn K C (.type "type")=true
 fi:findCls K (.ref C) (.type "type") "__init__" = some (.val (.builtin "ValueError.__init__"))
section
variable {X:Cx} {C cP f:Addr} {x:Str} {e:Expr} {es:List Expr} {t:TA} {p pos apos:Pos}
inductive Dk (C:Addr) (t:TA) (σ : St) (H:Hp) (Q:VK):Prop
 | mk (_:t σ H fun vs H1=>∃ e rest,vs=.ref e :: rest/\rest.length<=1000/\H1 e=some (i7 e C)/\Q .aW H1)
theorem zH {pl:Sem Bool} (T:Dj X.K cP) (TI:i6 X.K C f=true) (hm:X.mg x=some (.ref cP)) (ha:PA X (e :: es) t) (hg:Gl X x:=by rfl) (hdb:(x == ("__debug__" : Str))=false:=by decide)
  (he:starEach (e :: es) X.env=(false,eval e X.env) :: starEach es X.env:=by rfl) (hpl:(backTo pos (starEach es X.env)).any (·.1)=false:=by rfl)
  (ht:eval (.Call (.Attribute (.Name x p) "__init__" apos) (e :: es) [] pos) X.env=(do
   let ov <-eval (.Name x p) X.env
   standAt apos.atName
   let (f,first) <-holding [ov] (getMethod ov "__init__" pl)
   callWith pos f first (backTo pos (starEach (e :: es) X.env)) (backToKw pos (keywordEach [] X.env))):=by rfl) :
  PE X (.Call (.Attribute (.Name x p) "__init__" apos) (e :: es) [] pos) (Dk C t):=by
 intro pins s σ H Q I h
 obtain⟨h⟩:=h
 refine PySem.W.methodCall_KW (pl:=pl) (gK I hg hm ?_ hdb) ht
 refine method_cls I.cy T.ga (cls_value I.cy T.rd T.fi rfl ?_)
 refine PyProof.Rows.callWith_builtin1 (aU (ha pos pins _ σ H _ (I.tok _) h) fun us s1 ⟨vs,H1,I1,r,e0,rest,hv,hl,hN,q⟩=>?_) he hpl
 subst hv
 obtain⟨u0,us',rfl,ru,rr⟩:∃ u0 us',us=u0 :: us'/\RelV (.ref e0) u0/\Vals rest us':=by cases r with | cons a b=>exact⟨_,_,rfl,a,b⟩
 cases (show u0=Value.ref e0 from ru)
 obtain⟨t0,hget⟩:=vg I1.au hN
 obtain⟨bm,N',nm,qn,bs,hdct,sn,sub,ab,col,dd,k0,k1,k2,k3,k5,mN,hC,hNs,hni,T1⟩:=sH (h:=s1.heap) I1.cy TI
 have hl2:us'.length<=sizeLine:=by rw [<-rr.length];exact Nat.le_trans hl (by decide)
 obtain⟨hh,g,d,tk,os⟩:=s1
 refine wpAny_call (codeAny_call_builtin PySem.F.excBase_ValueError.init.plain PySem.F.excBase_ValueError.initEntry (wpAny_check_init_subU PySem.F.excBase_ValueError T1 hC hget rfl ?_))
 wp_walk
 have pk:∀ b u,hh.get? b=some u->(hh.push { cls:=Value.type "tuple",data:=Data.seq us'.toArray }).get? b=some u:=fun b u e=>Heap.get?_push_of_some _ e
 have J1:=I1.kept (h':=hh.push { cls:=Value.type "tuple",data:=Data.seq us'.toArray }) (t':=tk) pk
 have hg2:=Heap.get?_update_self (Obj.mapFields fun x=>x.setIfInBounds 0 (Value.ref hh.objs.size)) (pk _ _ hget) rfl
 have J2:=J1.write (x:=e0) (e:=e0) (o:=i7 e0 C) (h':=(hh.push { cls:=Value.type "tuple",data:=Data.seq us'.toArray }).update e0 (Obj.mapFields fun x=>x.setIfInBounds 0 (Value.ref hh.objs.size))) (t':=tk) (by rw [hN];trivial) (.inl rfl) (fun b u n e=>by rw [Heap.get?_update_other _ _ (Ne.symm n)];exact e) ⟨_,hg2⟩ (vi (t0:=hh.objs.size) hg2)
 have eH:upd H1 e0 (i7 e0 C)=H1:=by
  funext b
  by_cases z:b=e0
  ·rw [z,aa,hN]
  ·rw [ar z]
 rw [eH] at J2
 exact⟨.aW,H1,J2,rfl,q⟩
end
def j4:List Value->Bool
 | .ref _ :: r=>j4 r
 | [.type a,.type b,.type c,.type d]=>a == "ValueError" && (b == "Exception" && (c == "BaseException" && d == "object"))
 | _=>false
theorem ye {a b c d:String} (e:j4 [.type a,.type b,.type c,.type d] = true):a = "ValueError" /\ b = "Exception" /\ c = "BaseException" /\ d = "object" := by
 unfold j4 at e
 simpa only [Bool.and_eq_true,beq_iff_eq] using e
theorem oP {M:List Value->Prop} (h0:M yd) (h1:∀ c r,M r->M (.ref c :: r)):∀ {l:List Value},j4 l=true->M l
 | .ref c :: r,e=>h1 c r (oP h0 h1 (by unfold j4 at e;exact e))
 | [.type a,.type b,.type c,.type d],e=>by
  obtain⟨rfl,rfl,rfl,rfl⟩:=ye e
  exact h0
def sI (K:Frag) (C:Addr):Bool:=(PySem.W.clsIn K C).any fun cd=>j4 cd.mro
section
variable {prog:Program} {w:World} {A:Around} {s:Shared} {K:Frag} {x C:Addr} {R:Except Value Flow->Shared->Prop}
theorem yf {ox:Obj} {od:Option Obj} {name:Str} {tk:Tok} {v:Value} (KI:K.In s.heap) (J:PySem.W.InstAt s.heap x ox C od) (hp:sI K C=true) (ht:PySem.W.takerIn K C name=some none)
  (h:∀ b,wpAny (model prog w) A.in1 (Builtin.ObjectAttr.storeInOwnDict (.ref x) (.ref C) (.str name tk) name v b)
   (fun fin s'=>match fin with | .done f=>R (.ok f) s' | .again c'=>c'.quiet=true/\codeAny (model prog w) A c' R s') (fun e s'=>R (.error e) s') s) :
  codeAny (model prog w) A (.call (.builtin "object.__setattr__") ⟨[.ref x,.str name tk,v],[]⟩) R s:=by
 have SF:=PySem.F.store_object
 obtain⟨cd,hc,ho⟩:=PySem.W.any_some hp
 obtain⟨ne,has,rf⟩:cd.mro.isEmpty=false/\cd.mro.contains (.type "object")=true/\refuseLoop (.ref x) "__setattr__" cd.mro=pure ():=by
  refine oP (M:=fun l=>l.isEmpty=false/\l.contains (.type "object")=true/\refuseLoop (.ref x) "__setattr__" l=pure ()) ⟨rfl,by decide,PySem.F.store_ValueError.passes _⟩ (fun c r hr=>⟨rfl,?_,?_⟩) ho
  ·rw [List.contains_cons,hr.2.1,Bool.or_true]
  ·rw [refuseLoop_ref];exact hr.2.2
 have sub:Looks (model prog w) s.heap (isInstance (.ref x) (.type "object")) true:=J.type.andThen (looks_mroIn KI (by unfold mroIn;rw [hc,Option.bind_some,if_neg (by rw [ne];decide),has]))
 obtain⟨attr,ha,hr⟩:=Option.bind_eq_some_iff.mp ht
 have hm:Looks (model prog w) s.heap (mroOf (.ref C)) cd.mro:=(looks_clsIn KI hc).andThen .now
 have L3:Looks (model prog w) s.heap (Builtin.ObjectAttr.storeTaker? attr) none:=by
  cases attr with
  | none=>exact .now
  | some a =>
   obtain⟨b,hb,e⟩:=Option.map_eq_some_iff.mp hr
   refine (looks_takesIn KI hb).andThen ?_
   cases b
   ·exact .now
   ·cases e
 refine codeAny_call_builtin SF.slot.plain SF.entry (@check_slot (model prog w) _ _ s "object.__setattr__" "object" "__setattr__" (.ref x) [.str name tk,v] [] _ SF.kind SF.split sub (SF.args (.ref x) (.str name tk) v) ?_)
 rw [osa_eq,refuse_eq]
 refine wpAny_bind (wpAny_bind (J.type.here (wpAny_bind (hm.here ?_))))
 rw [rf]
 exact wpAny_pure (wpAny_bind (J.type.here (wpAny_bind ((looks_findIn KI ha).here (wpAny_bind (L3.here (h _)))))))
end
structure zI (K:Frag) (C:Addr) (name:Str):Prop where
 sa:findIn K (.ref C) "__setattr__" = some (some (.builtin "object.__setattr__"))
 po:sI K C=true
 tk:takerIn K C name=some none
 hd:hasDictIn K C=true
section
variable {prog:Program} {w:World} {A:Around} {E:Value->Shared->Prop} {h:Heap} {g:Array GenState} {d:Drawn} {tk:Nat} {os:OsState} {K:Frag} {e C t0:Addr} {name:Str} {v:Value}
theorem Bw {Q:Unit->Shared->Prop} (KI:K.In h) (T:zI K C name) (hget:h.get? e=some { cls:=.ref C,data:=.fields #[.ref t0,.none,.none,.none,.bool false,.none] })
  (hQ:∀ h' k,h'.Ns1 h.objs.size (fun x=>if x=name then some v else none)->(∀ b o,b ≠ e->h.get? b=some o->h'.get? b=some o)->h'.get? e=some { cls:=.ref C,dict:=some h.objs.size,data:=.fields #[.ref t0,.none,.none,.none,.bool false,.none] }->Q () ⟨h',g,d,k,os⟩):wpAny (model prog w) A (setAttr (.ref e) name v) Q E ⟨h,g,d,tk,os⟩:=by
 have J:W.InstAt h e { cls:=.ref C,data:=.fields #[.ref t0,.none,.none,.none,.bool false,.none] } C none:=⟨hget,rfl,rfl,True.intro⟩
 refine PySem.W.set_plain KI J T.sa (yf (s:=⟨h,g,d,tk+1,os⟩) KI J T.po T.tk fun b=>?_)
 obtain⟨cd,hc,hd'⟩:=PySem.W.any_some T.hd
 have LC:=looks_clsIn (M:=model prog w) KI hc
 have LS:=J.type (M:=model prog w)
 dsimp only
 unfold Builtin.ObjectAttr.storeInOwnDict Builtin.ObjectAttr.ownDictForStores instanceDict
 have n1:((h.push { cls:=.type "dict",data:=.dict #[] }).update e fun o=>{ o with dict:=some h.objs.size }).Ns1 h.objs.size (fun _=>none):=by
  refine⟨{ cls:=.type "dict",data:=.dict #[] },#[],_,?_,rfl,?_,?_,fun _=>rfl⟩
  ·rw [Heap.get?_update_other _ _ (Nat.ne_of_lt (Heap.lt_size hget))];exact Heap.get?_push_size _ rfl
  ·intro i hi;simp at hi
  ·exact List.Pairwise.nil
 repeat (any_goals (first | assumption | (with_reducible refine wpAny_nsSet1 (s:=⟨_,g,d,_,os⟩) n1 fun h' hn2 hs2=>?_) | (with_reducible refine LC.at ?_) | (with_reducible refine LS.at ?_) | (with_reducible refine wpAny_loadPart_at hget ?_) | wp_step))
 obtain⟨oD,esD,epD,hoD,hdD,hcD⟩:=hn2.count (PySem.Within.cons name v (ns:=[]) fun _ z=>absurd rfl z)
 refine wpAny_loadPart_at hoD ?_
 rw [show oD.data.pastItsLine=none from by rw [hdD];exact pastItsLine_dict (Nat.le_trans hcD (by show 1<=sizeLine+1;omega))]
 wp_walk
 refine hQ h' _ hn2 (fun b o n q=>?_) ?_
 ·rw [hs2.2 b (Nat.ne_of_lt (Heap.lt_size q))]
  show (Heap.update _ _ _).get? b=_
  rw [Heap.get?_update_other _ _ (Ne.symm n)]
  exact Heap.get?_push_of_some _ q
 ·rw [hs2.2 e (Nat.ne_of_lt (Heap.lt_size hget))]
  exact Heap.get?_update_self _ (Heap.get?_push_of_some _ hget) rfl
end
section
variable {X:Cx} {o value e:Expr} {f:Str} {pos pos':Pos} {ta tv:TE}
inductive Ek (K:Frag) (ta tv:TE) (f:Str) (D:Ends) (σ : St) (H:Hp):Prop
 | mk (_:tv σ H fun y H1=>ta σ H1 fun x H2=>∃ e C,x=.ref e/\H2 e=some (i7 e C)/\zI K C f/\∀ dx,H2 dx=none->dx ≠ e->D.nx σ (upd (upd H2 dx (.xd [(f,y)])) e (jA e C dx)))
theorem yg (ha:PE X o ta) (hv:PE X value tv) (hs:swapsWith value (some (.Attribute o f pos')) pos.line X.env=pure false:=by rfl):PS X (.Assign [.Attribute o f pos'] value pos) (Ek X.K ta tv f):=by
 intro pins s σ H D I h
 obtain⟨h⟩:=h
 refine plainObj_wpAny_Assign_Attribute (aU (hv pins s σ H _ I h) fun u s1 ⟨y,H1,I1,ry,q⟩=>aU (ha pins s1 σ H1 _ I1 q) fun ov s2 ⟨x,H2,I2,rx,e,C,ex,hN,T,q2⟩=>?_) hs
 subst ex
 obtain rfl:ov=Value.ref e:=rx
 obtain⟨t0,hget⟩:=vg I2.au hN
 obtain⟨hh,g,d,tk,os⟩:=s2
 have hlt:e < hh.objs.size:=Heap.lt_size hget
 have nd:H2 hh.objs.size=none:=I2.au.fresh (Nat.le_refl _)
 have ne:hh.objs.size ≠ e:=Nat.ne_of_gt hlt
 refine Bw I2.cy T hget fun h' k hn kk he=>?_
 have hfree:∀ b u,hh.get? b=some u->b ≠ hh.objs.size:=fun b u q=>Nat.ne_of_lt (Heap.lt_size q)
 have up:∀ b,b ≠ e->b ≠ hh.objs.size->(upd (upd H2 hh.objs.size (.xd [(f,y)])) e (jA e C hh.objs.size)) b=H2 b:=fun b n1 n2=>by rw [ar n1,ar n2]
 have un:Un X.fs [] H2 (upd (upd H2 hh.objs.size (.xd [(f,y)])) e (jA e C hh.objs.size)) hh h':=by
  have nE:∀ b,H2 b=none->b ≠ e:=fun b n z=>by rw [z,hN] at n;cases n
  have nT:∀ b v,H2 b=some v->(∀ φ,v ≠ .ext φ)->b ≠ e:=fun b v q n z=>by rw [z,hN] at q;exact n _ (Option.some.inj q).symm
  have nD:∀ b v,H2 b=some v->b ≠ hh.objs.size:=fun b v q z=>by rw [z,nd] at q;cases q
  refine⟨fun b u q n _ _=>kk b u (nE b n) q,fun b u q n _ _=>⟨u.slots,kk b u (nE b n) q⟩,fun b u q n _=>by rw [up b (nE b n) (hfree b u q)];exact n,fun b u q _=>?_,fun b xs q=>?_,fun b u xs q=>?_,fun b ps q=>⟨#[],?_⟩⟩
  ·by_cases z:b=e
   ·rw [z];exact⟨_,he⟩
   ·exact⟨u,kk b u z q⟩
  ·rw [up b (nT b _ q fun _ z=>by cases z) (nD b _ q)];exact q
  ·rw [up b (nT b _ q fun _ z=>by cases z) (nD b _ q)];exact q
  ·rw [up b (nT b _ q fun _ z=>by cases z) (nD b _ q),q];simp
 refine⟨σ,_,I2.un (t':=k) un (fun b u q=>?_),q2 _ nd ne⟩
 by_cases z:b=e
 ·subst z
  rw [aa] at q
  cases q
  exact Bv he
 ·by_cases z2:b=hh.objs.size
  ·subst z2
   rw [ar z,aa] at q
   cases q
   refine⟨_,hn,fun nm=>?_⟩
   by_cases zn:nm=f
   ·subst zn
    rw [if_pos rfl]
    show fA (List.lookup nm [(nm,y)]) (some u)
    rw [zp]
    exact ry
   ·rw [if_neg zn]
    show fA (List.lookup nm [(f,y)]) none
    rw [C0 zn rfl]
    trivial
  ·rw [up b z z2] at q
   have nD:∀ c v,H2 c=some v->c ≠ hh.objs.size:=fun c v q z=>by rw [z,nd] at q;cases q
   have nT:∀ c v,H2 c=some v->(∀ φ,v ≠ .ext φ)->c ≠ e:=fun c v q n z=>by rw [z,hN] at q;exact n _ (Option.some.inj q).symm
   refine (I2.au b u q).iJ (fun c w' hc r=>kk c w' ?_ r) (fun c r=>by rw [up c (nT c _ r fun _ z=>by cases z) (nD c _ r)];exact r) fun c xs r=>by rw [up c (nT c _ r fun _ z=>by cases z) (nD c _ r)];exact r
   rcases hc with rfl | hc
   ·exact z
   ·exact nT c _ hc fun _ z=>by cases z
structure zJ (K:Frag) (C:Addr) (name:Str):Prop extends iq K C where
 hd:hasDictIn K C=true
 no:findIn K (.ref C) name=some none
end
def jt (K:Frag) (C:Addr):Bool:=findIn K (.ref C) "__getattribute__" == some (some (.builtin "BaseException.__getattribute__")) && (findIn K (.ref C) "__getattr__" == some none && (findIn K (.ref C) "__class__" == some (some (.builtin "object.__class__")) && (mroIn K C (.type "object") == some true && mroIn K C (.type "BaseException") == some true)))
theorem iH {K:Frag} {C:Addr} (h:jt K C=true):iq K C:=by
 unfold jt at h
 simp only [Bool.and_eq_true,beq_iff_eq] at h
 exact⟨h.1,h.2.1,h.2.2.1,h.2.2.2.1,h.2.2.2.2⟩
def kindB (K:Frag) (C c0 c1 c2 c3 c4 cP:Addr) (j:Nat):Bool:=kitOne K (.ref C) (.ref c0) == some (0 == j) && (kitOne K (.ref C) (.ref c1) == some (1 == j) && (kitOne K (.ref C) (.ref c2) == some (2 == j) && (kitOne K (.ref C) (.ref c3) == some (3 == j) && (kitOne K (.ref C) (.ref c4) == some (4 == j) && (kitOne K (.ref C) (.ref cP) == some true && kitOne K (.ref C) (.type "ValueError") == some true)))))
structure Dl (K:Frag) (mg:Str->Option Value) (cP cM cN cR cL cO:Addr):Prop where
 gP:mg "PlanError" = some (.ref cP)
 gM:mg "TooMany" = some (.ref cM)
 gN:mg "NoPiece" = some (.ref cN)
 gR:mg "NoRow" = some (.ref cR)
 gL:mg "NothingLeft" = some (.ref cL)
 gO:mg "NoPlan" = some (.ref cO)
 tM:sG K cM
 tN:sG K cN
 tR:sG K cR
 tL:sG K cL
 eO:zJ K cO "line"
 sO:zI K cO "line"
 pP:Dj K cP
 iO:∃ f,i6 K cO f=true
 kM:keepIn K (.ref cM)=true
 kN:keepIn K (.ref cN)=true
 kR:keepIn K (.ref cR)=true
 kL:keepIn K (.ref cL)=true
 q0:kindB K cM cM cN cR cL cO cP 0=true
 q1:kindB K cN cM cN cR cL cO cP 1=true
 q2:kindB K cR cM cN cR cL cO cP 2=true
 q3:kindB K cL cM cN cR cL cO cP 3=true
 q4:kindB K cO cM cN cR cL cO cP 4=true
inductive sJ (cO:Addr) (vs:List V) (H:Hp) (Q:VK) (_:XK):Prop
 | mk (e:Addr) (i:Int) (_:vs = [.ref e,.int i]) (_:i.natAbs < 10 ^ 50) (_:H e=some (i7 e cO)) (_:∀ dx H',H' e=some (jA e cO dx)->H' dx=some (.xd [("line",.int i)])->(∀ c o,H c=some o->c ≠ e->H' c=some o)->Q .aW H')
theorem Bx {K:Frag} {mg:Str->Option Value} {h:Heap} {C f:Addr} {x q:Str} {st:Stmt} {fd:FuncData} {k:Nat} {ps:List Str} {sp:Sp} (P:Program) (w:World) (base:Heap) (X:K.In h) (G:h.Ns mainGlobals mg) (aC:PySem.W.nsIn K mainGlobals x=some (some (.ref C))) (kc:PySem.W.keepIn K (.ref C)=true) (d:kh K C "__init__" q st f fd) (ei:i6 K C f=true) (o:aZ P w K mg base bS k f fd ps sp) (b:jo "__init__" q st ps):wF P w K mg base C x k ps sp:=⟨⟨_,_,o,⟨ei,d.i,kc⟩,PySem.W.mg_of X G aC,d.F.binds b⟩⟩
def wo (H:Hp) (e:Addr):Hp:=fun b=>if b=e then none else H b
theorem mx {H:Hp} {e:Addr}:wo H e e=none:=if_pos rfl
theorem ju {H:Hp} {e b:Addr} (h:b ≠ e):wo H e b=H b:=if_neg h
section
variable {X:Cx} {pins:List (Addr × Obj)} {σ : St} {H:Hp} {s:Shared}
theorem Inv.forget {e:Addr} {φ : Heap->Prop} (I:Inv X pins σ H s) (he:H e=some (.ext φ)):Inv X pins σ (wo H e) s:=by
 have nE:∀ b v,H b=some v->(∀ φ,v ≠ .ext φ)->b ≠ e:=fun b v q n z=>by rw [z,he] at q;exact n _ (Option.some.inj q).symm
 have no:∀ b,H b=none->wo H e b=none:=fun b q=>by
  unfold wo
  split
  ·rfl
  ·exact q
 refine⟨I.ok,I.os,I.bare,⟨I.base.keep,I.base.slot,fun b o q n hx=>no b (I.base.free b o q n hx),I.base.there,fun b xs q=>?_,fun b o u q=>?_,fun b ps q=>?_⟩,I.loc,I.cell,no _ I.free,fun x c q=>no _ (I.cT x c q),fun p hp=>?_,fun b u q=>?_,I.len⟩
 ·have:=I.base.b5 b xs q
  rw [ju (nE _ _ this fun _ z=>by cases z)];exact this
 ·have:=I.base.eW b o u q
  rw [ju (nE _ _ this fun _ z=>by cases z)];exact this
 ·obtain⟨m,this⟩:=I.base.fB b ps q
  exact⟨m,by rw [ju (nE _ _ this fun _ z=>by cases z)];exact this⟩
 ·obtain⟨a,b,c⟩:=I.pin p hp
  exact⟨a,no _ b,c⟩
 ·by_cases z:b=e
  ·rw [z,mx] at q;cases q
  ·rw [ju z] at q
   exact (I.au b u q).iJ (fun _ _ _ q=>q) (fun c q=>by rw [ju (nE _ _ q fun _ z=>by cases z)];exact q) fun c xs q=>by rw [ju (nE _ _ q fun _ z=>by cases z)];exact q
end
section
variable {P:Program} {w:World} {K:PySem.W.Frag} {mg:Str->Option Value} {base:Heap} {N:List Str} {qual:Str} {scope:Scope} {f:Addr} {cd:Value} {A:Around} {outer:List Env} {s s2:Shared} {H H1:Hp} {E:XK} {pins:List (Addr × Obj)} {σ : St}
theorem wG (I:Inv (cw (cW P w) P w K mg base N qual scope f cd A outer s H E) pins σ H1 s2) {e C dx:Addr} (hD:H1 e=some (jA e C dx)) (hnew:s.heap.get? e=none) (q:E (.ref C) (some dx) (wo H1 e)) :
  (cw (cW P w) P w K mg base N qual scope f cd A outer s H E).xe (.ref e) s2:=by
 obtain⟨t0,hget⟩:=vh I.au hD
 have J:=I.forget hD
 have fL:(envOfC qual scope s.heap.objs.size f cd).frame=some s.heap.objs.size:=rfl
 have hstk:s2.heap.FunFrames base (envOfC qual scope s.heap.objs.size f cd :: outer):=J.stack
 have free:∀ b ∈ bt (envOfC qual scope s.heap.objs.size f cd :: outer),wo H1 e b=none:=J.fZ
 show wpAny (model P w) (A.deeper (envOfC qual scope s.heap.objs.size f cd)) (leaving (envOfC qual scope s.heap.objs.size f cd) (.ref e)) (fun _ s''=>lO P w outer H s E (.ref e) s'') (fun e' s''=>lO P w outer H s E e' s'') _
 have hen:(hideAll s2.heap (e :: bt (envOfC qual scope s.heap.objs.size f cd :: outer))).get? e=none:=hideAll_none _ List.mem_cons_self
 refine wpAny_mono (fW i5 (wpAny_leaving_firstW (E:=fun _ _=>False) (Q:=fun _ s4=>Heap.LeftW (hideAll s2.heap (e :: bt (envOfC qual scope s.heap.objs.size f cd :: outer))) (envOfC qual scope s.heap.objs.size f cd :: outer) e (.ref C) (.ref t0) s2.heap s4.heap/\s4.os=s2.os/\s4.gens=s2.gens) (base:=hideAll s2.heap (e :: bt (envOfC qual scope s.heap.objs.size f cd :: outer))) (outer:=outer) (a0:=.ref t0) J.ok.frames (funFrames_hide hstk fun env he b hb=>List.mem_cons_of_mem _ (As env he b hb)) fL hget (fun b o q=>of_hideAll _ q) hen rfl rfl rfl fun h'' z=>⟨z,rfl,rfl⟩)) (fun _ s4 z=>?_) fun _ _ z=>z.1.elim
 obtain⟨⟨⟨k1,⟨_,_,k2⟩,k3,hup⟩,os4,gs4⟩,hds⟩:=z
 obtain⟨h'',g4,d4,t4,o4⟩:=s4
 dsimp only at k1 k2 k3 hup hds os4 gs4
 have ub:Un (bt outer) [] H (wo H1 e) s.heap s2.heap:=J.base
 have kp:∀ b o,s2.heap.get? b=some o->b ∉ bt (envOfC qual scope s.heap.objs.size f cd :: outer)->((∃ v,wo H1 e b=some v)\/∃ u,s.heap.get? b=some u)->h''.get? b=some o:=fun b o e1 e2 e3=>k1 b o (hideAll_get _ e1 fun z=>by
  rcases List.mem_cons.mp z with z | z
  ·subst z
   rcases e3 with ⟨v,hv⟩ | ⟨u,hu⟩
   ·rw [mx] at hv;cases hv
   ·rw [hnew] at hu;cases hu
  ·exact e2 z)
 have sl:∀ b o,s2.heap.get? b=some o->b ∈ bt (envOfC qual scope s.heap.objs.size f cd :: outer)->∃ sl,h''.get? b=some { o with slots:=sl }:=fun b o e1 e2=>by
  obtain⟨_,o',ho,hn⟩:=hstk.mem e2
  rw [e1] at ho;cases ho
  exact hup b o e1 hn
 have nT:∀ b v,wo H1 e b=some v->b ∉ bt (envOfC qual scope s.heap.objs.size f cd :: outer):=fun b v e1 e2=>by rw [free b e2] at e1;cases e1
 refine⟨e,.ref C,some dx,wo H1 e,rfl,os4.trans J.os,gs4 ▸ J.bare,lP (ea:=e) (cls:=.ref C) (a0:=.none) (B:=s2.heap) (l:=envOfC qual scope s.heap.objs.size f cd :: outer) ub kp sl (fun b hb=>?_) (fun b hb=>(cc fL).mpr (.inr hb)),?_,⟨mx,hnew,fun dx' z=>?_,_,_,⟨k1,hen,k2,k3⟩,fun b o e1 e2 e3=>?_⟩,q⟩
 ·rcases (cc fL).mp hb with z | z
  ·right;rw [z];exact Heap.get?_none_of_le (Nat.le_refl _)
  ·exact .inl z
 ·exact bZ.ef J.au fun b u v e1 e2=>kp b u e2 (nT b v e1) (.inl ⟨v,e1⟩)
 ·cases z
  obtain⟨o2,q3,q4⟩:=hds _ _ hget
  exact⟨o2,q3,q4⟩
 ·have nf:b ∉ bt (envOfC qual scope s.heap.objs.size f cd :: outer):=fun z=>by
   rcases (cc fL).mp z with y | y
   ·rcases e2 with ⟨v,hv⟩ | ⟨u,hu⟩
    ·exact nT b v hv z
    ·exact ij I hu y
   ·exact e3 y
  obtain⟨o2,ho2⟩:∃ o2,s2.heap.get? b=some o2:=by
   rcases e2 with ⟨v,hv⟩ | ⟨u,hu⟩
   ·exact (J.au b v hv).get
   ·exact ub.there b u hu (by simp)
  have z:=kp b o2 ho2 nf e2
  rw [e1] at z;cases z
  refine hideAll_get _ ho2 fun z=>?_
  rcases List.mem_cons.mp z with z | z
  ·subst z
   rcases e2 with ⟨v,hv⟩ | ⟨u,hu⟩
   ·rw [mx] at hv;cases hv
   ·rw [hnew] at hu;cases hu
  ·exact nf z
end
theorem wH {M:Model} {A:Around} {E:Value->Shared->Prop} {s:Shared} {env:Env} {K:Frag} {C:Addr} {x:Expr} {pos:Pos} {Q:Flow->Shared->Prop} (hb:mroIn K C (.type "BaseException")=some true) (ht:typeIn K (.ref C)=some (.type "type")) (hh:A.handled=none)
  (h:wpAny M A (eval x env) (fun v s1=>∃ e o vs,v=.ref e/\K.In s1.heap/\s1.heap.get? e=some o/\o.cls=.ref C/\o.data=.fields vs/\vs[1]? = some .none/\E (.ref e) s1) E s) :
  wpAny M A (exec (.Raise (some x) none pos) env) Q E s:=by
 rw [arm_exec_Raise]
 show wpAny M A (do standAt pos;raiseStmt env (some (do let v <-eval x env;standAt pos;pure v)) none) Q E s
 refine wpAny_bind (wpAny_standAt ?_)
 unfold raiseStmt
 refine wpAny_bind (wpAny_bind (wpAny_mono h (fun v s1 h1=>wpAny_bind (wpAny_standAt (wpAny_pure ?_))) fun _ _ z=>z))
 obtain⟨e,o,vs,rfl,KI,he,hc,hd,h1,hE⟩:=h1
 have T0:Looks M s1.heap (typeOf (.ref e)) (.ref C):=fw.ty ⟨o,he,hc⟩
 have T1:=looks_mroIn (M:=M) KI hb
 have T3:=looks_typeIn (M:=M) KI ht
 obtain⟨cd,hcc,_⟩:=Option.bind_eq_some_iff.mp hb
 obtain⟨hp,g,d,tk,os⟩:=s1
 unfold excFromValue isExcClass isInstance raisedInstance setFlight
 repeat (any_goals (first | assumption | (with_reducible refine T0.at ?_) | (with_reducible refine T1.at ?_) | (with_reducible refine T3.at ?_) | (with_reducible refine wpAny_loadPart_at he ?_) | (with_reducible refine wpAny_bind (wpAny_field he hd h1 ?_)) | wp_step))
 exact wpAny_raiseNew_none hh hE
section
variable {X:Cx} {C:Addr} {x:Str} {k m:Nat} {ps:List Str} {sp:Sp} {e:Expr} {es:List Expr} {t:TA} {p pos:Pos} {pins:List (Addr × Obj)} {σ : St} {H:Hp} {s:Shared}
theorem zK {R:Addr->Hp->Prop} (o:wF X.prog X.w X.K X.mg X.base C x k ps sp) (hr:b6 m X.A) (ha:PA X (e :: es) t) (hk:k+1<=m) (hg:Gl X x) (hex:X.ex = []) (hdb:(x == ("__debug__" : Str))=false)
  (he:starEach (e :: es) X.env=(false,eval e X.env) :: starEach es X.env) (hpl:(backTo pos (starEach es X.env)).any (·.1)=false) (I:Inv X pins σ H s)
  (h:t σ H fun vs H1=>vs.length<=1000/\∀ e,H1 e=none->sp (.ref e :: vs) (upd H1 e (i7 e C)) (fun v H2=>v=.aW/\R e H2) E0) :
  wpAny (model X.prog X.w) X.A (eval (.Call (.Name x p) (e :: es) [] pos) X.env) (fun v s'=>∃ e H2,v=.ref e/\Inv X pins σ H2 s'/\X.b0.heap.get? e=none/\R e H2) X.xe s:=by
 obtain⟨f,fd,F,T,hm,hb⟩:=o.ex
 refine wpAny_Call_Name_kw (gK I hg hm ?_ hdb)
 refine PySem.W.callWith_K (h₀:=X.base) I.ok.mod.qY T.kp (aU (ha pos pins s σ H _ I h) fun us s1 ⟨vs,H1,I1,r,hl,q⟩=>⟨I1.cy,?_⟩) he hpl
 obtain⟨bm,N',nm,qn,bs,hdct,sn,sub,ab,col,dd,k0,k1,k2,k3,k5,mN,hC,hN,hni,T1⟩:=sH (h:=s1.heap) I1.cy T.ok
 obtain⟨oI,hfI,hfc⟩:∃ oI,s1.heap.get? f=some oI/\oI.cls=.type "function" := by
  have hf:=beq_iff_eq.mp T.fn
  obtain⟨oI,ho,hc⟩:=Option.map_eq_some_iff.mp hf
  exact⟨oI,I1.cy _ _ ho,hc⟩
 obtain⟨hh,g,d,tk,os⟩:=s1
 refine wC (C:=C) T1 hC hN hni hfI hfc (fun h' e hx=>?_) (by show us.length<=sizeLine;rw [<-r.length];exact Nat.le_trans hl (by decide))
 obtain⟨t0,ht0,_⟩:=hx.there
 obtain⟨he,J⟩:=I1.exc (o:=i7 e C) hx hex (vi ht0)
 have new:X.b0.heap.get? e=none:=by
  cases z:X.b0.heap.get? e with
  | none=>rfl
  | some u =>
   obtain⟨o',q'⟩:=I1.base.there e u z (by rw [hex];exact fun z=>nomatch z)
   have:=hx.new
   rw [q'] at this;cases this
 have hq:=q e he
 have r2:Vals (V.ref e :: vs) (Value.ref e :: us):=.cons rfl r
 have hl2:((Value.ref e :: us) ++ []).length=ps.length:=by rw [List.append_nil,<-r2.length];exact F.len _ _ _ _ hq
 have bn:=hb _ (Value.ref e :: us) J.cy hl2
 rw [List.append_nil] at bn
 refine wpAny_call (codeAny_mono (F.run _ X.stack _ _ ⟨Value.ref e :: us,[]⟩ (Value.ref e :: us) _ _ E0 ((hr.mono hk).make C us []) (J.za.make C us []) bn r2 hq) fun r s' hq'=>?_)
 cases r with
 | error e=>exact hq'.elim
 | ok fl =>
  cases fl with
  | ret u =>
   obtain⟨v,H',I3,rv,ev,q3⟩:=J.after hq'
   subst ev
   exact⟨rv,e,H',rfl,I3,new,q3⟩
  | next=>exact False.elim hq'
  | brk=>exact False.elim hq'
  | cont=>exact False.elim hq'
end
section
variable {P:Program} {w:World} {K:PySem.W.Frag} {mg:Str->Option Value} {base:Heap} {N:List Str} {qual:Str} {scope:Scope} {f:Addr} {cd:Value} {A:Around} {outer:List Env} {s:Shared} {H:Hp} {E:XK}
inductive By (C:Addr) (E:XK) (sp:Sp) (t:TA) (D:Ends) (σ : St) (H:Hp):Prop
 | mk (_:t σ H fun vs H1=>vs.length<=1000/\∀ e,H1 e=none->sp (.ref e :: vs) (upd H1 e (i7 e C)) (fun v H2=>v=.aW/\∃ dx,H2 e=some (jA e C dx)/\E (.ref C) (some dx) (wo H2 e)) E0)
theorem yh {x:Str} {C:Addr} {k m:Nat} {ps:List Str} {sp:Sp} {e:Expr} {es:List Expr} {t:TA} {np cpos pos:Pos} (o:wF P w K mg base C x k ps sp) (G:iq K C) (hT:typeIn K (.ref C)=some (.type "type"))
  (hr:b6 m (cw (cW P w) P w K mg base N qual scope f cd A outer s H E).A)
  (ha:PA (cw (cW P w) P w K mg base N qual scope f cd A outer s H E) (e :: es) t) (hk:k+1<=m:=by decide)
  (hg:Gl (cw (cW P w) P w K mg base N qual scope f cd A outer s H E) x:=by rfl) (hdb:(x == ("__debug__" : Str))=false:=by decide)
  (he:starEach (e :: es) (cw (cW P w) P w K mg base N qual scope f cd A outer s H E).env=(false,eval e (cw (cW P w) P w K mg base N qual scope f cd A outer s H E).env) :: starEach es (cw (cW P w) P w K mg base N qual scope f cd A outer s H E).env:=by rfl)
  (hpl:(backTo cpos (starEach es (cw (cW P w) P w K mg base N qual scope f cd A outer s H E).env)).any (·.1)=false:=by rfl) :
  PS (cw (cW P w) P w K mg base N qual scope f cd A outer s H E) (.Raise (some (.Call (.Name x np) (e :: es) [] cpos)) none pos) (By C E sp t):=by
 intro pins s1 σ H1 D I h
 obtain⟨h⟩:=h
 refine wH (K:=K) G.bx hT (I.ok.hd rfl) (wpAny_mono (zK (X:=cw (cW P w) P w K mg base N qual scope f cd A outer s H E) (R:=fun e H2=>∃ dx,H2 e=some (jA e C dx)/\E (.ref C) (some dx) (wo H2 e)) o hr ha hk hg rfl hdb he hpl I h) (fun v s2 z=>?_) fun _ _ z=>z)
 obtain⟨e,H2,rfl,J,new,dx,hD,q⟩:=z
 obtain⟨t0,hget⟩:=vh J.au hD
 exact⟨e,_,_,rfl,J.cy,hget,rfl,rfl,rfl,wG J hD new q⟩
end
def wI (e C dx:Addr):HO:=.ext fun h=>∃ o vs,h.get? e=some o/\o.cls=.ref C/\o.data=.fields vs/\o.dict=some dx
theorem vj {P:Program} {w:World} {H:Hp} {h:Heap} {e C dx:Addr} (ok:bZ P w H h) (he:H e=some (wI e C dx)):∃ o vs,h.get? e=some o/\o.cls=.ref C/\o.data=.fields vs/\o.dict=some dx:=(show bw P w H h e (wI e C dx) from ok e _ he).1
def fe (e C:Addr):Option Addr->HO
 | none=>wx e C
 | some dx=>wI e C dx
theorem Bz {P:Program} {w:World} {H:Hp} {h:Heap} {e C:Addr}:∀ {od:Option Addr},(∃ o vs,h.get? e=some o/\o.cls=.ref C/\o.data=.fields vs)->(∀ dx,od=some dx->∃ o,h.get? e=some o/\o.dict=some dx)->bw P w H h e (fe e C od)
 | none,⟨o,_,h1,h2,_⟩,_=>Bp ⟨o,h1,h2⟩
 | some dx,⟨o,vs,h1,h2,h3⟩,d=>by
  obtain⟨o',e1,e2⟩:=d dx rfl
  rw [h1] at e1
  cases e1
  exact⟨⟨o,vs,h1,h2,h3,e2⟩,⟨o,h1⟩,fun _ _ ⟨o,vs,a,b,c⟩ k=>⟨o,vs,k _ a,b,c⟩⟩
section
variable {M:Model} {A:Around} {E:Value->Shared->Prop} {s:Shared} {base:Heap} {env:Env} {outer l:List Env} {L e:Addr} {cls a0:Value} {Q:Unit->Shared->Prop}
theorem vk (hfr:A.frames=some (env :: outer)) (hf:env.frame=some L) (hfl:Heap.FlyingW base (env :: outer) e cls a0 s.heap)
  (hQ:∀ h',Heap.HeldW base (env :: outer) e cls a0 L h'->s.heap.UpToSlots h'->b8 s.heap h'->Q () { s with heap:=h' }):wpAny M A (noteFrame (.ref e) env) Q E s :=
 wpAny_mono (fW qx (wpAny_looks_onW (E:=fun _ _=>False) (Q:=fun _ s4=>∃ h',s4 = { s with heap:=h' }/\Heap.HeldW base (env :: outer) e cls a0 L h'/\s.heap.UpToSlots h') hfr hf hfl fun h' a b=>⟨h',rfl,a,b⟩)) (fun _ _ z=>by
  obtain⟨⟨h',rfl,a,b⟩,d⟩:=z
  exact hQ h' a b d) fun _ _ z=>z.1.elim
theorem BA (hh:Heap.HeldW base l e cls a0 L s.heap) (hQ:∀ h',Heap.FlyingW base l e cls a0 h'->s.heap.UpToSlots h'->b8 s.heap h'->Q () { s with heap:=h' }):wpAny M A (setFlight (.ref e) none) Q E s :=
 wpAny_mono (fW hR (wpAny_landsW (E:=fun _ _=>False) (Q:=fun _ s4=>∃ h',s4 = { s with heap:=h' }/\Heap.FlyingW base l e cls a0 h'/\s.heap.UpToSlots h') hh fun h' a b=>⟨h',rfl,a,b⟩)) (fun _ _ z=>by
  obtain⟨⟨h',rfl,a,b⟩,d⟩:=z
  exact hQ h' a b d) fun _ _ z=>z.1.elim
theorem zL (hh:Heap.FlyingW base l e cls a0 s.heap) (hQ:∀ h',Heap.FlyingW base l e cls a0 h'->s.heap.UpToSlots h'->b8 s.heap h'->Q () { s with heap:=h' }):wpAny M A (setFlight (.ref e) none) Q E s :=
 wpAny_mono (fW hR (lands_againW (E:=fun _ _=>False) (Q:=fun _ s4=>∃ h',s4 = { s with heap:=h' }/\Heap.FlyingW base l e cls a0 h'/\s.heap.UpToSlots h') hh fun h' a b=>⟨h',rfl,a,b⟩)) (fun _ _ z=>by
  obtain⟨⟨h',rfl,a,b⟩,d⟩:=z
  exact hQ h' a b d) fun _ _ z=>z.1.elim
end
section
variable {X:Cx} {pins:List (Addr × Obj)} {σ : St} {H:Hp} {s:Shared}
inductive El (K:Frag) (N i:Nat) (C:Addr) (tb:List (Addr × Obj)->(Value->Shared->Prop)->XK->TS) (th:Addr->TS) (D:Ends) (σ : St) (H:Hp):Prop
 | mk (XD:XK) (_:∀ pn xe,tb pn xe XD D σ H) (_:∀ cls od H',XD cls od H'->∃ CE,cls=.ref CE/\mroIn K CE (.ref C)=some true/\∀ e,H' e=none->th e (ve i D) ((List.replicate N none).set i (some (.ref e))) (upd H' e (fe e CE od)))
theorem BB {i:Nat} {n cn:Str} {body:List Stmt} {b₀ : Stmt} {suite:List Stmt} {tb:List (Addr × Obj)->(Value->Shared->Prop)->XK->TS} {th:Addr->TS} {np hp pos:Pos} {C:Addr} (hN:X.N.Nodup) (T:iq X.K C) (ht:typeIn X.K (.ref C)=some (.type "type")) (hm:X.mg cn=some (.ref C))
  (hb:∀ pn xe E,Passes (cW X.prog X.w) (X.tries pn xe) E->gc (X.tries pn xe) body (tb pn xe E)) (hh:∀ e,gc (X.fc e) (b₀ :: suite) (th e))
  (hst:X.stack=X.env :: X.outer:=by rfl) (hf:X.env.frame=some X.env.locals:=by rfl) (hex:X.ex = []:=by rfl) (hi:X.N[i]? = some n:=by rfl) (hl:X.env.kindOf n=some .local:=by rfl) (hg:Gl X cn:=by rfl) (hd:(cn == ("__debug__" : Str))=false:=by decide) :
  PS X (.Try body [.ExceptHandler (some (.Name cn np)) (some n) (b₀ :: suite) hp] [] [] pos) (El X.K X.N.length i C tb th):=by
 intro pins s σ H D I h
 obtain⟨XD,h1,h2⟩:=h
 have B:=hb (X.pn++pins) (fun e s'=>∃ pins' σ' H' s1,Inv (X.tries (X.pn++pins) fun _ _=>True) pins' σ' H' s1/\lO X.prog X.w X.stack H' s1 XD e s') XD (fun pins' σ' H' s1 e s' I' hc=>⟨pins',σ',H',s1,⟨I'.ok.gr.tries,I'.os,I'.bare,I'.base,I'.loc,I'.cell,I'.free,I'.cT,I'.pin,I'.au,I'.len⟩,hc⟩) [] s σ H D I.tries (h1 _ _)
 refine wpAny_Try_except (wpAny_mono B (fun f s1 z=>?_) fun e s1 z=>?_)
 ·cases f with
  | next =>
   obtain⟨σ',H',I',q⟩:=z
   exact wpAny_pure (show SP X pins D .next s1 from ⟨σ',H',I'.gr,q⟩)
  | brk=>obtain⟨σ',H',I',q⟩:=z;exact⟨σ',H',I'.gr,q⟩
  | cont=>obtain⟨σ',H',I',q⟩:=z;exact⟨σ',H',I'.gr,q⟩
  | ret u=>obtain⟨v,σ',H',I',r,q⟩:=z;exact⟨v,σ',H',I'.gr,r,q⟩
 obtain⟨pins',σ',H1,s0,I0,ea,cls,od,H2,rfl,hos,hbare,un,au,⟨hn,hnew,hdic,Bs,a0,hfl,hk⟩,hXD⟩:=z
 obtain⟨CE,rfl,hsub,hth⟩:=h2 _ _ _ hXD
 have hth:=hth ea hn
 have hfr:X.A.frames=some (X.env :: X.outer):=hst ▸ I.ok.frames
 have stk0:s0.heap.FunFrames X.base X.stack:=I0.stack
 have fr0:∀ b ∈ bt X.stack,H1 b=none:=I0.fZ
 have fr2:∀ b ∈ bt X.stack,H2 b=none:=fun b hb=>by
  obtain⟨_,o,ho,_⟩:=stk0.mem hb
  exact un.free b o ho (fr0 b hb) (by simp)
 have nT:∀ b v,H2 b=some v->b ∉ bt X.stack:=fun b v e1 e2=>by rw [fr2 b e2] at e1;cases e1
 have flyI:∀ h6 a1,Heap.FlyingW Bs X.stack ea (.ref CE) a1 h6->s1.heap.UpToSlots h6->b8 s1.heap h6->Inv X pins (List.replicate X.N.length none) H2 { s1 with heap:=h6 }/\Inv X pins (List.replicate X.N.length none) (upd H2 ea (fe ea CE od)) { s1 with heap:=h6 }:=fun h6 a1 f6 up6 ds6=>by
  have kp:∀ b o,s1.heap.get? b=some o->b ∉ bt X.stack->((∃ v,H2 b=some v)\/∃ u,s0.heap.get? b=some u)->h6.get? b=some o:=fun b o e1 e2 e3=>f6.1 b o (hk b o e1 e3 e2)
  have sl:∀ b o,s1.heap.get? b=some o->b ∈ bt X.stack->∃ sl,h6.get? b=some { o with slots:=sl }:=fun b o e1 e2=>by
   obtain⟨_,o',ho,hnf⟩:=hfl.2.2.1.mem e2
   rw [e1] at ho;cases ho
   exact up6 b o e1 hnf
  have un6:Un (bt X.stack) [] H1 H2 s0.heap h6:=lP (ea:=ea) (cls:=.ref CE) (a0:=.none) (B:=Bs) (l:=X.stack) un kp sl (fun b hb=>.inl hb) fun b hb=>hb
  have J:Inv (X.tries (X.pn++pins) fun _ _=>True) pins' σ' H2 { s1 with heap:=h6 }:=I0.nY (s':={ s1 with heap:=h6 }) hos un6 (bZ.ef au fun b u v e1 e2=>kp b u e2 (nT b v e1) (.inl ⟨v,e1⟩)) hbare (fun _ z=>nomatch z)
  have J2:Inv X pins (List.replicate X.N.length none) H2 { s1 with heap:=h6 }:=J.gr.weak (by rw [List.length_replicate];exact J.len.symm) fun k v e=>by
   rw [List.getElem?_replicate] at e
   split at e <;> cases e
  have there0:∀ b o,s0.heap.get? b=some o->b ≠ ea:=fun b o e z=>by rw [z,hnew] at e;cases e
  refine⟨J2,J2.Au ?_ ?_ (fun x c e=>?_) (fun p hp=>?_) hn (Bz ?_ fun dx z=>?_)⟩
  ·cases z:X.b0.heap.get? ea with
   | none=>rfl
   | some u =>
    obtain⟨o',e1⟩:=I0.base.there ea u z (by show ea ∉ X.ex;rw [hex];exact fun z=>nomatch z)
    exact absurd rfl (there0 ea o' e1)
  ·obtain⟨m,⟨o,_,_,ho,_⟩,_⟩:=I0.loc
   exact fun z=>there0 _ o ho z.symm
  ·obtain⟨v,o,ho,_⟩:=I0.cell x c e
   exact there0 c o ho
  ·exact there0 p.1 p.2 (I0.pin p (List.mem_append_left _ hp)).1
  ·obtain⟨ob,vs,e1,e2,e3,_⟩:=f6.first
   exact⟨ob,vs,e1,e2,e3⟩
  ·obtain⟨o1,q1,q2⟩:=hdic dx z
   obtain⟨o2,q3,q4⟩:=ds6 _ _ q1
   exact⟨o2,q3,q4.trans q2⟩
 have hfl':Heap.FlyingW Bs (X.env :: X.outer) ea (.ref CE) a0 s1.heap:=hst ▸ hfl
 refine vk hfr hf hfl' fun h4 hheld hup4 d4=>BA hheld fun h5 hfl5 hup5 d5=>?_
 have up5:=hup4.trans hup5
 obtain⟨J5,_⟩:=flyI h5 a0 (hst ▸ hfl5) up5 (d4.trans d5)
 refine wpAny_handleBy_cons (codeAny_handlers_test (gK (X:=X.fc ea) (J5.fc (e:=ea)) hg hm ?_ hd)) (by intro q;cases q)
 obtain⟨ob5,e5,c5⟩:=hfl5.there
 refine tV J5.cy ⟨ob5,e5,c5⟩ T.bx ht hsub ?_
 refine codeAny_handlers_suite_as (zL hfl5 fun h6 hfl6 hup6 d6=>?_)
 obtain⟨_,J6⟩:=flyI h6 a0 (hst ▸ hfl6) (up5.trans hup6) ((d4.trans d5).trans d6)
 refine mW (X:=X.fc ea) (v:=.ref ea) (J6.fc (e:=ea)) hN hi (.inl hl) rfl (fun s7 J7=>?_) (.inr hl)
 refine wpAny_mono (hh ea pins s7 _ _ (ve i D) J7 hth) (fun f s8 z=>?_) fun _ _ z=>z.elim
 cases f with
 | next =>
  obtain⟨σ8,H8,J8,q⟩:=z
  exact jr (J8.uncaught I.ok) hN hi hl fun s9 J9=>⟨_,_,J9,q⟩
 | brk =>
  obtain⟨σ8,H8,J8,q⟩:=z
  exact jr (J8.uncaught I.ok) hN hi hl fun s9 J9=>⟨_,_,J9,q⟩
 | cont =>
  obtain⟨σ8,H8,J8,q⟩:=z
  exact jr (J8.uncaught I.ok) hN hi hl fun s9 J9=>⟨_,_,J9,q⟩
 | ret u =>
  obtain⟨v,σ8,H8,J8,r,q⟩:=z
  exact jr (J8.uncaught I.ok) hN hi hl fun s9 J9=>⟨v,_,_,J9,r,q⟩
end
theorem zM {prog:Program} {w:World} {A:Around} {E:Value->Shared->Prop} {h:Heap} {g:Array GenState} {d:Drawn} {tk:Nat} {os:OsState} {K:Frag} {e C dx:Addr} {name:Str} {v:Value} {mA:Str->Option Value} {o:Obj} {expr:Bool} {Q:Value->Shared->Prop} (KI:K.In h) (T:zJ K C name)
  (hget:h.get? e=some o) (hc:o.cls=.ref C) {vs:Array Value} (hfs:o.data=.fields vs) (hdx:o.dict=some dx) (hn:h.Ns1 dx mA) (hm:mA name=some v) (hv:handedIn v=true) (hq:∀ k,Q v ⟨h,g,d,k,os⟩):wpAny (model prog w) A (getAttr (.ref e) name expr) Q E ⟨h,g,d,tk,os⟩:=by
 obtain⟨od,ho,hlk⟩:=pX hn
 have J:W.InstAt h e o C (some od):=⟨hget,hc,(by unfold notCls;rw [hfs]),(by rw [hdx];exact ho)⟩
 have I:fw h e C:=⟨_,hget,hc⟩
 have T0:=I.ty (M:=model prog w)
 have T1:=looks_findIn (M:=model prog w) KI T.ga
 have T2:=looks_findIn (M:=model prog w) KI T.gn
 have LF:=looks_find (M:=model prog w) KI J (findObj_own (v:=v) T.hd T.no rfl (by rw [hlk,hm]))
 unfold getAttr getAttrBy
 refine wpAny_bind (wpAny_mkText (wpAny_holding (wpAny_bind (T0.at (wpAny_bind (T1.at ?_))))))
 show wpAny _ _ (getAttrByItsOwn _ _ _ _ _ _) _ _ _
 unfold getAttrByItsOwn hookBefore
 have f3:=PySem.F.attr_ValueError.ga.bind (.ref e)
 repeat (any_goals (first | assumption | (with_reducible refine T2.at ?_) | wp_step))
 rw [if_neg (show ¬ (expr && onTheHeap (Value.builtin "BaseException.__getattribute__"))=true by cases expr <;> exact Bool.false_ne_true)]
 repeat (any_goals (first | assumption | wp_step))
 refine ya KI I T.toiq ?_
 repeat (any_goals (first | assumption | (with_reducible refine T0.at ?_) | (with_reducible refine LF.at ?_) | (with_reducible refine handed_on hv ?_) | wp_step))
 exact hq _
section
variable {X:Cx} {e:Expr} {f:Str} {pos:Pos} {ta:TE}
inductive Em (K:Frag) (ta:TE) (f:Str) (σ : St) (H:Hp) (Q:VK):Prop
 | mk (_:ta σ H fun x H1=>∃ e C dx i,x=.ref e/\H1 e=some (wI e C dx)/\H1 dx=some (.xd [(f,.int i)])/\zJ K C f/\Q (.int i) H1)
theorem wJ (he:PE X e ta) (hb:attributeBase e f X.env (eval e X.env)=eval e X.env:=by rfl):PE X (.Attribute e f pos) (Em X.K ta f):=by
 intro pins s σ H Q I h
 obtain⟨h⟩:=h
 refine uB hb (aU (he pins s σ H _ I h) fun u s1 ⟨x,H1,I1,rx,e0,C,dx,i,ex,hD,hd,T,q⟩=>?_)
 subst ex
 obtain rfl:u=Value.ref e0:=rx
 obtain⟨o,vs,hget,hc,hfs,hdx⟩:=vj I1.au hD
 obtain⟨mA,hn,hr⟩:=(show bw X.prog X.w H1 s1.heap dx (.xd [(f,.int i)]) from I1.au dx _ hd)
 have hr:=hr f
 rw [zp] at hr
 obtain⟨v,hmv,tok,rfl⟩:∃ v,mA f=some v/\∃ t,v=Value.int i t:=by
  cases hm:mA f with
  | none=>rw [hm] at hr;exact hr.elim
  | some v=>rw [hm] at hr;exact⟨v,rfl,hr⟩
 obtain⟨hh,g,d,tk,os⟩:=s1
 exact zM I1.cy T hget hc hfs hdx hn hmv rfl fun k=>⟨.int i,H1,I1.tok k,⟨_,rfl⟩,q⟩
theorem pL {P:Program} {w:World} {H:Hp} {h:Heap} {e C:Addr} {od:Option Addr} (ok:bZ P w H h) (x:H e=some (fe e C od)):fw h e C:=by
 cases od with
 | none=>exact Bo ok x
 | some dx =>
  obtain⟨o,_,a,b,_⟩:=vj ok x
  exact⟨o,a,b⟩
inductive Fl (K:PySem.W.Frag) (xs:List V) (H:Hp) (Q:VK):Prop
 | own (e C D:Addr) (od:Option Addr) (b:Bool) (_:xs = [.ref e,.ref D]) (_:H e=some (fe e C od)) (_:iq K C) (_:kitOne K (.ref C) (.ref D)=some b) (_:Q (.bl b) H)
 | bi (e C:Addr) (T:String) (od:Option Addr) (b:Bool) (_:xs = [.ref e,.ty T]) (_:H e=some (fe e C od)) (_:iq K C) (_:kitOne K (.ref C) (.type T)=some b) (_:Q (.bl b) H)
 | tup (e C tp:Addr) (cs:List Addr) (od:Option Addr) (b:Bool) (_:xs = [.ref e,.ref tp]) (_:H e=some (fe e C od)) (_:iq K C) (_:H tp=some (.tup (cs.map V.ref))) (_:kitAny K (.ref C) (cs.map Value.ref)=some b) (_:Q (.bl b) H)
theorem ko:eF X (.builtin "isinstance") (Fl X.K):=by
 intro pins s σ H vs us Q I rv h
 cases h with
 | own e C D od b hv he T hk q =>
  subst hv
  obtain⟨u,w',rfl,ru,rw'⟩:=vals2 rv
  cases (show u=Value.ref e from ru)
  cases (show w' = Value.ref D from rw')
  exact kia_one (nH T) I.cy (pL I.au he) hk (fun z=>nomatch z) fun tk=>⟨.bl b,H,I.tok tk,rfl,q⟩
 | bi e C T' od b hv he T hk q =>
  subst hv
  obtain⟨u,w',rfl,ru,rw'⟩:=vals2 rv
  cases (show u=Value.ref e from ru)
  cases (show w' = Value.type T' from rw')
  exact kia_one (nH T) I.cy (pL I.au he) hk (fun z=>nomatch z) fun tk=>⟨.bl b,H,I.tok tk,rfl,q⟩
 | tup e C tp cs od b hv he T ht hk q =>
  subst hv
  obtain⟨u,w',rfl,ru,rw'⟩:=vals2 rv
  cases (show u=Value.ref e from ru)
  cases (show w' = Value.ref tp from rw')
  obtain⟨_,its,r,o,h1,h2,n,h3,h4⟩:=(show bw X.prog X.w H s.heap tp (.tup (cs.map V.ref)) from I.au tp _ ht)
  obtain⟨oc,od,odt,osl⟩:=o
  cases (show oc=_ from h2)
  cases (show odt=_ from h3)
  have hr:=qv r
  subst hr
  exact kia_tup (nH T) I.cy (pL I.au he) h1 hk (fun z=>nomatch z) fun tk=>⟨.bl b,H,I.tok tk,rfl,q⟩
end
section
variable {M:Model} {A:Around} {E:Value->Shared->Prop} {s:Shared} {base:Heap} {env:Env} {outer l:List Env} {L e:Addr} {cls a0 fl:Value} {Q:Unit->Shared->Prop}
theorem zN (hfr:A.frames=some (env :: outer)) (hf:env.frame=some L) (k1:base.StaysIn s.heap) (k2:base.get? e=none) (k3:s.heap.FunFrames base (env :: outer)) (k4:s.heap.TracedAtW base e cls a0 fl)
  (hQ:∀ h',Heap.HeldW base (env :: outer) e cls a0 L h'->s.heap.UpToSlots h'->Q () { s with heap:=h' }):wpAny M A (noteFrame (.ref e) env) Q E s:=by
 by_cases z:fl=rawInt L
 ·subst z
  exact wpAny_noteFrame_againW hf k4 (hQ s.heap ⟨k1,k2,k3,k4⟩ (Heap.UpToSlots.refl _))
 obtain⟨oe,vs,T,oT,ts,he,⟨hcls,h0⟩,hd,h1,hnT,hTe,hT,hdT,h3⟩:=k4
 subst hcls
 unfold noteFrame
 simp only [hf]
 refine wpAny_bind (wpAny_field he hd h1 ?_)
 rw [if_pos (by simp:(Value.ref T != Value.none)=true)]
 refine wpAny_bind (wpAny_field hT hdT h3 ?_)
 rw [if_neg (fun y=>z (beq_iff_eq.mp y))]
 refine wpAny_bind (wpAny_setField hT hdT (Array.getElem?_eq_some_iff.mp h3).1 ?_)
 have oth:∀ b,b ≠ T->(s.heap.update T (Obj.mapFields (·.setIfInBounds 3 Value.none))).get? b=s.heap.get? b:=fun b hb=>Heap.get?_update_other _ _ (Ne.symm hb)
 have rec_:∀ b o,s.heap.get? b=some o->(∀ vs,o.data ≠ .fields vs)->b ≠ T:=fun b o hb hnf q=>by
  rw [q] at hb
  have hb:=hT.symm.trans hb
  injection hb with hb
  subst hb
  exact hnf ts hdT
 have Z:=wpAny_entryW (M:=M) (A:=A) (E:=E) (Q:=Q) (s:={ s with heap:=s.heap.update T (Obj.mapFields (·.setIfInBounds 3 Value.none)) }) (base:=base) (head:=.ref T) (hadNext:=Value.ref T != Value.none) (a0:=a0) hfr (k3.of_keeps fun b o hb hnf=>⟨o,(oth b (rec_ b o hb hnf)).trans hb,rfl⟩) hf ((oth e (Ne.symm hTe)).trans he)
  (fun b o hbo=>(oth b fun q=>by rw [q] at hbo;exact absurd (hnT.symm.trans hbo) (by simp)).trans (k1 b o hbo)) k2 hd (Array.getElem?_eq_some_iff.mp h1).1 h0
 exact Z fun h' z4=>hQ h' ⟨z4.1,k2,z4.2.1,z4.2.2.1⟩ fun b o hb hnf=>z4.2.2.2 b o ((oth b (rec_ b o hb hnf)).trans hb) hnf
theorem wK {fr:Option Addr} (k1:base.StaysIn s.heap) (k3:s.heap.FunFrames base l) (k4:s.heap.TracedAtW base e cls a0 fl)
  (hQ:∀ h' fl',base.StaysIn h'->h'.FunFrames base l->h'.TracedAtW base e cls a0 fl'->s.heap.UpToSlots h'->Q () { s with heap:=h' }):wpAny M A (setFlight (.ref e) fr) Q E s:=by
 obtain⟨oe,vs,T,oT,ts,he,hcls,hd,h1,hnT,hTe,hT,hdT,h3⟩:=k4
 have sz:3 < ts.size:=(Array.getElem?_eq_some_iff.mp h3).1
 unfold setFlight
 refine wpAny_bind (wpAny_field he hd h1 ?_)
 rw [if_pos (by simp:(Value.ref T != Value.none)=true)]
 refine wpAny_setField hT hdT sz ?_
 generalize (fr.elim Value.none fun f=>rawInt f)=fl'
 have oth:∀ b,b ≠ T->(s.heap.update T (Obj.mapFields (·.setIfInBounds 3 fl'))).get? b=s.heap.get? b:=fun b hb=>Heap.get?_update_other _ _ (Ne.symm hb)
 have rec_:∀ b o,s.heap.get? b=some o->(∀ vs,o.data ≠ .fields vs)->b ≠ T:=fun b o hb hnf q=>by
  rw [q] at hb
  have hb:=hT.symm.trans hb
  injection hb with hb
  subst hb
  exact hnf ts hdT
 refine hQ _ fl' (fun b o hbo=>(oth b fun q=>by rw [q] at hbo;exact absurd (hnT.symm.trans hbo) (by simp)).trans (k1 b o hbo)) (k3.of_keeps fun b o hb hnf=>⟨o,(oth b (rec_ b o hb hnf)).trans hb,rfl⟩) ?_ fun b o hb hnf=>⟨o.slots,(oth b (rec_ b o hb hnf)).trans hb⟩
 exact⟨oe,vs,T,_,_,(oth e (Ne.symm hTe)).trans he,hcls,hd,h1,hnT,hTe,Heap.get?_update_self _ hT (Obj.isFreed_of_fields (Obj.data_mapFields hdT _)),Obj.data_mapFields hdT _,by simp [sz]⟩
end
structure En (X:Cx) (H:Hp) (s:Shared) (ea:Addr) (cls:Value) (od:Option Addr):Prop where
 aW:H ea=none
 new:X.b0.heap.get? ea=none
 FH:∀ dx,od=some dx->∃ o,s.heap.get? ea=some o/\o.dict=some dx
 De:∃ B a0 fl,Heap.StaysIn B s.heap/\B.get? ea=none/\s.heap.FunFrames B X.stack/\s.heap.TracedAtW B ea cls a0 fl/\∀ b o,s.heap.get? b=some o->((∃ v,H b=some v)\/∃ u,X.b0.heap.get? b=some u)->b ∉ bt X.stack->B.get? b=some o
def yi (X:Cx) (E:XK):Prop:=∀ (pins:List (Addr × Obj)) (σ : St) (H:Hp) (s:Shared) (ea:Addr) (cls:Value) (od:Option Addr),Inv X pins σ H s->En X H s ea cls od->E cls od H->X.xe (.ref ea) s
section
variable {P:Program} {w:World} {K:PySem.W.Frag} {mg:Str->Option Value} {base:Heap} {N:List Str} {qual:Str} {scope:Scope} {f:Addr} {cd:Value} {A:Around} {outer:List Env} {s s2:Shared} {H H1:Hp} {E:XK}
theorem BD:yi (cw (cW P w) P w K mg base N qual scope f cd A outer s H E) E:=by
 intro pins σ H' s3 ea cls od I F q
 obtain⟨hn,hnew,hdic,B,a0,fl,k1,k2,k3,k4,hk⟩:=F
 have fL:(envOfC qual scope s.heap.objs.size f cd).frame=some s.heap.objs.size:=rfl
 have k3:s3.heap.FunFrames B (envOfC qual scope s.heap.objs.size f cd :: outer):=k3
 have hk:∀ b o,s3.heap.get? b=some o->((∃ v,H' b=some v)\/∃ u,s.heap.get? b=some u)->b ∉ bt (envOfC qual scope s.heap.objs.size f cd :: outer)->B.get? b=some o:=hk
 have free':∀ b ∈ bt (envOfC qual scope s.heap.objs.size f cd :: outer),H' b=none:=I.fZ
 have up:Un (bt outer) [] H H' s.heap s3.heap:=I.base
 show wpAny (model P w) (A.deeper (envOfC qual scope s.heap.objs.size f cd)) (leaving (envOfC qual scope s.heap.objs.size f cd) (.ref ea)) (fun _ s''=>lO P w outer H s E (.ref ea) s'') (fun e' s''=>lO P w outer H s E e' s'') _
 have lv:wpAny (model P w) (A.deeper (envOfC qual scope s.heap.objs.size f cd)) (leaving (envOfC qual scope s.heap.objs.size f cd) (.ref ea)) (fun _ s4=>Heap.FlyingW B outer ea cls a0 s4.heap/\s3.heap.UpToSlots s4.heap/\s4.os=s3.os/\s4.gens=s3.gens) (fun _ _=>False) s3:=by
  refine wpAny_bind (zN (outer:=outer) I.ok.frames fL k1 k2 k3 k4 fun h4 hheld hup4=>wpAny_landsW hheld fun h5 hfl5 hup5=>?_)
  obtain⟨z1,z2,⟨_,_,z3⟩,z4⟩:=hfl5
  exact⟨⟨z1,z2,z3,z4⟩,hup4.trans hup5,rfl,rfl⟩
 refine wpAny_mono (fW i5 lv) (fun _ s4 z=>?_) fun _ _ z=>z.1.elim
 obtain⟨⟨hfl',hup,os4,gs4⟩,hds⟩:=z
 obtain⟨h'',g4,d4,t4,o4⟩:=s4
 dsimp only at hfl' hup hds os4 gs4
 have kp:∀ b o,s3.heap.get? b=some o->b ∉ bt (envOfC qual scope s.heap.objs.size f cd :: outer)->((∃ v,H' b=some v)\/∃ u,s.heap.get? b=some u)->h''.get? b=some o:=fun b o e1 e2 e3=>hfl'.1 b o (hk b o e1 e3 e2)
 have sl:∀ b o,s3.heap.get? b=some o->b ∈ bt (envOfC qual scope s.heap.objs.size f cd :: outer)->∃ sl,h''.get? b=some { o with slots:=sl }:=fun b o e1 e2=>by
  obtain⟨_,o',ho,hn⟩:=k3.mem e2
  rw [e1] at ho;cases ho
  exact hup b o e1 hn
 have nT:∀ b v,H' b=some v->b ∉ bt (envOfC qual scope s.heap.objs.size f cd :: outer):=fun b v e1 e2=>by rw [free' b e2] at e1;cases e1
 refine⟨ea,cls,od,H',rfl,os4.trans I.os,gs4 ▸ I.bare,lP (ea:=ea) (cls:=cls) (a0:=.none) (B:=B) (l:=envOfC qual scope s.heap.objs.size f cd :: outer) up kp sl (fun b hb=>?_) (fun b hb=>(cc fL).mpr (.inr hb)),?_,⟨hn,hnew,fun dx z=>?_,B,a0,hfl',fun b o e1 e2 e3=>?_⟩,q⟩
 ·rcases (cc fL).mp hb with z | z
  ·right;rw [z];exact Heap.get?_none_of_le (Nat.le_refl _)
  ·exact .inl z
 ·exact bZ.ef I.au fun b u v e1 e2=>kp b u e2 (nT b v e1) (.inl ⟨v,e1⟩)
 ·obtain⟨o1,q1,q2⟩:=hdic dx z
  obtain⟨o2,q3,q4⟩:=hds _ _ q1
  exact⟨o2,q3,q4.trans q2⟩
 ·have nf:b ∉ bt (envOfC qual scope s.heap.objs.size f cd :: outer):=fun z=>by
   rcases (cc fL).mp z with y | y
   ·rcases e2 with ⟨v,hv⟩ | ⟨u,hu⟩
    ·exact nT b v hv z
    ·exact ij I hu y
   ·exact e3 y
  obtain⟨o2,ho2⟩:∃ o2,s3.heap.get? b=some o2:=by
   rcases e2 with ⟨v,hv⟩ | ⟨u,hu⟩
   ·exact (I.au b v hv).get
   ·exact up.there b u hu (by simp)
  have z:=kp b o2 ho2 nf e2
  rw [e1] at z;cases z
  exact hk b o ho2 e2 nf
end
def ir (X:Cx) (scope:Scope) (C:Addr) (N':List Str) (fp:List Addr) (s₁ : Shared) (H₁ : Hp) (xe:Value->Shared->Prop):Cx:={ fk X scope C N' fp s₁ H₁ with xe:=xe }
theorem Cx.Ok.Eo {X:Cx} {scope:Scope} {C:Addr} {N':List Str} {fp:List Addr} {s₁ : Shared} {H₁ : Hp} {xe:Value->Shared->Prop} (ok:(fk X scope C N' fp s₁ H₁).Ok):(ir X scope C N' fp s₁ H₁ xe).Ok :=
 ⟨ok.mod,ok.kind,ok.glob,ok.blt,ok.above,ok.inj,ok.has,ok.mG,ok.hd,ok.frames,ok.nW,ok.rg,ok.bs,ok.jg,ok.jv,ok.j7,ok.eX,ok.kP⟩
theorem Cx.Ok.FI {X:Cx} {scope:Scope} {C:Addr} {N':List Str} {fp:List Addr} {s₁ : Shared} {H₁ : Hp} {xe xe':Value->Shared->Prop} (ok:(ir X scope C N' fp s₁ H₁ xe).Ok):(ir X scope C N' fp s₁ H₁ xe').Ok :=
 ⟨ok.mod,ok.kind,ok.glob,ok.blt,ok.above,ok.inj,ok.has,ok.mG,ok.hd,ok.frames,ok.nW,ok.rg,ok.bs,ok.jg,ok.jv,ok.j7,ok.eX,ok.kP⟩
section
variable {X:Cx} {pos:Pos}
theorem lQ {prog:Program} {w:World} {A:Around} {R:Result->Shared->Prop} {s:Shared} {elt target iter:Expr} {ifs:List Expr} {scope:Scope} {pos:Pos} {it acc:Value} {env:Env} {EX:Value->Shared->Prop} (hx:∀ e s',EX e s'->wpAny (model prog w) A (noteFrame e env) (fun _ s''=>R (.error e) s'') (fun e' s''=>R (.error e') s'') s') (I:Nat->Shared->Prop)
  (turn:∀ n s,I n s->wpAny (model prog w) A (pyNext it) (fun r s₁=>match r with
   | none=>R (.ok .next) s₁
   | some v=>wpAny (model prog w) A (letOwnedTupleGo target it v) (fun _ s₁'=>wpAny (model prog w) A (assign target env v) (fun _ s₂ =>
     wpAny (model prog w) A (forIn ifs true fun c r=>if r=true then do let ok <-isTrue c env (eval c env);pure (ForInStep.yield ok) else pure (ForInStep.yield r)) (fun ok s₃ =>
      if ok=true then wpAny (model prog w) A (eval elt env) (fun x s₄ =>
       wpAny (model prog w) A (call (.builtin "list.append") [acc,x]) (fun _ s₅=>∃ m,m < n/\I m s₅) EX s₄) EX s₃
      else ∃ m,m < n/\I m s₃) EX s₂) EX s₁') (fun _ _=>False) s₁) (fun _ _=>False) s)
  (n:Nat) (h:I n s) :
  codeAny (model prog w) A (.compLoop (.ListComp elt [⟨target,iter,ifs,0⟩] scope pos) 0 it acc env) R s:=by
 refine codeAny_loop rfl I (fun n s hI=>?_) n h
 show wpAny _ A ((compTurn (.ListComp elt [⟨target,iter,ifs,0⟩] scope pos) 0 it acc env).onRaise (fun x=>do noteFrame x env;theTreesLotGoes x)) _ _ s
 refine wpAny_noted ?_
 rw [compTurn_list]
 refine wpAny_bind (wpAny_standAt (wpAny_bind (wpAny_mono (turn n s hI) (fun r s₁ h₁=>?_) fun _ _ h'=>h'.elim)))
 cases r with
 | none=>exact wpAny_pure h₁
 | some v =>
  refine wpAny_bind (wpAny_mono h₁ (fun _ s₁' h₁'=>?_) fun _ _ h'=>h'.elim)
  refine wpAny_bind (wpAny_mono h₁' (fun _ s₂ h₂=>wpAny_bind (wpAny_mono h₂ (fun ok s₃ h₃=>?_) fun _ _ h'=>hx _ _ h')) fun _ _ h'=>hx _ _ h')
  cases ok with
  | false=>exact wpAny_pure ⟨rfl,h₃⟩
  | true =>
   exact wpAny_bind (wpAny_bind (wpAny_mono h₃ (fun x s₄ h₄=>wpAny_bind (wpAny_mono h₄ (fun _ s₅ h₅=>wpAny_pure (wpAny_pure ⟨rfl,h₅⟩)) fun _ _ h'=>hx _ _ h')) fun _ _ h'=>hx _ _ h'))
theorem zP {pins:List (Addr × Obj)} {σ : St} {H:Hp} {s:Shared} {E:Value->Shared->Prop} {tg elt iter:Expr} {ifs:List Expr} {scope:Scope} {g:TG} {ct:TT} {te:TE} {ts fr:List Str} {js:List Nat}
    {it:Addr} {fp:List Addr} {XE:Addr->Value->Shared->Prop} {tn:Nat->Heap->Prop} {J:It} {Q:VK} {RR:Value->Addr->Result->Shared->Prop}
    (hc:X.calm=true) (hkind:scope.kind=.function) (hcell:∀ y ∈ scope.names,y.2 ≠ .cell) (hfree:∀ y ∈ scope.names,y.2=.free->X.env.kindOf y.1=some .cell\/X.env.kindOf y.1=some .free)
    (hfr:fS X scope fr js) (htg:∀ C fp s₁ H₁ xe,PG (ir X scope C (ts++fr) fp s₁ H₁ xe) tg g) (hct:∀ C fp s₁ H₁ xe,rJ (ir X scope C (ts++fr) fp s₁ H₁ xe) ifs ct) (hte:∀ C,PE (ir X scope C (ts++fr) fp s H (XE C)) elt te)
    (hXE:∀ acc C e s',s.heap.objs.size<=C->XE C e s'->wpAny (model X.prog X.w) X.A (noteFrame e (compEnvC scope (gw X.env.cells scope.names []) C X.env)) (fun _ s''=>RR acc C (.error e) s'') (fun e' s''=>RR acc C (.error e') s'') s')
    (I:Inv X pins σ H s) (T:Turn X.prog X.w X.K tg J fp it tn) (st:tn 0 s.heap) (hfp:∀ b ∈ fp,fC X pins H b)
    (h:∀ acc,H acc=none->mL J ts.length js g ct te acc σ H Q)
    (hRR:∀ acc C H' s' m,Inv X pins σ H' s'->s'.heap.Ns C m->H' C=none->s.heap.objs.size<=C->Q (.ref acc) H'->RR (.ref acc) C (.ok .next) s') :
    wpAny (model X.prog X.w) X.A (newList []) (fun acc s₃=>wpAny (model X.prog X.w) X.A (newFunctionEnv scope X.env.globals (gw X.env.cells scope.names []) [] X.env.qual none .none (some X.env)) (fun cenv s₄ =>
      codeAny (model X.prog X.w) X.A (.compStart (.ListComp elt [⟨tg,iter,ifs,0⟩] scope pos) 0 (.ref it) acc { cenv with scope:=relabel scope X.env }) (RR acc cenv.locals) s₄) E s₃) E s:=by
  have hf:∀ y ∈ scope.names,y.2=.free->∃ c,X.env.cells.lookup y.1=some c:=fun y hy e=>I.ok.has y.1 (hfree y hy e)
  have ag:∀ x c,(gw X.env.cells scope.names []).lookup x=some c->X.env.cells.lookup x=some c:=jj scope.names [] hf fun x c e=>by simp at e
  have hlt:∀ b ∈ fp,b < s.heap.objs.size:=fun b hb=>by
    obtain⟨o,e,_⟩:=T.obj _ _ st b hb
    exact Heap.lt_size e
  refine wpAny_newObj_type (wpAny_newFunctionEnv hcell (by intro y hy;simp at hy) (fun h₁ hns₁ hsb₁=>?_) hkind)
  dsimp only at hns₁ hsb₁ ⊢
  generalize hH2:s.heap.push { cls:=.type "list",dict:=none,data:=.seq ([]:List Value).toArray }=G2 at hns₁ hsb₁ ⊢
  have hC:G2.objs.size=s.heap.objs.size+1:=by rw [<-hH2,Heap.size_push]
  have hDC:s.heap.objs.size ≠ G2.objs.size:=by rw [hC];exact Nat.ne_of_lt (Nat.lt_succ_self _)
  have hCle:s.heap.objs.size<=G2.objs.size:=by rw [hC];exact Nat.le_succ _
  have below:∀ b,b < s.heap.objs.size->b ≠ G2.objs.size/\b ≠ s.heap.objs.size:=fun b hb=>⟨by rw [hC];exact Nat.ne_of_lt (Nat.lt_succ_of_lt hb),Nat.ne_of_lt hb⟩
  have old:∀ b o,s.heap.get? b=some o->h₁.get? b=some o:=fun b o e=>hsb₁.extBut b o (below b (Heap.lt_size e)).1 (Heap.get?_push_of_some _ (hH2 ▸ Heap.get?_push_of_some _ e))
  have hacc:h₁.get? s.heap.objs.size=some { cls:=.type "list",data:=.seq ([]:List Value).toArray }:=hsb₁.extBut _ _ hDC (Heap.get?_push_of_some _ (hH2 ▸ Heap.get?_push_size _ rfl))
  have nD:H s.heap.objs.size=none:=I.au.fresh (Nat.le_refl _)
  have nC:H G2.objs.size=none:=I.au.fresh hCle
  obtain⟨W,⟨m0,w0⟩,turn⟩:=h s.heap.objs.size nD
  generalize hXb:ir X scope G2.objs.size (ts++fr) fp s H (XE G2.objs.size)=Xb
  have Ib:∀ tk,Inv Xb [] (ib ts.length js σ) (upd H s.heap.objs.size (.lst [])) { s with heap:=h₁,toks:=tk }:=by
    intro tk
    subst hXb
    refine⟨(xD I hkind hcell hf hCle hfp hlt).Eo,rfl,I.bare,Un.laid old (Nat.le_refl _) nD,⟨_,hns₁,fun i x v e1 e2 e3=>?_⟩,fun x c e=>?_,?_,fun x c e=>?_,fun p hp=>absurd (show p ∈ ([]:List (Addr × Obj)) from hp) (by simp),I.au.laid old (Nat.le_refl _) ⟨by show 0<=sizeLine;decide,[],_,.nil,hacc⟩,?_⟩
    · have hi:ts.length<=i:=by
        refine Nat.le_of_not_lt fun hi=>?_
        unfold ib at e2
        rw [List.getElem?_append_left (by simpa using hi),List.getElem?_replicate] at e2
        split at e2 <;> cases e2
      have e1':fr[i - ts.length]? = some x:=by
        have e1'':(ts++fr)[i]? = some x:=e1
        rw [List.getElem?_append_right hi] at e1''
        exact e1''
      unfold ib at e2
      rw [List.getElem?_append_right (by simpa using hi),List.length_replicate,List.getElem?_map] at e2
      cases ej:js[i - ts.length]? with
      | none=>rw [ej] at e2;cases e2
      | some j =>
        rw [ej] at e2
        have e2':σ.getD j none=some v:=by simpa using e2
        obtain⟨q1,q2,q3⟩:=hfr.get e1' ej
        have e2'':σ[j]? = some (some v):=by
          rw [List.getD_eq_getElem?_getD] at e2'
          cases ez:σ[j]? with
          | none=>rw [ez] at e2';cases e2'
          | some z=>rw [ez] at e2';rw [show z=some v from e2']
        obtain⟨m,hn,hl⟩:=I.loc
        obtain⟨u,r,l⟩:=hl j x v q1 e2'' (by
          rcases q2 with q2 | q2
          · exact .inr (.inl q2)
          · exact .inr (.inr q2))
        refine⟨u,r,.inr ⟨iU q3,?_⟩⟩
        rcases l with ⟨l,_⟩ | ⟨_,c,lc,lv⟩
        · rcases q2 with q2 | q2 <;> (rw [l] at q2;cases q2)
        · obtain⟨c',hc'⟩:=mw (cells:=X.env.cells) scope.names [] (.inl (PySem.mem_of_lookup q3))
          have:=ag x c' hc'
          rw [lc] at this
          cases this
          obtain⟨o,ho,hd⟩:=lv
          exact⟨c,hc',o,old _ _ ho,hd⟩
    · obtain⟨v,o,ho,hd⟩:=I.cell x c (ag x c e)
      exact⟨v,o,old _ _ ho,hd⟩
    · show upd H s.heap.objs.size (.lst []) G2.objs.size=none
      rw [ar hDC.symm];exact nC
    · obtain⟨v,o,ho,hd⟩:=I.cell x c (ag x c e)
      rw [ar (Nat.ne_of_lt (Heap.lt_size ho))]
      exact I.cT x c (ag x c e)
    · show (ib ts.length js σ).length=(ts++fr).length
      unfold ib
      rw [List.length_append,List.length_replicate,List.length_map,List.length_append,hfr.len]
  have fpB:∀ {H':Hp},(∀ b ∈ fp,H' b=none)->∀ b ∈ fp,fC Xb [] H' b:=fun {H'} hn b hb=>by
    subst hXb
    obtain⟨h1,h2,h3,h4,h5,h6⟩:=hfp b hb
    refine⟨hn b hb,(below b (hlt b hb)).1,fun z=>?_,.inl hb,fun x c e=>h5 x c (ag x c e),fun p hp=>absurd (show p ∈ ([]:List (Addr × Obj)) from hp) (by simp)⟩
    rcases List.mem_cons.mp (I.jN b z) with z | z
    · exact h2 z
    · exact h3 z
  have fin:∀ {τ : St} {H':Hp} {s':Shared},Inv Xb [] τ H' s'->Q (.ref s.heap.objs.size) H'->RR (.ref s.heap.objs.size) G2.objs.size (.ok .next) s':=fun {τ H' s'} Jb q=>by
    subst hXb
    obtain⟨m,hn,_⟩:=Jb.loc
    refine hRR _ _ H' s' m (I.nY (ch:=fp) Jb.os Jb.base Jb.au Jb.bare fun b hb=>?_) hn Jb.free hCle q
    obtain⟨h1,h2,h3,h4,h5,h6⟩:=hfp b hb
    exact⟨h4,h2,h5,h6⟩
  have loop:∀ tk,codeAny (model X.prog X.w) X.A (.compLoop (.ListComp elt [⟨tg,iter,ifs,0⟩] scope pos) 0 (.ref it) (.ref s.heap.objs.size) (compEnvC scope (gw X.env.cells scope.names []) G2.objs.size X.env))
        (RR (.ref s.heap.objs.size) G2.objs.size) { s with heap:=h₁,toks:=tk }:=by
    intro tk
    refine lQ (EX:=XE G2.objs.size) (fun e s' z=>hXE _ _ e s' hCle z) (fun n s'=>∃ i ys τ H',Inv Xb [] τ H' s'/\tn i s'.heap/\(∀ b ∈ fp,H' b=none)/\W i n ys τ H') ?_ m0 ⟨0,[],_,_,Ib tk,T.keep _ _ _ st fun b hb o e=>old b o e,fun b hb=>?_,w0⟩
    · rintro n s3 ⟨i,ys,τ,H3,I3,st3,fr3,w3⟩
      have htg':=htg G2.objs.size fp s H (XE G2.objs.size)
      have hct':=hct G2.objs.size fp s H (XE G2.objs.size)
      have hte':=hte G2.objs.size
      rw [hXb] at htg' hct' hte'
      have eP:Xb.prog=X.prog:=by subst hXb;rfl
      have ew:Xb.w=X.w:=by subst hXb;rfl
      have eK:Xb.K=X.K:=by subst hXb;rfl
      have eA:Xb.A=X.A:=by subst hXb;rfl
      have ec:Xb.calm=true:=by subst hXb;exact hc
      have ee:Xb.env=compEnvC scope (gw X.env.cells scope.names []) G2.objs.size X.env:=by subst hXb;rfl
      have ex:Xb.xe=XE G2.objs.size:=by subst hXb;rfl
      rw [<-eP,<-ew,<-eA,<-ee]
      obtain⟨ha,hl,turn'⟩:=turn i n ys τ H3 w3
      rcases turn' with ⟨stop,q⟩ | ⟨go,N,hN,step⟩
      · have hd:=T.done Xb eP ew eK ec i [] s3 τ H3 (fun _ _=>False) I3 (fpB fr3) st3 stop
        rw [<-eP,<-ew] at hd
        refine wpAny_mono hd (fun r s4 hr4=>?_) fun _ _ z=>z
        obtain⟨hr,I4⟩:=hr4
        subst hr
        exact fin I4 q
      · have hd:=T.item Xb eP ew eK ec i [] s3 τ H3 (fun _ _=>False) I3 (fpB fr3) st3 go
        rw [<-eP,<-ew] at hd
        refine wpAny_mono hd (fun r s4 hr4=>?_) fun _ _ z=>z
        obtain⟨u,hr,h4⟩:=hr4
        subst hr
        refine wpAny_mono h4 (fun _ s5 ⟨x,H5,I5,r5,y5,st5,fr5⟩=>?_) fun _ _ z=>z
        have I5':=I5.pinned (fpB fr5) (T.obj _ _ st5)
        have ef:∀ {σ7:St} {H7:Hp} {s7:Shared},Inv Xb ([] ++ jR fp s5.heap) σ7 H7 s7->tn (i+1) s7.heap/\∀ b ∈ fp,H7 b=none:=fun {σ7 H7 s7} I7=>by
          refine⟨T.keep _ _ _ st5 fun b hb o e=>(I7.pin (b,o) (List.mem_append_right _ (List.mem_append_right _ (fj hb e)))).1,fun b hb=>?_⟩
          obtain⟨o,e,d⟩:=T.obj _ _ st5 b hb
          exact (I7.pin (b,o) (List.mem_append_right _ (List.mem_append_right _ (fj hb e)))).2.1
        refine wpAny_mono (htg' _ s5 τ H5 x u _ I5' r5 (step x H5 y5)) (fun _ s6 ⟨τ6,H6,I6,q6⟩=>?_) (fun _ _ z=>by rw [ex] at z;exact z)
        refine wpAny_mono (hct' _ s6 τ6 H6 _ I6 q6) (fun ok s7 ⟨H7,I7,q7⟩=>?_) (fun _ _ z=>by rw [ex] at z;exact z)
        cases ok with
        | false =>
          have q7':N ys τ6 H7:=by rw [if_neg (by simp)] at q7;exact q7
          rw [if_neg (by simp)]
          obtain⟨m',hm,w7⟩:=hN _ _ _ q7'
          exact⟨m',hm,i+1,ys,τ6,H7,I7.fR,(ef I7).1,(ef I7).2,w7⟩
        | true =>
          rw [if_pos rfl] at q7 ⊢
          refine wpAny_mono (hte' _ s7 τ6 H7 _ I7 q7) (fun v s8 ⟨y,H8,I8,r8,ha8,n8⟩=>?_) (fun _ _ z=>by rw [ex] at z;exact z)
          refine wpAny_mono (eD (X:=Xb) _ s8 τ6 H8 (.ref s.heap.objs.size) [y] (.ref s.heap.objs.size) [v] (fun _ H9=>H9=upd H8 s.heap.objs.size (.lst (ys ++ [y]))) I8 rfl (.cons r8 .nil) ⟨_,ys,y,rfl,rfl,ha8,hl,rfl⟩) (fun _ s9 ⟨_,H9,I9,_,e9⟩=>?_) (fun _ _ z=>by rw [ex] at z;exact z)
          subst e9
          obtain⟨m',hm,w8⟩:=hN _ _ _ n8
          exact⟨m',hm,i+1,_,τ6,_,I9.fR,(ef I9).1,(ef I9).2,w8⟩
    · rw [ar (Nat.ne_of_lt (hlt b hb))]
      exact (hfp b hb).1
  exact codeAny_compStart_list (loop _) (T.self _ 0 _ _ _ (T.keep _ _ _ st fun b hb o e=>old b o e) (loop _))
theorem lS {h h' base base':Heap}:∀ {l:List Env},h.FunFrames base l->(∀ b,base.get? b=none->base'.get? b=none)->(∀ b ∈ bt l,∀ o,h.get? b=some o->h'.get? b=some o)->h'.FunFrames base' l
 | [],_,_,_=>trivial
 | env :: rest,⟨hk,⟨L,o,hf,hn,ho,hd⟩,hr⟩,k1,k2=>⟨hk,⟨L,o,hf,k1 L hn,k2 L ((cc hf).mpr (.inl rfl)) o ho,hd⟩,lS hr k1 fun b hb=>k2 b ((cc hf).mpr (.inr hb))⟩
theorem yj (e:Value) {env env':Env} (h:env'.frame=env.frame):noteFrame e env' = noteFrame e env:=by
 unfold noteFrame PySem.frameOf
 rw [h]
theorem yk {tg elt iter:Expr} {ifs:List Expr} {scope:Scope} {wi:TI} {g:TG} {ct:TT} {te:TE} {E:XK} (hP:yi X E) (ts fr:List Str) (js:List Nat)
  (hc:X.calm=true) (hi:PI X tg iter wi) (hkind:scope.kind=.function) (hcell:∀ y ∈ scope.names,y.2 ≠ .cell) (hnames:∀ y ∈ scope.names,y.2=.local->scope.names.lookup y.1=some .local)
  (hfree0:∀ y ∈ scope.names,y.2=.free->y.1 ∈ fr) (hfr:fS X scope fr js)
  (htg:∀ C fp s₁ H₁ xe,PG (ir X scope C (ts++fr) fp s₁ H₁ xe) tg g) (hct:∀ C fp s₁ H₁ xe,rJ (ir X scope C (ts++fr) fp s₁ H₁ xe) ifs ct)
  (hte:∀ C fp s₁ H₁ xe,Passes (cW X.prog X.w) (ir X scope C (ts++fr) fp s₁ H₁ xe) E->PE (ir X scope C (ts++fr) fp s₁ H₁ xe) elt te)
  (hst:X.stack=X.env :: X.outer:=by rfl) (hf:X.env.frame=some X.env.locals:=by rfl) (hex:X.ex = []:=by rfl)
  (hs:∀ x,foldedSetIterable iter X.env x=pure x:=by intro _;rfl):PE X (.ListComp elt [⟨tg,iter,ifs,0⟩] scope pos) (CL ts.length js wi g ct te):=by
 have hfree:∀ y ∈ scope.names,y.2=.free->X.env.kindOf y.1=some .cell\/X.env.kindOf y.1=some .free:=fun y hy e=>hfr.mem (hfree0 y hy e)
 intro pins s σ H Q I h
 rw [eval_ListComp]
 refine wpAny_comprehension_free (use:=none) rfl hs (kf fun y hy e=>I.ok.has y.1 (hfree y hy e)) hkind hnames (aU (hi pins s σ H _ I h) fun xv s1 h1=>aU h1 fun itv s2 h2=>?_)
 obtain⟨it,fp,tn,J,H2,e,I2,T,st2,f2,hW⟩:=h2
 subst e
 refine zP (XE:=fun C e s'=>∃ pins' τ Hb sb,Inv (ir X scope C (ts++fr) fp s2 H2 fun _ _=>True) pins' τ Hb sb/\lO X.prog X.w X.stack Hb sb E e s') (RR:=fun acc C=>compPost (model X.prog X.w) X.A X.xe none (EP X pins σ Q) acc C) hc hkind hcell hfree hfr htg hct (fun C=>hte C fp s2 H2 _ fun pins' τ Hb sb e s' Ib hx=>⟨pins',τ,Hb,sb,⟨Ib.ok.FI,Ib.os,Ib.bare,Ib.base,Ib.loc,Ib.cell,Ib.free,Ib.cT,Ib.pin,Ib.au,Ib.len⟩,hx⟩) ?_ I2 T st2 f2 hW ?_
 ·rintro acc C e s' hle ⟨pins',τ,Hb,sb,Jb,ea,cls,od,H',rfl,hos,hbare,un,au,⟨hn,hnew,hdic,Bs,a0,hfl,hk⟩,hq⟩
  have K1:Inv X pins σ Hb sb:=I2.nY (ch:=fp) Jb.os Jb.base Jb.au Jb.bare fun b hb=>by
   obtain⟨h1,h2,h3,h4,h5,h6⟩:=f2 b hb
   exact⟨h4,h2,h5,h6⟩
  have HbC:Hb C=none:=Jb.free
  obtain⟨mC,nsC,_⟩:=Jb.loc
  have nsC:sb.heap.Ns C mC:=nsC
  obtain⟨oC,esC,epC,hoC,hdC,rC⟩:=id nsC
  have HC:H' C=none:=un.free C oC hoC HbC (by simp)
  have stk0:sb.heap.FunFrames X.base X.stack:=K1.stack
  have frb:∀ b ∈ bt X.stack,Hb b=none:=K1.fZ
  have nC:C ∉ bt X.stack:=fun z=>by
   rcases List.mem_cons.mp (I2.jN C z) with y | y
   ·exact Nat.ne_of_gt (Nat.lt_of_lt_of_le I2.lt hle) y
   ·exact I2.Cc hle y
  have hC':s'.heap.get? C=some oC:=un.keep C oC hoC HbC nC (by simp)
  have BC:Bs.get? C=some oC:=hk C oC hC' (.inr ⟨oC,hoC⟩) nC
  obtain⟨k1,k2,k3,k4⟩:=hfl
  have eC:ea ≠ C:=fun z=>by rw [z] at k2;rw [k2] at BC;cases BC
  rw [yj (env:=X.env) _ (show (compEnvC scope (gw X.env.cells scope.names []) C X.env).frame=X.env.frame from rfl)]
  have hfr':X.A.frames=some (X.env :: X.outer):=hst ▸ I2.ok.frames
  refine vk hfr' hf (⟨k1,k2,hst ▸ k3,k4⟩:Heap.FlyingW Bs (X.env :: X.outer) ea cls a0 s'.heap) fun h4 hheld hup4 d4=>?_
  obtain⟨p1,p2,p3,p4⟩:=hheld
  refine⟨mC,hup4.ns ⟨oC,esC,epC,hC',hdC,rC⟩,fun h5 hsb cenv hcv=>?_⟩
  have B':Heap.StaysIn (hideAll Bs [C]) Bs:=fun b o z=>of_hideAll _ z
  have nB:∀ b o,(hideAll Bs [C]).get? b=some o->b ≠ C:=fun b o z y=>by rw [y,hideAll_none [C] (by simp)] at z;cases z
  have s5:∀ b o,b ≠ C->h4.get? b=some o->h5.get? b=some o:=fun b o n z=>hsb.extBut b o n z
  have q1:Heap.StaysIn (hideAll Bs [C]) h5:=fun b o z=>s5 b o (nB b o z) (p1 b o (B' b o z))
  have q2:(hideAll Bs [C]).get? ea=none:=by
   cases z:(hideAll Bs [C]).get? ea with
   | none=>rfl
   | some o=>have:=B' _ _ z;rw [k2] at this;cases this
  have p3':h4.FunFrames Bs X.stack:=hst ▸ p3
  have nB':∀ b,Bs.get? b=none->(hideAll Bs [C]).get? b=none:=fun b hb=>by
   cases z:(hideAll Bs [C]).get? b with
   | none=>rfl
   | some o=>have:=B' _ _ z;rw [hb] at this;cases this
  have q3:h5.FunFrames (hideAll Bs [C]) X.stack:=lS p3' nB' fun b hb o ho=>s5 b o (fun y=>nC (y ▸ hb)) ho
  have q4:h5.TracedAtW (hideAll Bs [C]) ea cls a0 (rawInt X.env.locals):=by
   obtain⟨oe,vs,T',oT,ts',he,hcls,hd,h1,hnT,hTe,hT,hdT,h3⟩:=p4
   exact⟨oe,vs,T',oT,ts',s5 _ _ eC he,hcls,hd,h1,nB' _ hnT,hTe,s5 _ _ (fun y=>by rw [y,BC] at hnT;cases hnT) hT,hdT,h3⟩
  obtain⟨oe,vs,T',oT,ts',he,hcls,hd,h1,hnT,hTe,hT,hdT,h3⟩:=id q4
  unfold PySem.passOn
  refine wpAny_bind (wpAny_field he hd h1 ?_)
  rw [if_neg (by simp)]
  refine wpAny_bind ?_
  refine wpAny_mono (fW hR (wK (E:=fun _ _=>False) (Q:=fun _ s6=>∃ h6 fl',s6 = { s' with heap:=h6 }/\Heap.StaysIn (hideAll Bs [C]) h6/\h6.FunFrames (hideAll Bs [C]) X.stack/\h6.TracedAtW (hideAll Bs [C]) ea cls a0 fl'/\h5.UpToSlots h6) q1 q3 q4 fun h6 fl' z1 z2 z3 z4=>⟨h6,fl',rfl,z1,z2,z3,z4⟩)) (fun _ s6 z=>?_) fun _ _ z=>z.1.elim
  obtain⟨⟨h6,fl',rfl,r1,r3,r4,r5⟩,d6⟩:=z
  have frs':∀ b ∈ bt X.stack,H' b=none:=fun b hb=>by
   obtain⟨_,o,ho,_⟩:=stk0.mem hb
   exact un.free b o ho (frb b hb) (by simp)
  have toB:∀ b o,s'.heap.get? b=some o->((∃ v,H' b=some v)\/∃ u,sb.heap.get? b=some u)->b ∉ bt X.stack->b ≠ C->h6.get? b=some o:=fun b o e1 e2 e3 e4=>r1 b o (hideAll_get [C] (hk b o e1 e2 e3) (by simpa using e4))
  have sl:∀ b o,s'.heap.get? b=some o->b ∈ bt X.stack->∃ sl,h6.get? b=some { o with slots:=sl }:=fun b o e1 e2=>by
   obtain⟨_,o',ho,hnf⟩:=k3.mem e2
   rw [e1] at ho;cases ho
   obtain⟨sl1,e4⟩:=hup4 b o e1 hnf
   obtain⟨sl2,e5⟩:=r5 b _ (s5 b _ (fun y=>nC (y ▸ e2)) e4) hnf
   exact⟨sl2,e5⟩
  have un6:Un (bt X.stack) [C] Hb H' sb.heap h6:=by
   refine⟨fun b o e1 e2 e3 e4=>?_,fun b o e1 e2 e3 e4=>?_,fun b o e1 e2 e3=>un.free b o e1 e2 (by simp),fun b o e1 e2=>?_,un.b5,un.eW,un.fB⟩
   ·exact toB b o (un.keep b o e1 e2 e3 (by simp)) (.inr ⟨o,e1⟩) e3 (by simpa using e4)
   ·obtain⟨sl1,e5⟩:=un.slot b o e1 e2 e3 (by simp)
    obtain⟨sl2,e6⟩:=sl b _ e5 e3
    exact⟨sl2,e6⟩
   ·obtain⟨o',e5⟩:=un.there b o e1 (by simp)
    by_cases z:b ∈ bt X.stack
    ·obtain⟨sl2,e6⟩:=sl b _ e5 z
     exact⟨_,e6⟩
    ·exact⟨o',toB b o' e5 (.inr ⟨o,e1⟩) z (by simpa using e2)⟩
  have nT:∀ b v,H' b=some v->b ∉ bt X.stack/\b ≠ C:=fun b v e1=>⟨(fun e2=>by rw [frs' b e2] at e1;cases e1),(fun e2=>by rw [e2,HC] at e1;cases e1)⟩
  have hok6:bZ X.prog X.w H' h6:=bZ.ef au fun b u v e1 e2=>toB b u e2 (.inl ⟨v,e1⟩) (nT b v e1).1 (nT b v e1).2
  have hCs:X.b0.heap.objs.size<=C:=Nat.le_trans I2.sz hle
  have K6:Inv X pins σ H' { s' with heap:=h6 }:=K1.nY (s':={ s' with heap:=h6 }) (ch:=[C]) hos un6 hok6 hbare fun b hb=>by
   rw [List.mem_singleton.mp hb]
   obtain⟨f1,f2,f3,f4,f5,f6⟩:=I2.gW (H':=H') hle HC
   exact⟨f4,f2,f5,f6⟩
  have old:∀ b u,X.b0.heap.get? b=some u->∃ u,sb.heap.get? b=some u:=fun b u hu=>K1.base.there b u hu (by rw [hex];exact fun z=>nomatch z)
  refine wpAny_throw (hP pins σ H' { s' with heap:=h6 } ea cls od K6 ⟨hn,?_,fun dx z=>?_,hideAll Bs [C],a0,fl',r1,q2,r3,r4,fun b o e1 e2 e3=>?_⟩ hq)
  ·cases z:X.b0.heap.get? ea with
   | none=>rfl
   | some u =>
    obtain⟨u',hu'⟩:=old ea u z
    rw [hnew] at hu';cases hu'
  ·obtain⟨o1,y1,y2⟩:=hdic dx z
   obtain⟨o2,y3,y4⟩:=d4 _ _ y1
   obtain⟨o3,y5,y6⟩:=d6 _ _ (s5 _ _ eC y3)
   exact⟨o3,y5,y6.trans (y4.trans y2)⟩
  ·have e2':(∃ v,H' b=some v)\/∃ u,sb.heap.get? b=some u:=e2.imp id fun ⟨u,hu⟩=>old b u hu
   have ne:b ≠ C:=by
    rcases e2 with ⟨v,hv⟩ | ⟨u,hu⟩
    ·exact (nT b v hv).2
    ·exact Nat.ne_of_lt (Nat.lt_of_lt_of_le (Heap.lt_size hu) hCs)
   obtain⟨o2,ho2⟩:∃ o2,s'.heap.get? b=some o2:=by
    rcases e2' with ⟨v,hv⟩ | ⟨u,hu⟩
    ·exact (au b v hv).get
    ·exact un.there b u hu (by simp)
   have z:=toB b o2 ho2 e2' e3 ne
   rw [e1] at z;cases z
   exact hideAll_get [C] (hk b o ho2 e2' e3) (by simpa using ne)
 intro acc C H' s' m I' hn hC hle q
 exact⟨m,hn,fun h' hsb=>⟨.ref acc,H',I2.rK I' hC hle hsb,rfl,q⟩⟩
end
section
variable {X:Cx} {pins:List (Addr × Obj)} {σ : List (Option V)} {H H':Hp} {s:Shared} {h':Heap}
end
section
variable {prog:Program} {w:World} {A:Around} {E:Value->Shared->Prop} {s:Shared}
theorem listAt {h g:Heap} {a:Addr} {xs:Array Value} (x:h.IsList a xs) (k:∀ o,h.get? a=some o->g.get? a=some o):g.IsList a xs:=by
 obtain⟨o,e,r⟩:=x
 exact⟨o,k o e,r⟩
theorem BE {z p q j k a b:Addr} {x0:Str} {t0:Tok} {m n c0:Nat} {ys:Array Value} {y u v:Value} {Q:Value->Shared->Prop} (D:jm z p q j k a b)
  (gz:IsZip s.heap z p q .none) (gp:IsPair s.heap p (.ref j) (.ref k)) (gq:IsPair s.heap q u v)
  (gj:s.heap.IsStrIter j "str_ascii_iterator" x0 t0 m) (gk:s.heap.IsListIter k b n) (gb:s.heap.IsList b ys) (hx:x0.cps[m]? = some c0) (hy:ys[n]? = some y)
  (hQ:∀ g,IsZip g z p q (rawInt s.heap.objs.size)->IsPair g q (.str ⟨#[c0]⟩ s.toks) y->g.IsStrIter j "str_ascii_iterator" x0 t0 (m+1)->g.IsListIter k b (n+1)->IsPair g s.heap.objs.size (.str ⟨#[c0]⟩ s.toks) y->g.objs.size=s.heap.objs.size+1 ->
   (∀ c o,c ≠ z->c ≠ q->c ≠ j->c ≠ k->s.heap.get? c=some o->g.get? c=some o)->Q (.ref s.heap.objs.size) { s with heap:=g,toks:=s.toks+1 }) :
  wpAny (model prog w) A (Builtin.«zip.__next__» ⟨[.ref z],[]⟩) (fun fin s'=>∃ v,fin=.done (.ret v)/\Q v s') E s:=by
 show wpAny _ _ (field (.ref z) 2 >>= fun _=>_) _ _ _
 refine wpAny_bind (wpAny_field gz rfl (x:=.bool false) rfl ?_)
 show wpAny _ _ (field (.ref z) 3 >>= fun _=>_) _ _ _
 refine wpAny_bind (wpAny_field gz rfl (x:=.ref p) rfl (wpAny_bind (wpAny_seqItems gp rfl ?_)))
 show wpAny _ _ (Builtin.SmallTypes.ownedTupleIsFree (.ref z) >>= fun _=>_) _ _ _
 refine wpAny_bind ?_
 unfold Builtin.SmallTypes.ownedTupleIsFree
 refine wpAny_bind (wpAny_field gz rfl (x:=.none) rfl (wpAny_pure ?_))
 simp only [if_true]
 refine wpAny_bind (wpAny_rule (wpAny_bind (wpAny_field gz rfl (x:=.ref q) rfl (wpAny_bind (wpAny_setField_rec gz (by simp) fun g1 gz1 t1=>?_)))))
 replace gz1:IsZip g1 z p q .ellipsis:=gz1
 refine wpAny_bind ?_
 simp only [List.forIn_cons,List.forIn_nil,List.zipIdx_cons,List.zipIdx_nil]
 refine wpAny_bind (wpAny_bind (wpAny_onRaise ?_))
 show wpAny _ _ (Builtin.SmallTypes.nextOf (.ref j) >>= fun _=>_) _ _ _
 refine wpAny_bind (wpAny_nextOf_ascii_item (gj.extBut t1.extBut D.jz) hx fun g2 gj2 t2=>wpAny_pure ?_)
 have gq2:IsPair g2 q u v:=t2.extBut _ _ D.qj (t1.extBut _ _ D.qz gq)
 refine wpAny_bind (wpAny_seqItems gq2 rfl (wpAny_bind (wpAny_updateSeq_pair gq2 fun g3 gq3 t3=>?_)))
 replace gq3:IsPair g3 q (.str ⟨#[c0]⟩ s.toks) v:=gq3
 refine wpAny_bind (wpAny_letGo (wpAny_pure (wpAny_bind (wpAny_bind (wpAny_onRaise ?_)))))
 show wpAny _ _ (Builtin.SmallTypes.nextOf (.ref k) >>= fun _=>_) _ _ _
 refine wpAny_bind (wpAny_nextOf_list_item (((gk.extBut t1.extBut D.kz).extBut t2.extBut D.jk.symm).extBut t3.extBut D.qk.symm) (listAt gb fun o e=>t3.extBut _ _ D.bq (t2.extBut _ _ D.bj (t1.extBut _ _ D.bz e))) hy fun g4 gk4 t4=>wpAny_pure ?_)
 have gq4:IsPair g4 q (.str ⟨#[c0]⟩ s.toks) v:=t4.extBut _ _ D.qk gq3
 refine wpAny_bind (wpAny_seqItems gq4 rfl (wpAny_bind (wpAny_updateSeq_pair gq4 fun g5 gq5 t5=>?_)))
 replace gq5:IsPair g5 q (.str ⟨#[c0]⟩ s.toks) y:=gq5
 refine wpAny_bind (wpAny_letGo (wpAny_pure (wpAny_pure (wpAny_bind (wpAny_seqItems gq5 rfl (wpAny_bind (wpAny_newTuple ?_)))))))
 have ez:g5.objs.size=s.heap.objs.size:=by rw [t5.1,t4.1,t3.1,t2.1,t1.1]
 have gz5:IsZip g5 z p q .ellipsis:=t5.extBut _ _ D.qz.symm (t4.extBut _ _ D.kz.symm (t3.extBut _ _ D.qz.symm (t2.extBut _ _ D.jz.symm gz1)))
 have k5:∀ c o,c ≠ z->c ≠ q->c ≠ j->c ≠ k->s.heap.get? c=some o->g5.get? c=some o:=fun c o c1 c2 c3 c4 e=>t5.extBut _ _ c2 (t4.extBut _ _ c4 (t3.extBut _ _ c2 (t2.extBut _ _ c3 (t1.extBut _ _ c1 e))))
 have gj5:g5.IsStrIter j "str_ascii_iterator" x0 t0 (m+1):=((gj2.extBut t3.extBut D.qj.symm).extBut t4.extBut D.jk).extBut t5.extBut D.qj.symm
 have gk5:g5.IsListIter k b (n+1):=gk4.extBut t5.extBut D.qk.symm
 have lz:z < g5.objs.size:=Heap.lt_size gz5
 show wpAny _ _ (Builtin.SmallTypes.ownedTupleHandOut (.ref z) (.ref g5.objs.size) >>= fun _=>_) _ _ _
 refine wpAny_bind ?_
 unfold Builtin.SmallTypes.ownedTupleHandOut
 have gz6:IsZip (g5.push { cls:=.type "tuple",data:=.seq #[.str ⟨#[c0]⟩ s.toks,y] }) z p q .ellipsis:=Heap.get?_push_of_some _ gz5
 refine wpAny_bind (wpAny_setField_rec gz6 (by simp) fun g7 gz7 t7=>?_)
 replace gz7:IsZip g7 z p q (rawInt g5.objs.size):=gz7
 refine wpAny_setField_rec gz7 (by simp) fun g8 gz8 t8=>?_
 replace gz8:IsZip g8 z p q (rawInt g5.objs.size):=gz8
 have up:∀ c o,c ≠ z->g5.get? c=some o->g8.get? c=some o:=fun c o c1 e=>t8.extBut _ _ c1 (t7.extBut _ _ c1 (Heap.get?_push_of_some _ e))
 have gT:IsPair g8 g5.objs.size (.str ⟨#[c0]⟩ s.toks) y:=t8.extBut _ _ (Nat.ne_of_gt lz) (t7.extBut _ _ (Nat.ne_of_gt lz) (Heap.get?_push_size _ rfl))
 have e8:g8.objs.size=g5.objs.size+1:=by rw [t8.1,t7.1,Heap.size_push]
 rw [ez] at gz8 gT e8
 refine wpAny_pure ⟨_,rfl,?_⟩
 show Q (.ref g5.objs.size) _
 rw [ez]
 refine hQ g8 gz8 (up _ _ D.qz gq5) ?_ ?_ gT e8 fun c o c1 c2 c3 c4 e=>up c o c1 (k5 c o c1 c2 c3 c4 e)
 ·obtain⟨o,e,r⟩:=gj5
  exact⟨o,up _ _ D.jz e,r⟩
 ·obtain⟨o,e,r⟩:=gk5
  exact⟨o,up _ _ D.kz e,r⟩
theorem Dm {z p q j k a b:Addr} {x0:Str} {t0:Tok} {m:Nat} {u v:Value} {Q:Fin->Shared->Prop} (ha:A.handled=none) (D:jm z p q j k a b)
  (gz:IsZip s.heap z p q .none) (gp:IsPair s.heap p (.ref j) (.ref k)) (gq:IsPair s.heap q u v)
  (gj:s.heap.IsStrIter j "str_ascii_iterator" x0 t0 m) (hx:x0.cps[m]? = none)
  (hE:∀ g e,(∀ c o,c ≠ z->c ≠ q->c ≠ j->c ≠ k->s.heap.get? c=some o->g.get? c=some o)->(∃ o,g.get? e=some o/\o.cls=.type "StopIteration")->E (.ref e) { s with heap:=g }) :
  wpAny (model prog w) A (Builtin.«zip.__next__» ⟨[.ref z],[]⟩) Q E s:=by
 show wpAny _ _ (field (.ref z) 2 >>= fun _=>_) _ _ _
 refine wpAny_bind (wpAny_field gz rfl (x:=.bool false) rfl ?_)
 show wpAny _ _ (field (.ref z) 3 >>= fun _=>_) _ _ _
 refine wpAny_bind (wpAny_field gz rfl (x:=.ref p) rfl (wpAny_bind (wpAny_seqItems gp rfl ?_)))
 show wpAny _ _ (Builtin.SmallTypes.ownedTupleIsFree (.ref z) >>= fun _=>_) _ _ _
 refine wpAny_bind ?_
 unfold Builtin.SmallTypes.ownedTupleIsFree
 refine wpAny_bind (wpAny_field gz rfl (x:=.none) rfl (wpAny_pure ?_))
 simp only [if_true]
 refine wpAny_bind (wpAny_rule (wpAny_bind (wpAny_field gz rfl (x:=.ref q) rfl (wpAny_bind (wpAny_setField_rec gz (by simp) fun g1 gz1 t1=>?_)))))
 replace gz1:IsZip g1 z p q .ellipsis:=gz1
 refine wpAny_bind ?_
 simp only [List.forIn_cons,List.forIn_nil,List.zipIdx_cons,List.zipIdx_nil]
 refine wpAny_bind (wpAny_bind (wpAny_onRaise ?_))
 show wpAny _ _ (Builtin.SmallTypes.nextOf (.ref j) >>= fun _=>_) _ _ _
 refine wpAny_bind (wpAny_nextOf_ascii_end ha (gj.extBut t1.extBut D.jz) hx fun g2 e t2 he=>?_)
 obtain⟨oe,eoe,ce⟩:=he
 have gz2:IsZip g2 z p q .ellipsis:=t2 _ _ D.jz.symm gz1
 have ne:e ≠ z:=fun x=>by subst x;rw [gz2] at eoe;cases eoe;simp at ce
 exact wpAny_setField_rec gz2 (by simp) fun g3 _ t3=>hE g3 e (fun c o c1 _ c3 _ x=>t3.extBut _ _ c1 (t2 _ _ c3 (t1.extBut _ _ c1 x))) ⟨oe,t3.extBut _ _ ne eoe,ce⟩
theorem BF {z p q j k a b:Addr} {x0:Str} {t0:Tok} {m n c0:Nat} {ys:Array Value} {y u v:Value} {Q:Option Value->Shared->Prop} (D:jm z p q j k a b)
  (gz:IsZip s.heap z p q .none) (gp:IsPair s.heap p (.ref j) (.ref k)) (gq:IsPair s.heap q u v)
  (gj:s.heap.IsStrIter j "str_ascii_iterator" x0 t0 m) (gk:s.heap.IsListIter k b n) (gb:s.heap.IsList b ys) (hx:x0.cps[m]? = some c0) (hy:ys[n]? = some y)
  (hQ:∀ g,IsZip g z p q (rawInt s.heap.objs.size)->IsPair g q (.str ⟨#[c0]⟩ s.toks) y->g.IsStrIter j "str_ascii_iterator" x0 t0 (m+1)->g.IsListIter k b (n+1)->IsPair g s.heap.objs.size (.str ⟨#[c0]⟩ s.toks) y->g.objs.size=s.heap.objs.size+1 ->
   (∀ c o,c ≠ z->c ≠ q->c ≠ j->c ≠ k->s.heap.get? c=some o->g.get? c=some o)->Q (some (.ref s.heap.objs.size)) { s with heap:=g,toks:=s.toks+1 }) :
  wpAny (model prog w) A (pyNext (.ref z)) Q E s:=by
 have ty:s.TypeIs (.ref z) "zip" := ⟨_,gz,rfl⟩
 unfold pyNext
 exact wpAny_bind (wpAny_attempt (wpAny_callSpecial?_slot (name:=Str.ofString "__next__") ty F.slot_zip_next (wpAny_call_entry F.slot_zip_next ty F.entry_zip_next
   (BE D gz gp gq gj gk gb hx hy fun g a1 a2 a3 a4 a5 a6 a7=>wpAny_pure (hQ g a1 a2 a3 a4 a5 a6 a7)) (F.args_zip_next_1 _))))
theorem BG {z p q j k a b:Addr} {x0:Str} {t0:Tok} {m:Nat} {u v:Value} {Q:Option Value->Shared->Prop} (ha:A.handled=none) (D:jm z p q j k a b)
  (gz:IsZip s.heap z p q .none) (gp:IsPair s.heap p (.ref j) (.ref k)) (gq:IsPair s.heap q u v)
  (gj:s.heap.IsStrIter j "str_ascii_iterator" x0 t0 m) (hx:x0.cps[m]? = none)
  (hQ:∀ g,(∀ c o,c ≠ z->c ≠ q->c ≠ j->c ≠ k->s.heap.get? c=some o->g.get? c=some o)->Q none { s with heap:=g }):wpAny (model prog w) A (pyNext (.ref z)) Q E s:=by
 have ty:s.TypeIs (.ref z) "zip" := ⟨_,gz,rfl⟩
 unfold pyNext
 refine wpAny_bind (wpAny_attempt (wpAny_callSpecial?_slot (name:=Str.ofString "__next__") ty F.slot_zip_next (wpAny_call_entry F.slot_zip_next ty F.entry_zip_next
   (Dm ha D gz gp gq gj hx fun g e hk he=>?_) (F.args_zip_next_1 _))))
 obtain⟨o,eo,ec⟩:=he
 exact wpAny_bind (wpAny_isInstance (T := "StopIteration") (b:=true) ⟨o,eo,ec⟩ isSubtype_stop (wpAny_pure (hQ _ hk)))
abbrev vm (h:Heap) (x0:Str) (t0:Tok):Heap:=h.push { cls:=.type "str_ascii_iterator",data:=.fields #[.str x0 t0,.int 0 0] }
abbrev Av (h:Heap) (x0:Str) (t0:Tok) (b:Addr):Heap:=(vm h x0 t0).push { cls:=.type "list_iterator",data:=.fields #[.ref b,.int 0 0] }
abbrev Aw (h:Heap) (x0:Str) (t0:Tok) (b:Addr):Heap:=(Av h x0 t0 b).push { cls:=.type "tuple",data:=.seq #[.ref h.objs.size,.ref (vm h x0 t0).objs.size] }
abbrev Ax (h:Heap) (x0:Str) (t0:Tok) (b:Addr):Heap:=(Aw h x0 t0 b).push { cls:=.type "tuple",data:=.seq #[.none,.none] }
abbrev vn (h:Heap) (x0:Str) (t0:Tok) (b:Addr):Heap:=(Ax h x0 t0 b).push { cls:=.type "zip",data:=.fields #[.none,.bool false,.bool false,.ref (Av h x0 t0 b).objs.size,.ref (Aw h x0 t0 b).objs.size] }
theorem Dn {x0:Str} (t0:Tok) (b:Addr) (ys:Array Value) (h0:x0.cps.all (· < 128)=true):Meets (Builtin.«zip.__new__» ⟨[.type "zip",.str x0 t0,.ref b],[]⟩) (fun _ R s=>s.heap.IsList b ys /\
   R (.ok (.ret (.ref (Ax s.heap x0 t0 b).objs.size))) { s with heap:=vn s.heap x0 t0 b }) :=
 .of_wp fun P w' A' R' s' hh=>by
  obtain⟨hp,g,d,tk,os⟩:=s'
  obtain⟨gb,hh⟩:=hh
  have hsub:=sub_zip
  have lb:Heap.IsList (Shared.heap ⟨vm hp x0 t0,g,d,tk,os⟩) b ys:=listAt gb fun o e=>Heap.get?_push_of_some _ e
  have la:∀ {A':Around} {E':Value->Shared->Prop} {Q':Value->Shared->Prop},Q' (.ref hp.objs.size) ⟨vm hp x0 t0,g,d,tk,os⟩->wpAny (model P w') A' (pyIter (.str x0 t0)) Q' E' ⟨hp,g,d,tk,os⟩:=fun z=>wpAny_pyIter_ascii h0 z
  clear h0
  unfold Builtin.«zip.__new__»
  repeat (first | (with_reducible refine la ?_) | (with_reducible refine wpAny_pyIter_list lb ?_) | wp_step)
  exact⟨_,rfl,hh⟩
theorem BH {x0:Str} {t0:Tok} {b:Addr} {ys:Array Value} {Q:Value->Shared->Prop} (h0:x0.cps.all (· < 128)=true) (gb:s.heap.IsList b ys)
  (h:∀ g,IsZip g (s.heap.objs.size+4) (s.heap.objs.size+2) (s.heap.objs.size+3) .none->IsPair g (s.heap.objs.size+2) (.ref s.heap.objs.size) (.ref (s.heap.objs.size+1)) ->
   IsPair g (s.heap.objs.size+3) .none .none->g.IsStrIter s.heap.objs.size "str_ascii_iterator" x0 t0 0->g.IsListIter (s.heap.objs.size+1) b 0 ->
   (∀ c o,s.heap.get? c=some o->g.get? c=some o)->Q (.ref (s.heap.objs.size+4)) { s with heap:=g }) :
  wpAny (model prog w) A (call (.type "zip") [.str x0 t0,.ref b]) Q E s:=by
 refine callType_new F.called_zip (by decide) (F.typeCall_zip_2 _ _) (F.newCall_zip_2 _ _) (fun obj=>F.args_object_init_3 obj _ _) F.entry_zip_new (Dn t0 b ys h0) ⟨gb,?_⟩
 have z1:(vm s.heap x0 t0).objs.size=s.heap.objs.size+1:=Heap.size_push ..
 have z2:(Av s.heap x0 t0 b).objs.size=s.heap.objs.size+2:=by rw [Heap.size_push,z1]
 have z3:(Aw s.heap x0 t0 b).objs.size=s.heap.objs.size+3:=by rw [Heap.size_push,z2]
 have z4:(Ax s.heap x0 t0 b).objs.size=s.heap.objs.size+4:=by rw [Heap.size_push,z3]
 have up:∀ {h:Heap} {c:Addr} {o o':Obj},h.get? c=some o->(h.push o').get? c=some o:=fun e=>Heap.get?_push_of_some _ e
 have q5:(vn s.heap x0 t0 b).get? (Ax s.heap x0 t0 b).objs.size=some _:=Heap.get?_push_size _ rfl
 have q4:(vn s.heap x0 t0 b).get? (Aw s.heap x0 t0 b).objs.size=some _:=up (Heap.get?_push_size _ rfl)
 have q3:(vn s.heap x0 t0 b).get? (Av s.heap x0 t0 b).objs.size=some _:=up (up (Heap.get?_push_size _ rfl))
 have q2:(vn s.heap x0 t0 b).get? (vm s.heap x0 t0).objs.size=some _:=up (up (up (Heap.get?_push_size _ rfl)))
 have q1:(vn s.heap x0 t0 b).get? s.heap.objs.size=some _:=up (up (up (up (Heap.get?_push_size _ rfl))))
 show _/\_
 rw [z2,z3,z4] at q5
 rw [z1,z2] at q3
 rw [z3] at q4
 rw [z1] at q2
 rw [z4]
 exact⟨⟨_,q5,rfl⟩,h _ q5 q3 q4 ⟨_,q1,rfl,rfl⟩ ⟨_,q2,rfl,rfl⟩ fun c o x=>up (up (up (up (up x))))⟩
end
section
variable {X:Cx} {pins:List (Addr × Obj)} {σ : List (Option V)} {H H':Hp} {s:Shared} {h':Heap}
def pM (K:PySem.W.Frag) (x0:Str) (b:Addr):It :=
 ⟨fun i H=>∃ ys y,ay K H b ys/\i < x0.cps.size/\ys[i]? = some y,
  fun i H v H'=>∃ t c y,v=.ref t/\H t=none/\H' = upd H t (.tup [.str ⟨#[c]⟩,y])/\x0.cps[i]? = some c/\∀ ys,ay K H b ys->ys[i]? = some y,
  fun i _=>i=x0.cps.size⟩
theorem yl {P:Program} {w:World} {K:PySem.W.Frag} {elts:List Expr} {kk:Nat} {pos:Pos} (x0:Str) (t0:Tok) (b z p q j k:Addr) (D:jm z p q j k b b) :
  Turn P w K (.Tuple elts kk pos) (pM K x0 b) [z,p,q,j,k] z (fun i h=>IsZip h z p q .none/\IsPair h p (.ref j) (.ref k)/\(∃ u v,IsPair h q u v)/\h.IsStrIter j "str_ascii_iterator" x0 t0 i/\h.IsListIter k b i) where
 mem:=by simp
 obj:=fun i h st c hc=>by
  obtain⟨gz,gp,⟨u,v,gq⟩,⟨oj,ej,cj,dj⟩,⟨ok,ek,ck,dk⟩⟩:=st
  simp only [List.mem_cons,List.not_mem_nil,or_false] at hc
  rcases hc with rfl | rfl | rfl | rfl | rfl
  ·exact⟨_,gz,fun v e=>by cases e⟩
  ·exact⟨_,gp,fun v e=>by cases e⟩
  ·exact⟨_,gq,fun v e=>by cases e⟩
  ·exact⟨oj,ej,fun v e=>by rw [dj] at e;cases e⟩
  ·exact⟨ok,ek,fun v e=>by rw [dk] at e;cases e⟩
 keep:=fun i h g st kp=>by
  obtain⟨gz,gp,⟨u,v,gq⟩,⟨oj,ej,rj⟩,⟨ok,ek,rk⟩⟩:=st
  exact⟨kp z (by simp) _ gz,kp p (by simp) _ gp,⟨u,v,kp q (by simp) _ gq⟩,⟨oj,kp j (by simp) _ ej,rj⟩,⟨ok,kp k (by simp) _ ek,rk⟩⟩
 item:=by
  intro X hP hw hK hc i pins s σ H E I hf st hg
  subst hP hw hK
  obtain⟨gz,gp,⟨u,v,gq⟩,gj,gk⟩:=st
  obtain⟨ys,y,hb,hlt,hy⟩:=hg
  obtain⟨js,rb,pb,_⟩:=I.list hb
  have hx:x0.cps[i]? = some x0.cps[i]:=Array.getElem?_eq_getElem hlt
  generalize x0.cps[i] = c0 at hx
  obtain⟨yv,hyv,ry⟩:=rb.get hy
  have sz:∀ c ∈ [z,p,q,j,k],c ≠ s.heap.objs.size:=fun c hc e=>by
   subst e
   simp only [List.mem_cons,List.not_mem_nil,or_false] at hc
   rcases hc with e | e | e | e | e
   ·exact absurd (Heap.lt_size gz) (by rw [<-e];exact Nat.lt_irrefl _)
   ·exact absurd (Heap.lt_size gp) (by rw [<-e];exact Nat.lt_irrefl _)
   ·exact absurd (Heap.lt_size gq) (by rw [<-e];exact Nat.lt_irrefl _)
   ·obtain⟨oj,ej,_⟩:=gj
    exact absurd (Heap.lt_size ej) (by rw [<-e];exact Nat.lt_irrefl _)
   ·obtain⟨ok,ek,_⟩:=gk
    exact absurd (Heap.lt_size ek) (by rw [<-e];exact Nat.lt_irrefl _)
  refine BF D gz gp gq gj gk pb.isList hx (y:=yv) (by simpa using hyv) fun g a1 a2 a3 a4 a5 a6 hk=>?_
  refine⟨.ref s.heap.objs.size,rfl,wpAny_letOwnedTupleGo_zip a1 fun g' gz' sb=>?_⟩
  have fr:=I.au.fresh (a:=s.heap.objs.size) (Nat.le_refl _)
  have I1:Inv X pins σ (upd H s.heap.objs.size (.tup [.str ⟨#[c0]⟩,y])) { s with heap:=s.heap.push { cls:=.type "tuple",data:=.seq #[.str ⟨#[c0]⟩ s.toks,yv] },toks:=s.toks+1 } :=
   I.laid (fun _ _ e=>Heap.get?_push_of_some _ e) (Nat.le_refl _) ⟨by show 2<=sizeLine;decide,[.str ⟨#[c0]⟩ s.toks,yv],.cons ⟨_,rfl⟩ (.cons ry .nil),by first | exact IsTup.new _ _ | exact⟨_,Heap.get?_push_size _ rfl,rfl,_,rfl,rfl⟩⟩
  have f1:∀ c ∈ [z,p,q,j,k],fC X pins (upd H s.heap.objs.size (.tup [.str ⟨#[c0]⟩,y])) c:=fun c hc=>by
   obtain⟨f0,fr'⟩:=hf c hc
   exact⟨by rw [ar (sz c hc)];exact f0,fr'⟩
  have I2:Inv X pins σ (upd H s.heap.objs.size (.tup [.str ⟨#[c0]⟩,y])) { s with heap:=g',toks:=s.toks+1 }:=Inv.gg (s:={ s with heap:=s.heap.push { cls:=.type "tuple",data:=.seq #[.str ⟨#[c0]⟩ s.toks,yv] },toks:=s.toks+1 }) (fp:=[z,p,q,j,k]) (h':=g') (t':=s.toks+1) I1 (fun c o hc e=>by
   simp only [List.mem_cons,List.not_mem_nil,or_false,not_or] at hc
   refine sb.extBut _ _ hc.1 ?_
   rcases Heap.get?_push_cases e with ⟨rfl,rfl⟩ | e
   ·exact a5
   ·exact hk c o hc.1 hc.2.2.1 hc.2.2.2.1 hc.2.2.2.2 e) f1
  refine⟨.ref s.heap.objs.size,_,I2,rfl,⟨_,c0,y,rfl,fr,rfl,hx,fun ys' h2=>?_⟩,⟨gz',sb.extBut _ _ D.pz (hk _ _ D.pz D.pq D.pj D.pk gp),⟨_,yv,sb.extBut _ _ D.qz a2⟩,a3.extBut sb.extBut D.jz,a4.extBut sb.extBut D.kz⟩,fun c hc=>(f1 c hc).1⟩
  rw [I.mY h2 hb]
  exact hy
 done:=by
  intro X hP hw hK hc i pins s σ H E I hf st hg
  subst hP hw hK
  obtain⟨gz,gp,⟨u,v,gq⟩,gj,gk⟩:=st
  have hx:x0.cps[i]? = none:=by rw [show i=x0.cps.size from hg];simp
  exact BG (I.ok.hd hc) D gz gp gq gj hx fun g hk=>⟨rfl,I.gg (fp:=[z,p,q,j,k]) (t':=s.toks) (fun c o hc e=>by
   simp only [List.mem_cons,List.not_mem_nil,or_false,not_or] at hc
   exact hk c o hc.1 hc.2.2.1 hc.2.2.2.1 hc.2.2.2.2 e) hf⟩
 self:=fun _ _ _ _ _ st h=>wpAny_pyIter_zip st.1 h
inductive zQ (K:PySem.W.Frag) (R:(It->Hp->Prop)) (vs:List V) (H1:Hp):Prop
 | mk (x:Str) (b:Addr) (_:vs = [.str x,.ref b]) (_:x.cps.all (· < 128)=true) (_:(∃ ys,ay K H1 b ys)) (_:R (pM K x b) H1)
def Ep (K:PySem.W.Frag) (ta:TA):TI:=fun σ H R=>ta σ H fun vs H1=>zQ K R vs H1
theorem BI {a b:Expr} {ta:TA} {p pos tp:Pos} {elts:List Expr} {kk:Nat} (hg:Gl X "zip") (hm:X.mg "zip" = none) (ha:PA X [a,b] ta) (hs:starEach [a,b] X.env = [(false,eval a X.env),(false,eval b X.env)]:=by rfl) (hs2:starEach [b] X.env = [(false,eval b X.env)]:=by rfl) :
  PI X (.Tuple elts kk tp) (.Call (.Name "zip" p) [a,b] [] pos) (Ep X.K ta):=by
 intro pins s σ H R I h
 refine Call_ (hZ I hg hm rL (PyProof.Rows.callWith_type1 (aU (ha pos pins s σ H _ I h) fun us s1 ⟨vs,H1,I1,r1,q1⟩=>?_) (by rw [hs,hs2]) (by rw [hs2];rfl)))
 obtain⟨x,y,e,hx,⟨ys,hy⟩,q⟩:=q1
 subst e
 cases r1 with
 | cons r rr =>
  cases rr with
  | cons r' rr =>
   cases rr
   obtain⟨t0,rfl⟩:=r
   cases r'
   obtain⟨js,ry,py,_⟩:=I1.list hy
   have ly:y < s1.heap.objs.size:=py.lt
   refine BH hx py.isList fun g gz gp gq gj gk up=>?_
   refine wpAny_pyIter_zip gz ?_
   have I2:Inv X pins σ H1 { s1 with heap:=g }:=I1.kept (t':=s1.toks) up
   refine⟨_,[s1.heap.objs.size+4,s1.heap.objs.size+2,s1.heap.objs.size+3,s1.heap.objs.size,s1.heap.objs.size+1],_,pM X.K x y,H1,rfl,I2,yl x t0 y _ _ _ _ _ ?_,⟨gz,gp,⟨_,_,gq⟩,gj,gk⟩,fun c hc=>?_,q⟩
   ·exact CP ly ly
   ·have le:s1.heap.objs.size<=c:=by
     simp only [List.mem_cons,List.not_mem_nil,or_false] at hc
     rcases hc with rfl | rfl | rfl | rfl | rfl
     ·exact Nat.le_add_right _ _
     ·exact Nat.le_add_right _ _
     ·exact Nat.le_add_right _ _
     ·exact Nat.le_refl _
     ·exact Nat.le_add_right _ _
    exact I1.gW le (I1.au.fresh le)
theorem zR {K:PySem.W.Frag} {x0:Str} {b:Addr} {ys:List V} {g:TG} {tb:TS} {D:Ends} {σ : St} {H:Hp} (h1:x0.cps.size<=ys.length) (Pv:Nat->St->Hp->Prop) (h0:Pv 0 σ H) (hl:∀ i σ H,i<=x0.cps.size->Pv i σ H->ay K H b ys)
  (hs:∀ i c y σ H t,x0.cps[i]? = some c->ys[i]? = some y->H t=none->Pv i σ H->g (.ref t) σ (upd H t (.tup [.str ⟨#[c]⟩,y])) fun σ2 H2=>tb { D with nx:=Pv (i+1),ct:=Pv (i+1),bk:=D.nx } σ2 H2) (hd:∀ σ H,Pv x0.cps.size σ H->D.nx σ H) :
  ∃ W:Nat->Nat->St->Hp->Prop,(∃ m,W 0 m σ H)/\∀ i m σ H,W i m σ H ->
   ((pM K x0 b).stop i H/\D.nx σ H)\/((pM K x0 b).go i H/\∃ N:St->Hp->Prop,(∀ σ' H',N σ' H'->∃ m',m' < m/\W (i+1) m' σ' H')/\∀ x H',(pM K x0 b).xc i H x H'->g x σ H' fun σ2 H2=>tb { D with nx:=N,ct:=N,bk:=D.nx } σ2 H2):=by
 refine⟨fun i m σ H=>m=x0.cps.size - i/\i<=x0.cps.size/\Pv i σ H,⟨x0.cps.size,by simp,Nat.zero_le _,h0⟩,?_⟩
 rintro i m σ H ⟨rfl,hi,p⟩
 have qb:=hl i σ H hi p
 by_cases hlt:i < x0.cps.size
 ·refine .inr ⟨⟨ys,ys[i]'(by omega),qb,hlt,by simp [show i < ys.length by omega]⟩,Pv (i+1),fun σ' H' p'=>⟨x0.cps.size - (i+1),by omega,rfl,hlt,p'⟩,fun v H' y=>?_⟩
  obtain⟨t,c,y,rfl,ht,rfl,hc,h⟩:=y
  exact hs i c y σ H t hc (h ys qb) ht p
 ·have e:i=x0.cps.size:=by omega
  subst e
  exact .inl ⟨rfl,hd σ H p⟩
end
section
variable {prog:Program} {w:World} {A:Around} {E:Value->Shared->Prop} {s:Shared}
theorem Dp {z p q j k a b:Addr} {m:Nat} {xs:Array Value} {u v:Value} {Q:Fin->Shared->Prop} (ha:A.handled=none) (D:jm z p q j k a b)
  (gz:IsZip s.heap z p q .none) (gp:IsPair s.heap p (.ref j) (.ref k)) (gq:IsPair s.heap q u v)
  (gj:s.heap.IsListIter j a m) (ga:s.heap.IsList a xs) (hx:xs[m]? = none)
  (hE:∀ g e,(∀ c o,c ≠ z->c ≠ q->c ≠ j->c ≠ k->s.heap.get? c=some o->g.get? c=some o)->(∃ o,g.get? e=some o/\o.cls=.type "StopIteration")->E (.ref e) { s with heap:=g }) :
  wpAny (model prog w) A (Builtin.«zip.__next__» ⟨[.ref z],[]⟩) Q E s:=by
 show wpAny _ _ (field (.ref z) 2 >>= fun _=>_) _ _ _
 refine wpAny_bind (wpAny_field gz rfl (x:=.bool false) rfl ?_)
 show wpAny _ _ (field (.ref z) 3 >>= fun _=>_) _ _ _
 refine wpAny_bind (wpAny_field gz rfl (x:=.ref p) rfl (wpAny_bind (wpAny_seqItems gp rfl ?_)))
 show wpAny _ _ (Builtin.SmallTypes.ownedTupleIsFree (.ref z) >>= fun _=>_) _ _ _
 refine wpAny_bind ?_
 unfold Builtin.SmallTypes.ownedTupleIsFree
 refine wpAny_bind (wpAny_field gz rfl (x:=.none) rfl (wpAny_pure ?_))
 simp only [if_true]
 refine wpAny_bind (wpAny_rule (wpAny_bind (wpAny_field gz rfl (x:=.ref q) rfl (wpAny_bind (wpAny_setField_rec gz (by simp) fun g1 gz1 t1=>?_)))))
 replace gz1:IsZip g1 z p q .ellipsis:=gz1
 refine wpAny_bind ?_
 simp only [List.forIn_cons,List.forIn_nil,List.zipIdx_cons,List.zipIdx_nil]
 refine wpAny_bind (wpAny_bind (wpAny_onRaise ?_))
 show wpAny _ _ (Builtin.SmallTypes.nextOf (.ref j) >>= fun _=>_) _ _ _
 refine wpAny_bind (wpAny_nextOf_list_end ha (gj.extBut t1.extBut D.jz) (listAt ga fun o e=>t1.extBut _ _ D.az e) hx fun g2 e t2 he=>?_)
 obtain⟨oe,eoe,ce⟩:=he
 have gz2:IsZip g2 z p q .ellipsis:=t2 _ _ D.jz.symm gz1
 have ne:e ≠ z:=fun x=>by subst x;rw [gz2] at eoe;cases eoe;simp at ce
 exact wpAny_setField_rec gz2 (by simp) fun g3 _ t3=>hE g3 e (fun c o c1 _ c3 _ x=>t3.extBut _ _ c1 (t2 _ _ c3 (t1.extBut _ _ c1 x))) ⟨oe,t3.extBut _ _ ne eoe,ce⟩
theorem BJ {z p q j k a b:Addr} {m:Nat} {xs:Array Value} {u v:Value} {Q:Option Value->Shared->Prop} (ha:A.handled=none) (D:jm z p q j k a b)
  (gz:IsZip s.heap z p q .none) (gp:IsPair s.heap p (.ref j) (.ref k)) (gq:IsPair s.heap q u v)
  (gj:s.heap.IsListIter j a m) (ga:s.heap.IsList a xs) (hx:xs[m]? = none)
  (hQ:∀ g,(∀ c o,c ≠ z->c ≠ q->c ≠ j->c ≠ k->s.heap.get? c=some o->g.get? c=some o)->Q none { s with heap:=g }):wpAny (model prog w) A (pyNext (.ref z)) Q E s:=by
 have ty:s.TypeIs (.ref z) "zip" := ⟨_,gz,rfl⟩
 unfold pyNext
 refine wpAny_bind (wpAny_attempt (wpAny_callSpecial?_slot (name:=Str.ofString "__next__") ty F.slot_zip_next (wpAny_call_entry F.slot_zip_next ty F.entry_zip_next
   (Dp ha D gz gp gq gj ga hx fun g e hk he=>?_) (F.args_zip_next_1 _))))
 obtain⟨o,eo,ec⟩:=he
 exact wpAny_bind (wpAny_isInstance (T := "StopIteration") (b:=true) ⟨o,eo,ec⟩ isSubtype_stop (wpAny_pure (hQ _ hk)))
abbrev ym (h:Heap) (a:Addr):Heap:=h.push { cls:=.type "list_iterator",data:=.fields #[.ref a,.int 0 0] }
abbrev Ay (h:Heap) (a b:Addr):Heap:=(ym h a).push { cls:=.type "tuple_iterator",data:=.fields #[.ref b,.int 0 0] }
abbrev Az (h:Heap) (a b:Addr):Heap:=(Ay h a b).push { cls:=.type "tuple",data:=.seq #[.ref h.objs.size,.ref (ym h a).objs.size] }
abbrev AA (h:Heap) (a b:Addr):Heap:=(Az h a b).push { cls:=.type "tuple",data:=.seq #[.none,.none] }
abbrev vo (h:Heap) (a b:Addr):Heap:=(AA h a b).push { cls:=.type "zip",data:=.fields #[.none,.bool false,.bool false,.ref (Ay h a b).objs.size,.ref (Az h a b).objs.size] }
theorem Dq (a b:Addr) (xs ys:Array Value):Meets (Builtin.«zip.__new__» ⟨[.type "zip",.ref a,.ref b],[]⟩) (fun _ R s=>s.heap.IsList a xs/\s.heap.IsTuple b ys /\
   R (.ok (.ret (.ref (AA s.heap a b).objs.size))) { s with heap:=vo s.heap a b }) :=
 .of_wp fun P w' A' R' s' hh=>by
  obtain⟨hp,g,d,tk,os⟩:=s'
  obtain⟨ga,gb,hh⟩:=hh
  have hsub:=sub_zip
  have la:Heap.IsList (Shared.heap ⟨hp,g,d,tk,os⟩) a xs:=ga
  have lb:Heap.IsTuple (Shared.heap ⟨ym hp a,g,d,tk,os⟩) b ys:=fm gb fun o e=>Heap.get?_push_of_some _ e
  wp_walk using wpAny_pyIter_list la,wpAny_pyIter_tuple lb
  exact⟨_,rfl,hh⟩
theorem BK {a b:Addr} {xs ys:Array Value} {Q:Value->Shared->Prop} (ga:s.heap.IsList a xs) (gb:s.heap.IsTuple b ys)
  (h:∀ g,IsZip g (s.heap.objs.size+4) (s.heap.objs.size+2) (s.heap.objs.size+3) .none->IsPair g (s.heap.objs.size+2) (.ref s.heap.objs.size) (.ref (s.heap.objs.size+1)) ->
   IsPair g (s.heap.objs.size+3) .none .none->g.IsListIter s.heap.objs.size a 0->g.IsTupleIter (s.heap.objs.size+1) b 0 ->
   (∀ c o,s.heap.get? c=some o->g.get? c=some o)->Q (.ref (s.heap.objs.size+4)) { s with heap:=g }) :
  wpAny (model prog w) A (call (.type "zip") [.ref a,.ref b]) Q E s:=by
 refine callType_new F.called_zip (by decide) (F.typeCall_zip_2 _ _) (F.newCall_zip_2 _ _) (fun obj=>F.args_object_init_3 obj _ _) F.entry_zip_new (Dq a b xs ys) ⟨ga,gb,?_⟩
 have z1:(ym s.heap a).objs.size=s.heap.objs.size+1:=Heap.size_push ..
 have z2:(Ay s.heap a b).objs.size=s.heap.objs.size+2:=by rw [Heap.size_push,z1]
 have z3:(Az s.heap a b).objs.size=s.heap.objs.size+3:=by rw [Heap.size_push,z2]
 have z4:(AA s.heap a b).objs.size=s.heap.objs.size+4:=by rw [Heap.size_push,z3]
 have up:∀ {h:Heap} {c:Addr} {o o':Obj},h.get? c=some o->(h.push o').get? c=some o:=fun e=>Heap.get?_push_of_some _ e
 have q5:(vo s.heap a b).get? (AA s.heap a b).objs.size=some _:=Heap.get?_push_size _ rfl
 have q4:(vo s.heap a b).get? (Az s.heap a b).objs.size=some _:=up (Heap.get?_push_size _ rfl)
 have q3:(vo s.heap a b).get? (Ay s.heap a b).objs.size=some _:=up (up (Heap.get?_push_size _ rfl))
 have q2:(vo s.heap a b).get? (ym s.heap a).objs.size=some _:=up (up (up (Heap.get?_push_size _ rfl)))
 have q1:(vo s.heap a b).get? s.heap.objs.size=some _:=up (up (up (up (Heap.get?_push_size _ rfl))))
 show _/\_
 rw [z2,z3,z4] at q5
 rw [z1,z2] at q3
 rw [z3] at q4
 rw [z1] at q2
 rw [z4]
 exact⟨⟨_,q5,rfl⟩,h _ q5 q3 q4 ⟨_,q1,rfl,rfl⟩ ⟨_,q2,rfl,rfl⟩ fun c o x=>up (up (up (up (up x))))⟩
end
section
variable {X:Cx} {pins:List (Addr × Obj)} {σ : List (Option V)} {H H':Hp} {s:Shared} {h':Heap}
def wL (K:PySem.W.Frag) (a:Addr):It:=⟨fun _ _=>False,fun _ _ _ _=>False,fun i H=>i=0/\ay K H a []⟩
theorem yn {P:Program} {w:World} {K:PySem.W.Frag} {elts:List Expr} {kk:Nat} {pos:Pos} (a b z p q j k:Addr) (D:jm z p q j k a b) :
  Turn P w K (.Tuple elts kk pos) (wL K a) [z,p,q,j,k] z (fun i h=>IsZip h z p q .none/\IsPair h p (.ref j) (.ref k)/\(∃ u v,IsPair h q u v)/\h.IsListIter j a i/\h.IsTupleIter k b i) where
 mem:=by simp
 obj:=fun i h st c hc=>by
  obtain⟨gz,gp,⟨u,v,gq⟩,⟨oj,ej,cj,dj⟩,⟨ok,ek,ck,dk⟩⟩:=st
  simp only [List.mem_cons,List.not_mem_nil,or_false] at hc
  rcases hc with rfl | rfl | rfl | rfl | rfl
  ·exact⟨_,gz,fun v e=>by cases e⟩
  ·exact⟨_,gp,fun v e=>by cases e⟩
  ·exact⟨_,gq,fun v e=>by cases e⟩
  ·exact⟨oj,ej,fun v e=>by rw [dj] at e;cases e⟩
  ·exact⟨ok,ek,fun v e=>by rw [dk] at e;cases e⟩
 keep:=fun i h g st kp=>by
  obtain⟨gz,gp,⟨u,v,gq⟩,⟨oj,ej,rj⟩,⟨ok,ek,rk⟩⟩:=st
  exact⟨kp z (by simp) _ gz,kp p (by simp) _ gp,⟨u,v,kp q (by simp) _ gq⟩,⟨oj,kp j (by simp) _ ej,rj⟩,⟨ok,kp k (by simp) _ ek,rk⟩⟩
 item:=by
  intro X hP hw hK hc i pins s σ H E I hf st hg
  exact hg.elim
 done:=by
  intro X hP hw hK hc i pins s σ H E I hf st hg
  subst hP hw hK
  obtain⟨gz,gp,⟨u,v,gq⟩,gj,gk⟩:=st
  obtain⟨rfl,ha⟩:=hg
  obtain⟨is,ra,pa,_⟩:=I.list ha
  cases ra
  exact BJ (I.ok.hd hc) D gz gp gq gj pa.isList rfl fun g hk=>⟨rfl,I.gg (fp:=[z,p,q,j,k]) (t':=s.toks) (fun c o hc e=>by
   simp only [List.mem_cons,List.not_mem_nil,or_false,not_or] at hc
   exact hk c o hc.1 hc.2.2.1 hc.2.2.2.1 hc.2.2.2.2 e) hf⟩
 self:=fun _ _ _ _ _ st h=>wpAny_pyIter_zip st.1 h
inductive zS (K:PySem.W.Frag) (R:(It->Hp->Prop)) (vs:List V) (H1:Hp):Prop
 | mk (a b:_) (_:vs = [.ref a,.ref b]) (_:ay K H1 a []) (_:(∃ ys,bJ K H1 b ys)) (_:R (wL K a) H1)
def Er (K:PySem.W.Frag) (ta:TA):TI:=fun σ H R=>ta σ H fun vs H1=>zS K R vs H1
theorem BL {a b:Expr} {ta:TA} {p pos tp:Pos} {elts:List Expr} {kk:Nat} (hg:Gl X "zip") (hm:X.mg "zip" = none) (ha:PA X [a,b] ta) (hs:starEach [a,b] X.env = [(false,eval a X.env),(false,eval b X.env)]:=by rfl) (hs2:starEach [b] X.env = [(false,eval b X.env)]:=by rfl) :
  PI X (.Tuple elts kk tp) (.Call (.Name "zip" p) [a,b] [] pos) (Er X.K ta):=by
 intro pins s σ H R I h
 refine Call_ (hZ I hg hm rL (PyProof.Rows.callWith_type1 (aU (ha pos pins s σ H _ I h) fun us s1 ⟨vs,H1,I1,r1,q1⟩=>?_) (by rw [hs,hs2]) (by rw [hs2];rfl)))
 obtain⟨x,y,e,hx,⟨ys,hy⟩,q⟩:=q1
 subst e
 cases r1 with
 | cons r rr =>
  cases rr with
  | cons r' rr =>
   cases rr
   cases r
   cases r'
   obtain⟨is,rx,px,_⟩:=I1.list hx
   obtain⟨js,ry,py,_⟩:=I1.tuple hy
   have lx:x < s1.heap.objs.size:=px.lt
   have ly:y < s1.heap.objs.size:=py.lt
   refine BK px.isList (show s1.heap.IsTuple y js.toArray from py) fun g gz gp gq gj gk up=>?_
   refine wpAny_pyIter_zip gz ?_
   have I2:Inv X pins σ H1 { s1 with heap:=g }:=I1.kept (t':=s1.toks) up
   refine⟨_,[s1.heap.objs.size+4,s1.heap.objs.size+2,s1.heap.objs.size+3,s1.heap.objs.size,s1.heap.objs.size+1],_,wL X.K x,H1,rfl,I2,yn x y _ _ _ _ _ ?_,⟨gz,gp,⟨_,_,gq⟩,gj,gk⟩,fun c hc=>?_,q⟩
   ·exact CP lx ly
   ·have le:s1.heap.objs.size<=c:=by
     simp only [List.mem_cons,List.not_mem_nil,or_false] at hc
     rcases hc with rfl | rfl | rfl | rfl | rfl
     ·exact Nat.le_add_right _ _
     ·exact Nat.le_add_right _ _
     ·exact Nat.le_add_right _ _
     ·exact Nat.le_refl _
     ·exact Nat.le_add_right _ _
    exact I1.gW le (I1.au.fresh le)
theorem BM {K:PySem.W.Frag} {a acc:Addr} {n:Nat} {js:List Nat} {g:TG} {ct:TT} {te:TE} {σ : St} {H1:Hp} {Q:VK} (ha:ay K (upd H1 acc (.lst [])) a []) (q:Q (.ref acc) (upd H1 acc (.lst []))):mL (wL K a) n js g ct te acc σ H1 Q:=by
 refine⟨fun i m ys τ H=>i=0/\ys = []/\H=upd H1 acc (.lst []),⟨0,rfl,rfl,rfl⟩,?_⟩
 rintro i m ys τ H ⟨rfl,rfl,rfl⟩
 exact⟨aa,by show 0 < sizeLine;decide,.inl ⟨⟨rfl,ha⟩,q⟩⟩
end
section
variable {prog:Program} {w:World} {A:Around} {E:Value->Shared->Prop} {s:Shared}
end
section
variable {X:Cx}
end
noncomputable instance DF:DecidableEq PyData:=fun a b=>Classical.propDecidable (a=b)
section
variable {prog:Program} {w:World} {E:Value->Shared->Prop}
end
abbrev KX (kvs:List (PyData × Addr × V)) (xs:List (PyData × Addr × Value)):Prop:=Paired (fun (p:PyData × Addr × V) (q:PyData × Addr × Value)=>p.1=q.1/\p.2.1=q.2.1/\RelV p.2.2 q.2.2) kvs xs
section
variable {X:Cx} {pins:List (Addr × Obj)} {σ : St} {H:Hp} {s:Shared} {a k:Addr} {kvs:List (PyData × Addr × V)} {d:PyData}
end
section
variable {X:Cx}
end
section
variable {prog:Program} {w:World} {A:Around} {E:Value->Shared->Prop} {s:Shared}
end
section
variable {X:Cx}
end
section
variable {X:Cx}
end
section
variable {prog:Program} {w:World} {A:Around} {E:Value->Shared->Prop} {s:Shared}
end
section
variable {X:Cx}
end
section
variable {X:Cx}
end
theorem Dr {A:Around} {k:Nat} (hr:b6 k A):A.units+66 < cLine:=by have:=hr.un;omega
section
variable {P:Program} {w:World} {K:PySem.W.Frag} {mg:Str->Option Value} {base:Heap}
end
section
variable {P:Program} {w:World} {C r m d:Addr} {H H':Hp} {ms:List (PyData × Addr)}
end
section
variable (P:Program) (w:World) (C:Addr)
end
def T0:Str->Sx:=fun _=>Fd
section
variable (tops:Nat->Prop) (most:Nat)
end
section
variable {prog:Program} {w:World} {A:Around} {E:Value->Shared->Prop} {s:Shared}
end
section
variable {X:Cx}
end
section
variable {tops:Nat->Prop} {most:Nat}
end
section
variable {X:Cx}
theorem pN:cV X (binaryOp .Mult) (fun x y H Q=>∃ t n,x=.str t/\y=.int n/\MulOk t n/\Q (.str (Txt.mul t n)) H):=by
 intro pins s σ H x y v u Q I rx ry h
 obtain⟨t,n,rfl,rfl,hm,q⟩:=h
 obtain⟨k,rfl⟩:=rx
 obtain⟨k',rfl⟩:=ry
 exact SB.mul hm fun t' j=>⟨.str _,H,I.tok _,⟨_,rfl⟩,q⟩
end
section
variable {X:Cx}
end
section
variable {X:Cx}
end
section
variable {X:Cx}
end
section
variable {X:Cx}
end
end L2
namespace LS
open PySem PySem.Spec PyProof.Rows L2
section
variable {prog:Program} {w:World} {A:Around} {E:Value->Shared->Prop} {s:Shared} {I l:Addr} {its:Array Value}
end
section
variable {prog:Program} {w:World} {A:Around} {E:Value->Shared->Prop} {s:Shared} {I l:Addr} {its:Array Value}
end
end LS
namespace L2
open PySem PySem.Spec PyProof.Rows
section
variable {X:Cx}
end
end L2
namespace LS
open PySem PySem.Spec PyProof.Rows L2
section
variable {prog:Program} {w:World} {K:Type} [DecidableEq K] {knd:KeyKind prog w K}
variable {A:Around} {E:Value->Shared->Prop} {s:Shared} {a:Addr} {ks:List K}
end
section
variable {prog:Program} {w:World} {A:Around} {E:Value->Shared->Prop} {s:Shared}
end
end LS
namespace L2
open PySem PySem.Spec PyProof.Rows LS
section
variable {X:Cx}
end
end L2
namespace HT
open PySem PySem.Spec PyProof.Rows
section
variable {prog:Program} {w:World} {A:Around} {E:Value->Shared->Prop} {s:Shared}
end
end HT
namespace L2
open PySem PySem.Spec PyProof.Rows LS
section
variable {X:Cx}
end
section
variable {prog:Program} {w:World} {A:Around} {E:Value->Shared->Prop} {s:Shared}
end
section
variable {X:Cx}
end
section
variable {X:Cx}
end
section
variable {ps:List Piece} {a b:Nat} {p q:Piece}
end
section
variable {X:Cx} {P:Program} {w:World}
end
section
variable {P:Program} {w:World} {H H':Hp} {d:Addr} {n:Nat} {us:List ((Nat × Nat) × Addr)}
end
section
variable (P:Program) (w:World)
end
section
variable {X:Cx}
end
section
variable {X:Cx}
end
def v8:List Int:=[-4,-3,-2,-1,0,1,2,3]
section
variable {ps:List Piece}
end
section
variable {X:Cx}
end
section
variable {prog:Program} {w:World} {A:Around} {E:Value->Shared->Prop} {s:Shared}
end
section
variable {X:Cx}
end
abbrev EE:=(Nat × Nat) × List Str
section
variable {ps:List Piece} {ms:List EE} {at_ f:Nat} {x:EE} {p q:Piece}
end
section
variable (P:Program) (w:World)
end
section
variable {n odd a b i j:Nat}
end
open AutoSeq1 (wpAny_loadPart')
section
variable {prog:Program} {w:World} {A:Around} {E:Value->Shared->Prop} {s:Shared}
end
section
variable {prog:Program} {w:World} {A:Around} {E:Value->Shared->Prop} {s:Shared}
end
section
variable {X:Cx}
end
section
variable {ps qs:List Piece} {src:List Nat}
end
section
variable (ps:List Piece)
end
section
variable {ps:List Piece}
end
section
variable {ps:List Piece} {st:Nat->Nat}
end
def EF (a b:Sp):Sp:=fun vs H Q E=>a vs H Q E\/b vs H Q E
section
variable {ps:List Piece} {G:List Nat}
end
section
variable {a b c d e z:V}
end
section
variable (D:Addr)
end
def AB (d:PyData):Prop:=d=.none\/((∃ zs,d=.tuple zs)/\d.canLay0=true)
def sL:Value->Bool
 | .none=>true
 | _=>false
section
variable {X:Cx} {pins:List (Addr × Obj)} {σ : St} {H:Hp} {s:Shared}
theorem Ds {A:Around} (I:Inv X pins σ H s) (hu:A.units+64 < cLine) {x:V} {u:Value} {d:PyData} (rx:RelV x u) (rd:bh H x d) (h:AB d):SeqAt.EqAt A s u .none (sL u)/\sL u=decide (d=.none):=by
 obtain⟨bs,rb⟩:=rd.reads I.au rx
 rcases h with rfl | ⟨⟨zs,rfl⟩,hl⟩
 ·have e:=SeqAt.eqAt_reads .none .none A s u .none bs [] rb .none rfl rfl (by show A.units+min 0 0 < cLine;omega)
  cases rb
  exact⟨e,(decide_eq_true rfl).symm⟩
 ·have e:=SeqAt.eqAt_reads (.tuple zs) .none A s u .none bs [] rb .none hl rfl (by show A.units+min _ 0 < cLine;omega)
  cases rb
  exact⟨e,(decide_eq_false (fun z=>nomatch z)).symm⟩
inductive Dt (K:PySem.W.Frag) (x:V) (y:V) (H:Hp) (Q:VK):Prop
 | mk (p:Addr) (xs:List V) (ds:List PyData) (_:x=.aW) (_:y=.ref p) (_:ay K H p xs) (_:aN H xs ds) (_:(∀ e ∈ ds,AB e)) (_:Q (.bl (decide (PyData.none ∈ ds))) H)
theorem AD {A:Around} (I:Inv X pins σ H s) (hu:A.units+64 < cLine):∀ {xs:List V} {us:List Value} {ds:List PyData},Vals xs us->aN H xs ds->(∀ e ∈ ds,AB e)->(∀ u ∈ us,SeqAt.EqAt A s u .none (sL u))/\us.any sL=decide (PyData.none ∈ ds)
 | _,_,_,.nil,.nil,_=>⟨(fun u h=>nomatch h),(decide_eq_false (fun z=>nomatch z)).symm⟩
 | _,_,_,.cons r t,.cons rd rt,h=>by
  obtain⟨h1,h2⟩:=Ds I hu r rd (h _ (List.mem_cons_self ..))
  obtain⟨g1,g2⟩:=AD I hu t rt fun e he=>h e (List.mem_cons_of_mem _ he)
  refine⟨fun u hu'=>?_,?_⟩
  ·rcases List.mem_cons.mp hu' with rfl | hu'
   ·exact h1
   ·exact g1 u hu'
  ·rw [List.any_cons,g2,h2]
   rename_i d ds
   by_cases z:d=.none
   ·subst z;simp
   ·have:(PyData.none ∈ d :: ds) ↔ PyData.none ∈ ds:=by rw [List.mem_cons];exact⟨fun q=>q.resolve_left fun w=>z w.symm,.inr⟩
    simp only [this,decide_eq_false z,Bool.false_or]
theorem sN (hu:X.A.units+66 < cLine):cV X (compareOp .In) (Dt X.K):=by
 intro pins s σ H x y v u Q I rx ry h
 obtain⟨p,xs,ds,rfl,rfl,hq,rd,hk,q⟩:=h
 cases ry
 obtain rfl:v=Value.none:=rx
 obtain⟨its,rv,pl,hz⟩:=I.list hq
 have key:=AD (A:=X.A.in1) I (by first | (rw [Around.in1_units];omega) | omega) rv rd hk
 refine SeqAt.in_listAt sL pl.isList (fun w hw=>key.1 w (by simpa using hw)) ⟨.bl _,H,I,rfl,?_⟩
 rw [show its.toArray.any sL=its.any sL by simp,key.2]
 exact q
end
open PySem.W
section
variable {X:Cx}
theorem sP {e:Expr}:PE X e (fun _ _ _=>False):=fun _ _ _ _ _ _ h=>h.elim
theorem zT {e:Expr}:PT X e (fun _ _ _=>False):=fun _ _ _ _ _ _ h=>h.elim
end
structure AE (K:Frag) (mg:Str->Option Value) (aR rP:Addr) (D:List (Str × Addr)):Prop where
 tab:v3 K mg "ROWS" aR D
 at_:KTD.datumAt ("plan" : Str) D=some rP
 aW:KTup K rP []
structure EG (K:Frag) (mg:Str->Option Value) (aS:Addr):Prop where
 CW:mg "DEEDS" = some (.ref aS)
 tup:KTup K aS ["piece", "past", "short", "spare", "joined"]
structure vp (K:Frag) (mg:Str->Option Value) (cP cM cN cR cL cO:Addr):Prop extends Dl K mg cP cM cN cR cL cO where
 tP:iq K cP
 yP:typeIn K (.ref cP)=some (.type "type")
 yO:typeIn K (.ref cO)=some (.type "type")
 sM:mroIn K cM (.ref cP)=some true
 zO:mroIn K cO (.ref cP)=some true
 mM:kitAny K (.ref cM) [.ref cN,.ref cR,.ref cL] = some false
 mO:kitAny K (.ref cO) [.ref cN,.ref cR,.ref cL] = some false
structure qW (K:Frag) (C:Addr):Prop where
 cl:kQ K C
 AF:iP K C "plans"
inductive wM (vs:List V) (H:Hp) (Q:VK) (_:XK):Prop
 | mk (x:Str) (_:vs = [.str x]) (_:bf 200000 x) (_:∀ H',af H H'->Q (vO (eE x)) H')
inductive vq (vs:List V) (H:Hp) (Q:VK) (_:XK):Prop
 | mk (x:Str) (_:vs = [.str x]) (_:bf 200000 x) (_:∀ H',af H H'->Q (vW x) H')
inductive vt (vs:List V) (H:Hp) (Q:VK) (_:XK):Prop
 | mk (x:Str) (_:vs = [.str x]) (_:bf 200000 x) (_:∀ (t:Addr) H',bh H' (.ref t) (.tuple (aO x))->af H H'->Q (.ref t) H')
inductive nI (cO:Addr) (vs:List V) (H:Hp) (Q:VK) (E:XK):Prop
 | mk (x:Str) (n:Nat) (at_:Int) (_:vs = [.str x,.int (n:Nat),.int at_]) (_:bf 200000 x) (_:at_.natAbs < 10 ^ 50)
   (_:b9 (bp x) n=true->∀ v H',bh H' v (bp x)->af H H'->Q v H')
   (_:b9 (bp x) n=false->∀ dx H',H' dx=some (.xd [("line",.int at_)])->af H H'->E (.ref cO) (some dx) H')
def dY (x:Str):Option Nat:=(bC x).findIdx? fun l=>!b9 (bp l) (bC x).length
inductive pO (cM cO:Addr) (vs:List V) (H:Hp) (Q:VK) (E:XK):Prop
 | mk (x:Str) (_:vs = [.str x]) (_:bf 200000 x)
   (_:400 < (bC x).length->∀ H',af H H'->E (.ref cM) none H')
   (_:(bC x).length<=400->∀ k,dY x=some k->∀ dx H',H' dx=some (.xd [("line",.int (k:Nat))])->af H H'->E (.ref cO) (some dx) H')
   (_:(bC x).length<=400->dY x=none->∀ v H',bh H' v (.tuple ((bC x).map bp))->af H H'->Q v H')
theorem yo {x:Str} {m:Nat} (h:bf m x) (hm:m<=300000):dz (.str x)=true:=by
 show (decide (x.length<=300000) && (sg x).all fun c=>decide (c < 0x110000))=true
 rw [decide_eq_true (by have:=h.b3;omega),List.all_eq_true.mpr fun c hc=>decide_eq_true (h.ok c hc)]
 rfl
theorem Du {x:Str} (h:bf 200000 x):dz (aJ x)=true:=by
 unfold aJ
 cases eE x with
 | none=>exact yo h (by decide)
 | some i=>rfl
theorem qX {x:Str} (h:bf 200000 x):∀ p ∈ Txt.split x " ",bf 200000 p:=iX eQ gA h
theorem sQ {x:Str} (h:bf 200000 x):dz (.tuple (aO x))=true:=by
 have hl:=split_le x " "
 have hx:=h.b3
 have ht:=qX h
 obtain⟨w,ys,e⟩:=dA (x:=x) eQ gA
 unfold aO
 rw [e] at hl ht ⊢
 rw [List.length_cons] at hl
 refine pD (by rw [List.length_cons,List.length_map];omega) fun d hd=>?_
 rcases List.mem_cons.mp hd with rfl | hd
 ·exact yo (ht w List.mem_cons_self) (by decide)
 ·obtain⟨y,hy,rfl⟩:=List.mem_map.mp hd
  exact Du (ht y (List.mem_cons_of_mem _ hy))
theorem kq {x:Str} (h:bf 200000 x):∀ p ∈ partsOf x,bf 200000 p:=iX pH sE h
theorem i8 (x:Str):∃ l t,partsOf x=l ++ [t]:=by
 obtain⟨w,ys,e⟩:=dA (x:=x) pH sE
 unfold partsOf
 rw [e]
 exact⟨(w :: ys).dropLast,(w :: ys).getLast (List.cons_ne_nil _ _),(List.dropLast_concat_getLast _).symm⟩
theorem gu {x:Str} {l:List Str} {t:Str} (e:partsOf x=l ++ [t]):bp x=.tuple [.tuple (l.map fun t=>.tuple (aO t)),.tuple (aO t)]:=by
 unfold bp
 rw [e,List.dropLast_concat,List.getLastD_concat]
theorem wN {x:Str} (h:bf 200000 x):dz (bp x)=true:=by
 obtain⟨l,t,e⟩:=i8 x
 have ht:=kq h
 have hl:(partsOf x).length<=x.length+2:=split_le x "; "
 have hx:=h.b3
 rw [gu e]
 rw [e] at ht hl
 rw [List.length_append] at hl
 refine pD (by show 2<=300000;decide) fun d hd=>?_
 rcases List.mem_cons.mp hd with rfl | hd
 ·refine pD (by rw [List.length_map];omega) fun d hd=>?_
  obtain⟨y,hy,rfl⟩:=List.mem_map.mp hd
  exact sQ (ht y (List.mem_append_left _ hy))
 ·rw [List.mem_singleton.mp hd]
  exact sQ (ht t (by simp))
theorem i9 {x:Str} (h:bf 200000 x):∀ p ∈ bC x,bf 200000 p:=iX hG j3 h
theorem nJ {x:Str} (h:bf 200000 x):0 < (bC x).length/\(bC x).length<=200002:=by
 have hl:(bC x).length<=x.length+2:=split_le x "\n"
 have hx:=h.b3
 obtain⟨w,ys,e⟩:=dA (x:=x) hG j3
 exact⟨by unfold bC;rw [e];exact Nat.succ_pos _,by omega⟩
theorem kr (x:Str):dE (aJ x)=true:=by
 unfold aJ
 cases eE x <;> rfl
theorem ja (x:Str):cJ (aO x)=true:=by
 unfold aO
 split
 ·rfl
 ·refine cF fun e he=>?_
  rcases List.mem_cons.mp he with rfl | he
  ·rfl
  ·obtain⟨y,hy,rfl⟩:=List.mem_map.mp he
   exact kr y
theorem ik (x:Str):dE (bp x)=true:=by
 unfold bp
 refine cF fun e he=>?_
 rcases List.mem_cons.mp he with rfl | he
 ·refine cF fun e he=>?_
  obtain⟨y,_,rfl⟩:=List.mem_map.mp he
  exact ja y
 ·rw [List.mem_singleton.mp he]
  exact ja _
theorem wO (x:Str):stepT (aO x)=x:=by
 have e:(aO x).map cQ=Txt.split x " " := by
  unfold aO
  cases Txt.split x " " with
  | nil=>rfl
  | cons w ys =>
   show w :: (ys.map aJ).map cQ=w :: ys
   rw [List.map_map,show (cQ ∘ aJ:Str->Str)=id from funext Bk,List.map_id]
 unfold stepT
 rw [e,join_split eQ gA]
theorem vv {S:Str->Option Str} {K:Str->Option (List Str)} (hK:∀ w,K w=(S w).map fun x=>(sg x).map kindS) (hS:∀ w x,S w=some x->i0 x/\dW w) {x:Str} {n:Nat} (h:jx (.tuple (aO x)) ((eu (.tuple (aO x))).bind K) n=true):lL (aO x):=by
 unfold aO at h ⊢
 obtain⟨w,ys,e⟩:=dA (x:=x) eQ gA
 rw [e] at h ⊢
 dsimp only at h ⊢
 have h:jx (.tuple (.str w :: ys.map aJ)) (K w) n=true:=h
 rw [hK] at h
 cases hw:S w with
 | none=>rw [hw] at h;cases h
 | some s =>
  rw [hw] at h
  obtain⟨ok,nw⟩:=hS w s hw
  have h:(decide ((ys.map aJ).length=((sg s).map kindS).length) && b4 (ys.map aJ) ((sg s).map kindS) n)=true:=h
  rw [Bool.and_eq_true] at h
  have hl:=of_decide_eq_true h.1
  rw [List.length_map,List.length_map,aY] at hl
  have hps:∀ (ys:List Str) (cs:List Nat),(∀ c ∈ cs,c=120\/c=110\/c=112)->b4 (ys.map aJ) (cs.map kindS) n=true->∀ y ∈ ys,pF (aJ y):=by
   intro ys
   induction ys with
   | nil=>intro cs _ _ y hy;cases hy
   | cons y0 ys ih =>
    intro cs hc hp y hy
    cases cs with
    | nil=>cases hp
    | cons c cs =>
     have hp:(bQ (aJ y0) (kindS c) n && b4 (ys.map aJ) (cs.map kindS) n)=true:=hp
     rw [Bool.and_eq_true] at hp
     rcases List.mem_cons.mp hy with rfl | hy
     ·have hg:=iY (hc c List.mem_cons_self) y n
      rw [if_pos hp.1] at hg
      unfold jq at hg
      cases hr:eE y with
      | some i =>
       have:aJ y=.int i:=by unfold aJ;rw [hr]
       rw [this]
       exact .inr ⟨i,rfl,(u7 hr).2⟩
      | none =>
       have:aJ y=.str y:=by unfold aJ;rw [hr]
       rw [this]
       rw [hr] at hg
       split at hg
       ·split at hg
        ·rename_i hn
         exact .inl ⟨y,rfl,x9 hn⟩
        ·cases hg
       ·cases hg
     ·exact ih cs (fun d hd=>hc d (List.mem_cons_of_mem _ hd)) hp.2 y hy
  refine⟨⟨_,_,rfl⟩,fun d hd=>?_,?_⟩
  ·rcases List.mem_cons.mp hd with rfl | hd
   ·exact .inl ⟨w,rfl,nw⟩
   ·obtain⟨y,hy,rfl⟩:=List.mem_map.mp hd
    exact hps ys (sg s) ok.sg h.2 y hy
  ·have:=ok.b3
   rw [List.length_cons,List.length_map]
   omega
theorem BN {w s:Str} (h:fu w=some s):dW w:=by
 unfold fu at h
 repeat (first | (split at h;· rename_i e;subst e;exact Ar (by decide +kernel)) | cases h)
theorem Dv {w s:Str} (h:iZ w=some s):dW w:=by
 unfold iZ at h
 repeat (first | (split at h;· rename_i e;subst e;exact Ar (by decide +kernel)) | cases h)
theorem tY {x:Str} {n:Nat} {l:List Str} {t:Str} (e:partsOf x=l ++ [t]) (h:b9 (bp x) n=true):l.length<=12/\∀ y ∈ l ++ [t],lL (aO y):=by
 rw [gu e] at h
 have h:(decide ((l.map fun t=>PyData.tuple (aO t)).length<=12) && ((l.map fun t=>PyData.tuple (aO t)).all dI && kj (.tuple (aO t)) n))=true:=h
 rw [Bool.and_eq_true,Bool.and_eq_true,List.length_map] at h
 refine⟨of_decide_eq_true h.1,fun y hy=>?_⟩
 rcases List.mem_append.mp hy with hy | hy
 ·have:=List.all_eq_true.mp h.2.1 _ (List.mem_map.mpr ⟨y,hy,rfl⟩)
  rw [va _ n] at this
  exact vv nG (fun w s z=>⟨.zE z,BN z⟩) this
 ·rw [List.mem_singleton.mp hy]
  exact vv u9 (fun w s z=>⟨.end_ z,Dv z⟩) h.2.2
inductive vw (vs:List V) (H:Hp) (Q:VK) (_:XK):Prop
 | mk (v:V) (x:Str) (n:Nat) (_:vs = [v]) (_:bh H v (bp x)) (_:bf 200000 x) (_:b9 (bp x) n=true) (_:∀ H',af H H'->Q (.str x) H')
inductive vx (vs:List V) (H:Hp) (Q:VK) (_:XK):Prop
 | mk (v:V) (x:Str) (_:vs = [v]) (_:bh H v (.tuple ((bC x).map bp))) (_:bf 200000 x) (_:(bC x).length<=400) (_:dY x=none) (_:∀ H',af H H'->Q (.str x) H')
theorem wQ:Txt.split ("plan" : Str) " " = [("plan" : Str)]:=by decide +kernel
inductive vy (vs:List V) (H:Hp) (Q:VK) (_:XK):Prop
 | mk (l:Addr) (_:vs = [.str "plan",.ref l]) (_:H l=some (.lst [])) (_:∀ H',af H H'->Q (.bl true) H')
inductive yp (vs:List V) (H:Hp) (Q:VK) (_:XK):Prop
 | mk (_:vs = [.str "plan"]) (_:∀ t l H',H' t=some (.tup [.str "plan",.ref l,.aW])->H' l=some (.lst [])->af H H'->Q (.ref t) H')
inductive yq (vs:List V) (H:Hp) (Q:VK) (_:XK):Prop
 | mk (v w:V) (x:Str) (_:vs = [v,.str "plan",w]) (_:bh H v (.tuple ((bC x).map bp))) (_:bf 200000 x) (_:(bC x).length<=400) (_:dY x=none) (_:∀ H',af H H'->Q (.str x) H')
inductive vz (C cM cO:Addr) (vs:List V) (H:Hp) (Q:VK) (E:XK):Prop
 | mk (d dx:Addr) (x:Str) (_:vs = [.ref d,.str x]) (_:H d=some (.ins C dx [])) (_:bf 200000 x)
   (_:400 < (bC x).length->∀ H',af H H'->E (.ref cM) none H')
   (_:(bC x).length<=400->∀ k,dY x=some k->∀ dx H',H' dx=some (.xd [("line",.int (k:Nat))])->af H H'->E (.ref cO) (some dx) H')
   (_:(bC x).length<=400->dY x=none->∀ l v H',H' d=some (.ins C dx [("plans",.ref l)])->H' l=some (.lst [v])->bh H' v (.tuple ((bC x).map bp))->(∀ c o,H c=some o->c ≠ d->H' c=some o)->Q .aW H')
inductive yr (C:Addr) (vs:List V) (H:Hp) (Q:VK) (_:XK):Prop
 | mk (d dx l:Addr) (v:V) (x:Str) (_:vs = [.ref d,.str "plan"]) (_:H d=some (.ins C dx [("plans",.ref l)])) (_:H l=some (.lst [v])) (_:bh H v (.tuple ((bC x).map bp))) (_:bf 200000 x) (_:(bC x).length<=400) (_:dY x=none) (_:∀ H',af H H'->Q (.str x) H')
inductive vA (vs:List V) (H:Hp) (Q:VK) (_:XK):Prop
 | mk (x:Str) (_:vs = [.str x]) (_:bf 200000 x) (_:∀ H',af H H'->Q (.bl (iz (.str x))) H')
def zU:Option (List PyData)->PyData
 | none=>.none
 | some ds=>.tuple ds
def AG (H:Hp) (d:Addr) (S:Str->Option Str):Prop:=∃ kvs,H d=some (.dK kvs)/\∀ w:Str,fT kvs (Sum.inr w:Key)=(S w).map V.str
inductive vC (vs:List V) (H:Hp) (Q:VK) (_:XK):Prop
 | mk (x:Str) (n:Nat) (d:Addr) (S:Str->Option Str) (_:vs = [.str x,.int (n:Nat),.ref d]) (_:bf 200000 x) (_:AG H d S) (_:∀ w s,S w=some s->i0 s) (_:∀ v H',bh H' v (zU (gh S x n))->af H H'->Q v H')
def oQ (x:Str) (n:Nat):PyData:=if b9 (bp x) n=true then bp x else .none
inductive lT (vs:List V) (H:Hp) (Q:VK) (_:XK):Prop
 | mk (x:Str) (n:Nat) (_:vs = [.str x,.int (n:Nat)]) (_:bf 200000 x) (_:∀ v H',bh H' v (oQ x n)->af H H'->Q v H')
def eg (x:Str):PyData:=if 400 < (bC x).length then .str "many" else match dY x with
 | some k=>.int (k:Nat)
 | none=>.tuple ((bC x).map bp)
inductive vD (vs:List V) (H:Hp) (Q:VK) (_:XK):Prop
 | mk (x:Str) (_:vs = [.str x]) (_:bf 200000 x) (_:∀ v H',bh H' v (eg x)->af H H'->Q v H')
theorem sR (c k:Nat):decide (V.str ⟨#[c]⟩=V.str ⟨#[k]⟩)=decide (c=k):=by
 by_cases h:c=k
 ·subst h;rw [decide_eq_true rfl,decide_eq_true rfl]
 ·rw [decide_eq_false h,decide_eq_false (fun z=>h (by injection z with z;injection z with z;injection z with z;injection z))]
theorem Fm:("x" : Str)=⟨#[120]⟩:=by decide +kernel
theorem Fn:("p" : Str)=⟨#[112]⟩:=by decide +kernel
theorem oR:∀ {ds:List PyData} {ks:List Str} {n:Nat},ds.length=ks.length->(∀ (i:Nat) d k,ds[i]? = some d->ks[i]? = some k->bQ d k n=true)->b4 ds ks n=true
 | [],[],_,_,_=>rfl
 | d :: ds,k :: ks,n,hl,h=>by
  show (bQ d k n && b4 ds ks n)=true
  rw [h 0 d k rfl rfl,oR (by simpa using hl) fun i d' k' e1 e2=>h (i+1) d' k' (by simpa using e1) (by simpa using e2)]
  rfl
theorem qA:∀ {ds:List PyData} {ks:List Str} {n i:Nat} {d:PyData} {k:Str},ds[i]? = some d->ks[i]? = some k->bQ d k n=false->b4 ds ks n=false
 | d0 :: ds,k0 :: ks,n,0,d,k,e1,e2,h=>by
  cases e1;cases e2
  show (bQ d0 k0 n && b4 ds ks n)=false
  rw [h,Bool.false_and]
 | d0 :: ds,k0 :: ks,n,i+1,d,k,e1,e2,h=>by
  show (bQ d0 k0 n && b4 ds ks n)=false
  rw [qA (by simpa using e1) (by simpa using e2) h,Bool.and_false]
def mu (xs:List Str):Nat:=(xs.map fun x=>x.length+1).sum
theorem il (xs ys:List Str):mu (xs++ys)=mu xs+mu ys:=by unfold mu;rw [List.map_append,List.sum_append]
theorem bY {xs ys:List Str} (h:xs.Sublist ys):mu xs<=mu ys:=by
 induction h with
 | slnil=>exact Nat.le_refl _
 | cons a h ih =>
  unfold mu at *
  rw [List.map_cons,List.sum_cons]
  omega
 | cons_cons a h ih =>
  unfold mu at *
  rw [List.map_cons,List.sum_cons,List.map_cons,List.sum_cons]
  omega
theorem Dw (y:Str):mu [y] = y.length+1:=by unfold mu;rfl
theorem Dx (xs:List Str):mu xs.reverse=mu xs:=by
 unfold mu
 rw [List.map_reverse,List.sum_reverse]
theorem eB (xs:List Str) (lo hi:Option Int):∃ ys:List Str,eS (xs.map V.str) lo hi=ys.map V.str/\ys.Sublist xs:=by
 unfold eS
 refine⟨(xs.drop (HT.bA (xs.map V.str).length 0 lo)).take (HT.bA (xs.map V.str).length (xs.map V.str).length hi - HT.bA (xs.map V.str).length 0 lo),?_,List.Sublist.trans (List.take_sublist _ _) (List.drop_sublist _ _)⟩
 rw [List.map_take,List.map_drop]
theorem vE {z:Str} (hz:z.length=1) (xs:List Str):(xs.map (·.length)).sum+xs.length * z.length=mu xs:=by
 rw [hz]
 unfold mu
 induction xs with
 | nil=>rfl
 | cons x xs ih=>rw [List.map_cons,List.sum_cons,List.length_cons,List.map_cons,List.sum_cons];omega
theorem sS {x z:Str} (hk:Builtin.Str.strKind z=1) (hz:z.length=1):mu (Txt.split x z)<=x.length+1:=by
 have h:=ny z (Txt.split x z)
 rw [join_split hk (by omega),vE hz,hz] at h
 exact h
theorem dn (xs:List Str):xs.length<=mu xs:=by
 unfold mu
 induction xs with
 | nil=>exact Nat.zero_le _
 | cons x xs ih=>rw [List.length_cons,List.map_cons,List.sum_cons];omega
inductive sT (vs:List V) (H:Hp) (Q:VK) (_:XK):Prop
 | mk (b:Addr) (x y:Str) (m k:Nat) (_:vs = [.ref b,.str x,.str y]) (_:cg H b) (_:bf m x) (_:bf k y) (_:m<=200000) (_:k<=200000) (_:∀ (z:Str) H',bf (3 * m+k) z->cg H' b->Fix b H H'->Q (.str z) H')
inductive sU (vs:List V) (H:Hp) (Q:VK) (_:XK):Prop
 | mk (b p q:Addr) (xs:List Str) (y:Str) (_:vs = [.ref b,.ref p,.ref q]) (_:cg H b) (_:H p=some (.lst (xs.map V.str))) (_:H q=some (.lst [.str y])) (_:mu xs<=200000) (_:y.length<=200000)
   (_:∀ (l:Addr) (zs:List Str) H',H' l=some (.lst (zs.map V.str))->(mu zs<=3 * mu xs\/mu zs<=2 * mu xs+mu [y])->(∀ z ∈ zs,z ∈ xs\/z=y)->cg H' b->Fix b H H'->Q (.ref l) H')
inductive qB (vs:List V) (H:Hp) (Q:VK) (_:XK):Prop
 | mk (b:Addr) (x:Str) (m:Nat) (_:vs = [.ref b,.str x]) (_:cg H b) (_:bf m x) (_:m<=66500) (_:∀ (z:Str) H',bf (3 * m+60) z->cg H' b->Fix b H H'->Q (.str z) H')
theorem BO (y:Str) (n:Nat):bQ (aJ y) (kindS 120) n=iz (.str y)/\(iz (.str y)=true->aJ y=.str y):=by
 have h:=iY (.inl rfl:(120:Nat)=120\/(120:Nat)=110\/(120:Nat)=112) y n
 unfold jq at h
 rw [if_pos rfl] at h
 cases hn:iz (.str y) with
 | true =>
  rw [hn,if_pos rfl] at h
  split at h
  ·rename_i hp
   exact⟨hp,fun _=>(Option.some.inj h).symm⟩
  ·cases h
 | false =>
  rw [hn,if_neg (by decide)] at h
  split at h
  ·cases h
  ·rename_i hp
   exact⟨Bool.eq_false_iff.mpr hp,fun z=>by cases z⟩
theorem BP {y:Str} {c:Nat} (hc:c=110\/c=112) (n:Nat) (h:eE y=none):bQ (aJ y) (kindS c) n=false:=by
 have e:=iY (.inr hc:c=120\/c=110\/c=112) y n
 unfold jq at e
 rw [if_neg (by omega),h] at e
 dsimp only at e
 split at e
 ·cases e
 ·rename_i hp
  exact Bool.eq_false_iff.mpr hp
theorem BQ {y:Str} {c:Nat} (hc:c=110\/c=112) (n:Nat) {i:Int} (h:eE y=some i):aJ y=.int i/\bQ (aJ y) (kindS c) n = !decide (c=112/\(i < 0\/(n:Int)<=i)):=by
 have e:=iY (.inr hc:c=120\/c=110\/c=112) y n
 unfold jq at e
 rw [if_neg (by omega),h] at e
 refine⟨by unfold aJ;rw [h],?_⟩
 dsimp only at e
 by_cases z:c=112/\(i < 0\/(n:Int)<=i)
 ·rw [if_pos z] at e
  rw [decide_eq_true z]
  split at e
  ·cases e
  ·rename_i hp
   exact Bool.eq_false_iff.mpr hp
 ·rw [if_neg z] at e
  rw [decide_eq_false z]
  split at e
  ·rename_i hp
   exact hp
  ·cases e
def ip:List (Key × V):=[(Sum.inr "put",.str "xn"),(Sum.inr "add",.str "xn"),(Sum.inr "copy",.str "xx"),(Sum.inr "read",.str "x"),(Sum.inr "tell",.str "x")]
def my:List (Key × V):=[(Sum.inr "stop",.str ""),(Sum.inr "go",.str "p"),(Sum.inr "less",.str "xnpp"),(Sum.inr "is",.str "xnpp")]
theorem eJ {k w:Str} {v:V} {r:List (Key × V)}:fT ((Sum.inr k,v) :: r:List (Key × V)) (Sum.inr w:Key)=if w=k then some v else fT r (Sum.inr w):=by
 unfold fT
 rw [List.find?_cons]
 by_cases h:w=k
 ·subst h
  rw [if_pos rfl,decide_eq_true rfl]
  rfl
 ·rw [if_neg h,decide_eq_false (fun z=>h (Sum.inr.inj z).symm)]
theorem yt {H:Hp} {d:Addr} (h:H d=some (.dK (er [] ip))):AG H d fu:=⟨_,h,fun w=>by
 rw [show er [] ip=ip from by decide +kernel]
 unfold ip fu
 rw [eJ,eJ,eJ,eJ,eJ]
 repeat (first | (split;· rfl) | rfl)⟩
theorem zV {H:Hp} {d:Addr} (h:H d=some (.dK (er [] my))):AG H d iZ:=⟨_,h,fun w=>by
 rw [show er [] my=my from by decide +kernel]
 unfold my iZ
 rw [eJ,eJ,eJ,eJ]
 repeat (first | (split;· rfl) | rfl)⟩
theorem Dy {x:Str} (h:bf 200000 x):(aJ x).canLay0=true:=by
 unfold aJ
 cases eE x with
 | none=>exact h.lay
 | some i=>rfl
theorem nK {x:Str} (h:bf 200000 x):(PyData.tuple (aO x)).canLay0=true:=by
 have ht:=qX h
 unfold aO
 split
 ·rfl
 ·rename_i w ys e
  rw [e] at ht
  refine jY _ fun d hd=>?_
  rcases List.mem_cons.mp hd with rfl | hd
  ·exact (ht w List.mem_cons_self).lay
  ·obtain⟨y,hy,rfl⟩:=List.mem_map.mp hd
   exact Dy (ht y (List.mem_cons_of_mem _ hy))
theorem oU {x:Str} (h:bf 200000 x):(bp x).canLay0=true:=by
 have ht:=kq h
 obtain⟨l,t,e⟩:=i8 x
 rw [gu e]
 rw [e] at ht
 refine jY _ fun d hd=>?_
 rcases List.mem_cons.mp hd with rfl | hd
 ·refine jY _ fun d hd=>?_
  obtain⟨y,hy,rfl⟩:=List.mem_map.mp hd
  exact nK (ht y (List.mem_append_left _ hy))
 ·rw [List.mem_singleton.mp hd]
  exact nK (ht t (by simp))
def hU (x:Str):PyData:=if dI (.tuple (aO x))=true then .tuple (aO x) else .none
theorem zW (x:Str) (n:Nat):zU (gh fu x n)=hU x:=by
 rw [sF]
 unfold hU
 split <;> rfl
theorem yu {x:Str} (h:bf 200000 x):AB (hU x):=by
 unfold hU
 split
 ·exact .inr ⟨⟨_,rfl⟩,nK h⟩
 ·exact .inl rfl
theorem qC (x:Str):dE (hU x)=true:=by
 unfold hU
 split
 ·exact ja x
 ·rfl
theorem zX (ls:List Str):decide (PyData.none ∈ ls.map hU) = !((ls.map fun t=>PyData.tuple (aO t)).all dI):=by
 induction ls with
 | nil=>decide
 | cons x ls ih =>
  rw [List.map_cons,List.map_cons,List.all_cons,Bool.not_and,<-ih]
  unfold hU
  by_cases h:dI (.tuple (aO x))=true
  ·rw [if_pos h,h]
   show _=(false || _)
   rw [Bool.false_or]
   exact decide_eq_decide.mpr ⟨fun z=>(List.mem_cons.mp z).resolve_left (fun y=>by cases y),List.mem_cons_of_mem _⟩
  ·rw [if_neg h,Bool.eq_false_iff.mpr h,decide_eq_true List.mem_cons_self]
   rfl
theorem yw {ls:List Str} (h:(ls.map fun t=>PyData.tuple (aO t)).all dI=true):ls.map hU=ls.map fun t=>PyData.tuple (aO t):=List.map_congr_left fun t ht=>if_pos (List.all_eq_true.mp h _ (List.mem_map.mpr ⟨t,ht,rfl⟩))
def zY (x:Str) (n:Nat):PyData:=if kj (.tuple (aO x)) n=true then .tuple (aO x) else .none
theorem BR (x:Str) (n:Nat):zU (gh iZ x n)=zY x n:=by
 rw [tU]
 unfold zY
 split <;> rfl
theorem sV (l:List Str) (t:Str) (n:Nat):b9 (.tuple [.tuple (l.map fun t=>.tuple (aO t)),.tuple (aO t)]) n=(decide (l.length<=12) && ((l.map fun t=>PyData.tuple (aO t)).all dI && kj (.tuple (aO t)) n)):=by
 show (decide ((l.map fun t=>PyData.tuple (aO t)).length<=12) && _)=_
 rw [List.length_map]
theorem cg.yx {b p:Addr} {H:Hp} {xs:List Str} (h:cg H b) (e:H p=some (.lst (xs.map V.str))):p ≠ b:=fun z=>by
 obtain⟨u,v,hb,_⟩:=h
 rw [z,hb] at e
 cases xs with
 | nil=>cases e
 | cons x xs=>cases e
def c15:List Str:=["", "put", "add", "copy", "read", "tell", "stop", "go", "less", "is", "a", "abcdefghi", "0", "-0", "1"]
def c7:List Str:=["00",Txt.mul "9" 40, "1" ++ Txt.mul "0" 40, "-1", "399", "A", "tell;"]
def l7:List Str:=["", "stop", "go 0", "go 1", "tell a; stop", "stop ", "tell a;stop"]
theorem Fo:∀ z ∈ c15++c7++l7,z.length<=41/\∀ c ∈ sg z,c < 0x110000:=by decide +kernel
theorem Fp:MulOk "9" 40:=⟨by decide +kernel,by decide +kernel,by decide +kernel⟩
theorem Fq:MulOk "0" 40:=⟨by decide +kernel,by decide +kernel,by decide +kernel⟩
theorem Dz:MulOk "tell a; " 12/\MulOk "tell a; " 13:=⟨⟨by decide +kernel,by decide +kernel,by decide +kernel⟩,by decide +kernel,by decide +kernel,by decide +kernel⟩
theorem vF {m:Nat} {cs:List Str} {w:Str} (hc:∀ z ∈ cs,z ∈ c15++c7++l7) (hw:bf m w) {r:Int} (h0:0<=r) (h1:r < ((cs.map V.str ++ [V.str w]).length:Int)):∃ y,eZ (cs.map V.str ++ [V.str w]) r=some (V.str y)/\(y.length<=41\/y.length<=m)/\∀ c ∈ sg y,c < 0x110000:=by
 have e:cs.map V.str ++ [V.str w] = (cs ++ [w]).map V.str:=by rw [List.map_append];rfl
 rw [e] at h1 ⊢
 obtain⟨y,hy,hm⟩:=fU h0 h1
 refine⟨y,hy,?_⟩
 rcases List.mem_append.mp hm with hm | hm
 ·have:=Fo y (hc y hm)
  exact⟨.inl this.1,this.2⟩
 ·rw [List.mem_singleton.mp hm]
  exact⟨.inr hw.b3,hw.ok⟩
theorem sW {z y:Str} {xs zs:List Str} {m:Nat} (hz:z.length=1) (hz2:∀ c ∈ sg z,c < 0x110000) (hx:mu xs<=m+1) (hxs:∀ x ∈ xs,∀ c ∈ sg x,c < 0x110000) (hy:y.length<=41\/y.length<=m) (hy2:∀ c ∈ sg y,c < 0x110000)
  (h:mu zs<=3 * mu xs\/mu zs<=2 * mu xs+mu [y]) (hm:∀ z ∈ zs,z ∈ xs\/z=y):bf (3 * m+60) (Txt.join z zs)/\(zs.map (·.length)).sum+zs.length * z.length<=3 * m+60:=by
 have e:=vE hz zs
 rw [Dw] at h
 have b:(zs.map (·.length)).sum+zs.length * z.length<=3 * m+60:=by rw [e];omega
 exact⟨pJ hz2 (fun p hp=>(hm p hp).elim (hxs p) (fun z=>z ▸ hy2)) b,b⟩
def fz (x:Str):PyData:=if 400 < (bC x).length then .str "many" else match dY x with
 | some k=>.int (k:Nat)
 | none=>.str x
inductive oV (x:Str) (at_:Int):V->PyData->Prop
 | DA:oV x at_ .aW (eg x)
 | DB:oV x at_ (.int 0) (fz x)
 | qU (n:Nat) (_:0 < n):oV x at_ (.int (n:Nat)) (if b9 (bp x) n=true then bp x else .int at_)
inductive vG (vs:List V) (H:Hp) (Q:VK) (_:XK):Prop
 | mk (x:Str) (cnt:V) (at_:Int) (d:PyData) (_:vs = [.str x,cnt,.int at_]) (_:bf 200000 x) (_:at_.natAbs < 10 ^ 50) (_:oV x at_ cnt d) (_:∀ v H',bh H' v d->af H H'->Q v H')
theorem oW {x:Str} (h:400 < (bC x).length):eg x=.str "many" := if_pos h
theorem qD {x:Str} (h:(bC x).length<=400) {k:Nat} (hb:dY x=some k):eg x=.int (k:Nat):=by unfold eg;rw [if_neg (by omega),hb]
theorem sX {x:Str} (h:(bC x).length<=400) (hb:dY x=none):eg x=.tuple ((bC x).map bp):=by unfold eg;rw [if_neg (by omega),hb]
theorem oX {x:Str} (h:400 < (bC x).length):fz x=.str "many" := if_pos h
theorem qE {x:Str} (h:(bC x).length<=400) {k:Nat} (hb:dY x=some k):fz x=.int (k:Nat):=by unfold fz;rw [if_neg (by omega),hb]
theorem sY {x:Str} (h:(bC x).length<=400) (hb:dY x=none):fz x=.str x:=by unfold fz;rw [if_neg (by omega),hb]
theorem kinds_of {K:Frag} {C c0 c1 c2 c3 c4 cP:Addr} {j:Nat} (h:kindB K C c0 c1 c2 c3 c4 cP j=true):kitOne K (.ref C) (.ref c0)=some (0 == j)/\kitOne K (.ref C) (.ref c4)=some (4 == j)/\kitOne K (.ref C) (.type "ValueError")=some true:=by
 unfold kindB at h
 simp only [Bool.and_eq_true,beq_iff_eq] at h
 exact⟨h.1,h.2.2.2.2.1,h.2.2.2.2.2.2⟩
theorem yz (x:Str):((bC x).length:Int)=Txt.count x "\n" + 1:=by
 have hp:∀ (x:Str) (w:Nat) (cuts:List Nat) (a:Nat),(PySem.StrLaws.partsFrom x w a cuts).length=cuts.length+1:=fun x w cuts=>by
  induction cuts with
  | nil=>exact fun _=>rfl
  | cons c cs ih =>
   intro a
   show (_ :: PySem.StrLaws.partsFrom x w (c+w) cs).length=_
   rw [List.length_cons,ih,List.length_cons]
 unfold bC Txt.count
 rw [nv hG j3,hp]
 omega
theorem yA {x:Str} (h:bf 200000 x):(eg x).canLay0=true:=by
 unfold eg
 split
 ·decide +kernel
 ·split
  ·rfl
  ·refine jY _ fun d hd=>?_
   obtain⟨y,hy,rfl⟩:=List.mem_map.mp hd
   exact oU (i9 h y hy)
theorem DC (x:Str):(aJ x).depth<=0:=by
 unfold aJ
 cases eE x <;> exact Nat.le_refl _
theorem qF (x:Str):(PyData.tuple (aO x)).depth<=1:=by
 show PyData.depthAll (aO x)+1<=1
 have:=jZ (m:=0) (aO x) fun d hd=>by
  unfold aO at hd
  split at hd
  ·cases hd
  ·rcases List.mem_cons.mp hd with rfl | hd
   ·exact Nat.le_refl _
   ·obtain⟨y,_,rfl⟩:=List.mem_map.mp hd
    exact DC y
 omega
theorem oY (x:Str):(bp x).depth<=3:=by
 unfold bp
 show PyData.depthAll _+1<=3
 have h1:(PyData.tuple ((partsOf x).dropLast.map fun t=>.tuple (aO t))).depth<=2:=by
  show PyData.depthAll _+1<=2
  have:=jZ (m:=1) ((partsOf x).dropLast.map fun t=>.tuple (aO t)) fun d hd=>by
   obtain⟨y,_,rfl⟩:=List.mem_map.mp hd
   exact qF y
  omega
 have:=jZ (m:=2) [.tuple ((partsOf x).dropLast.map fun t=>.tuple (aO t)),.tuple (aO ((partsOf x).getLastD ""))] fun d hd=>by
  rcases List.mem_cons.mp hd with rfl | hd
  ·exact h1
  ·rw [List.mem_singleton.mp hd]
   exact Nat.le_trans (qF _) (by decide)
 omega
theorem yB (x:Str):(eg x).depth<=4:=by
 unfold eg
 split
 ·exact Nat.zero_le _
 ·split
  ·exact Nat.zero_le _
  ·show PyData.depthAll _+1<=4
   have:=jZ (m:=3) ((bC x).map bp) fun d hd=>by
    obtain⟨y,_,rfl⟩:=List.mem_map.mp hd
    exact oY y
   omega
theorem yC {x:Str} (h:bf 200000 x):(fz x).canLay0=true:=by
 unfold fz
 split
 ·decide +kernel
 ·split
  ·rfl
  ·exact h.lay
theorem yF (x:Str):(fz x).depth<=4:=by
 unfold fz
 split
 ·exact Nat.zero_le _
 ·split <;> exact Nat.zero_le _
theorem yG {H:Hp} {x:Str} {v:V} (h:bh H v (eg x)):∃ u,eZ [v,V.str x] (if ki (eg x)=true then 1 else 0)=some u/\bh H u (fz x):=by
 by_cases h4:400 < (bC x).length
 ·rw [oW h4] at h ⊢
  exact⟨v,gf,by rw [oX h4];exact h⟩
 ·cases hb:dY x with
  | some k =>
   rw [qD (by omega) hb] at h ⊢
   exact⟨v,gf,by rw [qE (by omega) hb];exact h⟩
  | none =>
   rw [sX (by omega) hb] at h ⊢
   exact⟨.str x,qe,by rw [sY (by omega) hb];exact .str _⟩
inductive sZ (vs:List V) (H:Hp) (Q:VK) (_:XK):Prop
 | mk (b:Addr) (x:Str) (_:vs = [.ref b,.str x]) (_:cg H b) (_:bf 200000 x) (_:∀ H',cg H' b->Fix b H H'->Q (.bl true) H')
theorem BS {xs:List Str} {m c:Nat} {ps:List Piece} (h:∀ p ∈ ps,pG xs m c p) (hm:m<=12) (hc:c<=400) (h8:ps.length<=8):bf 22100 (Ee ps)/\((ps.map df).map (·.length)).sum+(ps.map df).length * ("\n" : Str).length<=22100:=by
 have e1:("\n" : Str).length=1:=by decide +kernel
 have h1:((ps.map df).map (·.length)).sum<=(ps.map df).length * (13 * 212):=j2 (k:=13 * 212) (ps.map df) fun y hy=>by
  obtain⟨d,hd,rfl⟩:=List.mem_map.mp hy
  exact Nat.le_trans (xZ (h d hd) hc) (Nat.mul_le_mul (by omega) (Nat.le_refl _))
 have b:((ps.map df).map (·.length)).sum+(ps.map df).length * ("\n" : Str).length<=22100:=by
  rw [e1]
  rw [List.length_map] at h1 ⊢
  have:ps.length * (13 * 212)<=8 * (13 * 212):=Nat.mul_le_mul h8 (Nat.le_refl _)
  omega
 refine⟨pJ (by decide +kernel) (fun p hp c hc'=>?_) b,b⟩
 obtain⟨d,hd,rfl⟩:=List.mem_map.mp hp
 have:=tT (h d hd) hc c hc'
 omega
theorem Es {r:Int} (h0:0<=r) (h1:r < 402):bf 50 (("go " : Str)++iA r)/\r.natAbs.log2 < 1920/\("go " : Str).length+(iA r).length<=50:=by
  have p1:(0:Int) < 10 ^ 40:=by decide +kernel
  have p2:(402:Int) < 10 ^ 40:=by decide +kernel
  have hn:eU r:=⟨by omega,by omega⟩
  have hl:=(uW hn).1
  rw [aY] at hl
  have e3:("go " : Str).length=3:=by decide +kernel
  have t1:bf 3 ("go " : Str):=⟨by decide +kernel,by decide +kernel⟩
  have t2:bf 41 (iA r):=⟨hl,fun c hc=>by have:=qr c hc;omega⟩
  exact⟨(t1.app t2).mono (by decide),pI hn,by omega⟩
theorem vH {ys:List Str} (h:∀ y ∈ ys,bf 50 y) (hl:ys.length<=402):bf 200000 (Txt.join "\n" ys)/\(ys.map (·.length)).sum+ys.length * ("\n" : Str).length<=200000:=by
 have e1:("\n" : Str).length=1:=by decide +kernel
 have h1:=j2 (k:=50) ys fun y hy=>(h y hy).b3
 have b:(ys.map (·.length)).sum+ys.length * ("\n" : Str).length<=200000:=by rw [e1];omega
 exact⟨pJ (by decide +kernel) (fun p hp=>(h p hp).ok) b,b⟩
theorem zZ (k:Nat):(List.replicate k [V.str "stop"]).flatten=(List.replicate k ("stop" : Str)).map V.str:=by
 induction k with
 | zero=>rfl
 | succ k ih =>
  rw [List.replicate_succ,List.replicate_succ,List.flatten_cons,ih]
  rfl
theorem BU:bf 50 ("stop" : Str):=⟨by decide +kernel,by decide +kernel⟩
theorem BW {r:Int} (h:r=12\/r=13):MulOk "tell a; " r/\bf 200000 (Txt.mul "tell a; " r++("stop" : Str))/\(Txt.mul ("tell a; " : Str) r).length+("stop" : Str).length<=1000:=by
 rcases h with rfl | rfl
 ·exact⟨Dz.1,⟨by decide +kernel,by decide +kernel⟩,by decide +kernel⟩
 ·exact⟨Dz.2,⟨by decide +kernel,by decide +kernel⟩,by decide +kernel⟩
end L2
namespace My
open PySem PySem.Spec PyProof.Rows L2
def top (i:Nat):Stmt:=PySem.Challenge.pw_ledpast_k22_whole_texts_spoilt_anywhere.main.body.getD i (.Pass ⟨0,0,0,0⟩)
structure Bl (mg:Str->Option Value):Prop where
 len:mg "len" = none
 min:mg "min" = none
 max:mg "max" = none
 range:mg "range" = none
 isinstance:mg "isinstance" = none
 bool:mg "bool" = none
 int:mg "int" = none
 str:mg "str" = none
 tuple:mg "tuple" = none
 all:mg "all" = none
 zip:mg "zip" = none
 list:mg "list" = none
 enumerate:mg "enumerate" = none
 ValueError:mg "ValueError" = none
abbrev ku:Stmt:=top 9
theorem tZ:aM ["thing"] ["thing"] (ax ku):=cA
abbrev lU:Stmt:=top 10
theorem wR:aM ["thing"] ["thing"] (ax lU):=cA
abbrev lV:Stmt:=top 16
theorem wU:aM ["thing", "kind", "count"] ["thing", "kind", "count"] (ax lV):=cA
abbrev jb:Stmt:=top 17
theorem qJ:aM ["thing"] ["thing"] (ax jb):=cA
abbrev jB:Stmt:=top 18
theorem tf:aM ["thing", "kinds", "count"] ["thing", "kinds", "count"] (ax jB):=cA
abbrev lW:Stmt:=top 19
theorem wV:aM ["thing"] ["thing"] (ax lW):=cA
abbrev nO:Stmt:=top 20
theorem yH:aM ["thing", "count"] ["thing", "count"] (ax nO):=cA
abbrev kx:Stmt:=top 21
theorem jC:aM ["thing", "count", "deeds", "end"] ["thing", "count"] (ax kx):=cA
abbrev iu:Stmt:=top 36
theorem j5:aM ["text", "figures"] ["text"] (ax iu):=cA
abbrev jD:Stmt:=top 37
theorem lX:aM ["word", "number"] ["word"] (ax jD):=cA
abbrev jE:Stmt:=top 38
theorem lY:aM ["text", "words"] ["text"] (ax jE):=cA
abbrev fE:Stmt:=inClass (top 6) 0
theorem lZ:aM ["self", "line"] ["self", "line"] (ax fE):=cA
abbrev jc:Stmt:=top 39
theorem iw:aM ["line", "count", "at", "steps", "piece"] ["line", "count", "at"] (ax jc):=cA
abbrev jF:Stmt:=top 40
theorem ma:aM ["text", "lines"] ["text"] (ax jF):=cA
abbrev ky:Stmt:=top 33
theorem t9:aM ["things"] ["things"] (ax ky):=cA
abbrev jd:Stmt:=top 34
theorem ix:aM ["piece", "deeds", "end"] ["piece"] (ax jd):=cA
abbrev jG:Stmt:=top 35
theorem tj:aM ["plan"] ["plan"] (ax jG):=cA
abbrev nQ:Stmt:=top 97
theorem me:aM ["word", "numbers", "stretches", "more"] ["word", "numbers"] (ax nQ):=cA
abbrev kA:Stmt:=top 98
theorem hV:aM ["row", "words", "line", "numbers"] ["row"] (ax kA):=cA
abbrev kB:Stmt:=top 102
theorem ua:aM ["plan", "word", "numbers"] ["plan", "word", "numbers"] (ax kB):=cA
abbrev gF:Stmt:=inClass (top 103) 0
theorem nR:aM ["self", "text"] ["self", "text"] (ax gF):=cA
abbrev kC:Stmt:=inClass (top 103) 2
theorem fP:aM ["self", "row", "word", "numbers", "line", "plan"] ["self", "row"] (ax kC):=cA
abbrev mf:Stmt:=top 105
theorem kF:aM ["script", "k", "cell"] ["script", "k"] (ax mf):=cA
abbrev kG:Stmt:=top 106
theorem mU:aM ["bag", "many", "found"] ["bag", "many"] (ax kG):=cA
abbrev jH:Stmt:=top 107
theorem dg:aM ["bag", "letters", "many", "base", "at", "names", "k", "name"] ["bag"] (ax jH):=cA
abbrev je:Stmt:=top 108
theorem qK:aM ["bag"] ["bag"] (ax je):=cA
abbrev kJ:Stmt:=top 109
theorem jI:aM ["bag", "names", "word", "name"] ["bag", "names"] (ax kJ):=cA
abbrev mh:Stmt:=top 110
theorem iG:aM ["bag", "names", "count", "way", "word", "name"] ["bag", "names", "count"] (ax mh):=cA
abbrev kK:Stmt:=top 111
theorem eR:aM ["bag", "count", "most", "names", "pieces", "k", "many", "end"] ["bag", "count", "most"] (ax kK):=cA
abbrev fX:Stmt:=top 112
theorem iB:aM ["piece", "parts"] ["piece"] (ax fX):=cA
abbrev fF:Stmt:=top 113
theorem ff:aM ["text", "figures"] ["text"] (ax fF):=cA
abbrev iy:Stmt:=top 114
theorem pQ:aM ["text"] ["text"] (ax iy):=cA
abbrev gG:Stmt:=top 115
theorem cx:aM ["text", "count", "shapes", "words", "shape", "found", "sign", "word", "number"] ["text", "count", "shapes"] (ax gG):=cA
abbrev fY:Stmt:=top 116
theorem dq:aM ["line", "count", "parts", "shapes", "deeds", "end"] ["line", "count"] (ax fY):=cA
abbrev gH:Stmt:=top 117
theorem dH:aM ["text", "lines", "plan", "k", "piece"] ["text"] (ax gH):=cA
abbrev jJ:Stmt:=top 118
theorem fg:aM ["bag", "some", "new", "at", "way"] ["bag", "some", "new"] (ax jJ):=cA
abbrev fG:Stmt:=top 119
theorem bK:aM ["bag", "text", "signs", "level", "sign", "words", "some", "lines"] ["bag", "text"] (ax fG):=cA
abbrev jK:Stmt:=top 120
theorem cm:aM ["text", "count", "at", "kinds", "line", "found", "e"] ["text", "count", "at"] (ax jK):=cA
abbrev jL:Stmt:=top 121
theorem gI:aM ["bag", "text", "due", "line", "piece"] ["bag", "text"] (ax jL):=cA
abbrev mz:Stmt:=top 122
theorem fh:aM ["script", "first", "plan", "text", "k", "bag", "twice", "other", "many", "lines"] ["script"] (ax mz):=cA
section
variable {P:Program} {w:World} {K:PySem.W.Frag} {mg:Str->Option Value} {base:Heap}
theorem uc {f:Addr} {fd:FuncData} (F:bT K "is_whole" "is_whole" ku f fd) (Z:Bl mg)  : aZ P w K mg base bS 1 f fd ["thing"] se:=by
 refine F.ok (k:=0) tZ (fun vs H Q E h=>?_) (fun cdv A outer s H vs Q E hr h=>?_)
 ·obtain⟨x,d,rfl,_⟩:=h
  rfl
 ·obtain⟨x,d,rfl,hx,q⟩:=h
  refine⟨_,(ai (aw (rl (aA dZ rfl Z.isinstance bM (aL (pv 0) (eh (v:=.ty "int") rfl Z.int lq rfl))) (rh (Cf (aA dZ rfl Z.isinstance bM (aL (pv 0) (eh (v:=.ty "bool") rfl Z.bool uG rfl)))))))),?_⟩
  obtain⟨t,ht,hs,hi,hb,hu⟩:=fV (K:=K) hx
  refine⟨_,rfl,_,_,_,_,rfl,ht,hi,_,rfl,?_⟩
  rw [zv] at q
  cases h1:L2.intD d with
  | false=>rw [h1] at q;exact bE q
  | true=>rw [h1] at q;exact bo ⟨_,rfl,_,_,_,_,rfl,ht,hb,_,rfl,q⟩
theorem wW {f:Addr} {fd:FuncData} (F:bT K "is_name" "is_name" lU f fd) (Z:Bl mg) {tk_LONGEST_NAME:Tok} (G_LONGEST_NAME:mg "LONGEST_NAME" = some (.int 8 tk_LONGEST_NAME)) {tk_MOST_PIECES:Tok} (G_MOST_PIECES:mg "MOST_PIECES" = some (.int 400 tk_MOST_PIECES)) {tk_MOST_DEEDS:Tok} (G_MOST_DEEDS:mg "MOST_DEEDS" = some (.int 12 tk_MOST_DEEDS)) {tk_MOST_FIGURES:Tok} (G_MOST_FIGURES:mg "MOST_FIGURES" = some (.int 40 tk_MOST_FIGURES)) {tk_MOST_NUMBERS:Tok} (G_MOST_NUMBERS:mg "MOST_NUMBERS" = some (.int 200 tk_MOST_NUMBERS))  : aZ P w K mg base bS 1 f fd ["thing"] uS:=by
 refine F.ok (k:=0) wR (fun vs H Q E h=>?_) (fun cdv A outer s H vs Q E hr h=>?_)
 ·obtain⟨x,d,rfl,_⟩:=h
  rfl
 ·obtain⟨x,d,rfl,hx,hf,q⟩:=h
  refine⟨_,(ae (aQ (PW.pt (d9 (dD (cU (aA dZ rfl Z.isinstance bM (aL (pv 0) (eh (v:=.ty "str") rfl Z.str lr rfl))))) (dP (dD (m4 ke ke ah (aA cB rfl Z.len bG (av (pv 0))) (dJ (v:=.int 8) rfl G_LONGEST_NAME ⟨_,rfl⟩))))))
   (ai (aw dh))
   aG)
   (ai (aw (aA (ic rfl) rfl Z.all lC (av (cD ["sign"] [] [] rfl (oA (pv 0)) rfl (by decide +kernel) (by decide +kernel) (by decide +kernel) True.intro (fun _ _ _ _=>(bu (i:=0) (show ((["sign"]:List Str)++([]:List Str)).Nodup by decide +kernel) (hf:=Or.inr rfl))) (fun _ _ _ _=>b7) (fun _ _ _ _=>(mZ jn jn ao (pv 0) ao)))))))),?_⟩
  obtain⟨t,ht,hs,hi,hb,hu⟩:=fV (K:=K) hx
  refine⟨_,rfl,_,_,_,_,rfl,ht,hs,_,rfl,?_⟩
  cases h1:wc d with
  | false =>
   refine bo (bo ?_)
   have:=q H (af.refl H)
   rw [A9 h1] at this
   exact this
  | true =>
   refine bE ?_
   obtain⟨y,rfl,rfl⟩:=C5 hx h1
   have hl:=(Bc hf).1
   refine⟨_,rfl,y,rfl,Nat.le_of_lt (aT (by omega)),_,_,rfl,rfl,_,rfl,?_⟩
   have qn:((decide (1<=y.length) && decide (y.length<=8)) && (sg y).all cE)=false->∀ H1,af H H1->Q (.bl false) H1:=fun h H1 s1=>by
    have e:iz (.str y)=false:=h
    have:=q H1 s1
    rw [e] at this
    exact this
   refine cC (fun h2=>?_) (fun h2=>?_)
   rotate_left
   ·refine⟨_,rfl,bo ?_⟩
    refine qn ?_ _ (af.refl _)
    rw [decide_eq_false (fun z:1<=y.length=>h2 (decide_eq_true (by omega)))]
    rfl
   have h2:1<=y.length:=by have:=of_decide_eq_true h2;omega
   refine⟨_,_,rfl,rfl,_,rfl,?_⟩
   by_cases h3:y.length<=8
   rotate_left
   ·refine cf (by rw [decide_eq_false (by omega)];rfl) ?_
    refine qn ?_ _ (af.refl _)
    rw [decide_eq_true h2,decide_eq_false h3]
    rfl
   refine bO (by rw [decide_eq_true (by omega)];rfl) ?_
   refine⟨_,rfl,y,rfl,fun acc na=>?_⟩
   refine oB (x:=y) (fun i ys τ H1=>∃ c:Option V,τ = [c]/\ys=(((sg y).take i).map cE).map V.bl/\H1 acc=some (.lst ys)/\af H H1) ?_ ?_ ?_ ?_
   ·exact⟨none,rfl,rfl,aa,af.new na⟩
   ·rintro i ys τ H1 hi ⟨c,rfl,rfl,ha,s1⟩
    refine⟨ha,aT ?_⟩
    rw [List.length_map,List.length_map,List.length_take,aY]
    omega
   ·rintro i c ys τ H1 hi ⟨c',rfl,rfl,ha,s1⟩
    refine aI ?_
    refine e7 ?_
    refine bo ?_
    have hci:(sg y)[i]? = some c:=by rw [<-hi];exact Array.getElem?_toList
    have fin:∀ b:Bool,b=cE c->H1 acc=some (.lst ((((sg y).take i).map cE).map V.bl))/\∃ c1:Option V,[some (V.str ⟨#[c]⟩)] = [c1]/\((((sg y).take i).map cE).map V.bl ++ [V.bl b])=(((sg y).take (i+1)).map cE).map V.bl/\(upd H1 acc (.lst ((((sg y).take i).map cE).map V.bl ++ [V.bl b]))) acc=some (.lst ((((sg y).take i).map cE).map V.bl ++ [V.bl b]))/\af H (upd H1 acc (.lst ((((sg y).take i).map cE).map V.bl ++ [V.bl b]))):=fun b hb=>by
     refine⟨ha,_,rfl,?_,aa,s1.put na⟩
     rw [List.take_add_one,hci,hb,List.map_append,List.map_append]
     rfl
    refine⟨_,rfl,_,_,rfl,rfl,_,rfl,?_⟩
    rw [Fh]
    refine cC (fun h=>?_) (fun h=>?_)
    ·refine⟨_,_,rfl,rfl,?_⟩
     rw [Fi]
     exact fin _ (by unfold cE;rw [h];rfl)
    ·exact fin _ (by unfold cE;rw [Bool.eq_false_iff.mpr h];rfl)
   rintro ys τ H1 ⟨c,rfl,rfl,ha,s1⟩
   rw [show (sg y).take y.cps.size=sg y from List.take_of_length_le (by rw [aY];exact Nat.le_refl _)] at ha
   refine⟨acc,_,rfl,ay.of ha,?_⟩
   rw [show ((sg y).map cE).all id=(sg y).all cE by rw [List.all_map];rfl]
   have e:iz (.str y)=(sg y).all cE:=by
    show ((decide (1<=y.length) && decide (y.length<=8)) && (sg y).all cE)=_
    rw [decide_eq_true h2,decide_eq_true h3]
    rfl
   rw [<-e]
   exact q H1 s1
theorem wX {f:Addr} {fd:FuncData} (F:bT K "is_part" "is_part" lV f fd) (Z:Bl mg) (O_is_whole:Own P w K mg base "is_whole" 1 ["thing"] se) (O_is_name:Own P w K mg base "is_name" 1 ["thing"] uS):aZ P w K mg base bS 2 f fd ["thing", "kind", "count"] uT:=by
 refine F.ok (k:=1) wU (fun vs H Q E h=>?_) (fun cdv A outer s H vs Q E hr h=>?_)
 ·obtain⟨x,d,k,n,rfl,_⟩:=h
  rfl
 ·obtain⟨x,d,k,n,rfl,hx,hf,q⟩:=h
  refine⟨_,(ae (aQ (aB bW (pv 1) ao (aK _))
   (ai (aw (aF O_is_name hr (av (pv 0)))))
   aG)
   (ae (aQ (aB bW (pv 1) ao (aK _))
   (ai (aw (aF O_is_whole hr (av (pv 0)))))
   aG)
   (ai (aw (rl (aF O_is_whole hr (av (pv 0))) (rh (mZ ke kd ah (pv 0) (pv 2)))))))),?_⟩
  unfold bQ at q
  refine⟨_,rfl,rfl,_,rfl,?_⟩
  by_cases h1:k = "name"
  ·refine cf (decide_eq_true (congrArg V.str h1)) ?_
   rw [if_pos h1] at q
   exact⟨_,rfl,x,d,rfl,hx,hf,q⟩
  refine bO (decide_eq_false (fun z=>h1 (V.str.inj z))) ?_
  rw [if_neg h1] at q
  refine⟨_,rfl,rfl,_,rfl,?_⟩
  by_cases h2:k = "number"
  ·refine cf (decide_eq_true (congrArg V.str h2)) ?_
   rw [if_pos h2] at q
   exact⟨_,rfl,x,d,rfl,hx,q H (af.refl H)⟩
  refine bO (decide_eq_false (fun z=>h2 (V.str.inj z))) ?_
  rw [if_neg h2] at q
  have q:=q H (af.refl H)
  refine⟨_,rfl,x,d,rfl,hx,_,rfl,?_⟩
  cases h3:j0 d with
  | false =>
   refine bE ?_
   cases d <;> first | exact q | cases h3
  | true =>
   refine bo ?_
   obtain⟨i,rfl,rfl⟩:=C6 hx h3
   refine⟨_,rfl,_,_,rfl,rfl,_,rfl,?_⟩
   cases h4:decide (0<=i) with
   | false =>
    refine bE ?_
    simp only [h4,Bool.false_and] at q
    exact q
   | true =>
    refine bo ?_
    simp only [h4,Bool.true_and] at q
    exact⟨_,rfl,_,_,rfl,rfl,q⟩
theorem qL {f:Addr} {fd:FuncData} (F:bT K "first_word" "first_word" jb f fd) (Z:Bl mg)  : aZ P w K mg base bS 1 f fd ["thing"] nh:=by
 refine F.ok (k:=0) qJ (fun vs H Q E h=>?_) (fun cdv A outer s H vs Q E hr h=>?_)
 ·obtain⟨x,d,rfl,_⟩:=h
  rfl
 ·obtain⟨x,d,rfl,hx,q⟩:=h
  refine⟨_,(ae (aQ (PW.pt (fK (cU (aA dZ rfl Z.isinstance bM (aL (pv 0) (eh (v:=.ty "tuple") rfl Z.tuple dm rfl)))) (fK (aB iC (aA aV rfl Z.len bG (av (pv 0))) ah (aK _)) (gd (cU (aA dZ rfl Z.isinstance bM (aL (bg oh (pv 0) ah) (eh (v:=.ty "str") rfl Z.str lr rfl))))))))
   (ai (aw (bg oh (pv 0) ah)))
   aG)
   (ai (aw cY))),?_⟩
  obtain⟨t,ht,hs,hi,hb,hu⟩:=fV (K:=K) hx
  refine⟨_,rfl,_,_,_,_,rfl,ht,hu,_,rfl,?_⟩
  cases h1:ki d with
  | false =>
   refine bE (bE ?_)
   rw [zw h1] at q
   exact q
  | true =>
   refine bo ?_
   obtain⟨p,xs,ds,rfl,rfl,e,r⟩:=sd hx h1
   refine⟨_,rfl,p,_,rfl,.inr (bJ.of e),_,_,rfl,rfl,_,rfl,?_⟩
   cases r with
   | nil=>exact bE (bE q)
   | cons r0 rs =>
    refine cf (decide_eq_true (by rw [List.length_cons];omega)) ?_
    obtain⟨t0,ht0,hs0,_⟩:=fV (K:=K) r0
    refine⟨_,rfl,p,_,0,_,rfl,rfl,bJ.of e,gf,_,_,_,_,rfl,ht0,hs0,_,rfl,?_⟩
    cases r0 with
    | str x=>exact bo ⟨_,rfl,p,_,0,_,rfl,rfl,bJ.of e,gf,q⟩
    | _=>exact bE q
theorem tq {f:Addr} {fd:FuncData} (F:bT K "has_parts" "has_parts" jB f fd) (Z:Bl mg) (O_is_part:Own P w K mg base "is_part" 2 ["thing", "kind", "count"] uT):aZ P w K mg base bS 3 f fd ["thing", "kinds", "count"] (sh K):=by
 refine F.ok (k:=2) tf (fun vs H Q E h=>?_) (fun cdv A outer s H vs Q E hr h=>?_)
 ·obtain⟨x,d,kv,ks,n,rfl,_⟩:=h
  rfl
 ·obtain⟨x,d,kv,ks,n,rfl,hx,hf,hk,hd,q⟩:=h
  refine⟨_,(ae (aQ (PW.pt (d9 (fJ (fH (pv 1))) (dP (aB oa (aA aV rfl Z.len bG (av (pv 0))) (aH bR (aA aV rfl Z.len bG (av (pv 1))) ah) (aK _)))))
   (ai (aw dh))
   aG)
   (ai (aw (aA (ic rfl) rfl Z.all lC (av (cD ["part", "kind"] ["count"] [2] rfl (CQ rfl Z.zip (aL (ba A6 (pv 0) (bc ah) bF) (pv 1))) rfl (by decide +kernel) (by decide +kernel) (by decide +kernel) ⟨⟨rfl,.inl rfl,rfl⟩,True.intro⟩ (fun _ _ _ _=>(o7 (K:=K) (n:=2) rfl (iK (n:=2) rfl (cv (bu (i:=0) (show ((["part", "kind"]:List Str)++(["count"]:List Str)).Nodup by decide +kernel) (hf:=Or.inr rfl)) (cv (bu (i:=1) (show ((["part", "kind"]:List Str)++(["count"]:List Str)).Nodup by decide +kernel) (hf:=Or.inr rfl)) gU))))) (fun _ _ _ _=>b7) (fun _ _ _ _=>(aF O_is_part hr (du (pv 0) (pv 1) (pv 2)))))))))),?_⟩
  cases hk with
  | no =>
   refine⟨_,rfl,_,rfl,bo (bo ?_)⟩
   exact q H (af.refl H)
  | some a ks hk =>
   obtain⟨d0,ds,rfl⟩:=hd (by intro z;cases z)
   obtain⟨p,xs,rfl,e,r⟩:=bh.dN hx
   obtain⟨x0,xs,rfl,r0,r⟩:=r.cons_inv
   have hl:=r.len
   refine⟨_,rfl,_,rfl,bE ?_⟩
   refine⟨_,rfl,p,_,rfl,.inr (bJ.of e),_,rfl,a,_,rfl,.inr (.inr hk),_,_,rfl,rfl,rfl,_,rfl,?_⟩
   have hh:jx (.tuple (d0 :: ds)) (some ks) n=(decide (ds.length=ks.length) && b4 ds ks n):=rfl
   rw [hh] at q
   by_cases h1:ds.length=ks.length
   rotate_left
   ·refine cf (by rw [decide_eq_false (fun z=>h1 (by have:=V.int.inj z;rw [List.length_cons,List.length_map] at this;omega))];rfl) ?_
    have:=q H (af.refl H)
    rw [decide_eq_false h1] at this
    exact this
   refine bO (by rw [decide_eq_true (congrArg V.int (by rw [List.length_cons,List.length_map];omega))];rfl) ?_
   rw [decide_eq_true h1] at q
   have hfs:ft ds=true/\ds.length<=300000:=by
    simp only [dz,ft,Bool.and_eq_true] at hf
    have:=of_decide_eq_true hf.1
    rw [List.length_cons] at this
    exact⟨hf.2.2,by omega⟩
   refine⟨_,rfl,_,rfl,p,_,rfl,bJ.of e,fun hw=>?_,fun _ t nt=>?_⟩
   ·exfalso
    obtain⟨z,_⟩:=hw
    simp [HT.bA] at z
   have ec:eS (x0 :: xs) (some 1) none=xs:=by simp [eS,HT.bA]
   rw [ec]
   have st:=af.new (o:=.tup xs) nt
   refine⟨_,rfl,t,a,rfl,⟨_,bJ.of aa⟩,⟨_,.inr hk⟩,fun acc na=>?_⟩
   refine CS (K:=K) (a:=t) (b:=a) (xs:=xs) (ys:=ks.map V.str) (fun i zs τ H'=>∃ (c1 c2:Option V),τ = [c1,c2,some (.int (n:Nat))]/\zs=((iW ds ks n).take i).map V.bl/\H' acc=some (.lst zs)/\H' t=some (.tup xs)/\af H H') ?_ ?_ ?_ ?_
   ·exact⟨none,none,rfl,rfl,aa,af.new na _ _ aa,st.trans (af.new na)⟩
   ·rintro i zs τ H4 hi ⟨c1,c2,rfl,rfl,ha,ht4,s4⟩
    refine⟨bJ.of ht4,.inr hk,ha,aT ?_⟩
    rw [List.length_map,List.length_take]
    omega
   ·rintro i x y zs τ H4 u hx4 hy hu ⟨c1,c2,rfl,rfl,ha,ht4,s4⟩
    obtain⟨k,rfl,hk4⟩:∃ k,y=V.str k/\ks[i]? = some k:=by
     rw [List.getElem?_map] at hy
     cases e:ks[i]? with
     | none=>rw [e] at hy;cases hy
     | some k=>rw [e] at hy;exact⟨k,(Option.some.inj hy).symm,rfl⟩
    have hlt:i < ds.length:=by
     have:=List.getElem?_eq_some_iff.mp hx4
     obtain⟨z,_⟩:=this
     omega
    have hd4:ds[i]? = some ds[i]:=List.getElem?_eq_getElem hlt
    obtain⟨x',hx',rx⟩:=r.get hd4
    obtain rfl:x' = x:=Option.some.inj (hx'.symm.trans hx4)
    have su:=af.new (o:=.tup [x',.str k]) hu
    have s5:=s4.trans su
    refine⟨u,_,rfl,bJ.of aa,rfl,_,_,rfl,_,_,rfl,rfl,?_⟩
    refine e7 ?_
    refine bo ?_
    refine⟨_,rfl,_,rfl,_,rfl,x',ds[i],k,n,rfl,?_,lI hfs.1 hd4,fun H6 s6=>?_⟩
    ·exact rx.bB s5
    have ha6:=s6 _ _ (su _ _ ha)
    refine⟨ha6,_,_,rfl,?_,aa,?_,?_⟩
    ·have hp:(iW ds ks n)[i]? = some (bQ ds[i] k n):=by
      unfold iW
      rw [List.getElem?_map,List.getElem?_zip_eq_some (z:=(ds[i],k)) |>.mpr ⟨hd4,hk4⟩]
      rfl
     rw [List.take_add_one,hp,List.map_append]
     rfl
    ·rw [ar (jf (s6 _ _ (su _ _ ht4)) ha6 (by intro z;cases z))]
     exact s6 _ _ (su _ _ ht4)
    ·exact (s5.trans s6).put (st.free na)
   ·rintro zs τ H4 ⟨c1,c2,rfl,rfl,ha,ht4,s4⟩
    have hlen:(iW ds ks n).length=min xs.length (ks.map V.str).length:=by
     unfold iW
     rw [List.length_map,List.length_zip,List.length_map,hl]
    rw [<-hlen,List.take_length] at ha
    refine⟨acc,_,rfl,ay.of ha,?_⟩
    rw [qh ds ks n h1]
    exact q H4 s4
theorem wY {f:Addr} {fd:FuncData} (F:bT K "is_deed" "is_deed" lW f fd) (Z:Bl mg) {aD d0 d1 d2 d3 d4:Addr} (GD:wb K mg aD d0 d1 d2 d3 d4) (yD:(aD == sysModules)=false) (O_has_parts:Own P w K mg base "has_parts" 3 ["thing", "kinds", "count"] (sh K)) (O_first_word:Own P w K mg base "first_word" 1 ["thing"] nh):aZ P w K mg base bS 4 f fd ["thing"] uU:=by
 refine F.ok (k:=3) wV (fun vs H Q E h=>?_) (fun cdv A outer s H vs Q E hr h=>?_)
 ·obtain⟨x,d,rfl,_⟩:=h
  rfl
 ·obtain⟨x,d,rfl,hx,hf,q⟩:=h
  refine⟨_,(ai (aw (aF O_has_parts hr (du (pv 0) (lH GD.tab yD rfl (aF O_first_word hr (av (pv 0))) ⟨rfl,rfl,rfl,rfl⟩) ah)))),?_⟩
  obtain⟨r,hr',hk⟩:=Ba GD (eu d)
  exact⟨_,rfl,⟨_,rfl,x,d,rfl,hx,r,hr',x,d,_,_,0,rfl,hx,hf,hk,qi,q⟩⟩
theorem yI {f:Addr} {fd:FuncData} (F:bT K "is_end" "is_end" nO f fd) (Z:Bl mg) {aE s0 s1 s2 s3:Addr} (GE:zq K mg aE s0 s1 s2 s3) (yE:(aE == sysModules)=false) (O_has_parts:Own P w K mg base "has_parts" 3 ["thing", "kinds", "count"] (sh K)) (O_first_word:Own P w K mg base "first_word" 1 ["thing"] nh):aZ P w K mg base bS 4 f fd ["thing", "count"] xT:=by
 refine F.ok (k:=3) yH (fun vs H Q E h=>?_) (fun cdv A outer s H vs Q E hr h=>?_)
 ·obtain⟨x,d,n,rfl,_⟩:=h
  rfl
 ·obtain⟨x,d,n,rfl,hx,hf,q⟩:=h
  refine⟨_,(ai (aw (aF O_has_parts hr (du (pv 0) (lH GE.tab yE rfl (aF O_first_word hr (av (pv 0))) ⟨rfl,rfl,rfl,rfl⟩) (pv 1))))),?_⟩
  obtain⟨r,hr',hk⟩:=C7 GE (eu d)
  exact⟨_,rfl,⟨_,rfl,x,d,rfl,hx,r,hr',_,rfl,x,d,_,_,n,rfl,hx,hf,hk,qi,q⟩⟩
theorem ud {f:Addr} {fd:FuncData} (F:bT K "is_piece" "is_piece" kx f fd) (Z:Bl mg) {tk_LONGEST_NAME:Tok} (G_LONGEST_NAME:mg "LONGEST_NAME" = some (.int 8 tk_LONGEST_NAME)) {tk_MOST_PIECES:Tok} (G_MOST_PIECES:mg "MOST_PIECES" = some (.int 400 tk_MOST_PIECES)) {tk_MOST_DEEDS:Tok} (G_MOST_DEEDS:mg "MOST_DEEDS" = some (.int 12 tk_MOST_DEEDS)) {tk_MOST_FIGURES:Tok} (G_MOST_FIGURES:mg "MOST_FIGURES" = some (.int 40 tk_MOST_FIGURES)) {tk_MOST_NUMBERS:Tok} (G_MOST_NUMBERS:mg "MOST_NUMBERS" = some (.int 200 tk_MOST_NUMBERS)) (O_is_deed:Own P w K mg base "is_deed" 4 ["thing"] uU) (O_is_end:Own P w K mg base "is_end" 4 ["thing", "count"] xT):aZ P w K mg base bS 5 f fd ["thing", "count"] si:=by
 refine F.ok (k:=4) jC (fun vs H Q E h=>?_) (fun cdv A outer s H vs Q E hr h=>?_)
 ·obtain⟨x,d,n,rfl,_⟩:=h
  rfl
 ·obtain⟨x,d,n,rfl,hx,hf,q⟩:=h
  refine⟨_,(ae (aQ (PW.pt (d9 (dD (cU (aA dZ rfl Z.isinstance bM (aL (pv 0) (eh (v:=.ty "tuple") rfl Z.tuple dm rfl))))) (dP (aB oa (aA aV rfl Z.len bG (av (pv 0))) ah (aK _)))))
   (ai (aw dh))
   aG)
   (ae (jO (pv 0) (iK rfl (cv (bu (i:=2) jC.nd) (cv (bu (i:=3) jC.nd) gU))))
   (ae (aQ (PW.pt (d9 (dD (cU (aA dZ rfl Z.isinstance bM (aL (pv 2) (eh (v:=.ty "tuple") rfl Z.tuple dm rfl))))) (dP (aB iC (aA aV rfl Z.len bG (av (pv 2))) (dJ (v:=.int 12) rfl G_MOST_DEEDS ⟨_,rfl⟩) (aK _)))))
   (ai (aw dh))
   aG)
   (ai (aw (rl (aA (ic rfl) rfl Z.all lC (av (cD ["deed"] [] [] rfl (jQ (pv 2)) rfl (by decide +kernel) (by decide +kernel) (by decide +kernel) True.intro (fun _ _ _ _=>(bu (i:=0) (show ((["deed"]:List Str)++([]:List Str)).Nodup by decide +kernel) (hf:=Or.inr rfl))) (fun _ _ _ _=>b7) (fun _ _ _ _=>(aF O_is_deed hr (av (pv 0))))))) (rh (aF O_is_end hr (aL (pv 3) (pv 1)))))))))),?_⟩
  obtain⟨t,ht,hs,hi,hb,hu⟩:=fV (K:=K) hx
  refine⟨_,rfl,_,_,_,_,rfl,ht,hu,_,rfl,?_⟩
  cases h1:ki d with
  | false =>
   refine bo (bo ?_)
   have:=q H (af.refl H)
   rw [zx h1] at this
   exact this
  | true =>
   refine bE ?_
   obtain⟨p,xs,ds,rfl,rfl,e,r⟩:=sd hx h1
   have hl:=r.len
   refine⟨_,rfl,p,_,rfl,.inr (bJ.of e),rfl,_,rfl,?_⟩
   by_cases h2:ds.length=2
   rotate_left
   ·refine cf (by rw [decide_eq_false (fun z=>h2 (by have:=V.int.inj z;omega))];rfl) ?_
    have:=q H (af.refl H)
    rw [xU h2] at this
    exact this
   refine bO (by rw [decide_eq_true (congrArg V.int (by omega))];rfl) ?_
   obtain⟨d1,d2,rfl⟩:∃ d1 d2,ds = [d1,d2]:=by
    rcases ds with _ | ⟨d1,_ | ⟨d2,_ | ⟨d3,ds⟩⟩⟩
    ·cases h2
    ·cases h2
    ·exact⟨d1,d2,rfl⟩
    ·simp at h2
   obtain⟨x1,xs1,rfl,r1,r⟩:=r.cons_inv
   obtain⟨x2,xs2,rfl,r2,r⟩:=r.cons_inv
   have z:=r.nil_inv
   subst z
   have hf2:dz d1=true/\dz d2=true:=by
    simp only [dz,ft,Bool.and_eq_true] at hf
    exact⟨hf.2.1,hf.2.2.1⟩
   refine⟨_,rfl,p,_,rfl,bJ.of e,rfl,_,_,rfl,_,_,rfl,rfl,?_⟩
   obtain⟨t1,ht1,_,_,_,hu1⟩:=fV (K:=K) r1
   refine⟨_,rfl,_,_,_,_,rfl,ht1,hu1,_,rfl,?_⟩
   cases h3:ki d1 with
   | false =>
    refine bo (bo ?_)
    have:=q H (af.refl H)
    rw [xV h3] at this
    exact this
   | true =>
   refine bE ?_
   obtain⟨p1,ys1,ds1,rfl,rfl,e1,rr1⟩:=sd r1 h3
   have hfs:=rr1.Bb hf2.1
   have hpc:b9 (.tuple [.tuple ds1,d2]) n=(decide (ds1.length<=12) && (ds1.all dI && kj d2 n)):=rfl
   rw [hpc] at q
   refine⟨_,rfl,p1,_,rfl,.inr (bJ.of e1),_,_,rfl,rfl,_,rfl,?_⟩
   have hl1:=rr1.len
   by_cases h4:ds1.length<=12
   rotate_left
   ·refine cf (decide_eq_true (by omega)) ?_
    have:=q H (af.refl H)
    rw [decide_eq_false h4] at this
    exact this
   refine bO (decide_eq_false (by omega)) ?_
   rw [decide_eq_true h4] at q
   refine⟨_,rfl,p1,rfl,⟨_,bJ.of e1⟩,fun acc na=>?_⟩
   refine jW (K:=K) (a:=p1) (xs:=ys1) (fun i ys τ H1=>∃ c:Option V,τ = [c]/\ys=((ds1.take i).map dI).map V.bl/\H1 acc=some (.lst ys)/\af H H1) ?_ ?_ ?_ ?_
   ·exact⟨none,rfl,rfl,aa,af.new na⟩
   ·rintro i ys τ H1 hi ⟨c,rfl,rfl,ha,s1⟩
    refine⟨bJ.of (s1 _ _ e1),ha,aT ?_⟩
    rw [List.length_map,List.length_map,List.length_take]
    have hlen:=rr1.len
    omega
   ·rintro i x' ys τ H1 hxi ⟨c,rfl,rfl,ha,s1⟩
    refine aI ?_
    refine e7 ?_
    refine bo ?_
    have hlt:i < ds1.length:=by
     obtain⟨z,_⟩:=List.getElem?_eq_some_iff.mp hxi
     have hlen:=rr1.len
     omega
    have hd4:ds1[i]? = some ds1[i]:=List.getElem?_eq_getElem hlt
    obtain⟨x3,hx3,rx⟩:=rr1.get hd4
    obtain rfl:x3=x':=Option.some.inj (hx3.symm.trans hxi)
    refine⟨_,rfl,x3,ds1[i],rfl,rx.bB s1,lI hfs.2 hd4,fun H6 s6=>?_⟩
    have ha6:=s6 _ _ ha
    refine⟨ha6,_,rfl,?_,aa,(s1.trans s6).put na⟩
    rw [List.take_add_one,hd4,List.map_append,List.map_append]
    rfl
   rintro ys τ H1 ⟨c,rfl,rfl,ha,s1⟩
   rw [List.take_of_length_le (Nat.le_of_eq rr1.len.symm)] at ha
   refine⟨acc,_,rfl,ay.of ha,_,rfl,?_⟩
   rw [show (ds1.map dI).all id=ds1.all dI by rw [List.all_map];rfl]
   cases h5:ds1.all dI with
   | false =>
    refine bE ?_
    have:=q H1 s1
    rw [h5] at this
    exact this
   | true =>
    refine bo ?_
    rw [h5] at q
    exact⟨_,rfl,_,rfl,x2,d2,n,rfl,r2.bB s1,hf2.2,fun H6 s6=>q H6 (s1.trans s6)⟩
theorem pR {f:Addr} {fd:FuncData} (F:bT K "read_number" "read_number" iu f fd) (Z:Bl mg) {tk_LONGEST_NAME:Tok} (G_LONGEST_NAME:mg "LONGEST_NAME" = some (.int 8 tk_LONGEST_NAME)) {tk_MOST_PIECES:Tok} (G_MOST_PIECES:mg "MOST_PIECES" = some (.int 400 tk_MOST_PIECES)) {tk_MOST_DEEDS:Tok} (G_MOST_DEEDS:mg "MOST_DEEDS" = some (.int 12 tk_MOST_DEEDS)) {tk_MOST_FIGURES:Tok} (G_MOST_FIGURES:mg "MOST_FIGURES" = some (.int 40 tk_MOST_FIGURES)) {tk_MOST_NUMBERS:Tok} (G_MOST_NUMBERS:mg "MOST_NUMBERS" = some (.int 200 tk_MOST_NUMBERS))  : aZ P w K mg base bS 1 f fd ["text"] wM:=by
  refine F.ok (k:=0) j5 (fun vs H Q E h=>?_) (fun cdv A outer s H vs Q E hr h=>?_)
  · obtain⟨x,rfl,_⟩:=h
    rfl
  · obtain⟨x,rfl,hx,q⟩:=h
    refine⟨_,(ae (oo (aP (i:=1) j5.nd (mX (cU (bU PySem.F.plainAttrs_str PySem.F.slot_str_startswith PySem.F.type_str_startswith qH (pv 0) (av ao))) (ba dX (pv 0) (bc ah) bF) (pv 0))))
      (ae (aQ (dD (m4 ke ke ah (aA cB rfl Z.len bG (av (pv 1))) (dJ (v:=.int 40) rfl G_MOST_FIGURES ⟨_,rfl⟩)))
      (ai (aw cY))
      aG)
      (ae (aQ (dD (cU (aA (ic rfl) rfl Z.all lC (av (cD ["sign"] [] [] rfl (oA (pv 1)) rfl (by decide +kernel) (by decide +kernel) (by decide +kernel) True.intro (fun _ _ _ _=>(bu (i:=0) (show ((["sign"]:List Str)++([]:List Str)).Nodup by decide +kernel) (hf:=Or.inr rfl))) (fun _ _ _ _=>b7) (fun _ _ _ _=>(mZ jn jn ao (pv 0) ao)))))))
      (ai (aw cY))
      aG)
      (ae (aQ (PW.pt (fK (aB bW (bg lj (pv 1) ah) ao (aK _)) (gd (aB oa (pv 0) ao (aK _)))))
      (ai (aw cY))
      aG)
      (ai (aw (bV qg rfl Z.int lq (av (pv 0))))))))),?_⟩
    have hfew:=hx.b3
    refine⟨fun σ' H'=>∃ f:Str,σ' = [some (.str x),some (.str f)]/\sg f=dG (sg x)/\f.length<=x.length/\H' = H,?_,?_⟩
    · refine⟨_,rfl,rfl,x, "-",rfl,rfl,_,rfl,?_⟩
      rw [xN]
      by_cases hm:(sg x).head? = some 45
      · refine cf (decide_eq_true hm) ?_
        have h1:1<=x.length:=by
          have:=congrArg List.length (fb hm)
          rw [aY,List.length_cons] at this
          omega
        refine⟨_,rfl,_,rfl,x,rfl,(by omega),?_⟩
        refine⟨_,rfl,?_,Txt.slice_le x _ _,rfl⟩
        have h2:=uQ (i:=1) h1
        rw [fb hm] at h2
        exact h2
      · refine bO (decide_eq_false hm) ?_
        exact⟨_,rfl,x,rfl,(gY hm).symm,Nat.le_refl _,rfl⟩
    rintro σ' H' ⟨f,rfl,hf,hfl,rfl⟩
    have hg:=uR hf
    have qn:eV x=false->∀ H1,af H' H1->Q .aW H1:=fun h H1 s1=>by
      have:=q H1 s1
      unfold eE at this
      rw [h] at this
      exact this
    refine⟨_,rfl,f,rfl,Nat.le_of_lt (aT (by omega)),_,_,rfl,rfl,_,rfl,?_⟩
    refine cC (fun h1=>?_) (fun h1=>?_)
    rotate_left
    · refine⟨_,rfl,bo ?_⟩
      refine qn ?_ _ (af.refl _)
      rw [hg,decide_eq_false (fun z:1<=f.length=>h1 (decide_eq_true (by omega)))]
      rfl
    have h1:1<=f.length:=by have:=of_decide_eq_true h1;omega
    refine⟨_,_,rfl,rfl,_,rfl,?_⟩
    by_cases h2:f.length<=40
    rotate_left
    · refine cf (by rw [decide_eq_false (by omega)];rfl) ?_
      refine qn ?_ _ (af.refl _)
      rw [hg,decide_eq_true h1,decide_eq_false h2]
      rfl
    refine bO (by rw [decide_eq_true (by omega)];rfl) ?_
    refine⟨_,rfl,f,rfl,fun acc na=>?_⟩
    refine oB (x:=f) (fun i ys τ H1=>∃ c:Option V,τ = [c]/\ys=(((sg f).take i).map cS).map V.bl/\H1 acc=some (.lst ys)/\af H' H1) ?_ ?_ ?_ ?_
    · exact⟨none,rfl,rfl,aa,af.new na⟩
    · rintro i ys τ H1 hi ⟨c,rfl,rfl,ha,s1⟩
      refine⟨ha,bD ?_⟩
      rw [List.length_map,List.length_map,List.length_take,aY]
      omega
    · rintro i c ys τ H1 hi ⟨c',rfl,rfl,ha,s1⟩
      refine aI ?_
      refine e7 ?_
      refine bo ?_
      have hci:(sg f)[i]? = some c:=by rw [<-hi];exact Array.getElem?_toList
      have fin:∀ b:Bool,b=cS c->H1 acc=some (.lst ((((sg f).take i).map cS).map V.bl))/\∃ c1:Option V,[some (V.str ⟨#[c]⟩)] = [c1]/\((((sg f).take i).map cS).map V.bl ++ [V.bl b])=(((sg f).take (i+1)).map cS).map V.bl/\(upd H1 acc (.lst ((((sg f).take i).map cS).map V.bl ++ [V.bl b]))) acc=some (.lst ((((sg f).take i).map cS).map V.bl ++ [V.bl b]))/\af H' (upd H1 acc (.lst ((((sg f).take i).map cS).map V.bl ++ [V.bl b]))):=fun b hb=>by
        refine⟨ha,_,rfl,?_,aa,s1.put na⟩
        rw [List.take_add_one,hci,hb,List.map_append,List.map_append]
        rfl
      refine⟨_,rfl,_,_,rfl,rfl,_,rfl,?_⟩
      rw [le_0]
      refine cC (fun h=>?_) (fun h=>?_)
      · refine⟨_,_,rfl,rfl,?_⟩
        rw [Fg]
        exact fin _ (by unfold cS;rw [h];rfl)
      · exact fin _ (by unfold cS;rw [Bool.eq_false_iff.mpr h];rfl)
    rintro ys τ H1 ⟨c,rfl,rfl,ha,s1⟩
    rw [show (sg f).take f.cps.size=sg f from List.take_of_length_le (by rw [aY];exact Nat.le_refl _)] at ha
    refine⟨acc,_,rfl,ay.of ha,_,rfl,?_⟩
    rw [show ((sg f).map cS).all id=(sg f).all cS by rw [List.all_map];rfl]
    cases hall:(sg f).all cS with
    | false =>
      refine bo ?_
      refine qn ?_ _ s1
      rw [hg,hall,decide_eq_true h1,decide_eq_true h2]
      rfl
    | true =>
      refine bE ?_
      obtain⟨c,hc,hat⟩:=xP h1
      refine⟨_,rfl,f,0,c,rfl,rfl,Nat.le_of_lt (aT (by omega)),hat,rfl,_,rfl,?_⟩
      rw [rX]
      rw [hc] at hg
      have yes:eV x=true->∃ n,PySem.intText? x=some n/\x.length<=640/\Q (.int n) H1:=fun h=>by
        have hl:=nA h
        obtain⟨n,hn⟩:=good_reads (by omega) h
        refine⟨n,hn,(by omega),?_⟩
        have:=q H1 s1
        unfold eE at this
        rw [if_pos h,hn] at this
        exact this
      by_cases h48:c=48
      · refine cf (decide_eq_true h48) ?_
        refine⟨_,rfl,rfl,_,rfl,?_⟩
        by_cases hz:x = "0"
        · refine bO (by rw [decide_eq_true (congrArg V.str hz)];rfl) ?_
          obtain⟨n,hn,hl,qq⟩:=yes (by rw [hg,hall,decide_eq_true h1,decide_eq_true h2,decide_eq_false (fun z:x ≠ "0" => z hz)];simp)
          exact⟨_,rfl,x,n,rfl,hn,hl,qq⟩
        · refine cf (by rw [decide_eq_false (fun z=>hz (V.str.inj z))];rfl) ?_
          refine qn ?_ _ s1
          rw [hg,hall,decide_eq_true h1,decide_eq_true h2,h48,decide_eq_true (hz:x ≠ "0"),decide_eq_true rfl]
          rfl
      · refine bO (decide_eq_false h48) (bE ?_)
        obtain⟨n,hn,hl,qq⟩:=yes (by rw [hg,hall,decide_eq_true h1,decide_eq_true h2,decide_eq_false (fun z:some c=some 48=>h48 (Option.some.inj z))];rfl)
        exact⟨_,rfl,x,n,rfl,hn,hl,qq⟩
theorem tu {f:Addr} {fd:FuncData} (F:bT K "read_word" "read_word" jD f fd) (Z:Bl mg) (O_read_number:Own P w K mg base "read_number" 1 ["text"] wM):aZ P w K mg base bS 2 f fd ["word"] vq:=by
 refine F.ok (k:=1) lX (fun vs H Q E h=>?_) (fun cdv A outer s H vs Q E hr h=>?_)
 ·obtain⟨x,rfl,_⟩:=h
  rfl
 ·obtain⟨x,rfl,hx,q⟩:=h
  refine⟨_,(ae (aP (i:=1) lX.nd (aF O_read_number hr (av (pv 0))))
   (ai (aw (mX (fJ (fH (pv 1))) (pv 0) (pv 1))))),?_⟩
  refine⟨_,rfl,x,rfl,hx,fun H1 s1=>?_⟩
  have q:=q H1 s1
  unfold vW at q
  cases h:eE x with
  | none =>
   rw [h] at q
   refine⟨_,rfl,_,rfl,cf rfl ?_⟩
   exact⟨_,rfl,q⟩
  | some i =>
   rw [h] at q
   refine⟨_,rfl,_,rfl,bO rfl ?_⟩
   exact⟨_,rfl,q⟩
theorem tw {f:Addr} {fd:FuncData} (F:bT K "read_step" "read_step" jE f fd) (Z:Bl mg) (O_read_word:Own P w K mg base "read_word" 2 ["word"] vq):aZ P w K mg base bS 3 f fd ["text"] vt:=by
 refine F.ok (k:=2) lY (fun vs H Q E h=>?_) (fun cdv A outer s H vs Q E hr h=>?_)
 ·obtain⟨x,rfl,_⟩:=h
  rfl
 ·obtain⟨x,rfl,hx,q⟩:=h
  refine⟨_,(ae (aP (i:=1) lY.nd (bU PySem.F.plainAttrs_str PySem.F.slot_str_split PySem.F.type_str_split d7 (pv 0) (av ao)))
   (ai (aw (aH uP (dU (av (bg br (pv 1) ah))) (bV cK rfl Z.tuple dm (av (cD ["word"] [] [] rfl (jP (ba cH (pv 1) (bc ah) bF)) rfl (by decide +kernel) (by decide +kernel) (by decide +kernel) True.intro (fun _ _ _ _=>(bu (i:=0) (show ((["word"]:List Str)++([]:List Str)).Nodup by decide +kernel) (hf:=Or.inr rfl))) (fun _ _ _ _=>b7) (fun _ _ _ _=>(aF O_read_word hr (av (pv 0))))))))))),?_⟩
  have hfew:=hx.b3
  have hle:=split_le x " "
  have htx:=qX hx
  refine⟨_,rfl,rfl,_, " ",rfl,rfl,(by decide +kernel),(by omega),fun l nl=>?_⟩
  unfold aO at q
  obtain⟨w,ys0,e0⟩:=dA (x:=x) eQ gA
  rw [e0] at hle htx q ⊢
  dsimp only at q
  rw [List.length_cons] at hle
  have s1:=af.new (o:=.lst ((w :: ys0).map V.str)) nl
  have hl:(upd H l (.lst ((w :: ys0).map V.str))) l=some (.lst ((w :: ys0).map V.str)):=aa
  generalize (upd H l (.lst ((w :: ys0).map V.str)))=H1 at s1 hl ⊢
  refine⟨_,rfl,l,_,0,_,rfl,rfl,ay.of hl,gf,om,fun t1 n1=>?_⟩
  have s2:=af.new (o:=.tup [V.str w]) n1
  have ht1:(upd H1 t1 (.tup [V.str w])) t1=some (.tup [V.str w]):=aa
  have hl2:=s2 _ _ hl
  have s02:=s1.trans s2
  change (_:Hp->Prop) (upd H1 t1 (.tup [V.str w]))
  generalize (upd H1 t1 (.tup [V.str w]))=H2 at s2 ht1 hl2 s02 ⊢
  refine⟨_,rfl,_,rfl,l,_,rfl,ay.of hl2,fun l3 n3=>?_⟩
  rw [show eS ((w :: ys0).map V.str) (some 1) none=ys0.map V.str from sk (xs:=(w :: ys0).map V.str) (k:=1) (by rw [List.length_map,List.length_cons];omega)]
  have s3:=af.new (o:=.lst (ys0.map V.str)) n3
  have hl3:(upd H2 l3 (.lst (ys0.map V.str))) l3=some (.lst (ys0.map V.str)):=aa
  have s03:=s02.trans s3
  have ht3:=s3 _ _ ht1
  generalize (upd H2 l3 (.lst (ys0.map V.str)))=H3 at s3 hl3 s03 ht3 ⊢
  refine⟨l3,rfl,⟨_,ay.of hl3⟩,fun acc na=>?_⟩
  refine jV (K:=K) (a:=l3) (xs:=ys0.map V.str) (fun i ys τ H'=>∃ c:Option V,τ = [c]/\aN H' ys ((ys0.take i).map aJ)/\H' acc=some (.lst ys)/\af H3 H') ?_ ?_ ?_ ?_
  ·exact⟨none,rfl,.nil,aa,af.new na⟩
  ·rintro i ys τ H4 hi ⟨c,rfl,g1,g2,g3⟩
   refine⟨ay.of (g3 _ _ hl3),g2,aT ?_⟩
   rw [g1.len,List.length_map,List.length_take]
   omega
  ·rintro i x' ys τ H4 hxi ⟨c,rfl,g1,g2,g3⟩
   refine aI ?_
   refine e7 ?_
   refine bo ?_
   have hlt:i < ys0.length:=by
    obtain⟨z,_⟩:=List.getElem?_eq_some_iff.mp hxi
    rw [List.length_map] at z
    exact z
   have hd4:ys0[i]? = some ys0[i]:=List.getElem?_eq_getElem hlt
   have au:=htx _ (List.mem_cons_of_mem _ (List.mem_of_getElem? hd4))
   generalize ys0[i] = d at hd4 au
   rw [List.getElem?_map,hd4] at hxi
   cases hxi
   refine⟨_,rfl,d,rfl,au,fun H5 s5=>?_⟩
   have g25:=s5 _ _ g2
   refine⟨g25,_,rfl,?_,aa,(g3.trans s5).put na⟩
   rw [List.take_add_one,hd4,List.map_append]
   refine aN.app ?_ (Eh d)
   have nol:cJ ((ys0.take i).map aJ)=true:=cF fun e he=>by
    obtain⟨y,_,rfl⟩:=List.mem_map.mp he
    exact kr y
   exact (g1.bB s5).put g25 nol
  rintro ys τ H4 ⟨c,rfl,g1,g2,g3⟩
  rw [List.take_of_length_le (by rw [List.length_map];exact Nat.le_refl _)] at g1
  have hyl:=g1.len
  rw [List.length_map] at hyl
  refine⟨acc,_,rfl,.inl ⟨ay.of g2,fun t5 n5=>?_⟩⟩
  have s5:=af.new (o:=.tup ys) n5
  refine⟨t1,t5,_,_,rfl,rfl,s5 _ _ (g3 _ _ ht3),aa,(by show 1+_<=sizeLine;exact Nat.le_of_lt (aT (by omega))),fun t6 H6 ht6 s6=>?_⟩
  exact q t6 H6 (.tup ht6 (.cons (.str _) (g1.bB (s5.trans s6)))) ((s03.trans g3).trans (s5.trans s6))
theorem mi {f:Addr} {fd:FuncData} (F:bT K "__init__" "NoPlan.__init__" fE f fd) (Z:Bl mg) {cP cM cN cR cL cO:Addr} (GX:vp K mg cP cM cN cR cL cO)  : aZ P w K mg base bS 1 f fd ["self", "line"] (sJ cO):=by
 refine F.ok (k:=0) lZ (fun vs H Q E h=>?_) (fun cdv A outer s H vs Q E hr h=>?_)
 ·obtain⟨e,i,rfl,_⟩:=h
  rfl
 ·obtain⟨e,i,rfl,hi,hN,q⟩:=h
  refine⟨_,(ae (gQ (zH GX.pP GX.iO.choose_spec GX.gP (aL (pv 0) (Dg (pv 1)))))
   (ai (yg (pv 0) (pv 1)))),?_⟩
  refine⟨⟨_,rfl,⟨_,rfl,i,rfl,hi,fun y hy=>⟨e,_,rfl,(by show 1<=1000;decide),hN,?_⟩⟩⟩⟩
  refine⟨_,rfl,_,rfl,e,cO,rfl,hN,GX.sO,fun dx nd ne=>?_⟩
  refine q dx _ aa (by rw [ar ne];exact aa) fun c o ec n=>?_
  rw [ar n,ar (aX ec nd)]
  exact ec
theorem qM {f:Addr} {fd:FuncData} (F:bT K "read_piece" "read_piece" jc f fd) (Z:Bl mg) {cP cM cN cR cL cO:Addr} (GX:vp K mg cP cM cN cR cL cO) (O_read_step:Own P w K mg base "read_step" 3 ["text"] vt) (O_is_piece:Own P w K mg base "is_piece" 5 ["thing", "count"] si) (O_NoPlan___init__:wF P w K mg base cO "NoPlan" 1 ["self", "line"] (sJ cO)):aZ P w K mg base (cW P w) 6 f fd ["line", "count", "at"] (nI cO):=by
  refine F.Di (k:=5) iw (fun vs H Q E h=>?_) (fun cdv A outer s H vs Q E hr h=>?_)
  · obtain⟨x,n,at_,rfl,_⟩:=h
    rfl
  · obtain⟨x,n,at_,rfl,hx,hat,qy,qn⟩:=h
    refine⟨_,(ae (gX (i:=3) ["text"] [] [] rfl iw.nd rfl rfl rfl (jP (bU PySem.F.plainAttrs_str PySem.F.slot_str_split PySem.F.type_str_split d7 (pv 0) (av ao))) rfl (by decide +kernel) (by decide +kernel) (by decide +kernel) True.intro (fun _ _ _ _=>(bu (i:=0) (show ((["text"]:List Str)++([]:List Str)).Nodup by decide +kernel) (hf:=Or.inr rfl))) (fun _ _ _ _=>b7) (fun _ _ _ _=>(aF O_read_step hr (av (pv 0)))))
      (ae (aP (i:=4) iw.nd (dU (aL (bV cK rfl Z.tuple dm (av (ba cH (pv 3) bF (bc (j9 iN ah))))) (bg br (pv 3) (j9 iN ah)))))
      (ae (aQ (dD (cU (aF O_is_piece hr (aL (pv 4) (pv 1)))))
      (ai (yh O_NoPlan___init__ GX.eO.toiq GX.yO hr (av (pv 2))))
      aG)
      (gc.uu (ai (aw (pv 4))))))),?_⟩
    have hfew:=hx.b3
    have hle:(partsOf x).length<=x.length+2:=split_le x "; "
    have htx:=kq hx
    have hfp:=wN hx
    obtain⟨l0,t0,e0⟩:=i8 x
    rw [gu e0] at qy qn hfp
    refine⟨_,rfl,rfl,_, "; ",rfl,rfl,(by decide +kernel),(by omega),fun l nl=>?_⟩
    rw [show Txt.split x "; " = l0 ++ [t0] from e0]
    rw [e0] at hle htx
    generalize hL:l0 ++ [t0] = ls at hle htx
    have s1:=af.new (o:=.lst (ls.map V.str)) nl
    have hl:(upd H l (.lst (ls.map V.str))) l=some (.lst (ls.map V.str)):=aa
    generalize (upd H l (.lst (ls.map V.str)))=H1 at s1 hl ⊢
    refine⟨l,rfl,⟨_,ay.of hl⟩,fun acc na=>?_⟩
    refine jV (K:=K) (a:=l) (xs:=ls.map V.str) (fun i ys τ H'=>∃ c:Option V,τ = [c]/\aN H' ys ((ls.take i).map fun t=>.tuple (aO t))/\H' acc=some (.lst ys)/\af H1 H') ?_ ?_ ?_ ?_
    · exact⟨none,rfl,.nil,aa,af.new na⟩
    · rintro i ys τ H4 hi ⟨c,rfl,g1,g2,g3⟩
      refine⟨ay.of (g3 _ _ hl),g2,aT ?_⟩
      rw [g1.len,List.length_map,List.length_take]
      omega
    · rintro i x' ys τ H4 hxi ⟨c',rfl,g1,g2,g3⟩
      refine aI ?_
      refine e7 ?_
      refine bo ?_
      have hlt:i < ls.length:=by
        obtain⟨z,_⟩:=List.getElem?_eq_some_iff.mp hxi
        rw [List.length_map] at z
        exact z
      have hd4:ls[i]? = some ls[i]:=List.getElem?_eq_getElem hlt
      have au:=htx _ (List.mem_of_getElem? hd4)
      generalize ls[i] = ds at hd4 au
      rw [List.getElem?_map,hd4] at hxi
      cases hxi
      refine⟨_,rfl,ds,rfl,au,fun t5 H5 rd s5=>?_⟩
      have g25:=s5 _ _ g2
      refine⟨g25,_,rfl,?_,aa,(g3.trans s5).put na⟩
      rw [List.take_add_one,hd4,List.map_append]
      refine aN.app ((g1.bB s5).put g25 (cF fun e he=>?_)) (rd.b5 (fun q zs e=>by rw [ar (jf e g25 (by intro z;cases z))];exact e) (ja ds))
      obtain⟨e',he',rfl⟩:=List.mem_map.mp he
      exact ja e'
    rintro ys τ H4 ⟨c',rfl,g1,g2,g3⟩
    rw [List.take_of_length_le (by rw [List.length_map];exact Nat.le_refl _),<-hL,List.map_append] at g1
    have hyl:=g1.len
    obtain⟨ys1,y2,rfl,g4,g5⟩:=aN.snoc_inv g1
    have hy1:=g4.len
    rw [List.length_map] at hy1
    have s4:=s1.trans g3
    refine aI ?_
    refine⟨_,rfl,_,rfl,_,rfl,acc,_,rfl,ay.of g2,fun l2 n2=>?_⟩
    rw [sD]
    have s5:=af.new (o:=.lst ys1) n2
    refine⟨l2,_,rfl,.inl ⟨ay.of aa,fun t2 n3=>?_⟩⟩
    have s6:=af.new (o:=.tup ys1) n3
    have s56:=s5.trans s6
    have ht2:(upd (upd H4 l2 (.lst ys1)) t2 (.tup ys1)) t2=some (.tup ys1):=aa
    generalize (upd (upd H4 l2 (.lst ys1)) t2 (.tup ys1))=H5 at s56 ht2 ⊢
    refine⟨_,rfl,_,rfl,acc,_,_,_,rfl,rfl,ay.of (s56 _ _ g2),m7 ys1 y2,ln2,fun t3 n4=>?_⟩
    have s7:=af.new (o:=.tup [.ref t2,y2]) n4
    have s47:=s56.trans s7
    have rp:bh (upd H5 t3 (.tup [.ref t2,y2])) (.ref t3) (.tuple [.tuple (l0.map fun t=>.tuple (aO t)),.tuple (aO t0)]):=.tup aa (.cons (.tup (s7 _ _ ht2) (g4.bB s47)) (.cons (g5.bB s47) .nil))
    have s07:=s4.trans s47
    generalize (upd H5 t3 (.tup [.ref t2,y2]))=H6 at rp s07 ⊢
    refine⟨_,rfl,_,rfl,.ref t3,_,n,rfl,rp,hfp,fun H7 s8=>⟨_,rfl,?_⟩⟩
    cases hp:b9 (.tuple [.tuple (l0.map fun t=>.tuple (aO t)),.tuple (aO t0)]) n with
    | true =>
      refine bE ?_
      exact⟨_,rfl,qy hp _ H7 (rp.bB s8) (s07.trans s8)⟩
    | false =>
      refine bo ?_
      refine⟨⟨_,rfl,(by show 1<=1000;decide),fun e ne=>⟨e,at_,rfl,hat,aa,fun dx H' hD hd keep=>⟨rfl,dx,hD,?_⟩⟩⟩⟩
      have dne:dx ≠ e:=fun z=>by rw [z,hD] at hd;cases hd
      refine qn hp dx _ (by rw [ju dne];exact hd) fun c o hc=>?_
      have c7:=(s07.trans s8) c o hc
      have ce:=aX c7 ne
      rw [ju ce]
      exact keep c o (by rw [ar ce];exact c7) ce
theorem tD {f:Addr} {fd:FuncData} (F:bT K "read_plan" "read_plan" jF f fd) (Z:Bl mg) {tk_LONGEST_NAME:Tok} (G_LONGEST_NAME:mg "LONGEST_NAME" = some (.int 8 tk_LONGEST_NAME)) {tk_MOST_PIECES:Tok} (G_MOST_PIECES:mg "MOST_PIECES" = some (.int 400 tk_MOST_PIECES)) {tk_MOST_DEEDS:Tok} (G_MOST_DEEDS:mg "MOST_DEEDS" = some (.int 12 tk_MOST_DEEDS)) {tk_MOST_FIGURES:Tok} (G_MOST_FIGURES:mg "MOST_FIGURES" = some (.int 40 tk_MOST_FIGURES)) {tk_MOST_NUMBERS:Tok} (G_MOST_NUMBERS:mg "MOST_NUMBERS" = some (.int 200 tk_MOST_NUMBERS)) {cP cM cN cR cL cO:Addr} (GX:vp K mg cP cM cN cR cL cO) (OX_read_piece:pK P w K mg base "read_piece" 6 ["line", "count", "at"] (nI cO)):aZ P w K mg base (cW P w) 7 f fd ["text"] (pO cM cO):=by
 refine F.Di (k:=6) ma (fun vs H Q E h=>?_) (fun cdv A outer s H vs Q E hr h=>?_)
 ·obtain⟨x,rfl,_⟩:=h
  rfl
 ·obtain⟨x,rfl,hx,qm,qb,qo⟩:=h
  refine⟨_,(ae (aP (i:=1) ma.nd (bU PySem.F.plainAttrs_str PySem.F.slot_str_split PySem.F.type_str_split d7 (pv 0) (av ao)))
   (ae (aQ (aB iC (aA (hJ (K:=K) rfl) rfl Z.len bG (av (pv 1))) (dJ (v:=.int 400) rfl G_MOST_PIECES ⟨_,rfl⟩) (aK _))
   (ai (zF GX.tM GX.gM (av (Df (aA (hJ (K:=K) rfl) rfl Z.len bG (av (pv 1)))))))
   aG)
   (ai (aw (bV cK rfl Z.tuple dm (av (yk BD ["at", "line"] ["lines"] [1] rfl (Bf rfl Z.enumerate (av (pv 1))) rfl (by decide +kernel) (by decide +kernel) (by decide +kernel) ⟨⟨rfl,.inl rfl,rfl⟩,True.intro⟩ (fun _ _ _ _ _=>(o7 (K:=K) (n:=2) rfl (iK (n:=2) rfl (cv (bu (i:=0) (show ((["at", "line"]:List Str)++(["lines"]:List Str)).Nodup by decide +kernel) (hf:=Or.inr rfl)) (cv (bu (i:=1) (show ((["at", "line"]:List Str)++(["lines"]:List Str)).Nodup by decide +kernel) (hf:=Or.inr rfl)) gU))))) (fun _ _ _ _ _=>b7) (fun _ _ _ _ _ hE=>(oO OX_read_piece hE hr (du (pv 1) (aA (hJ (K:=K) rfl) rfl Z.len bG (av (pv 2))) (pv 0))))))))))),?_⟩
  have hfew:=hx.b3
  obtain⟨hn0,hn1⟩:=nJ hx
  have htx:=i9 hx
  refine⟨_,rfl,rfl,_, "\n",rfl,rfl,(by decide +kernel),(by omega),fun l nl=>?_⟩
  rw [show Txt.split x "\n" = bC x from rfl]
  unfold dY at qb qo
  generalize bC x=ls at *
  have s1:=af.new (o:=.lst (ls.map V.str)) nl
  have hl:(upd H l (.lst (ls.map V.str))) l=some (.lst (ls.map V.str)):=aa
  generalize (upd H l (.lst (ls.map V.str)))=H1 at s1 hl ⊢
  have hll:(ls.map V.str).length=ls.length:=List.length_map ..
  refine⟨_,rfl,l,_,rfl,.inl (ay.of hl),_,_,rfl,rfl,_,rfl,?_⟩
  by_cases h400:400 < ls.length
  ·refine cf (decide_eq_true (by omega)) ?_
   refine⟨⟨_,rfl,l,_,rfl,.inl (ay.of hl),_,rfl,(by rw [hll];omega),fun y hy=>⟨(by show 1<=1000;decide),qm h400 _ s1⟩⟩⟩
  refine bO (decide_eq_false (by omega)) ?_
  have h4:ls.length<=400:=by omega
  refine⟨_,rfl,l,rfl,.inr ⟨⟨_,ay.of hl⟩,fun acc na=>?_⟩⟩
  refine Bg (Sq:=ay K) (a:=l) (xs:=ls.map V.str) (fun i zs τ H'=>∃ (c1 c2:Option V),τ = [c1,c2,some (.ref l)]/\H' acc=some (.lst zs)/\aN H' zs ((ls.take i).map bp)/\(∀ j y,j < i->ls[j]? = some y->b9 (bp y) ls.length=true)/\af H1 H') ?_ ?_ ?_ ?_
  ·exact⟨none,none,rfl,aa,.nil,fun j y h=>absurd h (Nat.not_lt_zero _),af.new na⟩
  ·rintro i zs τ H5 hi ⟨c1,c2,rfl,ha,rd,au,s5⟩
   have:=rd.len
   rw [List.length_map,List.length_take] at this
   exact⟨ay.of (s5 _ _ hl),ha,bD (by omega)⟩
  ·rintro i y zs τ H5 t hy ht ⟨c1,c2,rfl,ha,rd,au,s5⟩
   have hi:i < ls.length:=by have:=(List.getElem?_eq_some_iff.mp hy).1;omega
   have hpi:ls[i]? = some ls[i]:=List.getElem?_eq_getElem hi
   generalize ls[i] = p at hpi
   rw [List.getElem?_map,hpi] at hy
   cases hy
   have st:=af.new (o:=.tup [.int (i:Nat),.str p]) ht
   refine⟨t,_,rfl,bJ.of aa,rfl,_,_,rfl,_,_,rfl,rfl,?_⟩
   have ha6:=st _ _ ha
   have s6:=s5.trans st
   have rd6:=rd.bB st
   generalize (upd H5 t (.tup [.int (i:Nat),.str p]))=H6 at ha6 s6 rd6 ⊢
   refine e7 ?_
   refine bo ?_
   refine⟨_,rfl,_,rfl,l,_,rfl,.inl (ay.of (s6 _ _ hl)),_,rfl,p,ls.length,(i:Nat),(by rw [hll];rfl),htx p (List.mem_of_getElem? hpi),(by omega),fun hp v H7 rv s7=>?_,fun hp dx H7 hd s7=>?_⟩
   ·have ha7:=s7 _ _ ha6
    refine⟨ha7,_,_,rfl,aa,?_,fun j y hj hy=>?_,(s6.trans s7).put na⟩
    ·rw [List.take_add_one,hpi,List.map_append]
     exact aN.app ((rd6.bB s7).put ha7 (cF fun e he=>by obtain⟨y,_,rfl⟩:=List.mem_map.mp he;exact ik y)) (rv.b5 (fun q zs e=>by rw [ar (jf e ha7 (by intro z;cases z))];exact e) (ik p))
    ·by_cases z:j=i
     ·subst z
      rw [hpi] at hy
      cases hy
      exact hp
     ·exact au j y (by omega) hy
   ·refine qb h4 i ?_ dx H7 hd ((s1.trans s6).trans s7)
    rw [List.findIdx?_eq_some_iff_getElem]
    refine⟨hi,?_,fun j hj=>?_⟩
    ·rw [(List.getElem?_eq_some_iff.mp hpi).2,hp];rfl
    ·rw [au j _ hj (List.getElem?_eq_getElem (by omega))];decide
  rintro zs τ H5 ⟨c1,c2,rfl,ha,rd,au,s5⟩
  rw [List.take_of_length_le (by rw [hll];exact Nat.le_refl _)] at rd
  refine⟨acc,_,rfl,.inl ⟨ay.of ha,fun t nt=>?_⟩⟩
  have st:=af.new (o:=.tup zs) nt
  refine qo h4 ?_ (.ref t) _ (.tup aa (rd.bB st)) ((s1.trans s5).trans st)
  rw [List.findIdx?_eq_none_iff]
  intro y hy
  obtain⟨j,hj⟩:=List.getElem?_of_mem hy
  have:=au j y (by rw [hll];exact (List.getElem?_eq_some_iff.mp hj).1) hj
  rw [this]
  rfl
theorem ue {f:Addr} {fd:FuncData} (F:bT K "in_a_row" "in_a_row" ky f fd) (Z:Bl mg)  : aZ P w K mg base bS 1 f fd ["things"] uZ:=by
 refine F.ok (k:=0) t9 (fun vs H Q E h=>?_) (fun cdv A outer s H vs Q E hr h=>?_)
 ·obtain⟨x,ds,rfl,_⟩:=h
  rfl
 ·obtain⟨x,ds,rfl,hx,ok,q⟩:=h
  refine⟨_,(ai (aw (bU PySem.F.plainAttrs_str PySem.F.slot_str_join PySem.F.type_str_join dM ao (av (cD ["thing"] [] [] rfl (jQ (pv 0)) rfl (by decide +kernel) (by decide +kernel) (by decide +kernel) True.intro (fun _ _ _ _=>(bu (i:=0) (show ((["thing"]:List Str)++([]:List Str)).Nodup by decide +kernel) (hf:=Or.inr rfl))) (fun _ _ _ _=>b7) (fun _ _ _ _=>(bV lK rfl Z.str lr (av (pv 0))))))))),?_⟩
  obtain⟨p,xs,rfl,e,r⟩:=bh.dN hx
  have hfew:=ok.b3
  refine⟨rfl,_,rfl,p,rfl,⟨_,bJ.of e⟩,fun acc na=>?_⟩
  refine jW (K:=K) (a:=p) (xs:=xs) (fun i ys τ H1=>∃ c:Option V,τ = [c]/\ys=((ds.take i).map cQ).map V.str/\H1 acc=some (.lst ys)/\af H H1) ?_ ?_ ?_ ?_
  ·exact⟨none,rfl,rfl,aa,af.new na⟩
  ·rintro i ys τ H1 hi ⟨c,rfl,rfl,ha,s1⟩
   refine⟨bJ.of (s1 _ _ e),ha,bD ?_⟩
   rw [List.length_map,List.length_map,List.length_take]
   omega
  ·rintro i x' ys τ H1 hxi ⟨c,rfl,rfl,ha,s1⟩
   refine aI ?_
   refine e7 ?_
   refine bo ?_
   have hlt:i < ds.length:=by
    obtain⟨z,_⟩:=List.getElem?_eq_some_iff.mp hxi
    have hlen:=r.len
    omega
   have hd4:ds[i]? = some ds[i]:=List.getElem?_eq_getElem hlt
   obtain⟨x3,hx3,rx⟩:=r.get hd4
   obtain rfl:x3=x':=Option.some.inj (hx3.symm.trans hxi)
   have fin:H1 acc=some (.lst (((ds.take i).map cQ).map V.str))/\∃ c1:Option V,[some x3] = [c1]/\(((ds.take i).map cQ).map V.str ++ [V.str (cQ ds[i])])=((ds.take (i+1)).map cQ).map V.str/\(upd H1 acc (.lst (((ds.take i).map cQ).map V.str ++ [V.str (cQ ds[i])]))) acc=some (.lst (((ds.take i).map cQ).map V.str ++ [V.str (cQ ds[i])]))/\af H (upd H1 acc (.lst (((ds.take i).map cQ).map V.str ++ [V.str (cQ ds[i])]))):=by
    refine⟨ha,_,rfl,?_,aa,s1.put na⟩
    rw [List.take_add_one,hd4,List.map_append,List.map_append]
    rfl
   rcases ok.ok _ (List.mem_of_getElem? hd4) with ⟨y,ey,hy⟩ | ⟨k,ek,hk⟩
   ·rw [ey] at rx fin
    cases rx
    exact⟨_,rfl,.inl ⟨y,rfl,fin⟩⟩
   ·rw [ek] at rx fin
    cases rx
    exact⟨_,rfl,.inr ⟨k,rfl,pI hk,fin⟩⟩
  rintro ys τ H1 ⟨c,rfl,rfl,ha,s1⟩
  rw [List.take_of_length_le (Nat.le_of_eq r.len.symm)] at ha
  refine⟨" ",acc,ds.map cQ,rfl,rfl,ay.of ha,?_,q H1 s1⟩
  have h1:=j2 (k:=41) (ds.map cQ) fun y hy=>by
   obtain⟨d,hd,rfl⟩:=List.mem_map.mp hy
   exact sy (ok.ok d hd)
  rw [List.length_map,show (" " : Str).length=1 by decide +kernel]
  rw [List.length_map] at h1
  omega
theorem qN {f:Addr} {fd:FuncData} (F:bT K "piece_text" "piece_text" jd f fd) (Z:Bl mg) (O_in_a_row:Own P w K mg base "in_a_row" 1 ["things"] uZ):aZ P w K mg base bS 2 f fd ["piece"] vw:=by
 refine F.ok (k:=1) ix (fun vs H Q E h=>?_) (fun cdv A outer s H vs Q E hr h=>?_)
 ·obtain⟨v,x,n,rfl,_⟩:=h
  rfl
 ·obtain⟨v,x,n,rfl,hv,hx,hp,q⟩:=h
  refine⟨_,(ae (jO (pv 0) (iK rfl (cv (bu (i:=1) ix.nd) (cv (bu (i:=2) ix.nd) gU))))
   (ai (aw (bU PySem.F.plainAttrs_str PySem.F.slot_str_join PySem.F.type_str_join dM ao (av (cD ["step"] [] [] rfl (jQ (aH uP (pv 1) (dU (av (pv 2))))) rfl (by decide +kernel) (by decide +kernel) (by decide +kernel) True.intro (fun _ _ _ _=>(bu (i:=0) (show ((["step"]:List Str)++([]:List Str)).Nodup by decide +kernel) (hf:=Or.inr rfl))) (fun _ _ _ _=>b7) (fun _ _ _ _=>(aF O_in_a_row hr (av (pv 0)))))))))),?_⟩
  have hfew:=hx.b3
  obtain⟨l0,t0,e0⟩:=i8 x
  obtain⟨h12,hds⟩:=tY e0 hp
  have hjs:Txt.join "; " (l0 ++ [t0])=x:=by rw [<-e0];exact join_split pH sE
  rw [gu e0] at hv
  obtain⟨pp,us,rfl,e,r⟩:=bh.dN hv
  obtain⟨x1,us1,rfl,r1,r⟩:=r.cons_inv
  obtain⟨x2,us2,rfl,r2,r⟩:=r.cons_inv
  have z:=r.nil_inv
  subst z
  obtain⟨da,ws,rfl,e1,rw'⟩:=bh.dN r1
  have hwl:=rw'.len
  rw [List.length_map] at hwl
  refine⟨_,rfl,pp,_,rfl,bJ.of e,rfl,_,_,rfl,_,_,rfl,rfl,?_⟩
  refine⟨rfl,_,rfl,_,rfl,om,fun t1 n1=>?_⟩
  have s1:=af.new (o:=.tup [x2]) n1
  refine⟨da,t1,_,_,rfl,rfl,s1 _ _ e1,aa,(by show _+1<=sizeLine;exact Nat.le_of_lt (bD (by omega))),fun t2 H2 ht2 s2=>?_⟩
  have s02:=s1.trans s2
  have rd:aN H2 (ws ++ [x2]) ((l0 ++ [t0]).map fun t=>.tuple (aO t)):=by
   rw [List.map_append]
   exact aN.app (rw'.bB s02) (r2.bB s02)
  generalize hL:l0 ++ [t0] = ls at rd hds hjs
  have hll:=rd.len
  rw [List.length_map] at hll
  have hlf:ls.length<=13:=by
   rw [<-hll,List.length_append]
   show _+1<=13
   omega
  refine⟨t2,rfl,⟨_,bJ.of ht2⟩,fun acc na=>?_⟩
  refine jW (K:=K) (a:=t2) (xs:=ws ++ [x2]) (fun i ys τ H1=>∃ c:Option V,τ = [c]/\ys=(ls.take i).map V.str/\H1 acc=some (.lst ys)/\af H2 H1) ?_ ?_ ?_ ?_
  ·exact⟨none,rfl,rfl,aa,af.new na⟩
  ·rintro i ys τ H1 hi ⟨c,rfl,rfl,ha,s1⟩
   refine⟨bJ.of (s1 _ _ ht2),ha,bD ?_⟩
   rw [List.length_map,List.length_take]
   omega
  ·rintro i x' ys τ H1 hxi ⟨c,rfl,rfl,ha,s1⟩
   refine aI ?_
   refine e7 ?_
   refine bo ?_
   have hlt:i < ls.length:=by
    obtain⟨z,_⟩:=List.getElem?_eq_some_iff.mp hxi
    omega
   have hd4:ls[i]? = some ls[i]:=List.getElem?_eq_getElem hlt
   generalize ls[i] = p at hd4
   obtain⟨x3,hx3,rx⟩:=rd.get (i:=i) (d:=.tuple (aO p)) (by rw [List.getElem?_map,hd4];rfl)
   obtain rfl:x3=x':=Option.some.inj (hx3.symm.trans hxi)
   refine⟨_,rfl,x3,aO p,rfl,rx.bB s1,hds _ (List.mem_of_getElem? hd4),fun H6 s6=>?_⟩
   have ha6:=s6 _ _ ha
   rw [wO]
   refine⟨ha6,_,rfl,?_,aa,(s1.trans s6).put na⟩
   rw [List.take_add_one,hd4,List.map_append]
   rfl
  rintro ys τ H1 ⟨c,rfl,rfl,ha,s1⟩
  rw [List.take_of_length_le (by omega)] at ha
  refine⟨"; ",acc,ls,rfl,rfl,ay.of ha,?_,?_⟩
  ·have h1:=ny "; " ls
   rw [hjs] at h1
   rw [show ("; " : Str).length=2 by decide +kernel] at h1 ⊢
   omega
  ·rw [hjs]
   exact q H1 (s02.trans s1)
theorem tE {f:Addr} {fd:FuncData} (F:bT K "plan_text" "plan_text" jG f fd) (Z:Bl mg) (O_piece_text:Own P w K mg base "piece_text" 2 ["piece"] vw):aZ P w K mg base bS 3 f fd ["plan"] vx:=by
 refine F.ok (k:=2) tj (fun vs H Q E h=>?_) (fun cdv A outer s H vs Q E hr h=>?_)
 ·obtain⟨v,x,rfl,_⟩:=h
  rfl
 ·obtain⟨v,x,rfl,hv,hx,h400,hb,q⟩:=h
  refine⟨_,(ai (aw (bU PySem.F.plainAttrs_str PySem.F.slot_str_join PySem.F.type_str_join dM ao (av (cD ["piece"] [] [] rfl (jQ (pv 0)) rfl (by decide +kernel) (by decide +kernel) (by decide +kernel) True.intro (fun _ _ _ _=>(bu (i:=0) (show ((["piece"]:List Str)++([]:List Str)).Nodup by decide +kernel) (hf:=Or.inr rfl))) (fun _ _ _ _=>b7) (fun _ _ _ _=>(aF O_piece_text hr (av (pv 0))))))))),?_⟩
  have hfew:=hx.b3
  have htx:=i9 hx
  have hjs:Txt.join "\n" (bC x)=x:=join_split hG j3
  unfold dY at hb
  rw [List.findIdx?_eq_none_iff] at hb
  generalize bC x=ls at *
  obtain⟨p,us,rfl,e,r⟩:=bh.dN hv
  have hll:=r.len
  rw [List.length_map] at hll
  refine⟨rfl,_,rfl,p,rfl,⟨_,bJ.of e⟩,fun acc na=>?_⟩
  refine jW (K:=K) (a:=p) (xs:=us) (fun i ys τ H1=>∃ c:Option V,τ = [c]/\ys=(ls.take i).map V.str/\H1 acc=some (.lst ys)/\af H H1) ?_ ?_ ?_ ?_
  ·exact⟨none,rfl,rfl,aa,af.new na⟩
  ·rintro i ys τ H1 hi ⟨c,rfl,rfl,ha,s1⟩
   refine⟨bJ.of (s1 _ _ e),ha,bD ?_⟩
   rw [List.length_map,List.length_take]
   omega
  ·rintro i x' ys τ H1 hxi ⟨c',rfl,rfl,ha,s1⟩
   refine aI ?_
   refine e7 ?_
   refine bo ?_
   have hlt:i < ls.length:=by
    obtain⟨z,_⟩:=List.getElem?_eq_some_iff.mp hxi
    omega
   have hd4:ls[i]? = some ls[i]:=List.getElem?_eq_getElem hlt
   generalize ls[i] = y at hd4
   have hm:=List.mem_of_getElem? hd4
   obtain⟨x3,hx3,rx⟩:=r.get (i:=i) (d:=bp y) (by rw [List.getElem?_map,hd4];rfl)
   obtain rfl:x3=x':=Option.some.inj (hx3.symm.trans hxi)
   refine⟨_,rfl,x3,y,ls.length,rfl,rx.bB s1,htx y hm,(by have:=hb y hm;revert this;cases b9 (bp y) ls.length <;> simp),fun H6 s6=>?_⟩
   have ha6:=s6 _ _ ha
   refine⟨ha6,_,rfl,?_,aa,(s1.trans s6).put na⟩
   rw [List.take_add_one,hd4,List.map_append]
   rfl
  rintro ys τ H1 ⟨c',rfl,rfl,ha,s1⟩
  rw [List.take_of_length_le (by omega)] at ha
  refine⟨"\n",acc,ls,rfl,rfl,ay.of ha,?_,?_⟩
  ·have h1:=ny "\n" ls
   rw [hjs] at h1
   rw [show ("\n" : Str).length=1 by decide +kernel] at h1 ⊢
   omega
  ·rw [hjs]
   exact q H1 s1
theorem yJ {f:Addr} {fd:FuncData} (F:bT K "is_row" "is_row" nQ f fd) (Z:Bl mg) {aR rP:Addr} {dR:List (Str × Addr)} (GR:AE K mg aR rP dR) (yR:(aR == sysModules)=false) {tk_LONGEST_NAME:Tok} (G_LONGEST_NAME:mg "LONGEST_NAME" = some (.int 8 tk_LONGEST_NAME)) {tk_MOST_PIECES:Tok} (G_MOST_PIECES:mg "MOST_PIECES" = some (.int 400 tk_MOST_PIECES)) {tk_MOST_DEEDS:Tok} (G_MOST_DEEDS:mg "MOST_DEEDS" = some (.int 12 tk_MOST_DEEDS)) {tk_MOST_FIGURES:Tok} (G_MOST_FIGURES:mg "MOST_FIGURES" = some (.int 40 tk_MOST_FIGURES)) {tk_MOST_NUMBERS:Tok} (G_MOST_NUMBERS:mg "MOST_NUMBERS" = some (.int 200 tk_MOST_NUMBERS))  : aZ P w K mg base bS 1 f fd ["word", "numbers"] vy:=by
  refine F.ok (k:=0) me (fun vs H Q E h=>?_) (fun cdv A outer s H vs Q E hr h=>?_)
  · obtain⟨l,rfl,_⟩:=h
    rfl
  · obtain⟨l,rfl,hl,q⟩:=h
    refine⟨_,(ae (aP (i:=2) me.nd (lH GR.tab yR rfl (pv 0) ⟨rfl,rfl,rfl,rfl⟩))
      (ae (aQ (PW.pt (d9 (fJ (fH (pv 2))) (dP (aB (sN (Dr hr)) cY (pv 1) (by with_unfolding_all rfl)))))
      (ai (aw dh))
      aG)
      (ae (aP (i:=3) me.nd (aH iL (aA aV rfl Z.len bG (av (pv 1))) (aA (hJ (K:=K) rfl) rfl Z.len bG (av (pv 2)))))
      (ae (aQ (dD (m4 ke ke ah (pv 3) (mX (aB bW (pv 0) ao (aK _)) (dJ (v:=.int 200) rfl G_MOST_NUMBERS ⟨_,rfl⟩) ah)))
      (ai (aw dh))
      aG)
      (ai (aw (aA (ic rfl) rfl Z.all lC (av (cD ["number", "stretch"] [] [] rfl (BL rfl Z.zip (aL (pv 1) (pv 2))) rfl (by decide +kernel) (by decide +kernel) (by decide +kernel) True.intro (fun _ _ _ _=>(o7 (K:=K) (n:=2) rfl (iK (n:=2) rfl (cv (bu (i:=0) (show ((["number", "stretch"]:List Str)++([]:List Str)).Nodup by decide +kernel) (hf:=Or.inr rfl)) (cv (bu (i:=1) (show ((["number", "stretch"]:List Str)++([]:List Str)).Nodup by decide +kernel) (hf:=Or.inr rfl)) gU))))) (fun _ _ _ _=>b7) (fun _ _ _ _=>sP)))))))))),?_⟩
    refine⟨_,rfl,_,rfl,?_⟩
    rw [GR.at_]
    refine aI ?_
    refine⟨_,rfl,_,rfl,bE ?_⟩
    refine⟨_,rfl,l,_,[],rfl,rfl,ay.of hl,.nil,(fun _ z=>nomatch z),_,rfl,bO (by decide) ?_⟩
    refine⟨_,rfl,l,_,rfl,.inl (ay.of hl),_,rfl,rP,_,rfl,.inr (.inr GR.aW),_,_,rfl,rfl,?_⟩
    refine aI ?_
    refine⟨_,rfl,_,_,rfl,rfl,_,rfl,cf (by decide) ?_⟩
    refine⟨_,rfl,rfl,_,rfl,bO (by decide +kernel) ?_⟩
    refine⟨_,_,rfl,rfl,_,rfl,bO (by decide) ?_⟩
    refine⟨_,rfl,_,rfl,l,rP,rfl,ay.of hl,⟨_,.inr GR.aW⟩,fun acc na=>?_⟩
    refine BM (ay.of (af.new na _ _ hl)) ?_
    refine⟨acc,[],rfl,ay.of aa,?_⟩
    exact q _ (af.new na)
theorem uf {f:Addr} {fd:FuncData} (F:bT K "read_row" "read_row" kA f fd) (Z:Bl mg) (O_is_row:Own P w K mg base "is_row" 1 ["word", "numbers"] vy):aZ P w K mg base bS 2 f fd ["row"] yp:=by
  refine F.ok (k:=1) hV (fun vs H Q E h=>?_) (fun cdv A outer s H vs Q E hr h=>?_)
  · obtain⟨rfl,_⟩:=h
    rfl
  · obtain⟨rfl,q⟩:=h
    refine⟨_,(ae (aP (i:=1) hV.nd (bU PySem.F.plainAttrs_str PySem.F.slot_str_split PySem.F.type_str_split d7 (pv 0) (av ao)))
      (ae (aP (i:=2) hV.nd cY)
      (ae (aQ (PW.pt (fK (aB bW (bg br (pv 1) ah) ao (aK _)) (gd (aB iC (aA aV rfl Z.len bG (av (pv 1))) ah (aK _)))))
      ia
      aG)
      (ae (gX (i:=3) ["word"] [] [] rfl hV.nd rfl rfl rfl (jP (ba cH (pv 1) (bc ah) bF)) rfl (by decide +kernel) (by decide +kernel) (by decide +kernel) True.intro (fun _ _ _ _=>(bu (i:=0) (show ((["word"]:List Str)++([]:List Str)).Nodup by decide +kernel) (hf:=Or.inr rfl))) (fun _ _ _ _=>b7) (fun _ _ _ _=>sP))
      (ae (aQ (PW.pt (d9 (dD (cU (aF O_is_row hr (aL (bg br (pv 1) ah) (pv 3))))) (dP (PW.pt (fK (aB bW (bg br (pv 1) ah) ao (aK _)) (gd (fJ (fH (pv 2)))))))))
      (ai yS)
      aG)
      (ai (aw (dU (du (bg br (pv 1) ah) (pv 3) (pv 2)))))))))),?_⟩
    refine⟨_,rfl,rfl,_, " ",rfl,rfl,(by decide +kernel),(by decide +kernel),fun l nl=>?_⟩
    rw [wQ]
    have s1:=af.new (o:=.lst ([("plan" : Str)].map V.str)) nl
    have hl:(upd H l (.lst ([("plan" : Str)].map V.str))) l=some (.lst [V.str "plan"]):=aa
    generalize (upd H l (.lst ([("plan" : Str)].map V.str)))=H1 at s1 hl ⊢
    refine⟨_,rfl,l,_,0,_,rfl,rfl,ay.of hl,gf,rfl,_,rfl,bO (by decide +kernel) (bE ?_)⟩
    refine⟨_,rfl,_,rfl,l,_,rfl,ay.of hl,fun l2 n2=>?_⟩
    rw [show eS [V.str "plan"] (some 1) none = [] from rfl]
    have s2:=af.new (o:=.lst []) n2
    have hl2:(upd H1 l2 (.lst [])) l2=some (.lst []):=aa
    have hl1:=s2 _ _ hl
    have s02:=s1.trans s2
    generalize (upd H1 l2 (.lst []))=H2 at hl2 hl1 s02 ⊢
    refine⟨l2,rfl,⟨_,ay.of hl2⟩,fun acc na=>?_⟩
    refine jV (K:=K) (a:=l2) (xs:=[]) (fun i ys τ H'=>ys = []/\H' acc=some (.lst [])/\af H2 H') ?_ ?_ ?_ ?_
    · exact⟨rfl,aa,af.new na⟩
    · rintro i ys τ H4 hi ⟨rfl,g2,g3⟩
      exact⟨ay.of (g3 _ _ hl2),g2,(by show 0 < sizeLine;decide)⟩
    · rintro i x' ys τ H4 hxi _
      cases hxi
    rintro ys τ H4 ⟨rfl,g2,g3⟩
    refine aI ?_
    refine⟨_,rfl,l,_,0,_,rfl,rfl,ay.of (g3 _ _ hl1),gf,_,rfl,acc,rfl,g2,fun H5 s5=>⟨_,rfl,bE ?_⟩⟩
    have s15:=g3.trans s5
    refine⟨_,rfl,l,_,0,_,rfl,rfl,ay.of (s15 _ _ hl1),gf,rfl,_,rfl,bO (by decide +kernel) (bE ?_)⟩
    refine⟨_,rfl,l,_,0,_,rfl,rfl,ay.of (s15 _ _ hl1),gf,_,rfl,_,rfl,mK,fun t nt=>?_⟩
    have s6:=af.new (o:=.tup [.str "plan",.ref acc,.aW]) nt
    exact q t acc _ aa (s6 _ _ (s5 _ _ g2)) ((s02.trans s15).trans s6)
theorem ug {f:Addr} {fd:FuncData} (F:bT K "answered" "answered" kB f fd) (Z:Bl mg) (O_plan_text:Own P w K mg base "plan_text" 3 ["plan"] vx):aZ P w K mg base bS 4 f fd ["plan", "word", "numbers"] yq:=by
 refine F.ok (k:=3) ua (fun vs H Q E h=>?_) (fun cdv A outer s H vs Q E hr h=>?_)
 ·obtain⟨v,w,x,rfl,_⟩:=h
  rfl
 ·obtain⟨v,w,x,rfl,hv,hx,h400,hb,q⟩:=h
  refine⟨_,(ae (aQ (aB bW (pv 1) ao (aK _))
   (ai (aw (aF O_plan_text hr (av (pv 0)))))
   aG)
   ia),?_⟩
  refine⟨_,rfl,rfl,_,rfl,cf (decide_eq_true rfl) ?_⟩
  exact⟨_,rfl,v,x,rfl,hv,hx,h400,hb,q⟩
theorem nS {f:Addr} {fd:FuncData} (F:bT K "__init__" "Desk.__init__" gF f fd) (Z:Bl mg) {cP cM cN cR cL cO:Addr} (GX:vp K mg cP cM cN cR cL cO) {C:Addr} (T:qW K C) (OX_read_plan:pK P w K mg base "read_plan" 7 ["text"] (pO cM cO)):aZ P w K mg base (cW P w) 8 f fd ["self", "text"] (vz C cM cO):=by
 refine F.Di (k:=7) nR (fun vs H Q E h=>?_) (fun cdv A outer s H vs Q E hr h=>?_)
 ·obtain⟨d,dx,x,rfl,_⟩:=h
  rfl
 ·obtain⟨d,dx,x,rfl,hd,hx,qm,qb,qo⟩:=h
  refine⟨_,(ai (Cv (pv 0) (bX (av (oO OX_read_plan Br hr (av (pv 1))))) rfl)),?_⟩
  refine⟨_,rfl,x,rfl,hx,qm,qb,fun h4 hb v H1 rv s1=>⟨om,fun l nl=>?_⟩⟩
  have s2:=af.new (o:=.lst [v]) nl
  have hd2:=s2 _ _ (s1 _ _ hd)
  have nld:l ≠ d:=fun z=>by rw [z] at nl;rw [s1 _ _ hd] at nl;cases nl
  refine⟨_,rfl,d,C,dx,_,rfl,hd2,T.cl,T.AF,(by show 0 < 1000;decide),?_⟩
  refine qo h4 hb l v _ aa (by rw [ar nld];exact aa) ?_ fun c o hc n=>by rw [ar n];exact s2 _ _ (s1 _ _ hc)
  refine (rv.bB s2).b5 (fun c zs e=>by rw [ar (fun z=>by rw [z,hd2] at e;cases e)];exact e) ?_
  exact cF fun e he=>by obtain⟨y,_,rfl⟩:=List.mem_map.mp he;exact ik y
theorem uh {f:Addr} {fd:FuncData} (F:bT K "say" "Desk.say" kC f fd) (Z:Bl mg) {aS:Addr} (GS:EG K mg aS) {C:Addr} (T:qW K C) (O_read_row:Own P w K mg base "read_row" 2 ["row"] yp) (O_answered:Own P w K mg base "answered" 4 ["plan", "word", "numbers"] yq):aZ P w K mg base bS 5 f fd ["self", "row"] (yr C):=by
  refine F.ok (k:=4) fP (fun vs H Q E h=>?_) (fun cdv A outer s H vs Q E hr h=>?_)
  · obtain⟨d,dx,l,v,x,rfl,_⟩:=h
    rfl
  · obtain⟨d,dx,l,v,x,rfl,hd,hl,hv,hx,h400,hb,q⟩:=h
    refine⟨_,(ae (jO (aF O_read_row hr (av (pv 1))) (iK rfl (cv (bu (i:=2) fP.nd) (cv (bu (i:=3) fP.nd) (cv (bu (i:=4) fP.nd) gU)))))
      (ae (aP (i:=5) fP.nd (bg br (Cu (pv 0) rfl) (j9 iN ah)))
      (ae (aQ (PW.pt (fK (aB qc (pv 2) (dU (du ao ao ao)) (by with_unfolding_all rfl)) (gd zT)))
      ia
      aG)
      (ae (aQ (aB qc (pv 2) (dJ (v:=.ref aS) rfl GS.CW rfl) (by with_unfolding_all rfl))
      ia
      aG)
      (ae (aQ (aB bW (pv 2) ao (aK _))
      ia
      aG)
      (ai (aw (aF O_answered hr (du (pv 5) (pv 2) (pv 3)))))))))),?_⟩
    refine⟨_,rfl,rfl,fun t l2 H1 ht hl2 s1=>?_⟩
    refine⟨t,_,rfl,bJ.of ht,rfl,_,_,rfl,_,_,rfl,_,_,rfl,rfl,?_⟩
    have hd1:=s1 _ _ hd
    refine⟨_,rfl,d,C,dx,_,_,rfl,hd1,T.cl,T.AF,zp,_,rfl,l,_,_,_,rfl,rfl,ay.of (s1 _ _ hl),m7 [] v,?_⟩
    refine aI ?_
    refine⟨_,rfl,mK,fun t3 n3=>?_⟩
    have s3:=af.new (o:=.tup [V.str "piece",V.str "live",V.str "alike"]) n3
    refine⟨t3,_,rfl,.inr (bJ.of aa),rfl,rfl,_,rfl,bO (by decide +kernel) (bE ?_)⟩
    refine⟨_,rfl,aS,_,rfl,.inr (.inr GS.tup),rfl,(by decide +kernel),_,rfl,bO (by decide +kernel) ?_⟩
    refine⟨_,rfl,rfl,_,rfl,bO (by decide +kernel) ?_⟩
    have s13:=s1.trans s3
    exact⟨_,rfl,_,rfl,_,rfl,v,.ref l2,x,rfl,hv.bB s13,hx,h400,hb,fun H' s'=>q H' (s13.trans s')⟩
theorem wZ {f:Addr} {fd:FuncData} (F:bT K "_law_bag" "_law_bag" mf f fd) (Z:Bl mg)  : aZ P w K mg base bS 1 f fd ["script", "k"] (Af K):=by
 refine F.ok (k:=0) kF (fun vs H Q E h=>?_) (fun cdv A outer s H vs Q E hr h=>?_)
 ·obtain⟨a,ns,k,rfl,_⟩:=h
  rfl
 ·obtain⟨a,ns,k,rfl,hS,hk,q⟩:=h
  refine⟨_,(ae (aP (i:=2) kF.nd ah)
   (ae (aQ (aB kd (pv 1) (aA aV rfl Z.len bG (av (pv 0))) (aK _))
   (ai (aP (i:=2) kF.nd (aH iM (bg br (pv 0) (pv 1)) (aH AX (aH nZ ah ah) (aH nZ ah ah)))))
   aG)
   (ae (aQ (aB kd (pv 2) (aH nZ ah ah) (aK _))
   (ai (aw (bX (aL ah (aH bR ah (aH iM (aH bR (aH jS (pv 2) ah) (aH jS ah (pv 1))) ah))))))
   aG)
   (ai (aw (bX (aL (pv 2) (aH bR ah (aH iM (aH bR (pv 2) (pv 1)) ah))))))))),?_⟩
  refine⟨_,rfl,_,rfl,_,_,rfl,.inl hS,_,_,rfl,rfl,_,rfl,?_⟩
  refine cC (fun hc=>?_) (fun hc=>?_)
  ·have hl:k < ((ns.map V.int).length:Nat):=of_decide_eq_true hc
   obtain⟨v,hv,hm⟩:=vX hk hl
   obtain⟨z,_,rfl⟩:=List.mem_map.mp hm
   refine⟨_,rfl,_,rfl,_,_,_,_,rfl,rfl,hS,hv,10,60,rfl,rfl,⟨by decide,by decide,by decide⟩,10,60,rfl,rfl,⟨by decide,by decide,by decide⟩,_,_,rfl,rfl,(by unfold IntMulOk;decide +kernel),_,_,rfl,rfl,(show (0:Int) < 10 ^ (60:Int).toNat * 10 ^ (60:Int).toNat by decide +kernel),?_⟩
   refine⟨_,rfl,10,18,rfl,rfl,⟨by decide,by decide,by decide⟩,_,_,rfl,rfl,_,rfl,?_⟩
   refine cC (fun hd=>?_) (fun hd=>?_)
   ·refine⟨_,rfl,_,_,rfl,rfl,.inr ⟨by decide,by decide⟩,_,rfl,_,_,rfl,rfl,.inl ⟨by decide,by decide⟩,_,_,rfl,rfl,_,_,rfl,rfl,(show (0:Int) < 2147483646 by decide),_,_,rfl,rfl,ln2,fun p hp=>?_⟩
    exact q p _ hp ⟨_,_,aa,by omega,by omega⟩ (af.new hp)
   ·refine⟨_,rfl,_,rfl,_,rfl,_,_,rfl,rfl,_,_,rfl,rfl,(show (0:Int) < 2147483646 by decide),_,_,rfl,rfl,ln2,fun p hp=>?_⟩
    exact q p _ hp ⟨_,_,aa,by omega,by omega⟩ (af.new hp)
  ·refine⟨_,rfl,10,18,rfl,rfl,⟨by decide,by decide,by decide⟩,_,_,rfl,rfl,_,rfl,?_⟩
   refine cC (fun hd=>?_) (fun hd=>?_)
   ·refine⟨_,rfl,_,_,rfl,rfl,.inr ⟨by decide,by decide⟩,_,rfl,_,_,rfl,rfl,.inl ⟨by decide,by decide⟩,_,_,rfl,rfl,_,_,rfl,rfl,(show (0:Int) < 2147483646 by decide),_,_,rfl,rfl,ln2,fun p hp=>?_⟩
    exact q p _ hp ⟨_,_,aa,by omega,by omega⟩ (af.new hp)
   ·refine⟨_,rfl,_,rfl,_,rfl,_,_,rfl,rfl,_,_,rfl,rfl,(show (0:Int) < 2147483646 by decide),_,_,rfl,rfl,ln2,fun p hp=>?_⟩
    exact q p _ hp ⟨_,_,aa,by omega,by omega⟩ (af.new hp)
theorem uk {f:Addr} {fd:FuncData} (F:bT K "_law_take" "_law_take" kG f fd) (Z:Bl mg)  : aZ P w K mg base bS 1 f fd ["bag", "many"] fN:=by
 refine F.ok (k:=0) mU (fun vs H Q E h=>?_) (fun cdv A outer s H vs Q E hr h=>?_)
 ·obtain⟨b,m,rfl,_⟩:=h
  rfl
 ·obtain⟨b,m,rfl,⟨x,y,hb,h0,h1⟩,hm,q⟩:=h
  refine⟨_,(ae (aQ (aB iC (bg br (pv 0) ah) ah (aK _))
   (ae (aP (i:=2) mU.nd (aH iM (bg br (pv 0) ah) (pv 1)))
   (ae (jO (aH zi (bg br (pv 0) ah) (pv 1)) (rn (pv 0) ah set_list))
   (ai (aw (pv 2)))))
   aG)
   (ae (jO (aH iM (aH jS (bg br (pv 0) ah) ah) ah) (rn (pv 0) ah set_list))
   (ai (aw (aH iM (aH ux (aH iM (aH jS (bg br (pv 0) ah) (bg br (pv 0) ah)) ah) ah) (pv 1)))))),?_⟩
  refine⟨_,rfl,b,_,0,_,rfl,rfl,ay.of hb,gf,_,_,rfl,rfl,_,rfl,?_⟩
  refine cC (fun hc=>?_) (fun hc=>?_)
  ·refine⟨_,rfl,b,_,0,_,rfl,rfl,ay.of hb,gf,_,rfl,_,_,rfl,rfl,hm.1,?_⟩
   refine⟨_,rfl,b,_,0,_,rfl,rfl,ay.of hb,gf,_,rfl,_,_,rfl,rfl,hm,_,rfl,b,_,0,0,rfl,rfl,hb,rfl,?_⟩
   refine⟨_,rfl,?_⟩
   exact q _ _ (Int.emod_nonneg _ (by have:=hm.1;omega)) (Int.emod_lt_of_pos _ hm.1) ⟨_,_,aa,h0,h1⟩ Fix.Ae
  ·refine⟨_,rfl,b,_,1,_,rfl,rfl,ay.of hb,qe,_,_,rfl,rfl,.inr ⟨by decide,by decide⟩,_,_,rfl,rfl,(show (0:Int) < 2147483647 by decide),_,rfl,b,_,1,1,rfl,rfl,hb,rfl,?_⟩
   refine⟨_,rfl,b,_,1,_,rfl,rfl,ay.of aa,qe,_,rfl,b,_,1,_,rfl,rfl,ay.of aa,qe,_,_,rfl,rfl,.inl ⟨by omega,by omega⟩,_,_,rfl,rfl,(show (0:Int) < 2147483629 by decide),_,_,rfl,rfl,⟨by decide,by decide⟩,_,rfl,_,_,rfl,rfl,hm.1,?_⟩
   exact q _ _ (Int.emod_nonneg _ (by have:=hm.1;omega)) (Int.emod_lt_of_pos _ hm.1) ⟨_,_,aa,by omega,by omega⟩ Fix.Ae
theorem tF {f:Addr} {fd:FuncData} (F:bT K "_law_names" "_law_names" jH f fd) (Z:Bl mg) (O_law_take:Own P w K mg base "_law_take" 1 ["bag", "many"] fN):aZ P w K mg base bS 2 f fd ["bag"] uN:=by
  refine F.ok (k:=1) dg (fun vs H Q E h=>?_) (fun cdv A outer s H vs Q E hr h=>?_)
  · obtain⟨b,rfl,_⟩:=h
    rfl
  · obtain⟨b,rfl,hB,q⟩:=h
    refine⟨_,(ae (aP (i:=1) dg.nd ao)
      (ae (aP (i:=2) dg.nd (aH bR ah (aF O_law_take hr (aL (pv 0) ah))))
      (ae (gX (i:=3) ["k"] ["letters", "bag"] [1,0] rfl dg.nd rfl rfl rfl (eY rfl Z.range (av (aH bR ah (aF O_law_take hr (aL (pv 0) ah))))) rfl (by decide +kernel) (by decide +kernel) (by decide +kernel) ⟨⟨rfl,.inl rfl,rfl⟩,⟨⟨rfl,.inl rfl,rfl⟩,True.intro⟩⟩ (fun _ _ _ _=>(bu (i:=0) (show ((["k"]:List Str)++(["letters", "bag"]:List Str)).Nodup by decide +kernel) (hf:=Or.inr rfl))) (fun _ _ _ _=>b7) (fun _ _ _ _=>(bg lj (pv 1) (aF O_law_take hr (aL (pv 2) ah)))))
      (ae (aP (i:=4) dg.nd (aF O_law_take hr (aL (pv 0) (aA aV rfl Z.len bG (av (pv 3))))))
      (ae (aP (i:=5) dg.nd (bX dQ))
      (ae (kZ PassesOwn.never rfl (eY rfl Z.range (av (pv 2))) (bu (i:=6) dg.nd)
      (ae (aP (i:=7) dg.nd (bV lp rfl Z.list uH (av (pv 3))))
      (ae (jO (bg lj (pv 1) (aF O_law_take hr (aL (pv 0) ah))) (rn (pv 7) (pv 4) set_list))
      (ai (aQ (aB rG (bU PySem.F.plainAttrs_str PySem.F.slot_str_join PySem.F.type_str_join dM ao (av (pv 7))) (pv 5) (by with_unfolding_all rfl))
      (ai (gQ (bU PySem.F.plainAttrs_list PySem.F.slot_list_append PySem.F.type_list_append eD (pv 5) (av (bU PySem.F.plainAttrs_str PySem.F.slot_str_join PySem.F.type_str_join dM ao (av (pv 7)))))))
      aG)))))
      (ai (aw (pv 5))))))))),?_⟩
    refine⟨_,rfl,b,4,rfl,hB,⟨by decide,by decide +kernel⟩,fun m H1 m0 m1 B1 X1=>⟨_,_,rfl,rfl,?_⟩⟩
    refine⟨_,rfl,b,8,rfl,B1,⟨by decide,by decide +kernel⟩,fun k H2 k0 k1 B2 X2=>⟨_,_,rfl,rfl,_,rfl,(by omega),(by omega),fun acc na=>?_⟩⟩
    refine m8 (lo:=0) (fun i ys τ H'=>∃ (v:Option V) (cs:List Nat),τ = [v,some (.str oz),some (.ref b)]/\ys=(cs.map one).map V.str/\cs.length=i/\(∀ c ∈ cs,97<=c/\c<=122)/\H' acc=some (.lst ys)/\cg H' b/\Fix b H2 H') ?_ ?_ ?_ ?_
    · exact⟨none,[],rfl,rfl,rfl,(fun _ h=>nomatch h),aa,B2.new na,Fix.new na⟩
    · rintro i ys τ H' hi ⟨v,cs,rfl,rfl,hl,_,ha,_⟩
      refine⟨ha,?_⟩
      rw [List.length_map,List.length_map]
      exact bD (by omega)
    · rintro i ys τ H' hi ⟨v,cs,rfl,rfl,hl,hc,ha,B',X'⟩
      refine aI ?_
      refine e7 ?_
      refine bo ?_
      refine⟨_,rfl,_,rfl,b,26,rfl,B',⟨by decide,by decide +kernel⟩,fun r H3 r0 r1 B3 X3=>?_⟩
      obtain⟨c,hat,c0,c1⟩:=xJ r0 r1
      have hab:acc ≠ b:=B2.cZ na
      have ha3:=X3 acc _ ha hab
      refine⟨oz,r,c,rfl,rfl,uO,hat,ha3,_,cs ++ [c],rfl,?_,?_,?_,aa,?_,?_⟩
      · rw [List.map_append,List.map_append];rfl
      · rw [List.length_append,hl];rfl
      · intro d hd
        rcases List.mem_append.mp hd with hd | hd
        · exact hc d hd
        · rw [List.mem_singleton.mp hd];exact⟨c0,c1⟩
      · obtain⟨x,y,e,z⟩:=B3
        exact⟨x,y,by rw [ar hab.symm];exact e,z⟩
      · intro d o hd nd
        rw [ar (aX hd na)]
        exact (X'.trans X3) d o hd nd
    · rintro ys τ H3 ⟨v,cs,rfl,rfl,hl,hc,ha,B3,X3⟩
      have hab:acc ≠ b:=B2.cZ na
      have hl1:1<=cs.length:=by omega
      have hl8:cs.length<=8:=by omega
      have F3:Fix b H H3:=(X1.trans X2).trans X3
      have el:(((cs.map one).map V.str).length:Int)=cs.length:=by simp
      refine⟨_,rfl,_,rfl,acc,_,rfl,.inl (ay.of ha),b,_,rfl,B3,⟨by omega,eM (by omega) (by omega)⟩,fun at_ H4 t0 t1 B4 X4=>?_⟩
      refine⟨(by show 0<=sizeLine;decide),fun nl nn=>?_⟩
      have hnb:nl ≠ b:=B4.cZ nn
      have ha4:H4 acc=some (.lst ((cs.map one).map V.str)):=X4 acc _ ha hab
      have hna:nl ≠ acc:=fun z=>by rw [z,ha4] at nn;cases nn
      have F4:Fix b H H4:=F3.trans X4
      refine⟨_,rfl,_,rfl,(by omega),(by omega),ji (lo:=0) (fun i σ H'=>∃ (u1 u2:Option V) (xs:List Str),σ = [some (.ref b),some (.str oz),some (.int (1+m)),some (.ref acc),some (.int at_),some (.ref nl),u1,u2] /\
        H' nl=some (.lst (xs.map V.str))/\xs.length<=i/\(0 < i->xs ≠ [])/\(∀ x ∈ xs,dW x)/\H' acc=some (.lst ((cs.map one).map V.str))/\cg H' b/\Fix b H H') ?_ ?_ ?_⟩
      · exact⟨_,_,[],rfl,aa,Nat.le_refl _,(fun h=>absurd h (Nat.lt_irrefl _)),(fun _ h=>nomatch h),(by rw [ar hna.symm];exact ha4),B4.new nn,F4.trans (Fix.new nn)⟩
      · rintro i σ H' hi ⟨u1,u2,xs,rfl,hn,hx,hx0,au,ha',B',X'⟩
        refine⟨_,rfl,acc,_,rfl,.inl (ay.of ha'),fun nm mm=>?_⟩
        have nmb:nm ≠ b:=B'.cZ mm
        have nma:nm ≠ acc:=fun z=>by rw [z,ha'] at mm;cases mm
        have nmn:nm ≠ nl:=fun z=>by rw [z,hn] at mm;cases mm
        refine⟨_,rfl,_,rfl,b,26,rfl,B'.new mm,⟨by decide,by decide +kernel⟩,fun r H5 r0 r1 B5 X5=>?_⟩
        obtain⟨c,hat,c0,c1⟩:=xJ r0 r1
        have h5:H5 nm=some (.lst ((cs.map one).map V.str)):=X5 nm _ aa nmb
        have hn5:H5 nl=some (.lst (xs.map V.str)):=X5 nl _ (by rw [ar nmn.symm];exact hn) hnb
        have ha5:H5 acc=some (.lst ((cs.map one).map V.str)):=X5 acc _ (by rw [ar nma.symm];exact ha') hab
        obtain⟨j,rfl⟩:∃ j:Nat,at_=j:=⟨at_.toNat,by omega⟩
        have hj:j < cs.length:=by omega
        have hix:lh ((cs.map one).map V.str).length (j:Int)=some j:=by
          unfold lh
          rw [if_pos (by omega),if_pos (by rw [el];omega)]
          simp
        refine⟨oz,r,c,rfl,rfl,uO,hat,_,rfl,_,rfl,nm,_,(j:Int),j,rfl,rfl,h5,hix,?_⟩
        have eset:((cs.map one).map V.str).set j (.str ⟨#[c]⟩)=((cs.set j c).map one).map V.str:=by
          rw [List.map_set,List.map_set];rfl
        rw [eset]
        have hc':∀ d ∈ cs.set j c,97<=d/\d<=122:=fun d hd=>by
          rcases List.mem_or_eq_of_mem_set hd with hd | hd
          · exact hc d hd
          · rw [hd];exact⟨c0,c1⟩
        have hjl:(((cs.set j c).map one).map (·.length)).sum+((cs.set j c).map one).length * (Str.ofString "").length<=16777216:=by
          have e1:(Str.ofString "").length=0:=by decide +kernel
          have e2:∀ l:List Nat,((l.map one).map (·.length)).sum=l.length:=by
            intro l
            induction l with
            | nil=>rfl
            | cons a l ih=>simp only [List.map_cons,List.sum_cons,ih,List.length_cons];show 1+l.length=_;omega
          rw [e1,e2,List.length_set]
          omega
        have nk:dW (Txt.join (Str.ofString "") ((cs.set j c).map one)):=by
          rw [zm]
          have ej:=L2.join_ones (cs.set j c)
          have eL:(Txt.join Str.empty ((cs.set j c).map one)).length=(cs.set j c).length:=by
            have:=congrArg List.length ej
            rw [Array.length_toList] at this
            exact this
          refine⟨?_,?_,?_⟩
          · rw [eL,List.length_set];exact hl1
          · rw [eL,List.length_set];exact hl8
          · rw [ej];exact hc'
        have n6:upd H5 nm (.lst (((cs.set j c).map one).map V.str)) nl=some (.lst (xs.map V.str)):=by rw [ar nmn.symm];exact hn5
        have a6:upd H5 nm (.lst (((cs.set j c).map one).map V.str)) acc=some (.lst ((cs.map one).map V.str)):=by rw [ar nma.symm];exact ha5
        have B6:cg (upd H5 nm (.lst (((cs.set j c).map one).map V.str))) b:=by
          obtain⟨x,y,e,z⟩:=B5
          exact⟨x,y,by rw [ar nmb.symm];exact e,z⟩
        have F6:Fix b H (upd H5 nm (.lst (((cs.set j c).map one).map V.str))):=fun d o hd nd=>by
          have h1:=X' d o hd nd
          have nd':d ≠ nm:=fun z=>by rw [z,mm] at h1;cases h1
          rw [ar nd']
          exact X5 d o (by rw [ar nd'];exact h1) nd
        have flat:(xs.map V.str).all iD=true:=by
          rw [List.all_eq_true]
          intro v hv
          obtain⟨x,_,rfl⟩:=List.mem_map.mp hv
          rfl
        refine⟨rfl,_,rfl,_,nm,_,rfl,rfl,ay.of aa,hjl,_,rfl,nl,_,rfl,.inl (ay.of n6),rfl,flat,_,rfl,?_⟩
        refine cC (fun hin=>?_) (fun hin=>?_)
        · refine⟨_,rfl,.inl ⟨rfl,_,ay.of n6⟩,rfl,_,rfl,_,nm,_,rfl,rfl,ay.of aa,hjl,nl,_,_,rfl,rfl,n6,?_,?_⟩
          · rw [List.length_map]
            have:i < 4:=by omega
            exact bD (by omega)
          · refine⟨_,_,xs ++ [_],rfl,(by rw [aa,List.map_append];rfl),(by rw [List.length_append];exact Nat.succ_le_succ hx),(fun _=>by simp),?_,(by rw [ar hna.symm];exact a6),?_,?_⟩
            · intro x hxm
              rcases List.mem_append.mp hxm with hxm | hxm
              · exact au x hxm
              · rw [List.mem_singleton.mp hxm];exact nk
            · obtain⟨x,y,e,z⟩:=B6
              exact⟨x,y,by rw [ar hnb.symm];exact e,z⟩
            · intro d o hd nd
              have h1:=F6 d o hd nd
              have nd':d ≠ nl:=fun z=>by
                have h2:=F4 d o hd nd
                rw [z,nn] at h2
                cases h2
              rw [ar nd']
              exact h1
        · have hx':xs ≠ []:=by
            intro e
            subst e
            exact hin rfl
          exact⟨_,_,xs,rfl,n6,Nat.le_succ_of_le hx,fun _=>hx',au,a6,B6,F6⟩
      · rintro σ H' ⟨u1,u2,xs,rfl,hn,hx,hx0,au,ha',B',X'⟩
        refine⟨_,rfl,?_⟩
        have hm:(1+m).toNat<=4:=by omega
        have hm0:0 < (1+m).toNat:=by omega
        exact q nl xs H' ⟨hn,hnb,hx0 hm0,by omega,au⟩ (Nat.le_trans hx hm) B' X'
theorem qO {f:Addr} {fd:FuncData} (F:bT K "_law_number" "_law_number" je f fd) (Z:Bl mg) (O_law_take:Own P w K mg base "_law_take" 1 ["bag", "many"] fN):aZ P w K mg base bS 2 f fd ["bag"] nc:=by
 refine F.ok (k:=1) qK (fun vs H Q E h=>?_) (fun cdv A outer s H vs Q E hr h=>?_)
 ·obtain⟨b,rfl,_⟩:=h
  rfl
 ·obtain⟨b,rfl,hB,q⟩:=h
  refine⟨_,(ae (aQ (aB bW (aF O_law_take hr (aL (pv 0) ah)) ah (aK _))
   (ai (aw (aH jS (aH iL (aH iL (aH nZ ah ah) ah) (aF O_law_take hr (aL (pv 0) ah))) (aH iL ah (aH jS ah (aF O_law_take hr (aL (pv 0) ah)))))))
   aG)
   (ai (aw (aH iL (aF O_law_take hr (aL (pv 0) ah)) ah)))),?_⟩
  refine⟨_,rfl,b,8,rfl,hB,⟨by decide,by decide +kernel⟩,fun r H1 r0 r1 B1 X1=>⟨rfl,_,rfl,?_⟩⟩
  refine cC (fun hc=>?_) (fun hc=>?_)
  ·refine⟨10,40,rfl,rfl,⟨by decide,by decide,by decide⟩,_,_,rfl,rfl,?_⟩
   refine⟨_,rfl,b,3,rfl,B1,⟨by decide,by decide +kernel⟩,fun r2 H2 r20 r21 B2 X2=>⟨_,_,rfl,rfl,?_⟩⟩
   refine⟨_,rfl,b,2,rfl,B2,⟨by decide,by decide +kernel⟩,fun r3 H3 r30 r31 B3 X3=>?_⟩
   refine⟨_,_,rfl,rfl,.inl ⟨by decide,by decide⟩,_,_,rfl,rfl,_,_,rfl,rfl,.inr ⟨by omega,by omega⟩,?_⟩
   refine q _ H3 ?_ B3 ((X1.trans X2).trans X3)
   have e:(10:Int) ^ (40:Int).toNat=10 ^ 40:=by decide +kernel
   rw [e]
   obtain rfl | rfl:r3=0\/r3=1:=by omega
   ·rw [show (1:Int) - 2 * 0=1 by decide,Int.mul_one];unfold eU;omega
   ·rw [show (1:Int) - 2 * 1 = -1 by decide,Int.mul_neg,Int.mul_one];unfold eU;omega
  ·refine⟨_,rfl,b,8,rfl,B1,⟨by decide,by decide +kernel⟩,fun r2 H2 r20 r21 B2 X2=>⟨_,_,rfl,rfl,?_⟩⟩
   exact q _ H2 (by unfold eU;omega) B2 (X1.trans X2)
theorem um {f:Addr} {fd:FuncData} (F:bT K "_law_deed" "_law_deed" kJ f fd) (Z:Bl mg) (O_law_take:Own P w K mg base "_law_take" 1 ["bag", "many"] fN) (O_law_number:Own P w K mg base "_law_number" 2 ["bag"] nc):aZ P w K mg base bS 3 f fd ["bag", "names"] xG:=by
 refine F.ok (k:=2) jI (fun vs H Q E h=>?_) (fun cdv A outer s H vs Q E hr h=>?_)
 ·obtain⟨b,l,xs,rfl,_⟩:=h
  rfl
 ·obtain⟨b,l,xs,rfl,hB,hN,q⟩:=h
  refine⟨_,(ae (aP (i:=2) jI.nd (bg br (bX (bP ao (bP ao (bP ao (bP ao (bP ao (bP ao (bP ao dQ)))))))) (aF O_law_take hr (aL (pv 0) ah))))
   (ae (aP (i:=3) jI.nd (bg br (pv 1) (aF O_law_take hr (aL (pv 0) (aA aV rfl Z.len bG (av (pv 1)))))))
   (ae (aQ (aB bW (pv 2) ao (aK _))
   (ai (aw (dU (du (pv 2) (pv 3) (bg br (pv 1) (aF O_law_take hr (aL (pv 0) (aA aV rfl Z.len bG (av (pv 1))))))))))
   aG)
   (ae (aQ (PW.pt (d9 (aB bW (pv 2) ao (aK _)) (dP (aB bW (pv 2) ao (aK _)))))
   (ai (aw (dU (du (pv 2) (pv 3) (aF O_law_number hr (av (pv 0)))))))
   aG)
   (ai (aw (dU (aL (pv 2) (pv 3))))))))),?_⟩
  refine⟨FC,fun l0 m0=>?_⟩
  refine⟨_,rfl,b,7,rfl,hB.new m0,⟨by decide,by decide +kernel⟩,fun r H1 r0 r1 B1 X1=>?_⟩
  have h0:H1 l0=some (.lst [.str "put",.str "copy",.str "add",.str "read",.str "tell",.str "tell",.str "add"]):=X1 l0 _ aa (hB.cZ m0)
  have F1:Fix b H H1:=(Fix.new m0).trans X1
  have N1:=hN.fix F1
  have hw:∃ w:Str,(w = "put" \/ w = "copy" \/ w = "add" \/ w = "read" \/ w = "tell")/\eZ [V.str "put",.str "copy",.str "add",.str "read",.str "tell",.str "tell",.str "add"] r=some (V.str w):=by
   obtain rfl | rfl | rfl | rfl | rfl | rfl | rfl:r=0\/r=1\/r=2\/r=3\/r=4\/r=5\/r=6:=by omega
   ·exact⟨_,.inl rfl,di (j:=0) rfl⟩
   ·exact⟨_,.inr (.inl rfl),di (j:=1) rfl⟩
   ·exact⟨_,.inr (.inr (.inl rfl)),di (j:=2) rfl⟩
   ·exact⟨_,.inr (.inr (.inr (.inl rfl))),di (j:=3) rfl⟩
   ·exact⟨_,.inr (.inr (.inr (.inr rfl))),di (j:=4) rfl⟩
   ·exact⟨_,.inr (.inr (.inr (.inr rfl))),di (j:=5) rfl⟩
   ·exact⟨_,.inr (.inr (.inl rfl)),di (j:=6) rfl⟩
  obtain⟨w,hw,hat⟩:=hw
  refine⟨l0,_,r,_,rfl,rfl,ay.of h0,hat,?_⟩
  obtain⟨p0,p1⟩:=N1.pos
  refine⟨_,rfl,_,rfl,_,rfl,l,_,rfl,.inl (ay.of N1.at_),b,_,rfl,B1,⟨p0,eM p0 p1⟩,fun r2 H2 r20 r21 B2 X2=>?_⟩
  have N2:=N1.fix X2
  obtain⟨x,hx,hxm⟩:=fU r20 r21
  refine⟨l,_,r2,_,rfl,rfl,ay.of N2.at_,hx,?_⟩
  refine⟨_,rfl,rfl,_,rfl,?_⟩
  rcases hw with rfl | rfl | rfl | rfl | rfl
  ·
   rw [show decide (V.str "put" = V.str "copy")=false by decide +kernel]
   refine bE ⟨_,rfl,rfl,_,rfl,?_⟩
   rw [show decide (V.str "put" = V.str "put")=true by decide +kernel]
   refine bo (bo ⟨_,rfl,_,rfl,_,rfl,b,rfl,B2,fun n H3 nk B3 X3=>⟨mK,fun t mt=>?_⟩⟩)
   exact q _ (.put x n) _ (.tup aa (.cons (.str _) (.cons (.str _) (.cons (.int _) .nil)))) ⟨hxm,nk⟩ (B3.new mt) (((F1.trans X2).trans X3).trans (Fix.new mt))
  ·
   rw [show decide (V.str "copy" = V.str "copy")=true by decide +kernel]
   obtain⟨p0,p1⟩:=N2.pos
   refine bo ⟨_,rfl,_,rfl,_,rfl,_,rfl,_,rfl,l,_,rfl,.inl (ay.of N2.at_),b,_,rfl,B2,⟨p0,eM p0 p1⟩,fun r3 H3 r30 r31 B3 X3=>?_⟩
   have N3:=N2.fix X3
   obtain⟨y,hy,hym⟩:=fU r30 r31
   refine⟨l,_,r3,_,rfl,rfl,ay.of N3.at_,hy,mK,fun t mt=>?_⟩
   exact q _ (.copy x y) _ (.tup aa (.cons (.str _) (.cons (.str _) (.cons (.str _) .nil)))) ⟨hxm,hym⟩ (B3.new mt) (((F1.trans X2).trans X3).trans (Fix.new mt))
  ·
   rw [show decide (V.str "add" = V.str "copy")=false by decide +kernel]
   refine bE ⟨_,rfl,rfl,_,rfl,?_⟩
   rw [show decide (V.str "add" = V.str "put")=false by decide +kernel]
   refine bE ⟨_,rfl,rfl,_,rfl,?_⟩
   rw [show decide (V.str "add" = V.str "add")=true by decide +kernel]
   refine bo ⟨_,rfl,_,rfl,_,rfl,b,rfl,B2,fun n H3 nk B3 X3=>⟨mK,fun t mt=>?_⟩⟩
   exact q _ (.add x n) _ (.tup aa (.cons (.str _) (.cons (.str _) (.cons (.int _) .nil)))) ⟨hxm,nk⟩ (B3.new mt) (((F1.trans X2).trans X3).trans (Fix.new mt))
  ·
   rw [show decide (V.str "read" = V.str "copy")=false by decide +kernel]
   refine bE ⟨_,rfl,rfl,_,rfl,?_⟩
   rw [show decide (V.str "read" = V.str "put")=false by decide +kernel]
   refine bE ⟨_,rfl,rfl,_,rfl,?_⟩
   rw [show decide (V.str "read" = V.str "add")=false by decide +kernel]
   refine bE ⟨_,rfl,_,rfl,ln2,fun t mt=>?_⟩
   exact q _ (.read x) _ (.tup aa (.cons (.str _) (.cons (.str _) .nil))) hxm (B2.new mt) ((F1.trans X2).trans (Fix.new mt))
  ·
   rw [show decide (V.str "tell" = V.str "copy")=false by decide +kernel]
   refine bE ⟨_,rfl,rfl,_,rfl,?_⟩
   rw [show decide (V.str "tell" = V.str "put")=false by decide +kernel]
   refine bE ⟨_,rfl,rfl,_,rfl,?_⟩
   rw [show decide (V.str "tell" = V.str "add")=false by decide +kernel]
   refine bE ⟨_,rfl,_,rfl,ln2,fun t mt=>?_⟩
   exact q _ (.tell x) _ (.tup aa (.cons (.str _) (.cons (.str _) .nil))) hxm (B2.new mt) ((F1.trans X2).trans (Fix.new mt))
theorem w4 {f:Addr} {fd:FuncData} (F:bT K "_law_end" "_law_end" mh f fd) (Z:Bl mg) (O_law_take:Own P w K mg base "_law_take" 1 ["bag", "many"] fN) (O_law_number:Own P w K mg base "_law_number" 2 ["bag"] nc):aZ P w K mg base bS 3 f fd ["bag", "names", "count"] xH:=by
 refine F.ok (k:=2) iG (fun vs H Q E h=>?_) (fun cdv A outer s H vs Q E hr h=>?_)
 ·obtain⟨b,l,xs,c,rfl,_⟩:=h
  rfl
 ·obtain⟨b,l,xs,c,rfl,hB,hN,c0,c1,q⟩:=h
  refine⟨_,(ae (aP (i:=3) iG.nd (aF O_law_take hr (aL (pv 0) ah)))
   (ae (aQ (aB bW (pv 3) ah (aK _))
   (ai (aw (dU (av ao))))
   aG)
   (ae (aQ (aB kd (pv 3) ah (aK _))
   (ai (aw (dU (aL ao (aF O_law_take hr (aL (pv 0) (pv 2)))))))
   aG)
   (ae (aP (i:=4) iG.nd (bg br (bX (aL ao ao)) (aH ux (aF O_law_take hr (aL (pv 0) ah)) ah)))
   (ae (aP (i:=5) iG.nd (bg br (pv 1) (aF O_law_take hr (aL (pv 0) (aA aV rfl Z.len bG (av (pv 1)))))))
   (ai (aw (dU (bP (pv 4) (bP (pv 5) (bP (aF O_law_number hr (av (pv 0))) (bP (aF O_law_take hr (aL (pv 0) (pv 2))) (bP (aF O_law_take hr (aL (pv 0) (pv 2))) dQ))))))))))))),?_⟩
  have ck:(0:Int) < (c:Int)/\(c:Int).natAbs.log2 < 9000:=⟨by omega,eM (by omega) (by omega)⟩
  refine⟨_,rfl,b,9,rfl,hB,⟨by decide,by decide +kernel⟩,fun r H1 r0 r1 B1 X1=>?_⟩
  refine⟨_,rfl,rfl,_,rfl,?_⟩
  refine cC (fun hc=>?_) (fun hc=>?_)
  ·refine⟨om,fun t mt=>?_⟩
   exact q _ .stop _ (.tup aa (.cons (.str _) .nil)) True.intro (B1.new mt) (X1.trans (Fix.new mt))
  refine⟨_,rfl,_,_,rfl,rfl,_,rfl,?_⟩
  refine cC (fun hd=>?_) (fun hd=>?_)
  ·refine⟨_,rfl,_,rfl,b,_,rfl,B1,ck,fun p H2 p0 p1 B2 X2=>⟨ln2,fun t mt=>?_⟩⟩
   obtain⟨k,rfl⟩:∃ k:Nat,p=k:=⟨p.toNat,by omega⟩
   exact q _ (.go k) _ (.tup aa (.cons (.str _) (.cons (.int _) .nil))) (show k < c by omega) (B2.new mt) ((X1.trans X2).trans (Fix.new mt))
  ·refine⟨ln2,fun l0 m0=>?_⟩
   refine⟨_,rfl,b,3,rfl,B1.new m0,⟨by decide,by decide +kernel⟩,fun z H2 z0 z1 B2 X2=>⟨_,_,rfl,rfl,⟨by decide,by decide⟩,?_⟩⟩
   have h0:H2 l0=some (.lst [.str "less",.str "is"]):=X2 l0 _ aa (B1.cZ m0)
   have hw:∃ w:Bool,eZ [V.str "less",V.str "is"] (z / 2)=some (V.str (wT w)):=by
    obtain h | h:z / 2=0\/z / 2=1:=by omega
    ·rw [h];exact⟨true,gf⟩
    ·rw [h];exact⟨false,qe⟩
   obtain⟨w,hat⟩:=hw
   refine⟨l0,_,_,_,rfl,rfl,ay.of h0,hat,?_⟩
   have F2:Fix b H H2:=(X1.trans (Fix.new m0)).trans X2
   have N2:=hN.fix F2
   obtain⟨p0,p1⟩:=N2.pos
   refine⟨_,rfl,_,rfl,_,rfl,l,_,rfl,.inl (ay.of N2.at_),b,_,rfl,B2,⟨p0,eM p0 p1⟩,fun r3 H3 r30 r31 B3 X3=>?_⟩
   have N3:=N2.fix X3
   obtain⟨x,hx,hxm⟩:=fU r30 r31
   refine⟨l,_,r3,_,rfl,rfl,ay.of N3.at_,hx,?_⟩
   refine⟨_,rfl,_,rfl,_,rfl,b,rfl,B3,fun n H4 nk B4 X4=>?_⟩
   refine⟨_,rfl,_,rfl,b,_,rfl,B4,ck,fun p H5 p0 p1 B5 X5=>?_⟩
   refine⟨_,rfl,_,rfl,b,_,rfl,B5,ck,fun p' H6 p0' p1' B6 X6=>⟨FA,fun t mt=>?_⟩⟩
   obtain⟨k,rfl⟩:∃ k:Nat,p=k:=⟨p.toNat,by omega⟩
   obtain⟨k',rfl⟩:∃ k:Nat,p' = k:=⟨p'.toNat,by omega⟩
   exact q _ (.An w x n k k') _ (.tup aa (.cons (.str _) (.cons (.str _) (.cons (.int _) (.cons (.int _) (.cons (.int _) .nil)))))) ⟨hxm,nk,by omega,by omega⟩ (B6.new mt) ((((F2.trans X3).trans X4).trans (X5.trans X6)).trans (Fix.new mt))
theorem uo {f:Addr} {fd:FuncData} (F:bT K "_law_plan" "_law_plan" kK f fd) (Z:Bl mg) (O_law_take:Own P w K mg base "_law_take" 1 ["bag", "many"] fN) (O_law_names:Own P w K mg base "_law_names" 2 ["bag"] uN) (O_law_deed:Own P w K mg base "_law_deed" 3 ["bag", "names"] xG) (O_law_end:Own P w K mg base "_law_end" 3 ["bag", "names", "count"] xH):aZ P w K mg base bS 4 f fd ["bag", "count", "most"] xI:=by
  refine F.ok (k:=3) eR (fun vs H Q E h=>?_) (fun cdv A outer s H vs Q E hr h=>?_)
  · obtain⟨b,c,m,rfl,_⟩:=h
    rfl
  · obtain⟨b,c,m,rfl,hB,c0,c1,hm,q⟩:=h
    refine⟨_,(ae (aP (i:=3) eR.nd (aF O_law_names hr (av (pv 0))))
      (ae (aP (i:=4) eR.nd (bX dQ))
      (ae (kZ PassesOwn.never rfl (eY rfl Z.range (av (pv 1))) (bu (i:=5) eR.nd)
      (ae (aP (i:=6) eR.nd (aF O_law_take hr (aL (pv 0) (aH bR (pv 2) ah))))
      (ae (aP (i:=7) eR.nd (aF O_law_end hr (du (pv 0) (pv 3) (pv 1))))
      (ai (gQ (bU PySem.F.plainAttrs_list PySem.F.slot_list_append PySem.F.type_list_append eD (pv 4) (av (dU (aL (bV cK rfl Z.tuple dm (av (cD ["j"] ["bag", "names"] [0,3] rfl (eY rfl Z.range (av (pv 6))) rfl (by decide +kernel) (by decide +kernel) (by decide +kernel) ⟨⟨rfl,.inl rfl,rfl⟩,⟨⟨rfl,.inl rfl,rfl⟩,True.intro⟩⟩ (fun _ _ _ _=>(bu (i:=0) (show ((["j"]:List Str)++(["bag", "names"]:List Str)).Nodup by decide +kernel) (hf:=Or.inr rfl))) (fun _ _ _ _=>b7) (fun _ _ _ _=>(aF O_law_deed hr (aL (pv 1) (pv 2))))))) (pv 7))))))))))
      (ai (aw (bV cK rfl Z.tuple dm (av (pv 4)))))))),?_⟩
    refine⟨_,rfl,b,rfl,hB,fun l xs H1 N1 x4 B1 X1=>?_⟩
    refine⟨(by show 0<=sizeLine;decide),fun pl pn=>?_⟩
    have hpb:pl ≠ b:=B1.cZ pn
    refine⟨_,rfl,_,rfl,(by omega),(by omega),ji (lo:=0) (fun i σ H'=>∃ (u1 u2 u3:Option V) (ps:List Piece) (vs:List V),σ = [some (.ref b),some (.int c),some (.int m),some (.ref l),some (.ref pl),u1,u2,u3] /\
      H' pl=some (.lst vs)/\aN H' vs (ps.map fO)/\ps.length=i/\(∀ p ∈ ps,(p.1.length<=m/\∀ d ∈ p.1,jX xs d)/\oy xs c p.2)/\fo H' b l xs/\cg H' b/\Fix b H H'/\(∀ d o,H1 d=some o->d ≠ b->H' d=some o)) ?_ ?_ ?_⟩
    · exact⟨_,_,_,[],[],rfl,aa,.nil,rfl,(fun _ h=>nomatch h),N1.fix (Fix.new pn),B1.new pn,X1.trans (Fix.new pn),Fix.new pn⟩
    · rintro i σ H' hi ⟨u1,u2,u3,ps,vs,rfl,hp,hr,hl,au,N',B',X',Y'⟩
      refine⟨_,rfl,_,rfl,_,_,rfl,rfl,b,_,rfl,B',⟨by omega,eM (by omega) (by omega)⟩,fun k H2 k0 k1 B2 X2=>?_⟩
      have N2:=N'.fix X2
      refine⟨_,rfl,_,rfl,_,rfl,b,l,xs,c,rfl,B2,N2,c0,(by omega),fun ev e H3 re ek B3 X3=>?_⟩
      have N3:=N2.fix X3
      have hp3:H3 pl=some (.lst vs):=(X2.trans X3) pl _ hp hpb
      have hr3:aN H3 vs (ps.map fO):=hr.fix B' (X2.trans X3) (dC ps)
      refine⟨_,rfl,.inl ⟨rfl,_,ay.of hp3⟩,_,rfl,_,rfl,(by omega),(by omega),fun acc na=>?_⟩
      have hab:acc ≠ b:=B3.cZ na
      refine m8 (lo:=0) (fun i ys τ H'=>∃ (v:Option V) (ds:List m9),τ = [v,some (.ref b),some (.ref l)]/\aN H' ys (ds.map eT)/\ds.length=i/\(∀ d ∈ ds,jX xs d)/\H' acc=some (.lst ys)/\cg H' b/\Fix b H3 H') ?_ ?_ ?_ ?_
      · exact⟨none,[],rfl,.nil,rfl,(fun _ h=>nomatch h),aa,B3.new na,Fix.new na⟩
      · rintro i' ys τ H4 hi' ⟨v,ds,rfl,rds,hl',_,ha,_⟩
        refine⟨ha,?_⟩
        rw [rds.len,List.length_map]
        exact bD (by omega)
      · rintro i' ys τ H4 hi' ⟨v,ds,rfl,rds,hl',hdk,ha,B4,X4⟩
        refine aI ?_
        refine e7 ?_
        refine bo ?_
        refine⟨_,rfl,_,rfl,b,l,xs,rfl,B4,N3.fix X4,fun dv d H5 rd dk B5 X5=>?_⟩
        have ha5:=X5 acc _ ha hab
        refine⟨ha5,_,ds ++ [d],rfl,?_,(by rw [List.length_append,hl'];rfl),?_,aa,?_,?_⟩
        · rw [List.map_append]
          refine aN.app ((rds.fix B4 X5 (eN ds)).put ha5 (eN ds)) ?_
          exact rd.b5 (fun p zs e=>by rw [ar (jf e ha5 (by intro z;cases z))];exact e) (mP d)
        · intro d' hd
          rcases List.mem_append.mp hd with hd | hd
          · exact hdk d' hd
          · rw [List.mem_singleton.mp hd];exact dk
        · obtain⟨x,y,e,z⟩:=B5
          exact⟨x,y,by rw [ar hab.symm];exact e,z⟩
        · intro d' o hd nd
          rw [ar (aX hd na)]
          exact (X4.trans X5) d' o hd nd
      · rintro ys τ H4 ⟨v,ds,rfl,rds,hl',hdk,ha,B4,X4⟩
        refine⟨acc,ys,rfl,.inl ⟨ay.of ha,fun tp tn=>?_⟩⟩
        refine⟨_,rfl,ln2,fun pc pcn=>?_⟩
        have S6:af H4 (upd (upd H4 tp (.tup ys)) pc (.tup [.ref tp,ev])):=(af.new tn).trans (af.new pcn)
        have hp6:(upd (upd H4 tp (.tup ys)) pc (.tup [.ref tp,ev])) pl=some (.lst vs):=S6 _ _ (X4 pl _ hp3 hpb)
        refine⟨pl,_,_,rfl,rfl,hp6,?_,?_⟩
        · rw [hr.len,List.length_map,hl]
          exact bD (by omega)
        have hpiece:bh (upd (upd H4 tp (.tup ys)) pc (.tup [.ref tp,ev])) (.ref pc) (fO (ds,e)):=by
          refine .tup aa (.cons (.tup (af.new pcn _ _ aa) (rds.same S6 (eN ds))) (.cons ?_ .nil))
          exact (re.fix B3 X4 (kg e)).same S6 (kg e)
        have F6:Fix b H (upd (upd H4 tp (.tup ys)) pc (.tup [.ref tp,ev])):=((X'.trans (X2.trans X3)).trans X4).trans (Fix.of_same S6)
        have plH:∀ d o,H1 d=some o->d ≠ b->d ≠ pl:=fun d o hd nd z=>by rw [z,pn] at hd;cases hd
        refine⟨_,_,_,ps ++ [(ds,e)],vs ++ [.ref pc],rfl,aa,?_,(by rw [List.length_append,hl];rfl),?_,?_,?_,?_,?_⟩
        · rw [List.map_append]
          refine aN.app (((hr3.fix B3 X4 (dC ps)).same S6 (dC ps)).put hp6 (dC ps)) ?_
          exact hpiece.b5 (fun p zs e=>by rw [ar (jf e hp6 (by intro z;cases z))];exact e) (lB (ds,e))
        · intro p hpm
          rcases List.mem_append.mp hpm with hpm | hpm
          · exact au p hpm
          · rw [List.mem_singleton.mp hpm]
            exact⟨⟨by show ds.length<=m;omega,hdk⟩,ek⟩
        · have hll:l ≠ pl:=fun z=>by
            have:=N1.at_
            rw [z,pn] at this
            cases this
          have N6:=(N3.fix X4).fix (Fix.of_same (b:=b) S6)
          exact⟨by rw [ar hll];exact N6.at_,N6.ne,N6.v7,N6.b3,N6.ok⟩
        · obtain⟨x,y,e',z⟩:=B4.same S6
          exact⟨x,y,by rw [ar hpb.symm];exact e',z⟩
        · intro d o hd nd
          have h1:=X1 d o hd nd
          rw [ar (plH d o h1 nd)]
          exact F6 d o hd nd
        · intro d o hd nd
          rw [ar (plH d o hd nd)]
          exact S6 d o (X4 d o ((X2.trans X3) d o (Y' d o hd nd) nd) nd)
    · rintro σ H' ⟨u1,u2,u3,ps,vs,rfl,hp,hr,hl,au,N',B',X',Y'⟩
      have hl':ps.length=c:=by rw [hl];omega
      refine⟨_,rfl,pl,_,rfl,.inl ⟨ay.of hp,fun tp tn=>?_⟩⟩
      refine q (.ref tp) xs ps _ (.tup aa (hr.same (af.new tn) (dC ps))) hl' ⟨fun p hpm=>(au p hpm).1,fun p hpm=>?_⟩ ⟨N'.ok,x4⟩ (B'.new tn) (X'.trans (Fix.new tn))
      rw [hl']
      exact (au p hpm).2
theorem mE {f:Addr} {fd:FuncData} (F:bT K "_law_piece_text" "_law_piece_text" fX f fd) (Z:Bl mg)  : aZ P w K mg base bS 1 f fd ["piece"] mS:=by
  refine F.ok (k:=0) iB (fun vs H Q E h=>?_) (fun cdv A outer s H vs Q E hr h=>?_)
  · obtain⟨x,p,xs,m,c,rfl,_⟩:=h
    rfl
  · obtain⟨x,p,xs,m,c,rfl,hx,ok,hm,hc,q⟩:=h
    refine⟨_,(ae (gX (i:=1) ["part"] [] [] rfl iB.nd rfl rfl rfl (jP (aH fM (bV lp rfl Z.list uH (av (bg oh (pv 0) ah))) (bX (av (bg oh (pv 0) ah))))) rfl (by decide +kernel) (by decide +kernel) (by decide +kernel) True.intro (fun _ _ _ _=>(bu (i:=0) (show ((["part"]:List Str)++([]:List Str)).Nodup by decide +kernel) (hf:=Or.inr rfl))) (fun _ _ _ _=>b7) (fun _ _ _ _=>(C2 (K:=K) rfl PySem.F.plainAttrs_str PySem.F.slot_str_join PySem.F.type_str_join (zz (K:=K) rfl) ao (av (cD ["one"] [] [] rfl ((Bh (K:=K) rfl) (pv 0)) rfl (by decide +kernel) (by decide +kernel) (by decide +kernel) True.intro (fun _ _ _ _=>(bu (i:=0) (show ((["one"]:List Str)++([]:List Str)).Nodup by decide +kernel) (hf:=Or.inr rfl))) (fun _ _ _ _=>b7) (fun _ _ _ _=>(bV lK rfl Z.str lr (av (pv 0)))))))))
      (ai (aw (bU PySem.F.plainAttrs_str PySem.F.slot_str_join PySem.F.type_str_join dM ao (av (pv 1)))))),?_⟩
    obtain⟨pp,us,rfl,e,r⟩:=bh.dN hx
    obtain⟨x1,us1,rfl,r1,r⟩:=r.cons_inv
    obtain⟨x2,us2,rfl,r2,r⟩:=r.cons_inv
    have z:=r.nil_inv
    subst z
    obtain⟨da,ws,rfl,e1,rw'⟩:=bh.dN r1
    have hwl:=rw'.len
    rw [List.length_map] at hwl
    have hfew:=ok.b3
    refine⟨_,rfl,pp,_,0,_,rfl,rfl,bJ.of e,gf,da,_,rfl,.inr (bJ.of e1),fun l1 n1=>?_⟩
    have s1:=af.new (o:=.lst ws) n1
    have hl1:(upd H l1 (.lst ws)) l1=some (.lst ws):=aa
    generalize (upd H l1 (.lst ws))=H1 at s1 hl1 ⊢
    refine⟨_,rfl,pp,_,1,_,rfl,rfl,bJ.of (s1 _ _ e),qe,om,fun l2 n2=>?_⟩
    have s2:=af.new (o:=.lst [x2]) n2
    refine⟨l1,l2,_,_,rfl,rfl,s2 _ _ hl1,aa,(by show _+1<=sizeLine;exact Nat.le_of_lt (bD (by omega))),fun l3 n3=>?_⟩
    have s02:=(s1.trans s2).trans (af.new (o:=.lst (ws ++ [x2])) n3)
    have ht2:(upd (upd H1 l2 (.lst [x2])) l3 (.lst (ws ++ [x2]))) l3=some (.lst (ws ++ [x2])):=aa
    generalize (upd (upd H1 l2 (.lst [x2])) l3 (.lst (ws ++ [x2])))=H2 at s02 ht2 ⊢
    have hds:=lN ok hc
    have rd:aN H2 (ws ++ [x2]) ((gy p).map PyData.tuple):=by
      unfold gy
      rw [List.map_append,List.map_map]
      have ee:p.1.map (PyData.tuple ∘ fun d=>nq (eT d))=p.1.map eT:=List.map_congr_left fun d hd=>((uY ok.nm (ok.ds d hd)).2).symm
      rw [ee]
      refine aN.app (rw'.bB s02) ?_
      rw [<-(xY ok.nm ok.en hc).2]
      exact r2.bB s02
    generalize hL:gy p=ls at rd hds
    have hll:=rd.len
    rw [List.length_map] at hll
    have hlf:ls.length<=13:=by
      rw [<-hll,List.length_append]
      show _+1<=13
      omega
    refine⟨l3,rfl,⟨_,ay.of ht2⟩,fun acc na=>?_⟩
    refine jV (K:=K) (a:=l3) (xs:=ws ++ [x2]) (fun i ys τ H1=>∃ c:Option V,τ = [c]/\ys=((ls.take i).map stepT).map V.str/\H1 acc=some (.lst ys)/\af H2 H1) ?_ ?_ ?_ ?_
    · exact⟨none,rfl,rfl,aa,af.new na⟩
    · rintro i ys τ H1 hi ⟨c,rfl,rfl,ha,s1⟩
      refine⟨ay.of (s1 _ _ ht2),ha,bD ?_⟩
      rw [List.length_map,List.length_map,List.length_take]
      omega
    · rintro i x' ys τ H1 hxi ⟨c,rfl,rfl,ha,s1⟩
      refine aI ?_
      refine e7 ?_
      refine bo ?_
      have hlt:i < ls.length:=by
        obtain⟨z,_⟩:=List.getElem?_eq_some_iff.mp hxi
        omega
      have hd4:ls[i]? = some ls[i]:=List.getElem?_eq_getElem hlt
      obtain⟨x3,hx3,rx⟩:=rd.get (i:=i) (d:=.tuple ls[i]) (by rw [List.getElem?_map,hd4];rfl)
      obtain rfl:x3=x':=Option.some.inj (hx3.symm.trans hxi)
      have okd:=hds _ (List.mem_of_getElem? hd4)
      generalize ls[i] = ds at hd4 rx okd
      obtain⟨tp,txs,rfl,et,rt⟩:=bh.dN (rx.bB s1)
      have hfd:=okd.b3
      refine⟨rfl,_,rfl,tp,rfl,⟨_,bJ.of et⟩,fun acc2 na2=>?_⟩
      have naa:acc ≠ acc2:=aX ha na2
      refine jW (K:=K) (a:=tp) (xs:=txs) (fun j zs τ H3=>∃ c:Option V,τ = [c]/\zs=((ds.take j).map cQ).map V.str/\H3 acc2=some (.lst zs)/\af H1 H3) ?_ ?_ ?_ ?_
      · exact⟨none,rfl,rfl,aa,af.new na2⟩
      · rintro j zs τ H3 hj ⟨c,rfl,rfl,hb,s3⟩
        refine⟨bJ.of (s3 _ _ et),hb,bD ?_⟩
        rw [List.length_map,List.length_map,List.length_take]
        omega
      · rintro j x' zs τ H3 hxj ⟨c,rfl,rfl,hb,s3⟩
        refine aI ?_
        refine e7 ?_
        refine bo ?_
        have hlt:j < ds.length:=by
          obtain⟨z,_⟩:=List.getElem?_eq_some_iff.mp hxj
          have hlen:=rt.len
          omega
        have hd5:ds[j]? = some ds[j]:=List.getElem?_eq_getElem hlt
        obtain⟨x4,hx4,rx4⟩:=rt.get hd5
        obtain rfl:x4=x':=Option.some.inj (hx4.symm.trans hxj)
        have fin:H3 acc2=some (.lst (((ds.take j).map cQ).map V.str))/\∃ c1:Option V,[some x4] = [c1]/\(((ds.take j).map cQ).map V.str ++ [V.str (cQ ds[j])])=((ds.take (j+1)).map cQ).map V.str/\(upd H3 acc2 (.lst (((ds.take j).map cQ).map V.str ++ [V.str (cQ ds[j])]))) acc2=some (.lst (((ds.take j).map cQ).map V.str ++ [V.str (cQ ds[j])]))/\af H1 (upd H3 acc2 (.lst (((ds.take j).map cQ).map V.str ++ [V.str (cQ ds[j])]))):=by
          refine⟨hb,_,rfl,?_,aa,s3.put na2⟩
          rw [List.take_add_one,hd5,List.map_append,List.map_append]
          rfl
        rcases okd.ok _ (List.mem_of_getElem? hd5) with ⟨y,ey,hy⟩ | ⟨k,ek,hk⟩
        · rw [ey] at rx4 fin
          cases rx4
          exact⟨_,rfl,.inl ⟨y,rfl,fin⟩⟩
        · rw [ek] at rx4 fin
          cases rx4
          exact⟨_,rfl,.inr ⟨k,rfl,pI hk,fin⟩⟩
      rintro zs τ H3 ⟨c,rfl,rfl,hb,s3⟩
      rw [List.take_of_length_le (Nat.le_of_eq rt.len.symm)] at hb
      have ha3:=s3 _ _ ha
      refine⟨" ",acc2,ds.map cQ,rfl,rfl,ay.of hb,?_,ha3,_,rfl,?_,aa,(s1.trans s3).put na⟩
      · have h1:=j2 (k:=41) (ds.map cQ) fun y hy=>by
          obtain⟨d,hd,rfl⟩:=List.mem_map.mp hy
          exact sy (okd.ok d hd)
        rw [List.length_map,show (" " : Str).length=1 by decide +kernel]
        rw [List.length_map] at h1
        omega
      · rw [List.take_add_one,hd4,List.map_append,List.map_append]
        rfl
    rintro ys τ H1 ⟨c,rfl,rfl,ha,s1⟩
    rw [List.take_of_length_le (by omega)] at ha
    refine aI ?_
    refine⟨rfl,_,rfl, "; ",acc,ls.map stepT,rfl,rfl,ay.of ha,?_,?_⟩
    · have h1:=j2 (k:=210) (ls.map stepT) fun y hy=>by
        obtain⟨d,hd,rfl⟩:=List.mem_map.mp hy
        exact sC (hds d hd)
      rw [List.length_map,show ("; " : Str).length=2 by decide +kernel]
      rw [List.length_map] at h1
      omega
    · have:=q H1 (s02.trans s1)
      unfold df at this
      rw [hL] at this
      exact this
theorem mj {f:Addr} {fd:FuncData} (F:bT K "_law_number_read" "_law_number_read" fF f fd) (Z:Bl mg)  : aZ P w K mg base bS 1 f fd ["text"] wM:=by
  refine F.ok (k:=0) ff (fun vs H Q E h=>?_) (fun cdv A outer s H vs Q E hr h=>?_)
  · obtain⟨x,rfl,_⟩:=h
    rfl
  · obtain⟨x,rfl,hx,q⟩:=h
    refine⟨_,(ae (aP (i:=1) ff.nd (pv 0))
      (ae (oo (aQ (aB bW (ba dX (pv 0) bF (bc ah)) ao (aK _))
      (ai (aP (i:=1) ff.nd (ba dX (pv 0) (bc ah) bF)))
      aG))
      (ae (aQ (PW.pt (d9 (aB kd (aA cB rfl Z.len bG (av (pv 1))) ah (aK _)) (d9 (aB iC (aA cB rfl Z.len bG (av (pv 1))) ah (aK _)) (dP (aB (ow hr.units) (cD ["sign"] [] [] rfl (oA (pv 1)) rfl (by decide +kernel) (by decide +kernel) (by decide +kernel) True.intro (fun _ _ _ _=>(bu (i:=0) (show ((["sign"]:List Str)++([]:List Str)).Nodup by decide +kernel) (hf:=Or.inr rfl))) (fun _ _ _ _=>(uI (aB ll (pv 0) ao (by with_unfolding_all rfl)))) (fun _ _ _ _=>(pv 0))) (bX dQ) (aK _))))))
      (ai (aw cY))
      aG)
      (ae (aQ (PW.pt (fK (aB bW (bg lj (pv 1) ah) ao (aK _)) (gd (aB oa (pv 0) ao (aK _)))))
      (ai (aw cY))
      aG)
      (ai (aw (bV qg rfl Z.int lq (av (pv 0))))))))),?_⟩
    have hfew:=hx.b3
    refine⟨_,rfl,?_⟩
    refine⟨fun σ' H'=>∃ f:Str,σ' = [some (.str x),some (.str f)]/\sg f=dG (sg x)/\bf 200000 f/\f.length<=x.length/\H' = H,?_,?_⟩
    · refine⟨_,rfl,_,rfl,x,rfl,(by omega),rfl,_,rfl,?_⟩
      rw [xQ]
      by_cases hm:(sg x).head? = some 45
      · refine cf (decide_eq_true hm) ?_
        have h1:1<=x.length:=by
          have:=congrArg List.length (fb hm)
          rw [aY,List.length_cons] at this
          omega
        refine⟨_,rfl,_,rfl,x,rfl,(by omega),?_⟩
        refine⟨_,rfl,?_,hx.slice _ _,Txt.slice_le x _ _,rfl⟩
        have h2:=uQ (i:=1) h1
        rw [fb hm] at h2
        exact h2
      · refine bO (decide_eq_false hm) ?_
        exact⟨x,rfl,(gY hm).symm,hx,Nat.le_refl _,rfl⟩
    rintro σ' H' ⟨f,rfl,hf,hft,hfl,rfl⟩
    have hg:=uR hf
    have qn:eV x=false->∀ H1,af H' H1->Q .aW H1:=fun h H1 s1=>by
      have:=q H1 s1
      unfold eE at this
      rw [h] at this
      exact this
    refine⟨_,rfl,f,rfl,Nat.le_of_lt (aT (by omega)),_,_,rfl,rfl,_,rfl,?_⟩
    refine cC (fun h1=>?_) (fun h1=>?_)
    · refine bo ?_
      refine qn ?_ _ (af.refl _)
      have:=of_decide_eq_true h1
      rw [hg,decide_eq_false (by omega)]
      rfl
    have h1:1<=f.length:=by
      by_cases z:1<=f.length
      · exact z
      · exact absurd (decide_eq_true (by omega)) h1
    refine⟨_,rfl,f,rfl,Nat.le_of_lt (aT (by omega)),_,_,rfl,rfl,_,rfl,?_⟩
    refine cC (fun h2=>?_) (fun h2=>?_)
    · refine bo ?_
      refine qn ?_ _ (af.refl _)
      have:=of_decide_eq_true h2
      rw [hg,decide_eq_true h1,decide_eq_false (by omega)]
      rfl
    have h2:f.length<=40:=by
      by_cases z:f.length<=40
      · exact z
      · exact absurd (decide_eq_true (by omega)) h2
    refine⟨_,rfl,f,rfl,fun acc na=>?_⟩
    refine oB (x:=f) (fun i ys τ H1=>∃ c:Option V,τ = [c]/\ys=(((sg f).take i).filter fun c=>!cS c).map (fun c=>V.str ⟨#[c]⟩)/\H1 acc=some (.lst ys)/\af H' H1) ?_ ?_ ?_ ?_
    · exact⟨none,rfl,rfl,aa,af.new na⟩
    · rintro i ys τ H1 hi ⟨c,rfl,rfl,ha,s1⟩
      refine⟨ha,bD ?_⟩
      rw [List.length_map]
      refine Nat.le_trans (List.length_filter_le ..) ?_
      rw [List.length_take,aY]
      omega
    · rintro i c ys τ H1 hi ⟨c',rfl,rfl,ha,s1⟩
      have hci:(sg f)[i]? = some c:=by rw [<-hi];exact Array.getElem?_toList
      refine aI ?_
      refine⟨_,rfl,_,_,rfl,rfl,_,rfl,?_⟩
      rw [xO]
      cases hd:cS c with
      | true =>
        refine bE ?_
        refine⟨_,rfl,?_,ha,s1⟩
        rw [List.take_add_one,hci,List.filter_append]
        show _=(_ ++ [c].filter _).map _
        rw [List.filter_cons_of_neg (by simp [hd]),List.filter_nil,List.append_nil]
      | false =>
        refine bo ?_
        refine⟨_,rfl,ha,_,rfl,?_,aa,s1.put na⟩
        rw [List.take_add_one,hci,List.filter_append]
        show _=(_ ++ [c].filter _).map _
        rw [List.filter_cons_of_pos (by simp [hd]),List.filter_nil,List.map_append]
        rfl
    rintro ys τ H1' ⟨c,rfl,rfl,ha,s1'⟩
    rw [show (sg f).take f.cps.size=sg f from List.take_of_length_le (by rw [aY];exact Nat.le_refl _)] at ha
    refine⟨(by show 0<=sizeLine;decide),fun l2 n2=>?_⟩
    have s1:=s1'.trans (af.new (o:=.lst []) n2)
    have ha1:=af.new (o:=.lst []) n2 _ _ ha
    have hl2:(upd H1' l2 (.lst [])) l2=some (.lst []):=aa
    generalize (upd H1' l2 (.lst []))=H1 at s1 ha1 hl2
    have lay:(PyData.list (((sg f).filter fun c=>!cS c).map fun c=>PyData.str ⟨#[c]⟩)).canLay0=true:=o9 _ fun d hd=>by
      obtain⟨c,hc,rfl⟩:=List.mem_map.mp hd
      exact (bf.one (hft.ok c (List.mem_filter.mp hc).1)).lay
    refine⟨_,.list [],.lst ha1 (ng _),.lst hl2 .nil,lay,rfl,(by have:(PyData.list []).depth<=1:=Nat.le_refl 1;omega),_,rfl,?_⟩
    rw [rY,filter_nil]
    cases hall:(sg f).all cS with
    | false =>
      refine bo ?_
      refine qn ?_ _ s1
      rw [hg,hall,decide_eq_true h1,decide_eq_true h2]
      rfl
    | true =>
      refine bE ?_
      obtain⟨c,hc,hat⟩:=xP h1
      refine⟨_,rfl,f,0,c,rfl,rfl,Nat.le_of_lt (aT (by omega)),hat,rfl,_,rfl,?_⟩
      rw [rX]
      rw [hc] at hg
      have yes:eV x=true->∃ n,PySem.intText? x=some n/\x.length<=640/\Q (.int n) H1:=fun h=>by
        have hl:=nA h
        obtain⟨n,hn⟩:=good_reads (by omega) h
        refine⟨n,hn,(by omega),?_⟩
        have:=q H1 s1
        unfold eE at this
        rw [if_pos h,hn] at this
        exact this
      by_cases h48:c=48
      · refine cf (decide_eq_true h48) ?_
        refine⟨_,rfl,rfl,_,rfl,?_⟩
        by_cases hz:x = "0"
        · refine bO (by rw [decide_eq_true (congrArg V.str hz)];rfl) ?_
          obtain⟨n,hn,hl,qq⟩:=yes (by rw [hg,hall,decide_eq_true h1,decide_eq_true h2,decide_eq_false (fun z:x ≠ "0" => z hz)];simp)
          exact⟨_,rfl,x,n,rfl,hn,hl,qq⟩
        · refine cf (by rw [decide_eq_false (fun z=>hz (V.str.inj z))];rfl) ?_
          refine qn ?_ _ s1
          rw [hg,hall,decide_eq_true h1,decide_eq_true h2,h48,decide_eq_true (hz:x ≠ "0"),decide_eq_true rfl]
          rfl
      · refine bO (decide_eq_false h48) (bE ?_)
        obtain⟨n,hn,hl,qq⟩:=yes (by rw [hg,hall,decide_eq_true h1,decide_eq_true h2,decide_eq_false (fun z:some c=some 48=>h48 (Option.some.inj z))];rfl)
        exact⟨_,rfl,x,n,rfl,hn,hl,qq⟩
theorem pS {f:Addr} {fd:FuncData} (F:bT K "_law_is_name" "_law_is_name" iy f fd) (Z:Bl mg)  : aZ P w K mg base bS 1 f fd ["text"] vA:=by
 refine F.ok (k:=0) pQ (fun vs H Q E h=>?_) (fun cdv A outer s H vs Q E hr h=>?_)
 ·obtain⟨x,rfl,_⟩:=h
  rfl
 ·obtain⟨x,rfl,hx,q⟩:=h
  refine⟨_,(ae (aQ (PW.pt (d9 (aB kd (aA cB rfl Z.len bG (av (pv 0))) ah (aK _)) (dP (aB iC (aA cB rfl Z.len bG (av (pv 0))) ah (aK _)))))
   (ai (aw dh))
   aG)
   (ai (aw (mq (lu hr.units) (cD ["sign"] [] [] rfl (oA (pv 0)) rfl (by decide +kernel) (by decide +kernel) (by decide +kernel) True.intro (fun _ _ _ _=>(bu (i:=0) (show ((["sign"]:List Str)++([]:List Str)).Nodup by decide +kernel) (hf:=Or.inr rfl))) (fun _ _ _ _=>(uI (aB ll (pv 0) ao (by with_unfolding_all rfl)))) (fun _ _ _ _=>(pv 0))) (bX dQ) (aK _))))),?_⟩
  have hfew:=hx.b3
  have qn:((decide (1<=x.length) && decide (x.length<=8)) && (sg x).all cE)=false->∀ H1,af H H1->Q (.bl false) H1:=fun h H1 s1=>by
   have e:iz (.str x)=false:=h
   have:=q H1 s1
   rw [e] at this
   exact this
  refine⟨_,rfl,x,rfl,Nat.le_of_lt (aT (by omega)),_,_,rfl,rfl,_,rfl,?_⟩
  refine cC (fun h1=>?_) (fun h1=>?_)
  ·refine bo ?_
   have:=of_decide_eq_true h1
   exact qn (by rw [decide_eq_false (show ¬ 1<=x.length by omega)];rfl) _ (af.refl _)
  have h1:1<=x.length:=by
   by_cases z:1<=x.length
   ·exact z
   ·exact absurd (decide_eq_true (by omega)) h1
  refine⟨_,rfl,x,rfl,Nat.le_of_lt (aT (by omega)),_,_,rfl,rfl,_,rfl,?_⟩
  refine cC (fun h2=>?_) (fun h2=>?_)
  ·have:=of_decide_eq_true h2
   exact qn (by rw [decide_eq_true h1,decide_eq_false (show ¬ x.length<=8 by omega)];rfl) _ (af.refl _)
  have h2:x.length<=8:=by
   by_cases z:x.length<=8
   ·exact z
   ·exact absurd (decide_eq_true (by omega)) h2
  refine⟨_,rfl,x,rfl,fun acc na=>?_⟩
  refine oB (x:=x) (fun i ys τ H1=>∃ c:Option V,τ = [c]/\ys=(((sg x).take i).filter fun c=>!cE c).map (fun c=>V.str ⟨#[c]⟩)/\H1 acc=some (.lst ys)/\af H H1) ?_ ?_ ?_ ?_
  ·exact⟨none,rfl,rfl,aa,af.new na⟩
  ·rintro i ys τ H1 hi ⟨c,rfl,rfl,ha,s1⟩
   refine⟨ha,bD ?_⟩
   rw [List.length_map]
   refine Nat.le_trans (List.length_filter_le ..) ?_
   rw [List.length_take,aY]
   omega
  ·rintro i c ys τ H1 hi ⟨c',rfl,rfl,ha,s1⟩
   have hci:(sg x)[i]? = some c:=by rw [<-hi];exact Array.getElem?_toList
   refine aI ?_
   refine⟨_,rfl,_,_,rfl,rfl,_,rfl,?_⟩
   rw [wg]
   cases hd:cE c with
   | true =>
    refine bE ?_
    refine⟨_,rfl,?_,ha,s1⟩
    rw [List.take_add_one,hci,List.filter_append]
    show _=(_ ++ [c].filter _).map _
    rw [List.filter_cons_of_neg (by simp [hd]),List.filter_nil,List.append_nil]
   | false =>
    refine bo ?_
    refine⟨_,rfl,ha,_,rfl,?_,aa,s1.put na⟩
    rw [List.take_add_one,hci,List.filter_append]
    show _=(_ ++ [c].filter _).map _
    rw [List.filter_cons_of_pos (by simp [hd]),List.filter_nil,List.map_append]
    rfl
  rintro ys τ H1' ⟨c,rfl,rfl,ha,s1'⟩
  rw [show (sg x).take x.cps.size=sg x from List.take_of_length_le (by rw [aY];exact Nat.le_refl _)] at ha
  refine⟨(by show 0<=sizeLine;decide),fun l2 n2=>?_⟩
  have s1:=s1'.trans (af.new (o:=.lst []) n2)
  have ha1:=af.new (o:=.lst []) n2 _ _ ha
  have hl2:(upd H1' l2 (.lst [])) l2=some (.lst []):=aa
  generalize (upd H1' l2 (.lst []))=H1 at s1 ha1 hl2
  have lay:(PyData.list (((sg x).filter fun c=>!cE c).map fun c=>PyData.str ⟨#[c]⟩)).canLay0=true:=o9 _ fun d hd=>by
   obtain⟨c,hc,rfl⟩:=List.mem_map.mp hd
   exact (bf.one (hx.ok c (List.mem_filter.mp hc).1)).lay
  refine⟨_,.list [],.lst ha1 (ng _),.lst hl2 .nil,lay,rfl,(by have:(PyData.list []).depth<=1:=Nat.le_refl 1;omega),?_⟩
  rw [rY,wj]
  have e:iz (.str x)=(sg x).all cE:=by
   show ((decide (1<=x.length) && decide (x.length<=8)) && (sg x).all cE)=_
   rw [decide_eq_true h1,decide_eq_true h2]
   rfl
  have:=q H1 s1
  rw [e] at this
  exact this
theorem nU {f:Addr} {fd:FuncData} (F:bT K "_law_part_read" "_law_part_read" gG f fd) (Z:Bl mg) (O_law_is_name:Own P w K mg base "_law_is_name" 1 ["text"] vA) (O_law_number_read:Own P w K mg base "_law_number_read" 1 ["text"] wM):aZ P w K mg base bS 2 f fd ["text", "count", "shapes"] vC:=by
  refine F.ok (k:=1) cx (fun vs H Q E h=>?_) (fun cdv A outer s H vs Q E hr h=>?_)
  · obtain⟨x,n,d,S,rfl,_⟩:=h
    rfl
  · obtain⟨x,n,d,S,rfl,hx,hD,hS,q⟩:=h
    refine⟨_,(ae (aP (i:=3) cx.nd (bU PySem.F.plainAttrs_str PySem.F.slot_str_split PySem.F.type_str_split d7 (pv 0) (av ao)))
      (ae (aP (i:=4) cx.nd (xK (DS hr) (pv 2) (bg br (pv 3) ah) cY ⟨rfl,rfl,rfl,rfl⟩))
      (ae (aQ (PW.pt (d9 (fJ (fH (pv 4))) (dP (aB oa (aA cB rfl Z.len bG (av (pv 4))) (aH iL (aA aV rfl Z.len bG (av (pv 3))) ah) (aK _)))))
      (ai (aw cY))
      aG)
      (ae (aP (i:=5) cx.nd (bX (av (bg br (pv 3) ah))))
      (ae (kZ PassesOwn.never rfl (BI rfl Z.zip (aL (pv 4) (ba cH (pv 3) (bc ah) bF))) (iK rfl (cv (bu (i:=6) cx.nd) (cv (bu (i:=7) cx.nd) gU)))
      (ai (aQ (aB bW (pv 6) ao (aK _))
      (ae (aQ (dD (cU (aF O_law_is_name hr (av (pv 7)))))
      (ai (aw cY))
      aG)
      (ai (gQ (bU PySem.F.plainAttrs_list PySem.F.slot_list_append PySem.F.type_list_append eD (pv 5) (av (pv 7))))))
      (ae (aP (i:=8) cx.nd (aF O_law_number_read hr (av (pv 7))))
      (ae (aQ (PW.pt (d9 (fJ (fH (pv 8))) (dP (PW.pt (fK (aB bW (pv 6) ao (aK _)) (gd (PW.pt (d9 (aB kd (pv 8) ah (aK _)) (dP (aB DN (pv 8) (pv 1) (aK _)))))))))))
      (ai (aw cY))
      aG)
      (ai (gQ (bU PySem.F.plainAttrs_list PySem.F.slot_list_append PySem.F.type_list_append eD (pv 5) (av (pv 8))))))))))
      (ai (aw (bV cK rfl Z.tuple dm (av (pv 5)))))))))),?_⟩
    have hfew:=hx.b3
    have hle:=split_le x " "
    have htx:=qX hx
    refine⟨_,rfl,rfl,_, " ",rfl,rfl,(by decide +kernel),(by omega),fun l nl=>?_⟩
    unfold gh at q
    obtain⟨w,ys,e0⟩:=dA (x:=x) eQ gA
    rw [e0] at hle htx q ⊢
    dsimp only at q
    rw [List.length_cons] at hle
    have s1:=af.new (o:=.lst ((w :: ys).map V.str)) nl
    have hl:(upd H l (.lst ((w :: ys).map V.str))) l=some (.lst ((w :: ys).map V.str)):=aa
    generalize (upd H l (.lst ((w :: ys).map V.str)))=H1 at s1 hl ⊢
    obtain⟨kvs,hd,hk⟩:=hD
    have hd1:=s1 _ _ hd
    refine⟨_,rfl,d,rfl,.inl ⟨kvs,.inl hd1⟩,_,rfl,l,_,0,_,rfl,rfl,ay.of hl,gf,_,_,rO.k (k:=Sum.inr w) hd1,rfl,?_⟩
    rw [show fT kvs (Sum.inr w:Key)=_ from hk w]
    cases hw:S w with
    | none =>
      rw [hw] at q
      refine aI ?_
      refine⟨_,rfl,_,rfl,bo (bo ?_)⟩
      exact q _ H1 .aW s1
    | some s =>
    have ok:=hS w s hw
    rw [hw] at q
    dsimp only at q
    refine aI ?_
    have sf:=ok.b3
    refine⟨_,rfl,_,rfl,bE ?_⟩
    refine⟨_,rfl,s,rfl,Nat.le_of_lt (bD (by omega)),_,rfl,l,_,rfl,.inl (ay.of hl),_,_,rfl,rfl,rfl,_,rfl,?_⟩
    have hlen:((w :: ys).map V.str).length=ys.length+1:=by rw [List.length_map,List.length_cons]
    by_cases hsl:s.length=ys.length
    rotate_left
    · refine cf (by rw [hlen,decide_eq_false (fun z=>hsl (by have:=V.int.inj z;omega))];rfl) ?_
      rw [if_neg hsl] at q
      exact q _ H1 .aW s1
    refine bO (by rw [hlen,decide_eq_true (congrArg V.int (by omega))];rfl) ?_
    rw [if_pos hsl,nF ys n ok.sg (by rw [aY];exact hsl)] at q
    refine⟨_,rfl,l,_,0,_,rfl,rfl,ay.of hl,gf,om,fun fa nf=>?_⟩
    refine aI ?_
    have s2:=af.new (o:=.lst [V.str w]) nf
    have hf:(upd H1 fa (.lst [V.str w])) fa=some (.lst [V.str w]):=aa
    have hl2:=s2 _ _ hl
    have s02:=s1.trans s2
    have nfH:H fa=none:=by
      cases z:H fa with
      | none=>rfl
      | some o=>rw [s1 _ _ z] at nf;cases nf
    generalize (upd H1 fa (.lst [V.str w]))=H2 at s2 hf hl2 s02 ⊢
    refine⟨_,rfl,_,rfl,_,rfl,l,_,rfl,ay.of hl2,fun l3 n3=>?_⟩
    rw [show eS ((w :: ys).map V.str) (some 1) none=ys.map V.str from sk (xs:=(w :: ys).map V.str) (k:=1) (by rw [List.length_map,List.length_cons];omega)]
    have s3:=af.new (o:=.lst (ys.map V.str)) n3
    have hl3:(upd H2 l3 (.lst (ys.map V.str))) l3=some (.lst (ys.map V.str)):=aa
    have hf3:=s3 _ _ hf
    have s03:=s02.trans s3
    have nfl:l3 ≠ fa:=fun z=>by rw [z,hf] at n3;cases n3
    generalize (upd H2 l3 (.lst (ys.map V.str)))=H3 at s3 hl3 s03 hf3 ⊢
    have hcl:s.cps.size=ys.length:=by rw [<-hsl];rfl
    refine⟨s,l3,rfl,ok.asc,⟨_,ay.of hl3⟩,zR (K:=K) (x0:=s) (b:=l3) (ys:=ys.map V.str) (by rw [List.length_map];omega) (fun i σ H'=>∃ (c1 c2 c3:Option V) (fs:List V),σ = [some (.str x),some (.int (n:Nat)),some (.ref d),some (.ref l),some (.str s),some (.ref fa),c1,c2,c3]/\H' fa=some (.lst (V.str w :: fs))/\H' l3=some (.lst (ys.map V.str))/\aN H' fs ((ys.take i).map aJ)/\(∀ j c y,j < i->(sg s)[j]? = some c->ys[j]? = some y->bQ (aJ y) (kindS c) n=true)/\af H H') ?_ ?_ ?_ ?_⟩
    · exact⟨_,_,_,[],rfl,hf3,hl3,.nil,fun j c y h=>absurd h (Nat.not_lt_zero _),s03⟩
    · rintro i σ H' hi ⟨c1,c2,c3,fs,rfl,g1,g2,g3,g4,g5⟩
      exact ay.of g2
    · rintro i c y σ H4 t hc hy ht ⟨c1,c2,c3,fs,rfl,g1,g2,g3,g4,g5⟩
      have hi:i < ys.length:=by
        have:=(List.getElem?_eq_some_iff.mp hy).1
        rw [List.length_map] at this
        exact this
      have hd4:ys[i]? = some ys[i]:=List.getElem?_eq_getElem hi
      generalize ys[i] = yy at hd4
      rw [List.getElem?_map,hd4] at hy
      cases hy
      have hci:(sg s)[i]? = some c:=by rw [<-hc];exact Array.getElem?_toList
      have hyx:=htx yy (List.mem_cons_of_mem _ (List.mem_of_getElem? hd4))
      have qn:bQ (aJ yy) (kindS c) n=false->∀ H',af H H'->Q .aW H':=fun hp H' s'=>q _ H' (by
        rw [qA (ds:=ys.map aJ) (ks:=(sg s).map kindS) (i:=i) (by rw [List.getElem?_map,hd4];rfl) (by rw [List.getElem?_map,hci];rfl) hp]
        exact .aW) s'
      have fl:=g3.len
      rw [List.length_map,List.length_take] at fl
      have st:=af.new (o:=.tup [.str ⟨#[c]⟩,.str yy]) ht
      refine⟨t,_,rfl,bJ.of aa,rfl,_,_,rfl,_,_,rfl,rfl,?_⟩
      have g1':=st _ _ g1
      have g2':=st _ _ g2
      have g3':=g3.bB st
      have g5':=g5.trans st
      generalize (upd H4 t (.tup [.str ⟨#[c]⟩,.str yy]))=H5 at g1' g2' g3' g5' ⊢
      have fin:∀ (v:V) (H6:Hp),af H5 H6->bh H6 v (aJ yy)->bQ (aJ yy) (kindS c) n=true->∀ c3':Option V,∃ (c1 c2 c3:Option V) (gs:List V),[some (V.str x),some (.int (n:Nat)),some (.ref d),some (.ref l),some (.str s),some (.ref fa),some (.str ⟨#[c]⟩),some (.str yy),c3'] = [some (.str x),some (.int (n:Nat)),some (.ref d),some (.ref l),some (.str s),some (.ref fa),c1,c2,c3]/\(upd H6 fa (.lst ((V.str w :: fs) ++ [v]))) fa=some (.lst (V.str w :: gs))/\(upd H6 fa (.lst ((V.str w :: fs) ++ [v]))) l3=some (.lst (ys.map V.str))/\aN (upd H6 fa (.lst ((V.str w :: fs) ++ [v]))) gs ((ys.take (i+1)).map aJ)/\(∀ j c y,j < i+1->(sg s)[j]? = some c->ys[j]? = some y->bQ (aJ y) (kindS c) n=true)/\af H (upd H6 fa (.lst ((V.str w :: fs) ++ [v]))):=fun v H6 s6 rv hp c3'=>by
        refine⟨_,_,_,fs ++ [v],rfl,aa,(by rw [ar nfl];exact s6 _ _ g2'),?_,fun j c' y hj e1 e2=>?_,fun b o hb=>by rw [ar (aX hb nfH)];exact s6 _ _ (g5' _ _ hb)⟩
        · rw [List.take_add_one,hd4,List.map_append]
          refine aN.app ((g3'.bB s6).put (s6 _ _ g1') (cF fun e he=>by obtain⟨y,_,rfl⟩:=List.mem_map.mp he;exact kr y)) ?_
          exact rv.b5 (fun q zs e=>by rw [ar (fun z=>by rw [z,s6 _ _ g1'] at e;cases e)];exact e) (kr yy)
        · by_cases z:j=i
          · subst z
            rw [hci] at e1;rw [hd4] at e2
            cases e1;cases e2
            exact hp
          · exact g4 j c' y (by omega) e1 e2
      refine⟨_,rfl,rfl,_,rfl,?_⟩
      rw [Fm,sR]
      by_cases hcx:c=120
      · subst hcx
        obtain⟨hpn,hpw⟩:=BO yy n
        refine cf (decide_eq_true rfl) ?_
        refine⟨_,rfl,yy,rfl,hyx,fun H6 s6=>⟨_,rfl,?_⟩⟩
        cases hnm:iz (.str yy) with
        | false =>
          refine bo ?_
          exact qn (hpn.trans hnm) H6 (g5'.trans s6)
        | true =>
          refine bE ?_
          have g16:=s6 _ _ g1'
          refine⟨_,rfl,.inl ⟨rfl,_,ay.of g16⟩,.str yy,rfl,fa,_,_,rfl,rfl,g16,aT (by rw [List.length_cons];omega),?_⟩
          exact fin _ H6 s6 (by rw [hpw hnm];exact .str _) (hpn.trans hnm) _
      refine bO (decide_eq_false hcx) ?_
      have hcs:c=110\/c=112:=(ok.sg c (List.mem_of_getElem? hci)).resolve_left hcx
      refine⟨_,rfl,yy,rfl,hyx,fun H6 s6=>?_⟩
      refine aI ?_
      cases hr:eE yy with
      | none =>
        refine⟨_,rfl,_,rfl,bo (bo ?_)⟩
        exact qn (BP hcs n hr) H6 (g5'.trans s6)
      | some v =>
        obtain⟨hw2,hp2⟩:=BQ hcs n hr
        refine⟨_,rfl,_,rfl,bE ?_⟩
        have g16:=s6 _ _ g1'
        have go:bQ (aJ yy) (kindS c) n=true->af H5 H6:=fun _=>s6
        have yes:bQ (aJ yy) (kindS c) n=true->_:=fun hp=>fin (.int v) H6 s6 (by rw [hw2];exact .int _) hp (some (.int v))
        refine⟨_,rfl,rfl,_,rfl,?_⟩
        rw [Fn,sR]
        by_cases hcp:c=112
        · refine cf (decide_eq_true hcp) ?_
          refine⟨_,rfl,_,_,rfl,rfl,_,rfl,?_⟩
          refine cC (fun h1=>?_) (fun h1=>?_)
          · refine bo ?_
            exact qn (by rw [hp2,decide_eq_true ⟨hcp,.inl (of_decide_eq_true h1)⟩];rfl) H6 (g5'.trans s6)
          refine⟨_,rfl,_,rfl,_,_,rfl,rfl,_,rfl,?_⟩
          refine cC (fun h2=>?_) (fun h2=>?_)
          · exact qn (by rw [hp2,decide_eq_true ⟨hcp,.inr (of_decide_eq_true h2)⟩];rfl) H6 (g5'.trans s6)
          · exact⟨_,rfl,.inl ⟨rfl,_,ay.of g16⟩,_,rfl,fa,_,_,rfl,rfl,g16,aT (by rw [List.length_cons];omega),yes (by rw [hp2,decide_eq_false (fun z=>z.2.elim (fun y=>h1 (decide_eq_true y)) (fun y=>h2 (decide_eq_true y)))];rfl)⟩
        · refine bO (decide_eq_false hcp) (bE ?_)
          exact⟨_,rfl,.inl ⟨rfl,_,ay.of g16⟩,_,rfl,fa,_,_,rfl,rfl,g16,aT (by rw [List.length_cons];omega),yes (by rw [hp2,decide_eq_false (fun z=>hcp z.1)];rfl)⟩
    rintro σ H' ⟨c1,c2,c3,fs,rfl,g1,g2,g3,g4,g5⟩
    rw [List.take_of_length_le (by omega)] at g3
    have hp:b4 (ys.map aJ) ((sg s).map kindS) n=true:=oR (by rw [List.length_map,List.length_map,aY];exact hsl.symm) fun i d' k e1 e2=>by
      rw [List.getElem?_map] at e1 e2
      obtain⟨y,ey,rfl⟩:=Option.map_eq_some_iff.mp e1
      obtain⟨c,ec,rfl⟩:=Option.map_eq_some_iff.mp e2
      exact g4 i c y (by rw [hcl];exact (List.getElem?_eq_some_iff.mp ey).1) ec ey
    rw [if_pos hp] at q
    refine⟨_,rfl,fa,_,rfl,.inl ⟨ay.of g1,fun t nt=>?_⟩⟩
    have st:=af.new (o:=.tup (V.str w :: fs)) nt
    exact q (.ref t) _ (.tup aa (.cons (.str _) (g3.bB st))) (g5.trans st)
theorem mF {f:Addr} {fd:FuncData} (F:bT K "_law_piece_read" "_law_piece_read" fY f fd) (Z:Bl mg) (O_law_part_read:Own P w K mg base "_law_part_read" 2 ["text", "count", "shapes"] vC):aZ P w K mg base bS 3 f fd ["line", "count"] lT:=by
  refine F.ok (k:=2) dq (fun vs H Q E h=>?_) (fun cdv A outer s H vs Q E hr h=>?_)
  · obtain⟨x,n,rfl,_⟩:=h
    rfl
  · obtain⟨x,n,rfl,hx,q⟩:=h
    refine⟨_,(ae (aP (i:=2) dq.nd (bU PySem.F.plainAttrs_str PySem.F.slot_str_split PySem.F.type_str_split d7 (pv 0) (av ao)))
      (ae (aP (i:=3) dq.nd (uM (eG ao ao (eG ao ao (eG ao ao (eG ao ao (eG ao ao uL))))) rfl rfl (List.cons_ne_nil _ _) (by show 5<=15;decide)))
      (ae (gX (i:=4) ["part"] ["count", "shapes"] [1,3] rfl dq.nd rfl rfl rfl (jP (ba cH (pv 2) bF (bc (j9 iN ah)))) rfl (by decide +kernel) (by decide +kernel) (by decide +kernel) ⟨⟨rfl,.inl rfl,rfl⟩,⟨⟨rfl,.inl rfl,rfl⟩,True.intro⟩⟩ (fun _ _ _ _=>(bu (i:=0) (show ((["part"]:List Str)++(["count", "shapes"]:List Str)).Nodup by decide +kernel) (hf:=Or.inr rfl))) (fun _ _ _ _=>b7) (fun _ _ _ _=>(aF O_law_part_read hr (du (pv 0) (pv 1) (pv 2)))))
      (ae (aP (i:=5) dq.nd (aF O_law_part_read hr (du (bg br (pv 2) (j9 iN ah)) (pv 1) (uM (eG ao ao (eG ao ao (eG ao ao (eG ao ao uL)))) rfl rfl (List.cons_ne_nil _ _) (by show 4<=15;decide)))))
      (ae (aQ (PW.pt (d9 (aB (sN (Dr hr)) cY (pv 4) (by with_unfolding_all rfl)) (d9 (fJ (fH (pv 5))) (dP (aB iC (aA aV rfl Z.len bG (av (pv 4))) ah (aK _))))))
      (ai (aw cY))
      aG)
      (ai (aw (dU (aL (bV cK rfl Z.tuple dm (av (pv 4))) (pv 5)))))))))),?_⟩
    have hfew:=hx.b3
    have hle:(partsOf x).length<=x.length+2:=split_le x "; "
    have htx:=kq hx
    obtain⟨l0,t0,e0⟩:=i8 x
    unfold oQ at q
    rw [gu e0] at q
    refine⟨_,rfl,rfl,_, "; ",rfl,rfl,(by decide +kernel),(by omega),fun l nl=>?_⟩
    rw [show Txt.split x "; " = l0 ++ [t0] from e0]
    rw [e0] at hle htx
    have s1:=af.new (o:=.lst ((l0 ++ [t0]).map V.str)) nl
    have hl:(upd H l (.lst ((l0 ++ [t0]).map V.str))) l=some (.lst (l0.map V.str ++ [V.str t0])):=by rw [aa,List.map_append];rfl
    generalize (upd H l (.lst ((l0 ++ [t0]).map V.str)))=H1 at s1 hl ⊢
    refine aI ?_
    refine fun d1 nd1=>⟨aa,ip,rfl,(by show 5<=15;decide),?_⟩
    rw [uq]
    have s2:=af.new (o:=.dK (er [] ip)) nd1
    have hd1:=yt (H:=upd H1 d1 (.dK (er [] ip))) aa
    have hl2:=s2 _ _ hl
    have s02:=s1.trans s2
    generalize (upd H1 d1 (.dK (er [] ip)))=H2 at hd1 hl2 s02 ⊢
    refine aI ?_
    refine⟨_,rfl,_,rfl,_,rfl,l,_,rfl,ay.of hl2,fun l3 n3=>?_⟩
    rw [sD]
    have s3:=af.new (o:=.lst (l0.map V.str)) n3
    have hl3:(upd H2 l3 (.lst (l0.map V.str))) l3=some (.lst (l0.map V.str)):=aa
    have hlp:=s3 _ _ hl2
    have s03:=s02.trans s3
    have hd3:AG (upd H2 l3 (.lst (l0.map V.str))) d1 fu:=by obtain⟨kvs,e,k⟩:=hd1;exact⟨kvs,s3 _ _ e,k⟩
    generalize (upd H2 l3 (.lst (l0.map V.str)))=H3 at hl3 hlp s03 hd3 ⊢
    refine⟨l3,rfl,⟨_,ay.of hl3⟩,fun acc na=>?_⟩
    refine jV (K:=K) (a:=l3) (xs:=l0.map V.str) (fun i ys τ H'=>∃ c:Option V,τ = [c,some (.int (n:Nat)),some (.ref d1)]/\aN H' ys ((l0.take i).map hU)/\H' acc=some (.lst ys)/\af H3 H') ?_ ?_ ?_ ?_
    · exact⟨none,rfl,.nil,aa,af.new na⟩
    · rintro i ys τ H4 hi ⟨c,rfl,g1,g2,g3⟩
      refine⟨ay.of (g3 _ _ hl3),g2,aT ?_⟩
      rw [List.length_append] at hle
      rw [g1.len,List.length_map,List.length_take]
      omega
    · rintro i x' ys τ H4 hxi ⟨c',rfl,g1,g2,g3⟩
      refine aI ?_
      refine e7 ?_
      refine bo ?_
      have hlt:i < l0.length:=by
        obtain⟨z,_⟩:=List.getElem?_eq_some_iff.mp hxi
        rw [List.length_map] at z
        exact z
      have hd4:l0[i]? = some l0[i]:=List.getElem?_eq_getElem hlt
      have au:=htx _ (List.mem_append_left _ (List.mem_of_getElem? hd4))
      generalize l0[i] = ds at hd4 au
      rw [List.getElem?_map,hd4] at hxi
      cases hxi
      refine⟨_,rfl,_,rfl,_,rfl,ds,n,d1,fu,rfl,au,(by obtain⟨kvs,e,k⟩:=hd3;exact⟨kvs,g3 _ _ e,k⟩),fun _ _=>i0.zE,fun v H5 rd s5=>?_⟩
      rw [zW] at rd
      have g25:=s5 _ _ g2
      refine⟨g25,_,rfl,?_,aa,(g3.trans s5).put na⟩
      rw [List.take_add_one,hd4,List.map_append]
      refine aN.app ((g1.bB s5).put g25 (cF fun e he=>?_)) (rd.b5 (fun q zs e=>by rw [ar (jf e g25 (by intro z;cases z))];exact e) (qC ds))
      obtain⟨e',he',rfl⟩:=List.mem_map.mp he
      exact qC e'
    rintro ys τ H4 ⟨c',rfl,g1,g2,g3⟩
    rw [List.take_of_length_le (by rw [List.length_map];exact Nat.le_refl _)] at g1
    have hyl:=g1.len
    rw [List.length_map] at hyl
    refine aI ?_
    have s4:=s03.trans g3
    have hlp4:=g3 _ _ hlp
    refine⟨_,rfl,_,rfl,l,_,_,_,rfl,rfl,ay.of hlp4,m7 _ _,_,rfl,fun d2 nd2=>⟨aa,my,rfl,(by show 4<=15;decide),?_⟩⟩
    rw [uq]
    have s5:=af.new (o:=.dK (er [] my)) nd2
    refine⟨t0,n,d2,iZ,rfl,htx t0 (by simp),zV aa,fun _ _=>i0.end_,fun ev H6 re s6=>?_⟩
    rw [BR] at re
    refine aI ?_
    have s46:=s5.trans s6
    have g16:=g1.bB s46
    have g26:=s46 _ _ g2
    have s06:=s4.trans s46
    refine⟨_,rfl,acc,_,_,rfl,rfl,ay.of g26,g16,(fun e he=>by obtain⟨y,hy,rfl⟩:=List.mem_map.mp he;exact yu (htx y (List.mem_append_left _ hy))),_,rfl,?_⟩
    rw [zX]
    rw [sV] at q
    have qn:(decide (l0.length<=12) && ((l0.map fun t=>PyData.tuple (aO t)).all dI && kj (.tuple (aO t0)) n))=false->Q .aW H6:=fun h=>q _ H6 (by rw [h];exact .aW) s06
    cases hall:(l0.map fun t=>PyData.tuple (aO t)).all dI with
    | false =>
      refine bo (bo ?_)
      exact qn (by rw [hall,Bool.false_and,Bool.and_false])
    | true =>
    refine bE ?_
    rw [yw hall] at g16
    unfold zY at re
    cases hend:kj (.tuple (aO t0)) n with
    | false =>
      rw [hend,if_neg (by decide)] at re
      cases re
      refine⟨_,rfl,_,rfl,bo (bo ?_)⟩
      exact qn (by rw [hend,Bool.and_false,Bool.and_false])
    | true =>
    rw [hend,if_pos rfl] at re
    obtain⟨ep,ezs,rfl,hep,rez⟩:=bh.dN re
    refine⟨_,rfl,_,rfl,bE ?_⟩
    refine⟨_,rfl,acc,_,rfl,.inl (ay.of g26),_,_,rfl,rfl,_,rfl,?_⟩
    by_cases h12:l0.length<=12
    rotate_left
    · refine cf (decide_eq_true (by omega)) ?_
      exact qn (by rw [decide_eq_false h12,Bool.false_and])
    refine bO (decide_eq_false (by omega)) ?_
    refine⟨_,rfl,acc,_,rfl,.inl ⟨ay.of g26,fun t nt=>?_⟩⟩
    have st:=af.new (o:=.tup ys) nt
    refine⟨_,rfl,ln2,fun t2 nt2=>?_⟩
    have st2:=af.new (o:=.tup [.ref t,.ref ep]) nt2
    refine q (.ref t2) _ ?_ ((s06.trans st).trans st2)
    rw [decide_eq_true h12,hall,hend,if_pos (show (true && (true && true))=true from rfl)]
    exact .tup aa (.cons (.tup (st2 _ _ aa) (g16.bB (st.trans st2))) (.cons (re.bB (st.trans st2)) .nil))
theorem nV {f:Addr} {fd:FuncData} (F:bT K "_law_plan_read" "_law_plan_read" gH f fd) (Z:Bl mg) (O_law_piece_read:Own P w K mg base "_law_piece_read" 3 ["line", "count"] lT):aZ P w K mg base bS 4 f fd ["text"] vD:=by
 refine F.ok (k:=3) dH (fun vs H Q E h=>?_) (fun cdv A outer s H vs Q E hr h=>?_)
 ·obtain⟨x,rfl,_⟩:=h
  rfl
 ·obtain⟨x,rfl,hx,q⟩:=h
  refine⟨_,(ae (aP (i:=1) dH.nd (bU PySem.F.plainAttrs_str PySem.F.slot_str_split PySem.F.type_str_split d7 (pv 0) (av ao)))
   (ae (aQ (aB iC (aA aV rfl Z.len bG (av (pv 1))) ah (aK _))
   (ai (aw ao))
   aG)
   (ae (aP (i:=2) dH.nd (bX dQ))
   (ae (kZ PassesOwn.never rfl (eY rfl Z.range (av (aA aV rfl Z.len bG (av (pv 1))))) (bu (i:=3) dH.nd)
   (ae (aP (i:=4) dH.nd (aF O_law_piece_read hr (aL (bg br (pv 1) (pv 3)) (aA aV rfl Z.len bG (av (pv 1))))))
   (ae (aQ (fJ (fH (pv 4)))
   (ai (aw (pv 3)))
   aG)
   (ai (gQ (bU PySem.F.plainAttrs_list PySem.F.slot_list_append PySem.F.type_list_append eD (pv 2) (av (pv 4))))))))
   (ai (aw (bV cK rfl Z.tuple dm (av (pv 2))))))))),?_⟩
  have hfew:=hx.b3
  obtain⟨hn0,hn1⟩:=nJ hx
  have htx:=i9 hx
  refine⟨_,rfl,rfl,_, "\n",rfl,rfl,(by decide +kernel),(by omega),fun l nl=>?_⟩
  rw [show Txt.split x "\n" = bC x from rfl]
  unfold eg dY at q
  generalize bC x=ls at *
  have s1:=af.new (o:=.lst (ls.map V.str)) nl
  have hl:(upd H l (.lst (ls.map V.str))) l=some (.lst (ls.map V.str)):=aa
  generalize (upd H l (.lst (ls.map V.str)))=H1 at s1 hl ⊢
  have hll:(ls.map V.str).length=ls.length:=List.length_map ..
  refine⟨_,rfl,l,_,rfl,.inl (ay.of hl),_,_,rfl,rfl,_,rfl,?_⟩
  by_cases h400:400 < ls.length
  ·refine cf (decide_eq_true (by omega)) ?_
   rw [if_pos h400] at q
   exact q _ _ (.str _) s1
  refine bO (decide_eq_false (by omega)) ?_
  rw [if_neg h400] at q
  have h4:ls.length<=400:=by omega
  refine⟨(by show 0<=sizeLine;decide),fun pa npa=>?_⟩
  refine aI ?_
  have npl:l ≠ pa:=aX hl npa
  have s2:=af.new (o:=.lst []) npa
  have hpa:(upd H1 pa (.lst [])) pa=some (.lst []):=aa
  have hl2:=s2 _ _ hl
  have s02:=s1.trans s2
  have npH:H pa=none:=by
   cases z:H pa with
   | none=>rfl
   | some o=>rw [s1 _ _ z] at npa;cases npa
  generalize (upd H1 pa (.lst []))=H2 at hpa hl2 s02 ⊢
  refine⟨_,rfl,l,_,rfl,.inl (ay.of hl2),_,rfl,(by rw [hll];omega),(by rw [hll];omega),ji (lo:=0) (fun i σ H'=>∃ (c1 c2:Option V) (fs:List V),σ = [some (.str x),some (.ref l),some (.ref pa),c1,c2]/\H' pa=some (.lst fs)/\H' l=some (.lst (ls.map V.str))/\aN H' fs ((ls.take i).map bp)/\(∀ j y,j < i->ls[j]? = some y->b9 (bp y) ls.length=true)/\af H H') ?_ ?_ ?_⟩
  ·exact⟨_,_,[],rfl,hpa,hl2,.nil,fun j y h=>absurd h (Nat.not_lt_zero _),s02⟩
  ·rintro i σ H4 hi ⟨c1,c2,fs,rfl,g1,g2,g3,g4,g5⟩
   have hi:i < ls.length:=by rw [hll] at hi;omega
   have hd4:ls[i]? = some ls[i]:=List.getElem?_eq_getElem hi
   generalize ls[i] = y at hd4
   have fl:=g3.len
   rw [List.length_map,List.length_take] at fl
   rw [Int.zero_add]
   refine aI ?_
   refine⟨_,rfl,_,rfl,l,_,_,_,rfl,rfl,ay.of g2,di (by rw [List.getElem?_map,hd4];rfl),_,rfl,l,_,rfl,.inl (ay.of g2),y,ls.length,(by rw [hll];rfl),htx y (List.mem_of_getElem? hd4),fun v H5 rv s5=>?_⟩
   refine aI ?_
   have g15:=s5 _ _ g1
   unfold oQ at rv
   cases hp:b9 (bp y) ls.length with
   | false =>
    rw [hp,if_neg (by decide)] at rv
    cases rv
    refine⟨_,rfl,_,rfl,bo ?_⟩
    refine⟨_,rfl,q _ H5 ?_ (g5.trans s5)⟩
    have hb:ls.findIdx? (fun l=>!b9 (bp l) ls.length)=some i:=by
     rw [List.findIdx?_eq_some_iff_getElem]
     refine⟨hi,?_,fun j hj=>?_⟩
     ·rw [(List.getElem?_eq_some_iff.mp hd4).2,hp];rfl
     ·rw [g4 j _ hj (List.getElem?_eq_getElem (by omega))];decide
    rw [hb]
    exact .int _
   | true =>
    rw [hp,if_pos rfl] at rv
    obtain⟨pp,zs,rfl,ep,rz⟩:=bh.dN rv
    refine⟨_,rfl,_,rfl,bE ?_⟩
    refine⟨_,rfl,.inl ⟨rfl,_,ay.of g15⟩,_,rfl,pa,_,_,rfl,rfl,g15,aT (by omega),?_⟩
    refine⟨_,_,_,rfl,aa,(by rw [ar npl];exact s5 _ _ g2),?_,fun j y' hj e2=>?_,fun b o hb=>by rw [ar (aX hb npH)];exact s5 _ _ (g5 _ _ hb)⟩
    ·rw [List.take_add_one,hd4,List.map_append]
     refine aN.app ((g3.bB s5).put g15 (cF fun e he=>by obtain⟨y,_,rfl⟩:=List.mem_map.mp he;exact ik y)) ?_
     exact rv.b5 (fun q zs e=>by rw [ar (fun z=>by rw [z,g15] at e;cases e)];exact e) (ik y)
    ·by_cases z:j=i
     ·subst z
      rw [hd4] at e2
      cases e2
      exact hp
     ·exact g4 j y' (by omega) e2
  rintro σ H4 ⟨c1,c2,fs,rfl,g1,g2,g3,g4,g5⟩
  rw [List.take_of_length_le (by rw [hll];omega)] at g3
  have hb:ls.findIdx? (fun l=>!b9 (bp l) ls.length)=none:=by
   rw [List.findIdx?_eq_none_iff]
   intro y hy
   obtain⟨j,hj⟩:=List.getElem?_of_mem hy
   rw [g4 j y (by rw [hll];have:=(List.getElem?_eq_some_iff.mp hj).1;omega) hj]
   rfl
  rw [hb] at q
  refine⟨_,rfl,pa,_,rfl,.inl ⟨ay.of g1,fun t nt=>?_⟩⟩
  have st:=af.new (o:=.tup fs) nt
  exact q (.ref t) _ (.tup aa (g3.bB st)) (g5.trans st)
theorem tG {f:Addr} {fd:FuncData} (F:bT K "_law_moved" "_law_moved" jJ f fd) (Z:Bl mg) (O_law_take:Own P w K mg base "_law_take" 1 ["bag", "many"] fN):aZ P w K mg base bS 2 f fd ["bag", "some", "new"] (EF sT sU):=by
 refine F.ok (k:=1) fg (fun vs H Q E h=>?_) (fun cdv A outer s H vs Q E hr h=>?_)
 ·rcases h with h | h
  ·obtain⟨b,x,y,m,k,rfl,_⟩:=h
   rfl
  ·obtain⟨b,p,pq,xs,y,rfl,_⟩:=h
   rfl
 ·rcases h with h | h
  ·obtain⟨b,x,y,m,k,rfl,hB,hx,hy,hm,hk,q⟩:=h
   refine⟨_,(ae (aP (i:=3) fg.nd (aF O_law_take hr (aL (pv 0) (aH bR (aA cB rfl Z.len bG (av (pv 1))) ah))))
   (ae (aP (i:=4) fg.nd (aF O_law_take hr (aL (pv 0) ah)))
   (ae (aQ (aB bW (pv 4) ah (aK _))
   (ai (aw (aH cu (ba dX (pv 1) bF (bc (pv 3))) (ba dX (pv 1) (bc (aH bR (pv 3) ah)) bF))))
   aG)
   (ae (aQ (aB bW (pv 4) ah (aK _))
   (ai (aw (aH cu (ba dX (pv 1) bF (bc (aH bR (pv 3) ah))) (ba dX (pv 1) (bc (pv 3)) bF))))
   aG)
   (ae (aQ (aB bW (pv 4) ah (aK _))
   (ai (aw (aH cu (aH cu (ba dX (pv 1) bF (bc (pv 3))) (pv 2)) (ba dX (pv 1) (bc (pv 3)) bF))))
   aG)
   (ae (aQ (aB bW (pv 4) ah (aK _))
   (ai (aw (aH cu (aH cu (ba dX (pv 1) bF (bc (pv 3))) (Bj (ba dX (pv 1) (bc (pv 3)) (bc (aH bR (pv 3) ah))) (bc (j9 iN ah)))) (ba dX (pv 1) (bc (aH bR (pv 3) ah)) bF))))
   aG)
   (ai (aw (aH cu (aH cu (ba dX (pv 1) bF (bc (pv 3))) (pv 2)) (ba dX (pv 1) (bc (aH bR (pv 3) ah)) bF)))))))))),?_⟩
   have hxf:=hx.b3
   have hyf:=hy.b3
   refine⟨_,rfl,_,rfl,x,rfl,Nat.le_of_lt (aT (by omega)),_,_,rfl,rfl,b,_,rfl,hB,⟨by omega,eM (by omega) (by omega)⟩,fun at_ H1 a0 a1 B1 X1=>?_⟩
   refine⟨_,rfl,b,5,rfl,B1,⟨by decide,by decide +kernel⟩,fun wy H2 w0 w1 B2 X2=>?_⟩
   have X12:=X1.trans X2
   have lx:x.length<=1000000:=by omega
   have fin:∀ z:Str,bf (3 * m+k) z->Q (.str z) H2:=fun z hz=>q z H2 hz B2 X12
   have sl:∀ (a b:Option Int),(Txt.slice x a b).length<=m:=fun a b=>Nat.le_trans (Txt.slice_le x a b) hxf
   have slx:=fun a b=>hx.slice a b
   have le2:∀ {u v:Str} {i j:Nat},bf i u->bf j v->i+j<=1000000->u.length+v.length<=sizeLine:=fun h1 h2 h3=>Nat.le_of_lt (aT (by have:=h1.b3;have:=h2.b3;omega))
   refine aI ?_
   refine⟨_,rfl,rfl,_,rfl,?_⟩
   refine cC (fun _=>?_) (fun _=>?_)
   ·exact⟨_,rfl,_,rfl,_,rfl,x,rfl,lx,_,rfl,_,rfl,_,_,rfl,rfl,_,rfl,x,rfl,lx,_,_,rfl,rfl,le2 (slx _ _) (slx _ _) (by omega),fin _ (((slx _ _).app (slx _ _)).mono (by omega))⟩
   refine⟨_,rfl,rfl,_,rfl,?_⟩
   refine cC (fun _=>?_) (fun _=>?_)
   ·exact⟨_,rfl,_,rfl,_,_,rfl,rfl,_,rfl,x,rfl,lx,_,rfl,_,rfl,_,rfl,x,rfl,lx,_,_,rfl,rfl,le2 (slx _ _) (slx _ _) (by omega),fin _ (((slx _ _).app (slx _ _)).mono (by omega))⟩
   refine⟨_,rfl,rfl,_,rfl,?_⟩
   refine cC (fun _=>?_) (fun _=>?_)
   ·exact⟨_,rfl,_,rfl,_,rfl,x,rfl,lx,_,rfl,_,_,rfl,rfl,le2 (slx _ _) hy (by omega),_,rfl,_,rfl,_,rfl,x,rfl,lx,_,_,rfl,rfl,le2 ((slx _ _).app hy) (slx _ _) (by omega),fin _ ((((slx _ _).app hy).app (slx _ _)).mono (by omega))⟩
   refine⟨_,rfl,rfl,_,rfl,?_⟩
   refine cC (fun _=>?_) (fun _=>?_)
   ·refine⟨_,rfl,_,rfl,_,rfl,x,rfl,lx,⟨_,rfl,_,rfl,_,rfl,_,rfl,_,_,rfl,rfl,_,rfl,x,rfl,lx,?_⟩⟩
    refine⟨_,rfl,_,rfl,rfl,_,rfl,Nat.le_trans (sl _ _) (by omega),fun y2 h1 h2=>?_⟩
    have hy2:bf m y2:=⟨Nat.le_trans h1 (sl _ _),fun c hc=>(slx _ _).ok c (h2 c hc)⟩
    exact⟨_,_,rfl,rfl,le2 (slx _ _) hy2 (by omega),_,rfl,_,rfl,_,_,rfl,rfl,_,rfl,x,rfl,lx,_,_,rfl,rfl,le2 ((slx _ _).app hy2) (slx _ _) (by omega),fin _ ((((slx _ _).app hy2).app (slx _ _)).mono (by omega))⟩
   ·exact⟨_,rfl,_,rfl,_,rfl,x,rfl,lx,_,rfl,_,_,rfl,rfl,le2 (slx _ _) hy (by omega),_,rfl,_,rfl,_,_,rfl,rfl,_,rfl,x,rfl,lx,_,_,rfl,rfl,le2 ((slx _ _).app hy) (slx _ _) (by omega),fin _ ((((slx _ _).app hy).app (slx _ _)).mono (by omega))⟩
  ·obtain⟨b,p,pq,xs,y,rfl,hB,hp,hq,hm,hk,q⟩:=h
   refine⟨_,(ae (aP (i:=3) fg.nd (aF O_law_take hr (aL (pv 0) (aH bR (aA aV rfl Z.len bG (av (pv 1))) ah))))
   (ae (aP (i:=4) fg.nd (aF O_law_take hr (aL (pv 0) ah)))
   (ae (aQ (aB bW (pv 4) ah (aK _))
   (ai (aw (aH fM (ba cH (pv 1) bF (bc (pv 3))) (ba cH (pv 1) (bc (aH bR (pv 3) ah)) bF))))
   aG)
   (ae (aQ (aB bW (pv 4) ah (aK _))
   (ai (aw (aH fM (ba cH (pv 1) bF (bc (aH bR (pv 3) ah))) (ba cH (pv 1) (bc (pv 3)) bF))))
   aG)
   (ae (aQ (aB bW (pv 4) ah (aK _))
   (ai (aw (aH fM (aH fM (ba cH (pv 1) bF (bc (pv 3))) (pv 2)) (ba cH (pv 1) (bc (pv 3)) bF))))
   aG)
   (ae (aQ (aB bW (pv 4) ah (aK _))
   (ai (aw (aH fM (aH fM (ba cH (pv 1) bF (bc (pv 3))) (Bi (ba cH (pv 1) (bc (pv 3)) (bc (aH bR (pv 3) ah))) (bc (j9 iN ah)))) (ba cH (pv 1) (bc (aH bR (pv 3) ah)) bF))))
   aG)
   (ai (aw (aH fM (aH fM (ba cH (pv 1) bF (bc (pv 3))) (pv 2)) (ba cH (pv 1) (bc (aH bR (pv 3) ah)) bF)))))))))),?_⟩
   have hxl:=dn xs
   have hml:(xs.map V.str).length=xs.length:=List.length_map ..
   refine⟨_,rfl,_,rfl,p,_,rfl,.inl (ay.of hp),_,_,rfl,rfl,b,_,rfl,hB,⟨by omega,eM (by omega) (by omega)⟩,fun at_ H1 a0 a1 B1 X1=>?_⟩
   refine⟨_,rfl,b,5,rfl,B1,⟨by decide,by decide +kernel⟩,fun wy H2 w0 w1 B2 X2=>?_⟩
   have X12:=X1.trans X2
   have npb:p ≠ b:=hB.yx hp
   have nqb:pq ≠ b:=hB.yx (xs:=[y]) hq
   have hp2:=X12 _ _ hp npb
   have hq2:=X12 _ _ hq nqb
   have fin:∀ (l:Addr) (zs:List Str) (H':Hp),af H2 H'->H' l=some (.lst (zs.map V.str))->(mu zs<=3 * mu xs\/mu zs<=2 * mu xs+mu [y])->(∀ z ∈ zs,z ∈ xs\/z=y)->Q (.ref l) H':=fun l zs H' s hl h1 h2=>q l zs H' hl h1 h2 (B2.same s) (X12.trans fun c o e _=>s c o e)
   have lens:∀ {u v:List Str},u.Sublist xs->v.Sublist xs->(u.map V.str).length+(v.map V.str).length<=sizeLine:=fun {u v} h1 h2=>by
    have:=dn u;have:=bY h1;have:=dn v;have:=bY h2
    rw [List.length_map,List.length_map]
    exact Nat.le_of_lt (aT (by omega))
   refine aI ?_
   refine⟨_,rfl,rfl,_,rfl,?_⟩
   refine cC (fun _=>?_) (fun _=>?_)
   ·obtain⟨u1,eu1,su1⟩:=eB xs none (some at_)
    refine⟨_,rfl,_,rfl,_,rfl,p,_,rfl,ay.of hp2,fun l1 n1=>?_⟩
    rw [eu1]
    have sA1:=af.new (o:=.lst (u1.map V.str)) n1
    have hp3:=sA1 _ _ hp2
    obtain⟨u2,eu2,su2⟩:=eB xs (some (at_+1)) none
    refine⟨_,rfl,_,rfl,_,_,rfl,rfl,_,rfl,p,_,rfl,ay.of hp3,fun l2 n2=>?_⟩
    rw [eu2]
    have sA2:=af.new (o:=.lst (u2.map V.str)) n2
    refine⟨l1,l2,_,_,rfl,rfl,sA2 _ _ aa,aa,lens su1 su2,fun l3 n3=>?_⟩
    rw [<-List.map_append]
    exact fin l3 (u1++u2) _ ((sA1.trans sA2).trans (af.new n3)) aa (.inl (by rw [il];have:=bY su1;have:=bY su2;omega)) fun z hz=>.inl ((List.mem_append.mp hz).elim (su1.subset ·) (su2.subset ·))
   refine⟨_,rfl,rfl,_,rfl,?_⟩
   refine cC (fun _=>?_) (fun _=>?_)
   ·obtain⟨u1,eu1,su1⟩:=eB xs none (some (at_+1))
    refine⟨_,rfl,_,rfl,_,_,rfl,rfl,_,rfl,p,_,rfl,ay.of hp2,fun l1 n1=>?_⟩
    rw [eu1]
    have sA1:=af.new (o:=.lst (u1.map V.str)) n1
    have hp3:=sA1 _ _ hp2
    obtain⟨u2,eu2,su2⟩:=eB xs (some at_) none
    refine⟨_,rfl,_,rfl,_,rfl,p,_,rfl,ay.of hp3,fun l2 n2=>?_⟩
    rw [eu2]
    have sA2:=af.new (o:=.lst (u2.map V.str)) n2
    refine⟨l1,l2,_,_,rfl,rfl,sA2 _ _ aa,aa,lens su1 su2,fun l3 n3=>?_⟩
    rw [<-List.map_append]
    exact fin l3 (u1++u2) _ ((sA1.trans sA2).trans (af.new n3)) aa (.inl (by rw [il];have:=bY su1;have:=bY su2;omega)) fun z hz=>.inl ((List.mem_append.mp hz).elim (su1.subset ·) (su2.subset ·))
   refine⟨_,rfl,rfl,_,rfl,?_⟩
   refine cC (fun _=>?_) (fun _=>?_)
   ·obtain⟨u1,eu1,su1⟩:=eB xs none (some at_)
    refine⟨_,rfl,_,rfl,_,rfl,p,_,rfl,ay.of hp2,fun l1 n1=>?_⟩
    rw [eu1]
    have sA1:=af.new (o:=.lst (u1.map V.str)) n1
    have hp3:=sA1 _ _ hp2
    have hq3:=sA1 _ _ hq2
    refine⟨_,rfl,l1,pq,_,_,rfl,rfl,aa,hq3,(by have:=dn u1;have:=bY su1;rw [List.length_map];exact Nat.le_of_lt (aT (by show _+1<=_;omega))),fun l4 n4=>?_⟩
    have sA4:=af.new (o:=.lst (u1.map V.str ++ [V.str y])) n4
    have hp4:=sA4 _ _ hp3
    obtain⟨u2,eu2,su2⟩:=eB xs (some at_) none
    refine⟨_,rfl,_,rfl,_,rfl,p,_,rfl,ay.of hp4,fun l2 n2=>?_⟩
    rw [eu2]
    have sA2:=af.new (o:=.lst (u2.map V.str)) n2
    refine⟨l4,l2,_,_,rfl,rfl,sA2 _ _ aa,aa,(by have:=dn u1;have:=bY su1;have:=dn u2;have:=bY su2;rw [List.length_append,List.length_map,List.length_map];exact Nat.le_of_lt (aT (by show _+1+_<=_;omega))),fun l3 n3=>?_⟩
    rw [show u1.map V.str ++ [V.str y] ++ u2.map V.str=(u1 ++ [y] ++ u2).map V.str by rw [List.map_append,List.map_append];rfl]
    exact fin l3 (u1 ++ [y] ++ u2) _ (((sA1.trans sA4).trans sA2).trans (af.new n3)) aa (.inr (by rw [il,il];have:=bY su1;have:=bY su2;omega)) fun z hz=>by
     rcases List.mem_append.mp hz with hz | hz
     ·rcases List.mem_append.mp hz with hz | hz
      ·exact .inl (su1.subset hz)
      ·exact .inr (List.mem_singleton.mp hz)
     ·exact .inl (su2.subset hz)
   refine⟨_,rfl,rfl,_,rfl,?_⟩
   refine cC (fun _=>?_) (fun _=>?_)
   ·obtain⟨u1,eu1,su1⟩:=eB xs none (some at_)
    refine⟨_,rfl,_,rfl,_,rfl,p,_,rfl,ay.of hp2,fun l1 n1=>?_⟩
    rw [eu1]
    have sA1:=af.new (o:=.lst (u1.map V.str)) n1
    have hp3:=sA1 _ _ hp2
    obtain⟨u5,eu5,su5⟩:=eB xs (some at_) (some (at_+2))
    refine⟨_,rfl,_,rfl,_,rfl,_,rfl,_,_,rfl,rfl,_,rfl,p,_,rfl,ay.of hp3,fun l5 n5=>?_⟩
    rw [eu5]
    have sA5:=af.new (o:=.lst (u5.map V.str)) n5
    refine⟨_,rfl,_,rfl,rfl,l5,_,rfl,ay.of aa,fun l6 n6=>?_⟩
    have sA6:=af.new (o:=.lst (u5.map V.str).reverse) n6
    refine⟨l1,l6,_,_,rfl,rfl,sA6 _ _ (sA5 _ _ aa),aa,(by have:=dn u1;have:=bY su1;have:=dn u5;have:=bY su5;rw [List.length_reverse,List.length_map,List.length_map];exact Nat.le_of_lt (aT (by omega))),fun l4 n4=>?_⟩
    have sA4:=af.new (o:=.lst (u1.map V.str++(u5.map V.str).reverse)) n4
    have hp4:=sA4 _ _ (sA6 _ _ (sA5 _ _ hp3))
    obtain⟨u2,eu2,su2⟩:=eB xs (some (at_+2)) none
    refine⟨_,rfl,_,rfl,_,_,rfl,rfl,_,rfl,p,_,rfl,ay.of hp4,fun l2 n2=>?_⟩
    rw [eu2]
    have sA2:=af.new (o:=.lst (u2.map V.str)) n2
    refine⟨l4,l2,_,_,rfl,rfl,sA2 _ _ aa,aa,(by have:=dn u1;have:=bY su1;have:=dn u5;have:=bY su5;have:=dn u2;have:=bY su2;rw [List.length_append,List.length_reverse,List.length_map,List.length_map,List.length_map];exact Nat.le_of_lt (aT (by omega))),fun l3 n3=>?_⟩
    rw [show u1.map V.str++(u5.map V.str).reverse++u2.map V.str=(u1++u5.reverse++u2).map V.str by rw [List.map_append,List.map_append,List.map_reverse]]
    exact fin l3 (u1++u5.reverse++u2) _ (((((sA1.trans sA5).trans sA6).trans sA4).trans sA2).trans (af.new n3)) aa (.inl (by rw [il,il,Dx];have:=bY su1;have:=bY su2;have:=bY su5;omega)) fun z hz=>by
     rcases List.mem_append.mp hz with hz | hz
     ·rcases List.mem_append.mp hz with hz | hz
      ·exact .inl (su1.subset hz)
      ·exact .inl (su5.subset (List.mem_reverse.mp hz))
     ·exact .inl (su2.subset hz)
   ·obtain⟨u1,eu1,su1⟩:=eB xs none (some at_)
    refine⟨_,rfl,_,rfl,_,rfl,p,_,rfl,ay.of hp2,fun l1 n1=>?_⟩
    rw [eu1]
    have sA1:=af.new (o:=.lst (u1.map V.str)) n1
    have hp3:=sA1 _ _ hp2
    have hq3:=sA1 _ _ hq2
    refine⟨_,rfl,l1,pq,_,_,rfl,rfl,aa,hq3,(by have:=dn u1;have:=bY su1;rw [List.length_map];exact Nat.le_of_lt (aT (by show _+1<=_;omega))),fun l4 n4=>?_⟩
    have sA4:=af.new (o:=.lst (u1.map V.str ++ [V.str y])) n4
    have hp4:=sA4 _ _ hp3
    obtain⟨u2,eu2,su2⟩:=eB xs (some (at_+1)) none
    refine⟨_,rfl,_,rfl,_,_,rfl,rfl,_,rfl,p,_,rfl,ay.of hp4,fun l2 n2=>?_⟩
    rw [eu2]
    have sA2:=af.new (o:=.lst (u2.map V.str)) n2
    refine⟨l4,l2,_,_,rfl,rfl,sA2 _ _ aa,aa,(by have:=dn u1;have:=bY su1;have:=dn u2;have:=bY su2;rw [List.length_append,List.length_map,List.length_map];exact Nat.le_of_lt (aT (by show _+1+_<=_;omega))),fun l3 n3=>?_⟩
    rw [show u1.map V.str ++ [V.str y] ++ u2.map V.str=(u1 ++ [y] ++ u2).map V.str by rw [List.map_append,List.map_append];rfl]
    exact fin l3 (u1 ++ [y] ++ u2) _ (((sA1.trans sA4).trans sA2).trans (af.new n3)) aa (.inr (by rw [il,il];have:=bY su1;have:=bY su2;omega)) fun z hz=>by
     rcases List.mem_append.mp hz with hz | hz
     ·rcases List.mem_append.mp hz with hz | hz
      ·exact .inl (su1.subset hz)
      ·exact .inr (List.mem_singleton.mp hz)
     ·exact .inl (su2.subset hz)
theorem ml {f:Addr} {fd:FuncData} (F:bT K "_law_text_spoilt" "_law_text_spoilt" fG f fd) (Z:Bl mg) (O_law_take:Own P w K mg base "_law_take" 1 ["bag", "many"] fN) (O_law_moved:Own P w K mg base "_law_moved" 2 ["bag", "some", "new"] (EF sT sU)):aZ P w K mg base bS 3 f fd ["bag", "text"] qB:=by
 refine F.FF (k:=2) bK (fun vs H Q E h=>?_) (fun cdv A outer s H vs Q E hr h=>?_)
 ·obtain⟨b,x,m,rfl,_⟩:=h
  rfl
 ·obtain⟨b,x,m,rfl,hB,hx,hm,q⟩:=h
  refine⟨_,(de (gx (i:=2) bK.nd (d8.mk ao))
   (de (gx (i:=2) bK.nd (d8.mk (aH cu (pv 2) ao)))
   (de (gx (i:=3) bK.nd (d8.mk (aF O_law_take hr (aL (pv 0) ah))))
   (de (xW (aB bW (pv 3) ah (aK _))
   (de (gx (i:=4) bK.nd (d8.mk (bg br (bX (du (bg lj (pv 2) (aF O_law_take hr (aL (pv 0) (aA cB rfl Z.len bG (av (pv 2)))))) ao ao)) (aA (xl rfl) rfl Z.max CK (aL ah (aH iL (aF O_law_take hr (aL (pv 0) ah)) ah))))))
   (ni (pA (d8.mk (aF O_law_moved hr (du (pv 0) (pv 1) (pv 4)))))))
   sj)
   (de (xW (aB bW (pv 3) ah (aK _))
   (de (gx (i:=5) bK.nd (d8.mk (bU PySem.F.plainAttrs_str PySem.F.slot_str_split PySem.F.type_str_split d7 (pv 1) (av ao))))
   (de (gx (i:=6) bK.nd (pB (bb bL (bb bL (bb bL (bb bL (bb bL (bb bL (bb bL (bb bL (bb bL (bb bL (bb bL (bb bL (bb bL (bb bL (bb bL pC)))))))))))))))))
   (de (gx (i:=6) bK.nd (C8 fM (d8.mk (pv 6)) (pB (bb bL (bb (d8.mk (aH pN ao ah)) (bb (d8.mk (aH cu ao (aH pN ao ah))) (bb bL (bb bL (bb bL (bb bL (bb (d8.mk (bg br (pv 5) (aF O_law_take hr (aL (pv 0) (aA aV rfl Z.len bG (av (pv 5))))))) pC)))))))))))
   (ni (pA (d8.mk (bU PySem.F.plainAttrs_str PySem.F.slot_str_join PySem.F.type_str_join dM ao (av (aF O_law_moved hr (du (pv 0) (pv 5) (bX (av (bg br (pv 6) (aF O_law_take hr (aL (pv 0) ah)))))))))))))))
   sj)
   (de (gx (i:=7) bK.nd (d8.mk (bU PySem.F.plainAttrs_str PySem.F.slot_str_split PySem.F.type_str_split d7 (pv 1) (av ao))))
   (de (gx (i:=6) bK.nd (pB (bb bL (bb bL (bb bL (bb bL (bb bL (bb bL (bb bL (bb (d8.mk (bg br (pv 7) (aF O_law_take hr (aL (pv 0) (aA aV rfl Z.len bG (av (pv 7))))))) pC))))))))))
   (ni (pA (d8.mk (bU PySem.F.plainAttrs_str PySem.F.slot_str_join PySem.F.type_str_join dM ao (av (aF O_law_moved hr (du (pv 0) (pv 7) (bX (av (bg br (pv 6) (aF O_law_take hr (aL (pv 0) ah))))))))))))))))))),?_⟩
  have hxf:=hx.b3
  refine⟨_,rfl,_,_,rfl,rfl,(by decide +kernel),?_⟩
  have hS:bf 100 ((" !&()*+,-./0123456789:;<=>?@ABCDEFGHIJKLMNOPQRSTUVWXYZ[]^_" : Str)++("abcdefghijklmnopqrstuvwxyz{|}~\n\"#$`'\\" : Str)):=⟨by decide +kernel,by decide +kernel⟩
  have hS0:0 < ((" !&()*+,-./0123456789:;<=>?@ABCDEFGHIJKLMNOPQRSTUVWXYZ[]^_" : Str)++("abcdefghijklmnopqrstuvwxyz{|}~\n\"#$`'\\" : Str)).length:=by decide +kernel
  generalize ((" !&()*+,-./0123456789:;<=>?@ABCDEFGHIJKLMNOPQRSTUVWXYZ[]^_" : Str)++("abcdefghijklmnopqrstuvwxyz{|}~\n\"#$`'\\" : Str))=S at hS hS0
  have hSf:=hS.b3
  refine aI ?_
  refine⟨_,rfl,b,3,rfl,hB,⟨by decide,by decide +kernel⟩,fun lv H1 lv0 lv1 B1 X1=>?_⟩
  refine aI ?_
  refine⟨_,rfl,rfl,_,rfl,?_⟩
  refine cC (fun _=>?_) (fun _=>?_)
  ·refine⟨_,rfl,_,rfl,_,rfl,S,rfl,Nat.le_of_lt (bD (by omega)),b,_,rfl,B1,⟨by omega,eM (by omega) (by omega)⟩,fun r H2 r0 r1 B2 X2=>?_⟩
   obtain⟨c,hat,hc,_⟩:=A7 hS r0 r1
   refine⟨S,r,c,rfl,rfl,Nat.le_of_lt (bD (by omega)),hat,mK,fun l1 n1=>?_⟩
   have B3:=B2.new (o:=.lst [V.str ⟨#[c]⟩,V.str "; ",V.str "\n"]) n1
   refine⟨_,rfl,b,8,rfl,B3,⟨by decide,by decide +kernel⟩,fun r2 H4 r20 r21 B4 X4=>⟨_,_,rfl,rfl,_,_,rfl,?_⟩⟩
   have h4:H4 l1=some (.lst [V.str ⟨#[c]⟩,V.str "; ",V.str "\n"]):=X4 _ _ aa (B2.cZ n1)
   obtain⟨sn,hsn,htn⟩:∃ sn,eZ [V.str ⟨#[c]⟩,V.str "; ",V.str "\n"] (if r2 - 5 > 0 then r2 - 5 else 0)=some (V.str sn)/\bf 2 sn:=by
    have h1:bf 2 (⟨#[c]⟩:Str):=(bf.one hc).mono (by decide)
    have h2:bf 2 ("; " : Str):=⟨by decide +kernel,by decide +kernel⟩
    have h3:bf 2 ("\n" : Str):=⟨by decide +kernel,by decide +kernel⟩
    obtain e | e | e:(if r2 - 5 > 0 then r2 - 5 else 0)=0\/(if r2 - 5 > 0 then r2 - 5 else 0)=1\/(if r2 - 5 > 0 then r2 - 5 else 0)=2:=by split <;> omega
    ·rw [e];exact⟨_,gf,h1⟩
    ·rw [e];exact⟨_,qe,h2⟩
    ·rw [e];exact⟨_,at2,h3⟩
   refine⟨l1,_,_,_,rfl,rfl,ay.of h4,hsn,?_⟩
   refine aI ?_
   exact⟨_,rfl,_,rfl,_,rfl,.inl ⟨b,x,sn,m,2,rfl,B4,hx,htn,(by omega),(by omega),fun z H' hz B' X'=>q z H' (hz.mono (by omega)) B' ((((X1.trans X2).trans (Fix.new n1)).trans X4).trans X')⟩⟩
  refine⟨_,rfl,rfl,_,rfl,?_⟩
  refine cC (fun _=>?_) (fun _=>?_)
  ·refine⟨_,rfl,rfl,_, " ",rfl,rfl,(by decide +kernel),(by omega),fun l nl=>?_⟩
   have hmu:=sS (x:=x) eQ (show (" " : Str).length=1 by decide +kernel)
   have htx:=iX eQ gA hx
   obtain⟨w0,ws0,e0⟩:=dA (x:=x) eQ gA
   have hpos:0 < (Txt.split x " ").length:=by rw [e0];exact Nat.succ_pos _
   clear e0
   have hml:=dn (Txt.split x " ")
   generalize Txt.split x " " = ws at hmu htx hpos hml ⊢
   have hwl:(ws.map V.str).length=ws.length:=List.length_map ..
   have B2:=B1.new (o:=.lst (ws.map V.str)) nl
   have nlb:l ≠ b:=B1.cZ nl
   have X2:Fix b H (upd H1 l (.lst (ws.map V.str))):=X1.trans (Fix.new nl)
   have hl:(upd H1 l (.lst (ws.map V.str))) l=some (.lst (ws.map V.str)):=aa
   generalize (upd H1 l (.lst (ws.map V.str)))=H2 at B2 X2 hl ⊢
   refine aI ?_
   refine⟨(by show 15<=sizeLine;decide),fun l2 n2=>?_⟩
   have B3:=B2.new (o:=.lst (c15.map V.str)) n2
   have n2b:l2 ≠ b:=B2.cZ n2
   have X3:Fix b H (upd H2 l2 (.lst (c15.map V.str))):=X2.trans (Fix.new n2)
   have hl3:(upd H2 l2 (.lst (c15.map V.str))) l=some (.lst (ws.map V.str)):=af.new n2 _ _ hl
   have h23:(upd H2 l2 (.lst (c15.map V.str))) l2=some (.lst (c15.map V.str)):=aa
   change (_:Hp->Prop) (upd H2 l2 (.lst (c15.map V.str)))
   generalize (upd H2 l2 (.lst (c15.map V.str)))=H3 at B3 X3 hl3 h23 ⊢
   refine aI ?_
   refine⟨_,rfl,_,_,rfl,rfl,Fp,_,_,rfl,rfl,Fq,_,_,rfl,rfl,(by decide +kernel),_,rfl,_,rfl,_,rfl,l,_,rfl,.inl (ay.of hl3),b,_,rfl,B3,⟨by omega,eM (by omega) (by omega)⟩,fun r H4 r0 r1 B4 X4=>?_⟩
   have hl4:=X4 _ _ hl3 nlb
   have h24:=X4 _ _ h23 n2b
   obtain⟨wd,hwd,hwm⟩:=fU (xs:=ws) r0 (by omega)
   refine⟨l,_,_,_,rfl,rfl,ay.of hl4,hwd,(by show 8<=sizeLine;decide),fun l3 n3=>?_⟩
   have s3:=af.new (o:=.lst (c7.map V.str ++ [V.str wd])) n3
   have h33:(upd H4 l3 (.lst (c7.map V.str ++ [V.str wd]))) l3=some (.lst (c7.map V.str ++ [V.str wd])):=aa
   have B5:=B4.same s3
   have X5:Fix b H (upd H4 l3 (.lst (c7.map V.str ++ [V.str wd]))):=(X3.trans X4).trans (Fix.new n3)
   have hl5:=s3 _ _ hl4
   have h25:=s3 _ _ h24
   change (_:Hp->Prop) (upd H4 l3 (.lst (c7.map V.str ++ [V.str wd])))
   generalize (upd H4 l3 (.lst (c7.map V.str ++ [V.str wd])))=H5 at h33 B5 X5 hl5 h25 ⊢
   refine⟨l2,l3,_,_,rfl,rfl,h25,h33,(by rw [List.length_append,List.length_map,List.length_map];show 15+(7+1)<=sizeLine;decide),fun l4 n4=>?_⟩
   rw [<-List.append_assoc,<-List.map_append]
   have s4:=af.new (o:=.lst ((c15++c7).map V.str ++ [V.str wd])) n4
   have h44:(upd H5 l4 (.lst ((c15++c7).map V.str ++ [V.str wd]))) l4=some (.lst ((c15++c7).map V.str ++ [V.str wd])):=aa
   have n4b:l4 ≠ b:=B5.cZ n4
   have B6:=B5.same s4
   have X6:Fix b H (upd H5 l4 (.lst ((c15++c7).map V.str ++ [V.str wd]))):=X5.trans (Fix.new n4)
   have hl6:=s4 _ _ hl5
   generalize (upd H5 l4 (.lst ((c15++c7).map V.str ++ [V.str wd])))=H6 at h44 B6 X6 hl6 ⊢
   refine aI ?_
   refine⟨rfl,_,rfl,_,rfl,_,rfl,_,rfl,b,23,rfl,B6,⟨by decide,by decide +kernel⟩,fun r2 H7 r20 r21 B7 X7=>?_⟩
   have h47:=X7 _ _ h44 n4b
   have hl7:=X7 _ _ hl6 nlb
   obtain⟨y,hy,hyl,hys⟩:=vF (m:=m) (cs:=c15++c7) (w:=wd) (fun z hz=>List.mem_append_left _ hz) (htx wd hwm) r20 (by rw [List.length_append,List.length_map];show r2 < ((22+1:Nat):Int);omega)
   refine⟨l4,_,_,_,rfl,rfl,ay.of h47,hy,om,fun l5 n5=>.inr ⟨b,l,l5,ws,y,rfl,B7.new n5,af.new n5 _ _ hl7,aa,(by omega),(by omega),fun l6 zs H' hz hmz hmm B' X'=>?_⟩⟩
   obtain⟨tz,bz⟩:=sW (z := " ") (by decide +kernel) (by decide +kernel) (by omega) (fun p hp=>(htx p hp).ok) hyl hys hmz hmm
   exact⟨" ",l6,zs,rfl,rfl,ay.of hz,(by omega),q _ H' tz B' (((X6.trans X7).trans (Fix.new n5)).trans X')⟩
  refine⟨_,rfl,rfl,_, "\n",rfl,rfl,(by decide +kernel),(by omega),fun l nl=>?_⟩
  have hmu:=sS (x:=x) hG (show ("\n" : Str).length=1 by decide +kernel)
  have htx:=iX hG j3 hx
  obtain⟨w0,ws0,e0⟩:=dA (x:=x) hG j3
  have hpos:0 < (Txt.split x "\n").length:=by rw [e0];exact Nat.succ_pos _
  clear e0
  have hml:=dn (Txt.split x "\n")
  generalize Txt.split x "\n" = ws at hmu htx hpos hml ⊢
  have hwl:(ws.map V.str).length=ws.length:=List.length_map ..
  have B2:=B1.new (o:=.lst (ws.map V.str)) nl
  have nlb:l ≠ b:=B1.cZ nl
  have X2:Fix b H (upd H1 l (.lst (ws.map V.str))):=X1.trans (Fix.new nl)
  have hl:(upd H1 l (.lst (ws.map V.str))) l=some (.lst (ws.map V.str)):=aa
  generalize (upd H1 l (.lst (ws.map V.str)))=H2 at B2 X2 hl ⊢
  refine aI ?_
  refine⟨_,rfl,_,rfl,_,rfl,l,_,rfl,.inl (ay.of hl),b,_,rfl,B2,⟨by omega,eM (by omega) (by omega)⟩,fun r H4 r0 r1 B4 X4=>?_⟩
  have hl4:=X4 _ _ hl nlb
  obtain⟨wd,hwd,hwm⟩:=fU (xs:=ws) r0 (by omega)
  refine⟨l,_,_,_,rfl,rfl,ay.of hl4,hwd,(by show 8<=sizeLine;decide),fun l4 n4=>?_⟩
  have s4:=af.new (o:=.lst (l7.map V.str ++ [V.str wd])) n4
  have h44:(upd H4 l4 (.lst (l7.map V.str ++ [V.str wd]))) l4=some (.lst (l7.map V.str ++ [V.str wd])):=aa
  have n4b:l4 ≠ b:=B4.cZ n4
  have B6:=B4.same s4
  have X6:Fix b H (upd H4 l4 (.lst (l7.map V.str ++ [V.str wd]))):=(X2.trans X4).trans (Fix.new n4)
  have hl6:=s4 _ _ hl4
  change (_:Hp->Prop) (upd H4 l4 (.lst (l7.map V.str ++ [V.str wd])))
  generalize (upd H4 l4 (.lst (l7.map V.str ++ [V.str wd])))=H6 at h44 B6 X6 hl6 ⊢
  refine aI ?_
  refine⟨rfl,_,rfl,_,rfl,_,rfl,_,rfl,b,8,rfl,B6,⟨by decide,by decide +kernel⟩,fun r2 H7 r20 r21 B7 X7=>?_⟩
  have h47:=X7 _ _ h44 n4b
  have hl7:=X7 _ _ hl6 nlb
  obtain⟨y,hy,hyl,hys⟩:=vF (m:=m) (cs:=l7) (w:=wd) (fun z hz=>List.mem_append_right _ hz) (htx wd hwm) r20 (by rw [List.length_append,List.length_map];show r2 < ((7+1:Nat):Int);omega)
  refine⟨l4,_,_,_,rfl,rfl,ay.of h47,hy,om,fun l5 n5=>.inr ⟨b,l,l5,ws,y,rfl,B7.new n5,af.new n5 _ _ hl7,aa,(by omega),(by omega),fun l6 zs H' hz hmz hmm B' X'=>?_⟩⟩
  obtain⟨tz,bz⟩:=sW (z := "\n") (by decide +kernel) (by decide +kernel) (by omega) (fun p hp=>(htx p hp).ok) hyl hys hmz hmm
  exact⟨"\n",l6,zs,rfl,rfl,ay.of hz,(by omega),q _ H' tz B' (((X6.trans X7).trans (Fix.new n5)).trans X')⟩
theorem tH {f:Addr} {fd:FuncData} (F:bT K "_law_tried" "_law_tried" jK f fd) (Z:Bl mg) {cP cM cN cR cL cO:Addr} (GX:vp K mg cP cM cN cR cL cO) {C:Addr} (T:qW K C) (OX_read_plan:pK P w K mg base "read_plan" 7 ["text"] (pO cM cO)) (OX_Desk___init__:wA P w K mg base C "Desk" 8 ["self", "text"] (vz C cM cO)) (O_Desk_say:zo P w K mg base C "say" 5 ["self", "row"] (yr C)) (OX_read_piece:pK P w K mg base "read_piece" 6 ["line", "count", "at"] (nI cO)):aZ P w K mg base bS 10 f fd ["text", "count", "at"] vG:=by
 refine F.ok (k:=9) cm (fun vs H Q E h=>?_) (fun cdv A outer s H vs Q E hr h=>?_)
 ·obtain⟨x,cnt,at_,d,rfl,_⟩:=h
  rfl
 ·obtain⟨x,cnt,at_,d,rfl,hx,hat,hmd,q⟩:=h
  refine⟨_,(ae (aP (i:=3) cm.nd (bX dQ))
   (ae (aP (i:=4) cm.nd cY)
   (ae (aP (i:=5) cm.nd cY)
   (ae (oo (BB (i:=6) cm.nd GX.tP GX.yP GX.gP (fun _ _ E hE=>(ai (aQ (fJ (fH (pv 1)))
   (ai (aP (i:=5) cm.nd (oO OX_read_plan hE hr (av (pv 0)))))
   (ai (aQ (aB bW (pv 1) ah (aK _))
   (ai (aP (i:=5) cm.nd (A5 O_Desk_say (Bu OX_Desk___init__ hE hr (av (pv 0))) (hr.mono (by decide)) (av ao))))
   (ai (aP (i:=5) cm.nd (oO OX_read_piece hE hr (du (pv 0) (pv 1) (pv 2))))))))))
   (fun e=>(ae (aP (i:=3) cm.nd (bX (du (aA ko rfl Z.isinstance bM (aL (pv 6) (dJ (v:=.ref cO) rfl GX.gO rfl))) (aA ko rfl Z.isinstance bM (aL (pv 6) (dJ (v:=.ref cM) rfl GX.gM rfl))) (aA ko rfl Z.isinstance bM (aL (pv 6) (dU (du (dJ (v:=.ref cN) rfl GX.gN rfl) (dJ (v:=.ref cR) rfl GX.gR rfl) (dJ (v:=.ref cL) rfl GX.gL rfl))))))))
   (ae (gQ (bU PySem.F.plainAttrs_list PySem.F.slot_list_append PySem.F.type_list_append eD (pv 3) (av (aA ko rfl Z.isinstance bM (aL (pv 6) (eh (v:=.ty "ValueError") rfl Z.ValueError qI rfl))))))
   (ai (aQ (cU (bg br (pv 3) ah))
   (ai (aP (i:=4) cm.nd (wJ (pv 6))))
   aG)))))))
   (ae (aQ (PW.pt (fK (aB (lu hr.units) (pv 3) (bX (C4 dh dh dh dh)) (aK _)) (fK (cU (aA dZ rfl Z.isinstance bM (aL (pv 4) (eh (v:=.ty "int") rfl Z.int lq rfl)))) (gd (dD (cU (aA dZ rfl Z.isinstance bM (aL (pv 4) (eh (v:=.ty "bool") rfl Z.bool uG rfl)))))))))
   (ai (aw (pv 4)))
   aG)
   (ae (aQ (aB (lu hr.units) (pv 3) (bX (C4 dh dh dh dh)) (aK _))
   (ai (aw ao))
   aG)
   (ae (aQ (aB (ow hr.units) (pv 3) (bX dQ) (aK _))
   (ai (aw ao))
   aG)
   (ai (aw (pv 5)))))))))),?_⟩
  refine⟨(by show 0<=sizeLine;decide),fun lk nk=>?_⟩
  refine aI ?_
  have s0:=af.new (o:=.lst []) nk
  have hk:(upd H lk (.lst [])) lk=some (.lst []):=aa
  generalize (upd H lk (.lst []))=H0 at s0 hk ⊢
  refine⟨fun σ' H'=>(∃ v,σ' = [some (.str x),some cnt,some (.int at_),some (.ref lk),some .aW,some v,none]/\H' lk=some (.lst [])/\bh H' v d/\af H H')\/(∃ l2 k,σ' = [none,none,none,some (.ref l2),some (.int k),none,none]/\H' l2=some (.lst [.bl true,.bl false,.bl false,.bl true])/\d=.int k/\af H H')\/(∃ l2,σ' = [none,none,none,some (.ref l2),none,none,none]/\H' l2=some (.lst [.bl false,.bl true,.bl false,.bl true])/\d=.str "many" /\ af H H'),?_,?_⟩
  ·refine⟨fun cls od H'=>af H H'/\((cls=.ref cM/\od=none/\d=.str "many")\/(cls=.ref cO/\∃ dx k,od=some dx/\H' dx=some (.xd [("line",.int k)])/\d=.int k)),fun pn xe=>?_,?_⟩
   ·cases hmd with
    | DA =>
     refine⟨_,rfl,_,rfl,bo ?_⟩
     refine⟨_,rfl,x,rfl,hx,fun h H' s'=>⟨s0.trans s',.inl ⟨rfl,rfl,oW h⟩⟩,fun h k hb dx H' hd s'=>⟨s0.trans s',.inr ⟨rfl,dx,k,rfl,hd,qD h hb⟩⟩,fun h hb v H' rv s'=>?_⟩
     refine aI ?_
     exact .inl ⟨v,rfl,s' _ _ hk,(by rw [sX h hb];exact rv),s0.trans s'⟩
    | DB =>
     refine⟨_,rfl,_,rfl,bE ?_⟩
     refine⟨_,rfl,rfl,_,rfl,cf (decide_eq_true rfl) ?_⟩
     refine⟨_,rfl,fun ox dx nx ndx nne=>?_⟩
     have kp0:af H0 (upd (upd H0 dx (.own ox)) ox (.ins C dx [])):=fun c o e=>by rw [ar (aX e nx),ar (aX e ndx)];exact e
     refine⟨ox,dx,x,rfl,aa,hx,fun h H' s'=>⟨(s0.trans kp0).trans s',.inl ⟨rfl,rfl,oX h⟩⟩,fun h k hb dx H' hd s'=>⟨(s0.trans kp0).trans s',.inr ⟨rfl,dx,k,rfl,hd,qE h hb⟩⟩,fun h hb l v H' hob hl rv kp=>⟨rfl,?_⟩⟩
     have kH:af H0 H':=fun c o e=>kp c o (kp0 _ _ e) (aX e nx)
     refine⟨ox,dx,_,rfl,hob,(C0 (by decide +kernel) rfl),ox,dx,l,v,x,rfl,hob,hl,rv,hx,h,hb,fun H'' s''=>?_⟩
     refine aI ?_
     exact .inl ⟨.str x,rfl,s'' _ _ (kH _ _ hk),(by rw [sY h hb];exact .str _),(s0.trans kH).trans s''⟩
    | qU n h0 =>
     refine⟨_,rfl,_,rfl,bE ?_⟩
     refine⟨_,rfl,rfl,_,rfl,bO (decide_eq_false (fun z=>by have:=V.int.inj z;omega)) ?_⟩
     refine⟨_,rfl,_,rfl,_,rfl,x,n,at_,rfl,hx,hat,fun hp v H' rv s'=>?_,fun hp dx H' hd s'=>⟨s0.trans s',.inr ⟨rfl,dx,at_,rfl,hd,by rw [hp];rfl⟩⟩⟩
     refine aI ?_
     exact .inl ⟨v,rfl,s' _ _ hk,(by rw [if_pos hp];exact rv),s0.trans s'⟩
   ·rintro cls od H1 ⟨s1,h1⟩
    rcases h1 with ⟨rfl,rfl,hd⟩ | ⟨rfl,dx,k,rfl,hdx,hd⟩
    ·refine⟨cM,rfl,GX.sM,fun e ne=>?_⟩
     have he:(upd H1 e (fe e cM none)) e=some (fe e cM none):=aa
     have q3:=af.new (o:=fe e cM none) ne
     have s3:=s1.trans q3
     generalize (upd H1 e (fe e cM none))=H3 at he s3 q3 ⊢
     obtain⟨kM,kO,kV⟩:=kinds_of GX.q0
     refine⟨_,rfl,.own e cM cO none false rfl he GX.tM.toiq kO ?_⟩
     refine⟨_,rfl,.own e cM cM none true rfl he GX.tM.toiq kM ?_⟩
     refine⟨_,rfl,mK,fun tp ntp=>?_⟩
     have q4:=af.new (o:=.tup [.ref cN,.ref cR,.ref cL]) ntp
     refine .tup e cM tp [cN,cR,cL] none false rfl (q4 _ _ he) GX.tM.toiq aa GX.mM ?_
     refine⟨mK,fun l2 n2=>?_⟩
     refine aI ?_
     have q5:=af.new (o:=.lst [.bl false,.bl true,.bl false]) n2
     have he5:=q5 _ _ (q4 _ _ he)
     have s5:=(s3.trans q4).trans q5
     have hl5:(upd (upd H3 tp (.tup [.ref cN,.ref cR,.ref cL])) l2 (.lst [.bl false,.bl true,.bl false])) l2=some (.lst [.bl false,.bl true,.bl false]):=aa
     have nl2:H l2=none:=(s3.trans q4).free n2
     have nel:l2 ≠ e:=fun z=>by rw [z] at n2;rw [q4 _ _ he] at n2;cases n2
     generalize (upd (upd H3 tp (.tup [.ref cN,.ref cR,.ref cL])) l2 (.lst [.bl false,.bl true,.bl false]))=H5 at he5 s5 hl5 ⊢
     refine⟨_,rfl,.inl ⟨rfl,_,ay.of hl5⟩,_,rfl,.bi e cM "ValueError" none true rfl he5 GX.tM.toiq kV ?_⟩
     refine⟨l2,_,_,rfl,rfl,hl5,(by show 3 < sizeLine;decide),?_⟩
     have hl6:(upd H5 l2 (.lst ([.bl false,.bl true,.bl false] ++ [.bl true]))) l2=some (.lst [.bl false,.bl true,.bl false,.bl true]):=aa
     have s6:af H (upd H5 l2 (.lst ([.bl false,.bl true,.bl false] ++ [.bl true]))):=fun c o e=>by rw [ar (aX e nl2)];exact s5 _ _ e
     have he6:(upd H5 l2 (.lst ([.bl false,.bl true,.bl false] ++ [.bl true]))) e=some (fe e cM none):=by rw [ar nel.symm];exact he5
     generalize (upd H5 l2 (.lst ([.bl false,.bl true,.bl false] ++ [.bl true])))=H6 at hl6 s6 he6 ⊢
     refine⟨_,rfl,l2,_,0,_,rfl,rfl,ay.of hl6,gf,_,rfl,?_⟩
     refine bE ?_
     exact .inr (.inr ⟨l2,rfl,hl6,hd,s6⟩)
    ·refine⟨cO,rfl,GX.zO,fun e ne=>?_⟩
     have he:(upd H1 e (fe e cO (some dx))) e=some (fe e cO (some dx)):=aa
     have q3:=af.new (o:=fe e cO (some dx)) ne
     have s3:=s1.trans q3
     have hdx3:=q3 _ _ hdx
     generalize (upd H1 e (fe e cO (some dx)))=H3 at he s3 q3 hdx3 ⊢
     obtain⟨kM,kO,kV⟩:=kinds_of GX.q4
     refine⟨_,rfl,.own e cO cO (some dx) true rfl he GX.eO.toiq kO ?_⟩
     refine⟨_,rfl,.own e cO cM (some dx) false rfl he GX.eO.toiq kM ?_⟩
     refine⟨_,rfl,mK,fun tp ntp=>?_⟩
     have q4:=af.new (o:=.tup [.ref cN,.ref cR,.ref cL]) ntp
     refine .tup e cO tp [cN,cR,cL] (some dx) false rfl (q4 _ _ he) GX.eO.toiq aa GX.mO ?_
     refine⟨mK,fun l2 n2=>?_⟩
     refine aI ?_
     have q5:=af.new (o:=.lst [.bl true,.bl false,.bl false]) n2
     have he5:=q5 _ _ (q4 _ _ he)
     have s5:=(s3.trans q4).trans q5
     have hl5:(upd (upd H3 tp (.tup [.ref cN,.ref cR,.ref cL])) l2 (.lst [.bl true,.bl false,.bl false])) l2=some (.lst [.bl true,.bl false,.bl false]):=aa
     have nl2:H l2=none:=(s3.trans q4).free n2
     have nel:l2 ≠ e:=fun z=>by rw [z] at n2;rw [q4 _ _ he] at n2;cases n2
     have hdx5:=q5 _ _ (q4 _ _ hdx3)
     have nld:l2 ≠ dx:=fun z=>by rw [z] at n2;rw [q4 _ _ hdx3] at n2;cases n2
     generalize (upd (upd H3 tp (.tup [.ref cN,.ref cR,.ref cL])) l2 (.lst [.bl true,.bl false,.bl false]))=H5 at he5 s5 hl5 hdx5 ⊢
     refine⟨_,rfl,.inl ⟨rfl,_,ay.of hl5⟩,_,rfl,.bi e cO "ValueError" (some dx) true rfl he5 GX.eO.toiq kV ?_⟩
     refine⟨l2,_,_,rfl,rfl,hl5,(by show 3 < sizeLine;decide),?_⟩
     have hl6:(upd H5 l2 (.lst ([.bl true,.bl false,.bl false] ++ [.bl true]))) l2=some (.lst [.bl true,.bl false,.bl false,.bl true]):=aa
     have s6:af H (upd H5 l2 (.lst ([.bl true,.bl false,.bl false] ++ [.bl true]))):=fun c o e=>by rw [ar (aX e nl2)];exact s5 _ _ e
     have he6:(upd H5 l2 (.lst ([.bl true,.bl false,.bl false] ++ [.bl true]))) e=some (fe e cO (some dx)):=by rw [ar nel.symm];exact he5
     have hdx6:(upd H5 l2 (.lst ([.bl true,.bl false,.bl false] ++ [.bl true]))) dx=some (.xd [("line",.int k)]):=by rw [ar nld.symm];exact hdx5
     generalize (upd H5 l2 (.lst ([.bl true,.bl false,.bl false] ++ [.bl true])))=H6 at hl6 s6 he6 hdx6 ⊢
     refine⟨_,rfl,l2,_,0,_,rfl,rfl,ay.of hl6,gf,_,rfl,?_⟩
     refine bo ?_
     refine⟨⟨_,rfl,e,cO,dx,k,rfl,he6,hdx6,GX.eO,?_⟩⟩
     exact .inr (.inl ⟨l2,k,rfl,hl6,hd,s6⟩)
  rintro σ' H1 (⟨v,rfl,g1,g2,g3⟩ | ⟨l2,k,rfl,g1,rfl,g3⟩ | ⟨l2,rfl,g1,rfl,g3⟩)
  ·refine⟨_,rfl,xB,fun l7 n7=>?_⟩
   have q7:=af.new (o:=.lst [.bl true,.bl false,.bl false,.bl true]) n7
   refine⟨.list [],.list [.bool true,.bool false,.bool false,.bool true],.lst (q7 _ _ g1) .nil,.lst aa (.cons (.bl _) (.cons (.bl _) (.cons (.bl _) (.cons (.bl _) .nil)))),rfl,rfl,(by decide),_,rfl,bO (by decide) (bE ?_)⟩
   refine⟨_,rfl,xB,fun l8 n8=>?_⟩
   have q8:=af.new (o:=.lst [.bl false,.bl true,.bl false,.bl true]) n8
   refine⟨.list [],.list [.bool false,.bool true,.bool false,.bool true],.lst (q8 _ _ (q7 _ _ g1)) .nil,.lst aa (.cons (.bl _) (.cons (.bl _) (.cons (.bl _) (.cons (.bl _) .nil)))),rfl,rfl,(by decide),_,rfl,bO (by decide) ?_⟩
   refine⟨_,rfl,(by show 0<=sizeLine;decide),fun l9 n9=>?_⟩
   have q9:=af.new (o:=.lst []) n9
   refine⟨.list [],.list [],.lst (q9 _ _ (q8 _ _ (q7 _ _ g1))) .nil,.lst aa .nil,rfl,rfl,(by decide),_,rfl,bO (by decide) ?_⟩
   have q79:=(q7.trans q8).trans q9
   exact⟨_,rfl,q v _ (g2.bB q79) (g3.trans q79)⟩
  ·refine⟨_,rfl,xB,fun l7 n7=>?_⟩
   have q7:=af.new (o:=.lst [.bl true,.bl false,.bl false,.bl true]) n7
   refine⟨.list [.bool true,.bool false,.bool false,.bool true],.list [.bool true,.bool false,.bool false,.bool true],.lst (q7 _ _ g1) (.cons (.bl _) (.cons (.bl _) (.cons (.bl _) (.cons (.bl _) .nil)))),.lst aa (.cons (.bl _) (.cons (.bl _) (.cons (.bl _) (.cons (.bl _) .nil)))),rfl,rfl,(by decide),_,rfl,cf (by decide) ?_⟩
   refine⟨_,rfl,_,_,_,true,rfl,.int k,rfl,_,rfl,bo ?_⟩
   refine⟨_,rfl,_,_,_,false,rfl,.int k,rfl,_,rfl,?_⟩
   exact⟨_,rfl,q _ _ (.int k) (g3.trans q7)⟩
  ·refine⟨_,rfl,xB,fun l7 n7=>?_⟩
   have q7:=af.new (o:=.lst [.bl true,.bl false,.bl false,.bl true]) n7
   refine⟨.list [.bool false,.bool true,.bool false,.bool true],.list [.bool true,.bool false,.bool false,.bool true],.lst (q7 _ _ g1) (.cons (.bl _) (.cons (.bl _) (.cons (.bl _) (.cons (.bl _) .nil)))),.lst aa (.cons (.bl _) (.cons (.bl _) (.cons (.bl _) (.cons (.bl _) .nil)))),rfl,rfl,(by decide),_,rfl,bO (by decide) (bE ?_)⟩
   refine⟨_,rfl,xB,fun l8 n8=>?_⟩
   have q8:=af.new (o:=.lst [.bl false,.bl true,.bl false,.bl true]) n8
   refine⟨.list [.bool false,.bool true,.bool false,.bool true],.list [.bool false,.bool true,.bool false,.bool true],.lst (q8 _ _ (q7 _ _ g1)) (.cons (.bl _) (.cons (.bl _) (.cons (.bl _) (.cons (.bl _) .nil)))),.lst aa (.cons (.bl _) (.cons (.bl _) (.cons (.bl _) (.cons (.bl _) .nil)))),rfl,rfl,(by decide),_,rfl,cf (by decide) ?_⟩
   exact q _ _ (.str _) (g3.trans (q7.trans q8))
theorem tI {f:Addr} {fd:FuncData} (F:bT K "_law_right" "_law_right" jL f fd) (Z:Bl mg) (O_law_plan_read:Own P w K mg base "_law_plan_read" 4 ["text"] vD) (O_law_tried:Own P w K mg base "_law_tried" 10 ["text", "count", "at"] vG) (O_law_take:Own P w K mg base "_law_take" 1 ["bag", "many"] fN) (O_law_piece_read:Own P w K mg base "_law_piece_read" 3 ["line", "count"] lT):aZ P w K mg base bS 11 f fd ["bag", "text"] sZ:=by
 refine F.ok (k:=10) gI (fun vs H Q E h=>?_) (fun cdv A outer s H vs Q E hr h=>?_)
 ·obtain⟨b,x,rfl,_⟩:=h
  rfl
 ·obtain⟨b,x,rfl,hB,hx,q⟩:=h
  refine⟨_,(ae (aP (i:=2) gI.nd (aF O_law_plan_read hr (av (pv 1))))
   (ae (aQ (aB (ow hr.units) (aF O_law_tried hr (du (pv 1) cY ah)) (pv 2) (aK _))
   (ai (aw dh))
   aG)
   (ae (aQ (aB (ow hr.units) (aF O_law_tried hr (du (pv 1) ah ah)) (bg br (bX (aL (pv 2) (pv 1))) (bV xn rfl Z.int lq (av (aA dZ rfl Z.isinstance bM (aL (pv 2) (eh (v:=.ty "tuple") rfl Z.tuple dm rfl)))))) (aK _))
   (ai (aw dh))
   aG)
   (ae (aP (i:=3) gI.nd (bg br (bU PySem.F.plainAttrs_str PySem.F.slot_str_split PySem.F.type_str_split d7 (pv 1) (av ao)) (aF O_law_take hr (aL (pv 0) (aH bR (bU PySem.F.plainAttrs_str PySem.F.slot_str_count PySem.F.type_str_count x8 (pv 1) (av ao)) ah)))))
   (ae (aP (i:=4) gI.nd (aF O_law_piece_read hr (aL (pv 3) ah)))
   (ae (aQ (fJ (fH (pv 4)))
   (ai (aw (mq (lu hr.units) (aF O_law_tried hr (du (pv 3) ah ah)) ah (aK _))))
   aG)
   (ai (aw (mq (lu hr.units) (aF O_law_tried hr (du (pv 3) ah ah)) (pv 4) (aK _)))))))))),?_⟩
  have hxf:=hx.b3
  have layP:=yA hx
  have depP:=yB x
  have layD:=yC hx
  have depD:=yF x
  refine⟨_,rfl,x,rfl,hx,fun vd H1 rd s1=>?_⟩
  refine aI ?_
  refine⟨_,rfl,x,.aW,0,_,rfl,hx,(by decide),.DA,fun v1 H2 r1 s2=>?_⟩
  refine⟨_,rfl,eg x,eg x,r1,rd.bB s2,layP,layP,(by omega),_,rfl,?_⟩
  refine bO (by rw [PySem.SeqAt.eqv_refl _ layP];rfl) ?_
  refine⟨_,rfl,x,.int 0,0,_,rfl,hx,(by decide),.DB,fun v2 H3 r2 s3=>?_⟩
  have rd3:=(rd.bB s2).bB s3
  refine⟨_,rfl,_,rfl,ln2,fun l0 n0=>?_⟩
  have s4:=af.new (o:=.lst [vd,.str x]) n0
  have rd4:=rd3.bB s4
  obtain⟨t,ht,_,_,_,hu⟩:=fV (K:=K) rd4
  obtain⟨u,hu1,hu2⟩:=yG rd4
  refine⟨_,rfl,_,_,_,_,rfl,ht,hu,.inr ⟨_,rfl,l0,_,_,_,rfl,rfl,ay.of aa,hu1,?_⟩⟩
  refine⟨fz x,fz x,r2.bB s4,hu2,layD,layD,(by omega),_,rfl,?_⟩
  refine bO (by rw [PySem.SeqAt.eqv_refl _ layD];rfl) ?_
  have s04:=((s1.trans s2).trans s3).trans s4
  have B4:=hB.same s04
  change (_:Hp->Prop) (upd H3 l0 (.lst [vd,.str x]))
  generalize (upd H3 l0 (.lst [vd,.str x]))=H4 at s04 B4
  clear hu2 hu1 ht hu rd4
  refine⟨_,rfl,rfl,_, "\n",rfl,rfl,(by decide +kernel),(by omega),fun l nl=>?_⟩
  have hc:=yz x
  obtain⟨hn0,hn1⟩:=nJ hx
  have htx:=i9 hx
  rw [show Txt.split x "\n" = bC x from rfl]
  generalize bC x=ls at hc hn0 hn1 htx ⊢
  have s5:=af.new (o:=.lst (ls.map V.str)) nl
  have hl:(upd H4 l (.lst (ls.map V.str))) l=some (.lst (ls.map V.str)):=aa
  have B5:=B4.same s5
  have nlb:l ≠ b:=B4.cZ nl
  generalize (upd H4 l (.lst (ls.map V.str)))=H5 at s5 hl B5
  have hll:(ls.map V.str).length=ls.length:=List.length_map ..
  refine⟨_,rfl,_,rfl,rfl,x, "\n",rfl,rfl,_,_,rfl,rfl,b,_,rfl,B5,⟨by omega,eM (by omega) (by omega)⟩,fun r H6 r0 r1 B6 X6=>?_⟩
  have hl6:=X6 _ _ hl nlb
  obtain⟨y,hy,hym⟩:=fU (xs:=ls) r0 (by omega)
  have hyx:=htx y hym
  refine⟨l,_,_,_,rfl,rfl,ay.of hl6,hy,?_⟩
  refine aI ?_
  have X06:Fix b H H6:=fun c o e n=>X6 _ _ (s5 _ _ (s04 _ _ e)) n
  refine⟨_,rfl,y,3,rfl,hyx,fun pv H7 rp s7=>?_⟩
  refine aI ?_
  have B7:=B6.same s7
  have X07:Fix b H H7:=fun c o e n=>s7 _ _ (X06 c o e n)
  unfold oQ at rp
  have fin:∀ H8,af H7 H8->Q (.bl true) H8:=fun H8 s8=>q H8 (B7.same s8) fun c o e n=>s8 _ _ (X07 c o e n)
  cases hp:b9 (bp y) 3 with
  | false =>
   rw [hp,if_neg (by decide)] at rp
   cases rp
   refine⟨_,rfl,_,rfl,bo ?_⟩
   refine⟨_,rfl,y,.int 3,77,_,rfl,hyx,(by decide),.qU 3 (by decide),fun v8 H8 r8 s8=>?_⟩
   rw [hp,if_neg (by decide)] at r8
   refine⟨.int 77,.int 77,r8,.int _,rfl,rfl,(by decide),?_⟩
   exact fin H8 s8
  | true =>
   rw [hp,if_pos rfl] at rp
   have layR:=oU hyx
   have depR:=oY y
   obtain⟨pp,zs,rfl,ep,rz⟩:=bh.dN (show bh H7 pv (.tuple _) from rp)
   refine⟨_,rfl,_,rfl,bE ?_⟩
   refine⟨_,rfl,y,.int 3,77,_,rfl,hyx,(by decide),.qU 3 (by decide),fun v8 H8 r8 s8=>?_⟩
   rw [hp,if_pos rfl] at r8
   refine⟨_,rfl,bp y,bp y,r8,rp.bB s8,layR,layR,(by omega),?_⟩
   rw [PySem.SeqAt.eqv_refl _ layR]
   exact fin H8 s8
theorem DD {f:Addr} {fd:FuncData} (F:bT K "law" "law" mz f fd) (Z:Bl mg) (O_law_bag:Own P w K mg base "_law_bag" 1 ["script", "k"] (Af K)) (O_law_take:Own P w K mg base "_law_take" 1 ["bag", "many"] fN) (O_law_plan:Own P w K mg base "_law_plan" 4 ["bag", "count", "most"] xI) (O_law_piece_text:Own P w K mg base "_law_piece_text" 1 ["piece"] mS) (O_law_right:Own P w K mg base "_law_right" 11 ["bag", "text"] sZ) (O_law_text_spoilt:Own P w K mg base "_law_text_spoilt" 3 ["bag", "text"] qB):aZ P w K mg base bS 13 f fd ["script"] (qT K):=by
  refine F.ok (k:=12) fh (fun vs H Q E h=>?_) (fun cdv A outer s H vs Q E hr h=>?_)
  · obtain⟨a,ns,rfl,_⟩:=h
    rfl
  · obtain⟨a,ns,rfl,hS,hlen,q⟩:=h
    refine⟨_,(ae (aP (i:=1) fh.nd (aF O_law_bag hr (aL (pv 0) ah)))
      (ae (aP (i:=2) fh.nd (aF O_law_plan hr (du (pv 1) (aH bR ah (aF O_law_take hr (aL (pv 1) ah))) (bg br (bX (aL ah ah)) (aF O_law_take hr (aL (pv 1) ah))))))
      (ae (aP (i:=3) fh.nd (bU PySem.F.plainAttrs_str PySem.F.slot_str_join PySem.F.type_str_join dM ao (av (cD ["piece"] [] [] rfl (jQ (pv 2)) rfl (by decide +kernel) (by decide +kernel) (by decide +kernel) True.intro (fun _ _ _ _=>(bu (i:=0) (show ((["piece"]:List Str)++([]:List Str)).Nodup by decide +kernel) (hf:=Or.inr rfl))) (fun _ _ _ _=>b7) (fun _ _ _ _=>(aF O_law_piece_text hr (av (pv 0))))))))
      (ae (aQ (dD (cU (aF O_law_right hr (aL (pv 1) (pv 3)))))
      (ai (aw dh))
      aG)
      (ae (kZ PassesOwn.never rfl (eY rfl Z.range (av (aH bR ah (aA (xm rfl) rfl Z.min CJ (aL (aA aV rfl Z.len bG (av (pv 0))) ah))))) (bu (i:=4) fh.nd)
      (ae (aP (i:=5) fh.nd (aF O_law_bag hr (aL (pv 0) (pv 4))))
      (ae (aP (i:=6) fh.nd (mq bW (aF O_law_take hr (aL (pv 5) ah)) ah (aK _)))
      (ae (aP (i:=7) fh.nd (aF O_law_text_spoilt hr (aL (pv 5) (pv 3))))
      (ae (oo (aQ (cU (pv 6))
      (ai (aP (i:=7) fh.nd (aF O_law_text_spoilt hr (aL (pv 5) (pv 7)))))
      aG))
      (ai (aQ (dD (cU (aF O_law_right hr (aL (pv 5) (pv 7)))))
      (ai (aw dh))
      aG)))))))
      (ae (aP (i:=8) fh.nd (aH bR ah (aF O_law_take hr (aL (pv 1) ah))))
      (ae (gX (i:=9) ["k"] ["first"] [1] rfl fh.nd rfl rfl rfl (eY rfl Z.range (av (pv 8))) rfl (by decide +kernel) (by decide +kernel) (by decide +kernel) ⟨⟨rfl,.inl rfl,rfl⟩,True.intro⟩ (fun _ _ _ _=>(bu (i:=0) (show ((["k"]:List Str)++(["first"]:List Str)).Nodup by decide +kernel) (hf:=Or.inr rfl))) (fun _ _ _ _=>b7) (fun _ _ _ _=>(aH cu ao (bV lK rfl Z.str lr (av (aF O_law_take hr (aL (pv 1) ah)))))))
      (ae (aQ (PW.pt (d9 (dD (cU (aF O_law_right hr (aL (pv 1) (bU PySem.F.plainAttrs_str PySem.F.slot_str_join PySem.F.type_str_join dM ao (av (aH CH (bX (av ao)) (pv 8)))))))) (dP (dD (cU (aF O_law_right hr (aL (pv 1) (bU PySem.F.plainAttrs_str PySem.F.slot_str_join PySem.F.type_str_join dM ao (av (pv 9))))))))))
      (ai (aw dh))
      aG)
      (ai (aw (aF O_law_right hr (aL (pv 1) (aH cu (aH pN ao (aH bR ah (aF O_law_take hr (aL (pv 1) ah)))) ao))))))))))))),?_⟩
    refine⟨_,rfl,a,ns,0,rfl,hS,(by decide),fun b H1 nb B1 s1=>?_⟩
    refine⟨_,rfl,_,rfl,b,8,rfl,B1,⟨by decide,by decide +kernel⟩,fun c H2 c0 c1 B2 X2=>⟨_,_,rfl,rfl,ln2,fun l0 n0=>?_⟩⟩
    have B3:=B2.new (o:=.lst [.int 3,.int 12]) n0
    refine⟨_,rfl,b,2,rfl,B3,⟨by decide,by decide +kernel⟩,fun z H4 z0 z1 B4 X4=>?_⟩
    have h4:H4 l0=some (.lst [.int 3,.int 12]):=X4 _ _ aa (B2.cZ n0)
    obtain⟨g,rfl⟩:∃ g:Nat,c=g:=⟨c.toNat,by omega⟩
    obtain⟨m,hm,hm2⟩:∃ m:Nat,eZ [V.int 3,V.int 12] z=some (V.int m)/\m<=12:=by
      obtain rfl | rfl:z=0\/z=1:=by omega
      · exact⟨3,gf,by omega⟩
      · exact⟨12,qe,by omega⟩
    refine⟨l0,_,_,_,rfl,rfl,ay.of h4,hm,b,1+g,m,rfl,B4,(by omega),(by omega),(by omega),fun plv xs ps H5 r5 hpl DE xok B5 X5=>?_⟩
    have s5:af H H5:=af.rH s1 nb (((X2.trans (Fix.new n0)).trans X4).trans X5)
    have au:∀ p ∈ ps,pG xs m ps.length p:=fun p hp=>⟨xok.1,(DE.Ao p hp).1,(DE.Ao p hp).2,DE.ends p hp⟩
    clear h4 hm n0 X2 X4 X5 B1 B2 B3 B4 z0 z1
    obtain⟨pp,us,rfl,e5,rus⟩:=bh.dN r5
    have hul:us.length=ps.length:=by have:=rus.len;rw [List.length_map] at this;exact this
    have h400:ps.length<=400:=by omega
    obtain⟨ptx,psum⟩:=BS au hm2 h400 (by omega)
    refine aI ?_
    refine⟨rfl,_,rfl,pp,rfl,⟨_,bJ.of e5⟩,fun acc na=>?_⟩
    refine jW (K:=K) (a:=pp) (xs:=us) (fun i ys τ H1=>∃ c:Option V,τ = [c]/\ys=((ps.take i).map df).map V.str/\H1 acc=some (.lst ys)/\af H5 H1) ?_ ?_ ?_ ?_
    · exact⟨none,rfl,rfl,aa,af.new na⟩
    · rintro i ys τ H1 hi ⟨c,rfl,rfl,ha,s1⟩
      refine⟨bJ.of (s1 _ _ (e5)),ha,bD ?_⟩
      rw [List.length_map,List.length_map,List.length_take]
      omega
    · rintro i x' ys τ H1 hxi ⟨c',rfl,rfl,ha,s1⟩
      refine aI ?_
      refine e7 ?_
      refine bo ?_
      have hlt:i < ps.length:=by
        obtain⟨z,_⟩:=List.getElem?_eq_some_iff.mp hxi
        omega
      have hd4:ps[i]? = some ps[i]:=List.getElem?_eq_getElem hlt
      obtain⟨x3,hx3,rx⟩:=rus.get (i:=i) (d:=fO ps[i]) (by rw [List.getElem?_map,hd4];rfl)
      obtain rfl:x3=x':=Option.some.inj (hx3.symm.trans hxi)
      refine⟨_,rfl,x3,ps[i],xs,m,ps.length,rfl,rx.bB s1,au _ (List.mem_of_getElem? hd4),hm2,h400,fun H6 s6=>?_⟩
      have ha6:=s6 _ _ ha
      refine⟨ha6,_,rfl,?_,aa,(s1.trans s6).put na⟩
      rw [List.take_add_one,hd4,List.map_append,List.map_append]
      rfl
    rintro ys τ H6 ⟨c',rfl,rfl,hl6,s6⟩
    rw [List.take_of_length_le (by omega)] at hl6
    refine⟨"\n",acc,ps.map df,rfl,rfl,ay.of hl6,(by omega),?_⟩
    refine aI ?_
    have B6:=B5.same s6
    have s06:=s5.trans s6
    generalize hX:Txt.join "\n" (ps.map df)=X
    have tX:bf 22100 X:=by rw [<-hX];exact ptx
    clear hX ptx psum au
    refine⟨_,rfl,_,rfl,b,X,rfl,B6,tX.mono (by decide),fun H7 B7 X7=>⟨_,rfl,bE ?_⟩⟩
    have s07:af H H7:=af.rH s06 nb X7
    refine⟨_,rfl,a,_,rfl,.inl (s07.seq hS),_,_,rfl,_,_,rfl,rfl,_,rfl,(by split <;> (try rw [List.length_map]) <;> omega),(by split <;> (try rw [List.length_map]) <;> omega),ji (lo:=0) (fun i σ H'=>∃ (u1 u2 u3 u4:Option V),σ = [some (.ref a),some (.ref b),some (.ref pp),some (.str X),u1,u2,u3,u4,none,none]/\cg H' b/\af H H') ?_ ?_ ?_⟩
    · exact⟨_,_,_,_,rfl,B7,s07⟩
    · rintro i σ H8 hi ⟨u1,u2,u3,u4,rfl,B8,s8⟩
      rw [Int.zero_add]
      refine aI ?_
      refine⟨_,rfl,_,rfl,a,ns,i,rfl,s8.seq hS,(by omega),fun b2 H9 nb2 B9 s9=>?_⟩
      refine aI ?_
      refine⟨_,rfl,b2,3,rfl,B9,⟨by decide,by decide +kernel⟩,fun z H10 z0 z1 B10 X10=>⟨rfl,?_⟩⟩
      refine aI ?_
      refine⟨_,rfl,_,rfl,b2,X,22100,rfl,B10,tX,(by decide),fun y H11 ty B11 X11=>?_⟩
      refine aI ?_
      refine⟨fun σ' H'=>∃ y2:Str,σ' = [some (.ref a),some (.ref b),some (.ref pp),some (.str X),some (.int (i:Nat)),some (.ref b2),some (.bl (decide (V.int z=V.int 0))),some (.str y2),none,none]/\bf 200000 y2/\cg H' b2/\Fix b2 H9 H',?_,?_⟩
      · refine⟨_,rfl,_,rfl,?_⟩
        refine cC (fun _=>?_) (fun _=>?_)
        · refine⟨_,rfl,_,rfl,b2,y,66360,rfl,B11,ty.mono (by decide),(by decide),fun y2 H12 ty2 B12 X12=>?_⟩
          exact⟨y2,rfl,ty2.mono (by decide),B12,(X10.trans X11).trans X12⟩
        · exact⟨y,rfl,ty.mono (by decide),B11,X10.trans X11⟩
      rintro σ' H12 ⟨y2,rfl,ty2,B12,X12⟩
      refine⟨_,rfl,_,rfl,b2,y2,rfl,B12,ty2,fun H13 B13 X13=>⟨_,rfl,bE ?_⟩⟩
      have s13:af H8 H13:=af.rH s9 nb2 (X12.trans X13)
      exact⟨_,_,_,_,rfl,B8.same s13,s8.trans s13⟩
    rintro σ H8 ⟨u1,u2,u3,u4,rfl,B8,s8⟩
    refine⟨_,rfl,b,4,rfl,B8,⟨by decide,by decide +kernel⟩,fun z H9 z0 z1 B9 X9=>⟨_,_,rfl,rfl,?_⟩⟩
    refine aI ?_
    obtain⟨k,hk,hk1⟩:∃ k:Nat,399+z=(k:Int)/\k<=402:=⟨(399+z).toNat,by omega,by omega⟩
    rw [hk]
    refine⟨_,rfl,_,rfl,(by omega),(by omega),fun acc na=>?_⟩
    have hab:acc ≠ b:=B9.cZ na
    refine m8 (lo:=0) (fun i ys τ H'=>∃ (v:Option V) (ts:List Str),τ = [v,some (.ref b)]/\ys=ts.map V.str/\ts.length=i/\(∀ y ∈ ts,bf 50 y)/\H' acc=some (.lst ys)/\cg H' b/\Fix b H9 H') ?_ ?_ ?_ ?_
    · exact⟨none,[],rfl,rfl,rfl,(fun _ h=>nomatch h),aa,B9.new na,Fix.new na⟩
    · rintro i ys τ H' hi ⟨v,ts,rfl,rfl,hl,_,ha,_⟩
      refine⟨ha,?_⟩
      rw [List.length_map]
      exact bD (by omega)
    · rintro i ys τ H' hi ⟨v,ts,rfl,rfl,hl,ht,ha,B',X'⟩
      refine aI ?_
      refine e7 ?_
      refine bo ?_
      refine⟨_,rfl,b,402,rfl,B',⟨by decide,by decide +kernel⟩,fun r H10 r0 r1 B10 X10=>.inr ⟨r,rfl,?_⟩⟩
      obtain⟨t1,t2,t3⟩:=Es r0 r1
      refine⟨t2,_,_,rfl,rfl,Nat.le_of_lt (bD (by omega)),X10 _ _ ha hab,?_⟩
      refine⟨_,ts ++ [("go " : Str)++iA r],rfl,(by rw [List.map_append];rfl),(by rw [List.length_append,hl];rfl),fun y hy=>?_,aa,?_,?_⟩
      · rcases List.mem_append.mp hy with hy | hy
        · exact ht y hy
        · rw [List.mem_singleton.mp hy];exact t1
      · obtain⟨x1,y1,e1,e2⟩:=B10
        exact⟨x1,y1,by rw [ar hab.symm];exact e1,e2⟩
      · exact fun c o e n=>by rw [ar (aX e na)];exact X10 _ _ (X' _ _ e n) n
    rintro ys τ H10 ⟨v,ts,rfl,rfl,hl,ht,ha,B10,X10⟩
    refine aI ?_
    have hl:ts.length=k:=by rw [hl];exact Int.toNat_natCast k
    obtain⟨mt1,mt2⟩:=vH ht (by omega)
    have rt:∀ y ∈ List.replicate k ("stop" : Str),bf 50 y:=fun y hy=>by rw [List.eq_of_mem_replicate hy];exact BU
    obtain⟨rt1,rt2⟩:=vH rt (by rw [List.length_replicate];omega)
    refine⟨_,rfl,rfl,om,fun l1 n1=>?_⟩
    have s11:=af.new (o:=.lst [V.str "stop"]) n1
    refine⟨_,rfl,l1,(k:Int),_,rfl,rfl,aa,(by omega),(by omega),(by show 1 * (k:Int).toNat<=sizeLine;rw [Int.toNat_natCast,Nat.one_mul];exact Nat.le_of_lt (bD (by omega))),fun l2 n2=>?_⟩
    rw [Int.toNat_natCast,zZ]
    have s12:=s11.trans (af.new (o:=.lst ((List.replicate k ("stop" : Str)).map V.str)) n2)
    refine⟨"\n",l2,List.replicate k ("stop" : Str),rfl,rfl,ay.of aa,(by omega),?_⟩
    refine⟨b,_,rfl,B10.same s12,rt1,fun H13 B13 X13=>⟨_,rfl,bE ?_⟩⟩
    have ha13:=X13 _ _ (s12 _ _ ha) hab
    refine⟨_,rfl,rfl,_,rfl, "\n",acc,ts,rfl,rfl,ay.of ha13,(by omega),b,_,rfl,B13,mt1,fun H14 B14 X14=>⟨_,rfl,bE ?_⟩⟩
    refine⟨_,rfl,_,rfl,b,2,rfl,B14,⟨by decide,by decide +kernel⟩,fun r H15 r0 r1 B15 X15=>⟨_,_,rfl,rfl,?_⟩⟩
    obtain⟨tm,tt,tl⟩:=BW (r:=12+r) (by omega)
    refine⟨_,_,rfl,rfl,tm,_,_,rfl,rfl,Nat.le_of_lt (bD tl),?_⟩
    exact⟨b,_,rfl,B15,tt,fun H16 _ _=>q _⟩
end
theorem all_mk {l:PySem.W.OpenLaw} {w:World} {K:PySem.W.Frag} {h:Heap} {mg:Str->Option Value} {fa:Addr} (X:K.In h) (G:h.Ns mainGlobals mg) (hfa:mg "law" = some (.ref fa))
  {f0 f1 f2 f3 f4 f5 f6 f7 f8 f9 f10 f11 f12 f13 f14 f15 f16 f17 f18 f19 f20 f21 f22 f23 f24 f25 f26 f27 f28 f29 f30 f31 f32 f33 f34 f35 f36 f37 f38 f39:Addr} {g0 g1 g2 g3 g4 g5 g6 g7 g8 g9 g10 g11 g12 g13 g14 g15 g16 g17 g18 g19 g20 g21 g22 g23 g24 g25 g26 g27 g28 g29 g30 g31 g32 g33 g34 g35 g36 g37 g38 g39:FuncData}
  {cP cM cN cR cL cO:Addr}
  {tk_LONGEST_NAME:Tok}
  {tk_MOST_PIECES:Tok}
  {tk_MOST_DEEDS:Tok}
  {tk_MOST_FIGURES:Tok}
  {tk_MOST_NUMBERS:Tok}
  {aE:Addr} {epE:Nat} {s0:Addr} {hsE0:Int} {tkE0:Tok} {dcE0:Option Addr} {nnE0:Nat} {slE0:Array (Option Value)}  {s1:Addr} {hsE1:Int} {tkE1:Tok} {dcE1:Option Addr} {nnE1:Nat} {slE1:Array (Option Value)} {ttE1_0:Tok} {s2:Addr} {hsE2:Int} {tkE2:Tok} {dcE2:Option Addr} {nnE2:Nat} {slE2:Array (Option Value)} {ttE2_0:Tok} {ttE2_1:Tok} {ttE2_2:Tok} {ttE2_3:Tok} {s3:Addr} {hsE3:Int} {tkE3:Tok} {dcE3:Option Addr} {nnE3:Nat} {slE3:Array (Option Value)} {ttE3_0:Tok} {ttE3_1:Tok} {ttE3_2:Tok} {ttE3_3:Tok}
  {aD:Addr} {epD:Nat} {d0:Addr} {hsD0:Int} {tkD0:Tok} {dcD0:Option Addr} {nnD0:Nat} {slD0:Array (Option Value)} {ttD0_0:Tok} {ttD0_1:Tok} {d1:Addr} {hsD1:Int} {tkD1:Tok} {dcD1:Option Addr} {nnD1:Nat} {slD1:Array (Option Value)} {ttD1_0:Tok} {ttD1_1:Tok} {d2:Addr} {hsD2:Int} {tkD2:Tok} {dcD2:Option Addr} {nnD2:Nat} {slD2:Array (Option Value)} {ttD2_0:Tok} {ttD2_1:Tok} {d3:Addr} {hsD3:Int} {tkD3:Tok} {dcD3:Option Addr} {nnD3:Nat} {slD3:Array (Option Value)} {ttD3_0:Tok} {d4:Addr} {hsD4:Int} {tkD4:Tok} {dcD4:Option Addr} {nnD4:Nat} {slD4:Array (Option Value)} {ttD4_0:Tok}
  {aR:Addr} {epR:Nat} {r0:Addr} {hR0:Int} {tR0:Tok} {r1:Addr} {hR1:Int} {tR1:Tok} {r2:Addr} {hR2:Int} {tR2:Tok} {r3:Addr} {hR3:Int} {tR3:Tok} {r4:Addr} {hR4:Int} {tR4:Tok} {r5:Addr} {hR5:Int} {tR5:Tok} {r6:Addr} {hR6:Int} {tR6:Tok} {r7:Addr} {hR7:Int} {tR7:Tok} {r8:Addr} {hR8:Int} {tR8:Tok} {r9:Addr} {hR9:Int} {tR9:Tok} {r10:Addr} {hR10:Int} {tR10:Tok} {r11:Addr} {hR11:Int} {tR11:Tok} {dcR:Option Addr} {nnR:Nat} {slR:Array (Option Value)}
  {aS:Addr} {tS0:Tok} {tS1:Tok} {tS2:Tok} {tS3:Tok} {tS4:Tok} {dcS:Option Addr} {nnS:Nat} {slS:Array (Option Value)}
  {C:Addr}
  (z_len:PySem.W.nsIn K mainGlobals "len" = some none)
  (z_min:PySem.W.nsIn K mainGlobals "min" = some none)
  (z_max:PySem.W.nsIn K mainGlobals "max" = some none)
  (z_range:PySem.W.nsIn K mainGlobals "range" = some none)
  (z_isinstance:PySem.W.nsIn K mainGlobals "isinstance" = some none)
  (z_bool:PySem.W.nsIn K mainGlobals "bool" = some none)
  (z_int:PySem.W.nsIn K mainGlobals "int" = some none)
  (z_str:PySem.W.nsIn K mainGlobals "str" = some none)
  (z_tuple:PySem.W.nsIn K mainGlobals "tuple" = some none)
  (z_all:PySem.W.nsIn K mainGlobals "all" = some none)
  (z_zip:PySem.W.nsIn K mainGlobals "zip" = some none)
  (z_list:PySem.W.nsIn K mainGlobals "list" = some none)
  (z_enumerate:PySem.W.nsIn K mainGlobals "enumerate" = some none)
  (z_ValueError:PySem.W.nsIn K mainGlobals "ValueError" = some none)
  (xgP:PySem.W.nsIn K mainGlobals "PlanError" = some (some (.ref cP))) (xgM:PySem.W.nsIn K mainGlobals "TooMany" = some (some (.ref cM))) (xgN:PySem.W.nsIn K mainGlobals "NoPiece" = some (some (.ref cN))) (xgR:PySem.W.nsIn K mainGlobals "NoRow" = some (some (.ref cR))) (xgL:PySem.W.nsIn K mainGlobals "NothingLeft" = some (some (.ref cL))) (xgO:PySem.W.nsIn K mainGlobals "NoPlan" = some (some (.ref cO))) (xhM:PySem.W.keepIn K (.ref cM)=true) (xhN:PySem.W.keepIn K (.ref cN)=true) (xhR:PySem.W.keepIn K (.ref cR)=true) (xhL:PySem.W.keepIn K (.ref cL)=true) (xhO:PySem.W.keepIn K (.ref cO)=true) (xoM:PySem.W.excIn K cM [.type "ValueError",.type "Exception",.type "BaseException",.type "object"] "ValueError.__new__" = true) (xoN:PySem.W.excIn K cN [.type "ValueError",.type "Exception",.type "BaseException",.type "object"] "ValueError.__new__" = true) (xoR:PySem.W.excIn K cR [.type "ValueError",.type "Exception",.type "BaseException",.type "object"] "ValueError.__new__" = true) (xoL:PySem.W.excIn K cL [.type "ValueError",.type "Exception",.type "BaseException",.type "object"] "ValueError.__new__" = true) (xeM:L2.jt K cM=true) (xeN:L2.jt K cN=true) (xeR:L2.jt K cR=true) (xeL:L2.jt K cL=true) (xeO:L2.jt K cO=true) (xdO:PySem.W.hasDictIn K cO=true) (xlO:PySem.W.findIn K (.ref cO) "line" = some none) (xsO:PySem.W.findIn K (.ref cO) "__setattr__" = some (some (.builtin "object.__setattr__"))) (xpO:L2.sI K cO=true) (xtO:PySem.W.takerIn K cO "line" = some none) (xaP:PySem.W.specialIn K (.ref cP) "__getattribute__" = some (some (.builtin "type.__getattribute__"))) (xrP:PySem.W.readsIn K cP (.type "type")=true) (xfP:PySem.W.findCls K (.ref cP) (.type "type") "__init__" = some (.val (.builtin "ValueError.__init__"))) (xi:L2.i6 K cO f11=true) (xq0:L2.kindB K cM cM cN cR cL cO cP 0=true) (xq1:L2.kindB K cN cM cN cR cL cO cP 1=true) (xq2:L2.kindB K cR cM cN cR cL cO cP 2=true) (xq3:L2.kindB K cL cM cN cR cL cO cP 3=true) (xq4:L2.kindB K cO cM cN cR cL cO cP 4=true) (xeP:L2.jt K cP=true) (xyP:PySem.W.typeIn K (.ref cP)=some (.type "type")) (xyO:PySem.W.typeIn K (.ref cO)=some (.type "type")) (xsM:PySem.W.mroIn K cM (.ref cP)=some true) (xzO:PySem.W.mroIn K cO (.ref cP)=some true) (xmM:PySem.W.kitAny K (.ref cM) [.ref cN,.ref cR,.ref cL] = some false) (xmO:PySem.W.kitAny K (.ref cO) [.ref cN,.ref cR,.ref cL] = some false)
  (g_LONGEST_NAME:PySem.W.nsIn K mainGlobals "LONGEST_NAME" = some (some (.int 8 tk_LONGEST_NAME)))
  (g_MOST_PIECES:PySem.W.nsIn K mainGlobals "MOST_PIECES" = some (some (.int 400 tk_MOST_PIECES)))
  (g_MOST_DEEDS:PySem.W.nsIn K mainGlobals "MOST_DEEDS" = some (some (.int 12 tk_MOST_DEEDS)))
  (g_MOST_FIGURES:PySem.W.nsIn K mainGlobals "MOST_FIGURES" = some (some (.int 40 tk_MOST_FIGURES)))
  (g_MOST_NUMBERS:PySem.W.nsIn K mainGlobals "MOST_NUMBERS" = some (some (.int 200 tk_MOST_NUMBERS)))
  (gE:PySem.W.nsIn K mainGlobals "END_PARTS" = some (some (.ref aE))) (lE:K.lookup aE=some ⟨.type "dict",none,.dict #[⟨hsE0,.str "stop" tkE0,.ref s0⟩,⟨hsE1,.str "go" tkE1,.ref s1⟩,⟨hsE2,.str "less" tkE2,.ref s2⟩,⟨hsE3,.str "is" tkE3,.ref s3⟩] epE,#[]⟩) (qE0:K.lookup s0=some ⟨.type "tuple",dcE0,.seq #[] nnE0,slE0⟩) (qE1:K.lookup s1=some ⟨.type "tuple",dcE1,.seq #[.str "piece" ttE1_0] nnE1,slE1⟩) (qE2:K.lookup s2=some ⟨.type "tuple",dcE2,.seq #[.str "name" ttE2_0,.str "number" ttE2_1,.str "piece" ttE2_2,.str "piece" ttE2_3] nnE2,slE2⟩) (qE3:K.lookup s3=some ⟨.type "tuple",dcE3,.seq #[.str "name" ttE3_0,.str "number" ttE3_1,.str "piece" ttE3_2,.str "piece" ttE3_3] nnE3,slE3⟩)
  (yE:(aE == sysModules)=false)
  (gD:PySem.W.nsIn K mainGlobals "DEED_PARTS" = some (some (.ref aD))) (lD:K.lookup aD=some ⟨.type "dict",none,.dict #[⟨hsD0,.str "put" tkD0,.ref d0⟩,⟨hsD1,.str "copy" tkD1,.ref d1⟩,⟨hsD2,.str "add" tkD2,.ref d2⟩,⟨hsD3,.str "read" tkD3,.ref d3⟩,⟨hsD4,.str "tell" tkD4,.ref d4⟩] epD,#[]⟩) (qD0:K.lookup d0=some ⟨.type "tuple",dcD0,.seq #[.str "name" ttD0_0,.str "number" ttD0_1] nnD0,slD0⟩) (qD1:K.lookup d1=some ⟨.type "tuple",dcD1,.seq #[.str "name" ttD1_0,.str "name" ttD1_1] nnD1,slD1⟩) (qD2:K.lookup d2=some ⟨.type "tuple",dcD2,.seq #[.str "name" ttD2_0,.str "number" ttD2_1] nnD2,slD2⟩) (qD3:K.lookup d3=some ⟨.type "tuple",dcD3,.seq #[.str "name" ttD3_0] nnD3,slD3⟩) (qD4:K.lookup d4=some ⟨.type "tuple",dcD4,.seq #[.str "name" ttD4_0] nnD4,slD4⟩)
  (yD:(aD == sysModules)=false)
  (gR:PySem.W.nsIn K mainGlobals "ROWS" = some (some (.ref aR))) (lR:K.lookup aR=some ⟨.type "dict",none,.dict #[⟨hR0,.str "piece" tR0,.ref r0⟩,⟨hR1,.str "past" tR1,.ref r1⟩,⟨hR2,.str "short" tR2,.ref r2⟩,⟨hR3,.str "spare" tR3,.ref r3⟩,⟨hR4,.str "joined" tR4,.ref r4⟩,⟨hR5,.str "back" tR5,.ref r5⟩,⟨hR6,.str "plan" tR6,.ref r6⟩,⟨hR7,.str "needed" tR7,.ref r7⟩,⟨hR8,.str "heads" tR8,.ref r8⟩,⟨hR9,.str "live" tR9,.ref r9⟩,⟨hR10,.str "alike" tR10,.ref r10⟩,⟨hR11,.str "run" tR11,.ref r11⟩] epR,#[]⟩) (qR:K.lookup r6=some ⟨.type "tuple",dcR,.seq #[] nnR,slR⟩) (yR:(aR == sysModules)=false)
  (gS:PySem.W.nsIn K mainGlobals "DEEDS" = some (some (.ref aS))) (qS:K.lookup aS=some ⟨.type "tuple",dcS,.seq #[.str "piece" tS0,.str "past" tS1,.str "short" tS2,.str "spare" tS3,.str "joined" tS4] nnS,slS⟩)
  (aCC:PySem.W.nsIn K mainGlobals "Desk" = some (some (.ref C))) (pgC:PySem.W.plainGet K C Str.empty=true) (hdC:PySem.W.hasDictIn K C=true) (poC:PySem.W.plainOver K C=true) (saC:PySem.W.findIn K (.ref C) "__setattr__" = some (some (.builtin "object.__setattr__"))) (mkC:PySem.W.makesIn K C=true) (kcC:PySem.W.keepIn K (.ref C)=true)
  (nC_plans:PySem.W.findIn K (.ref C) "plans" = some none)
  (D0:bI K "is_whole" ku f0 g0)
  (D1:bI K "is_name" lU f1 g1)
  (D2:bI K "is_part" lV f2 g2)
  (D3:bI K "first_word" jb f3 g3)
  (D4:bI K "has_parts" jB f4 g4)
  (D5:bI K "is_deed" lW f5 g5)
  (D6:bI K "is_end" nO f6 g6)
  (D7:bI K "is_piece" kx f7 g7)
  (D8:bI K "read_number" iu f8 g8)
  (D9:bI K "read_word" jD f9 g9)
  (D10:bI K "read_step" jE f10 g10)
  (D11:kh K cO "__init__" "NoPlan.__init__" fE f11 g11)
  (D12:bI K "read_piece" jc f12 g12)
  (D13:bI K "read_plan" jF f13 g13)
  (D14:bI K "in_a_row" ky f14 g14)
  (D15:bI K "piece_text" jd f15 g15)
  (D16:bI K "plan_text" jG f16 g16)
  (D17:bI K "is_row" nQ f17 g17)
  (D18:bI K "read_row" kA f18 g18)
  (D19:bI K "answered" kB f19 g19)
  (D20:kh K C "__init__" "Desk.__init__" gF f20 g20)
  (D21:kh K C "say" "Desk.say" kC f21 g21)
  (D22:bI K "_law_bag" mf f22 g22)
  (D23:bI K "_law_take" kG f23 g23)
  (D24:bI K "_law_names" jH f24 g24)
  (D25:bI K "_law_number" je f25 g25)
  (D26:bI K "_law_deed" kJ f26 g26)
  (D27:bI K "_law_end" mh f27 g27)
  (D28:bI K "_law_plan" kK f28 g28)
  (D29:bI K "_law_piece_text" fX f29 g29)
  (D30:bI K "_law_number_read" fF f30 g30)
  (D31:bI K "_law_is_name" iy f31 g31)
  (D32:bI K "_law_part_read" gG f32 g32)
  (D33:bI K "_law_piece_read" fY f33 g33)
  (D34:bI K "_law_plan_read" gH f34 g34)
  (D35:bI K "_law_moved" jJ f35 g35)
  (D36:bI K "_law_text_spoilt" fG f36 g36)
  (D37:bI K "_law_tried" jK f37 g37)
  (D38:bI K "_law_right" jL f38 g38)
  (D39:bI K "law" mz f39 g39) :
  ∃ fd:FuncData,(∀ (s:Shared) (v:Value),BindsTo s fd ⟨[v],[]⟩ [("script",v)])/\∀ base:Heap,K.In base->base.Ns mainGlobals mg->aZ l.prog w K mg base bS 13 fa fd ["script"] (qT K):=by
 have e:=hfa.symm.trans (PySem.W.mg_of X G D39.a)
 cases e
 have Z:Bl mg:=⟨PySem.W.mg_none_of X G z_len,PySem.W.mg_none_of X G z_min,PySem.W.mg_none_of X G z_max,PySem.W.mg_none_of X G z_range,PySem.W.mg_none_of X G z_isinstance,PySem.W.mg_none_of X G z_bool,PySem.W.mg_none_of X G z_int,PySem.W.mg_none_of X G z_str,PySem.W.mg_none_of X G z_tuple,PySem.W.mg_none_of X G z_all,PySem.W.mg_none_of X G z_zip,PySem.W.mg_none_of X G z_list,PySem.W.mg_none_of X G z_enumerate,PySem.W.mg_none_of X G z_ValueError⟩
 have GX:Dl K mg cP cM cN cR cL cO:=⟨PySem.W.mg_of X G xgP,PySem.W.mg_of X G xgM,PySem.W.mg_of X G xgN,PySem.W.mg_of X G xgR,PySem.W.mg_of X G xgL,PySem.W.mg_of X G xgO,⟨iH xeM,xoM⟩,⟨iH xeN,xoN⟩,⟨iH xeR,xoR⟩,⟨iH xeL,xoL⟩,⟨iH xeO,xdO,xlO⟩,⟨xsO,xpO,xtO,xdO⟩,⟨xaP,xrP,xfP⟩,⟨_,xi⟩,xhM,xhN,xhR,xhL,xq0,xq1,xq2,xq3,xq4⟩
 have GX:vp K mg cP cM cN cR cL cO:=⟨GX,iH xeP,xyP,xyO,xsM,xzO,xmM,xmO⟩
 have G_LONGEST_NAME:mg "LONGEST_NAME" = some (.int 8 tk_LONGEST_NAME):=PySem.W.mg_of X G g_LONGEST_NAME
 have G_MOST_PIECES:mg "MOST_PIECES" = some (.int 400 tk_MOST_PIECES):=PySem.W.mg_of X G g_MOST_PIECES
 have G_MOST_DEEDS:mg "MOST_DEEDS" = some (.int 12 tk_MOST_DEEDS):=PySem.W.mg_of X G g_MOST_DEEDS
 have G_MOST_FIGURES:mg "MOST_FIGURES" = some (.int 40 tk_MOST_FIGURES):=PySem.W.mg_of X G g_MOST_FIGURES
 have G_MOST_NUMBERS:mg "MOST_NUMBERS" = some (.int 200 tk_MOST_NUMBERS):=PySem.W.mg_of X G g_MOST_NUMBERS
 have GE:zq K mg aE s0 s1 s2 s3:=⟨⟨PySem.W.mg_of X G gE,_,_,lE,(.cons rfl rfl (.cons rfl rfl (.cons rfl rfl (.cons rfl rfl .nil))))⟩,⟨_,_,_,qE0,rfl,rfl,(by show 0<=sizeLine;decide),.nil⟩,⟨_,_,_,qE1,rfl,rfl,(by show 1<=sizeLine;decide),(.cons ⟨_,rfl⟩ .nil)⟩,⟨_,_,_,qE2,rfl,rfl,(by show 4<=sizeLine;decide),(.cons ⟨_,rfl⟩ (.cons ⟨_,rfl⟩ (.cons ⟨_,rfl⟩ (.cons ⟨_,rfl⟩ .nil))))⟩,⟨_,_,_,qE3,rfl,rfl,(by show 4<=sizeLine;decide),(.cons ⟨_,rfl⟩ (.cons ⟨_,rfl⟩ (.cons ⟨_,rfl⟩ (.cons ⟨_,rfl⟩ .nil))))⟩⟩
 have GD:wb K mg aD d0 d1 d2 d3 d4:=⟨⟨PySem.W.mg_of X G gD,_,_,lD,(.cons rfl rfl (.cons rfl rfl (.cons rfl rfl (.cons rfl rfl (.cons rfl rfl .nil)))))⟩,⟨_,_,_,qD0,rfl,rfl,(by show 2<=sizeLine;decide),(.cons ⟨_,rfl⟩ (.cons ⟨_,rfl⟩ .nil))⟩,⟨_,_,_,qD1,rfl,rfl,(by show 2<=sizeLine;decide),(.cons ⟨_,rfl⟩ (.cons ⟨_,rfl⟩ .nil))⟩,⟨_,_,_,qD2,rfl,rfl,(by show 2<=sizeLine;decide),(.cons ⟨_,rfl⟩ (.cons ⟨_,rfl⟩ .nil))⟩,⟨_,_,_,qD3,rfl,rfl,(by show 1<=sizeLine;decide),(.cons ⟨_,rfl⟩ .nil)⟩,⟨_,_,_,qD4,rfl,rfl,(by show 1<=sizeLine;decide),(.cons ⟨_,rfl⟩ .nil)⟩⟩
 have GR:AE K mg aR r6 _:=⟨⟨PySem.W.mg_of X G gR,_,_,lR,(.cons rfl rfl (.cons rfl rfl (.cons rfl rfl (.cons rfl rfl (.cons rfl rfl (.cons rfl rfl (.cons rfl rfl (.cons rfl rfl (.cons rfl rfl (.cons rfl rfl (.cons rfl rfl (.cons rfl rfl .nil))))))))))))⟩,rfl,⟨_,_,_,qR,rfl,rfl,(by show 0<=sizeLine;decide),.nil⟩⟩
 have GS:EG K mg aS:=⟨PySem.W.mg_of X G gS,_,_,_,qS,rfl,rfl,(by show 5<=sizeLine;decide),(.cons ⟨_,rfl⟩ (.cons ⟨_,rfl⟩ (.cons ⟨_,rfl⟩ (.cons ⟨_,rfl⟩ (.cons ⟨_,rfl⟩ .nil)))))⟩
 have T:qW K C:=⟨⟨pgC,hdC,poC,saC⟩,nC_plans⟩
 obtain⟨oc,od,kV,dc,pm,an,cd,ct,sl,rfl,lk,hcd⟩:=D39.F.ex
 refine⟨PySem.W.fnOf "law" "law" (dB mz) (cI mz) (ax mz) .none kV dc pm an cd ct,fun s v=>.of_eq rfl,fun base _ _=>?_⟩
 have O_is_whole:=bH l.prog w base X G D0 (uc D0.F Z) (gJ fun _ _ _ _ _ _ _=>rfl)
 have O_is_name:=bH l.prog w base X G D1 (wW D1.F Z G_LONGEST_NAME G_MOST_PIECES G_MOST_DEEDS G_MOST_FIGURES G_MOST_NUMBERS) (gJ fun _ _ _ _ _ _ _=>rfl)
 have O_is_part:=bH l.prog w base X G D2 (wX D2.F Z O_is_whole O_is_name) (oE fun _ _ _ _ _ _ _ _ _=>rfl)
 have O_first_word:=bH l.prog w base X G D3 (qL D3.F Z) (gJ fun _ _ _ _ _ _ _=>rfl)
 have O_has_parts:=bH l.prog w base X G D4 (tq D4.F Z O_is_part) (oE fun _ _ _ _ _ _ _ _ _=>rfl)
 have O_is_deed:=bH l.prog w base X G D5 (wY D5.F Z GD yD O_has_parts O_first_word) (gJ fun _ _ _ _ _ _ _=>rfl)
 have O_is_end:=bH l.prog w base X G D6 (yI D6.F Z GE yE O_has_parts O_first_word) (kW fun _ _ _ _ _ _ _ _=>rfl)
 have O_is_piece:=bH l.prog w base X G D7 (ud D7.F Z G_LONGEST_NAME G_MOST_PIECES G_MOST_DEEDS G_MOST_FIGURES G_MOST_NUMBERS O_is_deed O_is_end) (kW fun _ _ _ _ _ _ _ _=>rfl)
 have O_read_number:=bH l.prog w base X G D8 (pR D8.F Z G_LONGEST_NAME G_MOST_PIECES G_MOST_DEEDS G_MOST_FIGURES G_MOST_NUMBERS) (gJ fun _ _ _ _ _ _ _=>rfl)
 have O_read_word:=bH l.prog w base X G D9 (tu D9.F Z O_read_number) (gJ fun _ _ _ _ _ _ _=>rfl)
 have O_read_step:=bH l.prog w base X G D10 (tw D10.F Z O_read_word) (gJ fun _ _ _ _ _ _ _=>rfl)
 have O_NoPlan___init__:=Bx l.prog w base X G xgO xhO D11 xi (mi D11.F Z GX) (kW fun _ _ _ _ _ _ _ _=>rfl)
 have OX_read_piece:=vf l.prog w base X G D12 (qM D12.F Z GX O_read_step O_is_piece O_NoPlan___init__) (oE fun _ _ _ _ _ _ _ _ _=>rfl)
 have OX_read_plan:=vf l.prog w base X G D13 (tD D13.F Z G_LONGEST_NAME G_MOST_PIECES G_MOST_DEEDS G_MOST_FIGURES G_MOST_NUMBERS GX OX_read_piece) (gJ fun _ _ _ _ _ _ _=>rfl)
 have O_in_a_row:=bH l.prog w base X G D14 (ue D14.F Z) (gJ fun _ _ _ _ _ _ _=>rfl)
 have O_piece_text:=bH l.prog w base X G D15 (qN D15.F Z O_in_a_row) (gJ fun _ _ _ _ _ _ _=>rfl)
 have O_plan_text:=bH l.prog w base X G D16 (tE D16.F Z O_piece_text) (gJ fun _ _ _ _ _ _ _=>rfl)
 have O_is_row:=bH l.prog w base X G D17 (yJ D17.F Z GR yR G_LONGEST_NAME G_MOST_PIECES G_MOST_DEEDS G_MOST_FIGURES G_MOST_NUMBERS) (kW fun _ _ _ _ _ _ _ _=>rfl)
 have O_read_row:=bH l.prog w base X G D18 (uf D18.F Z O_is_row) (gJ fun _ _ _ _ _ _ _=>rfl)
 have O_answered:=bH l.prog w base X G D19 (ug D19.F Z O_plan_text) (oE fun _ _ _ _ _ _ _ _ _=>rfl)
 have OX_Desk___init__:=zG l.prog w base X G aCC mkC kcC D20 (nS D20.F Z GX T OX_read_plan) (kW fun _ _ _ _ _ _ _ _=>rfl)
 have O_Desk_say:=A8 l.prog w base mg T.cl D21 (uh D21.F Z GS T O_read_row O_answered) (kW fun _ _ _ _ _ _ _ _=>rfl)
 have O_law_bag:=bH l.prog w base X G D22 (wZ D22.F Z) (kW fun _ _ _ _ _ _ _ _=>rfl)
 have O_law_take:=bH l.prog w base X G D23 (uk D23.F Z) (kW fun _ _ _ _ _ _ _ _=>rfl)
 have O_law_names:=bH l.prog w base X G D24 (tF D24.F Z O_law_take) (gJ fun _ _ _ _ _ _ _=>rfl)
 have O_law_number:=bH l.prog w base X G D25 (qO D25.F Z O_law_take) (gJ fun _ _ _ _ _ _ _=>rfl)
 have O_law_deed:=bH l.prog w base X G D26 (um D26.F Z O_law_take O_law_number) (kW fun _ _ _ _ _ _ _ _=>rfl)
 have O_law_end:=bH l.prog w base X G D27 (w4 D27.F Z O_law_take O_law_number) (oE fun _ _ _ _ _ _ _ _ _=>rfl)
 have O_law_plan:=bH l.prog w base X G D28 (uo D28.F Z O_law_take O_law_names O_law_deed O_law_end) (oE fun _ _ _ _ _ _ _ _ _=>rfl)
 have O_law_piece_text:=bH l.prog w base X G D29 (mE D29.F Z) (gJ fun _ _ _ _ _ _ _=>rfl)
 have O_law_number_read:=bH l.prog w base X G D30 (mj D30.F Z) (gJ fun _ _ _ _ _ _ _=>rfl)
 have O_law_is_name:=bH l.prog w base X G D31 (pS D31.F Z) (gJ fun _ _ _ _ _ _ _=>rfl)
 have O_law_part_read:=bH l.prog w base X G D32 (nU D32.F Z O_law_is_name O_law_number_read) (oE fun _ _ _ _ _ _ _ _ _=>rfl)
 have O_law_piece_read:=bH l.prog w base X G D33 (mF D33.F Z O_law_part_read) (kW fun _ _ _ _ _ _ _ _=>rfl)
 have O_law_plan_read:=bH l.prog w base X G D34 (nV D34.F Z O_law_piece_read) (gJ fun _ _ _ _ _ _ _=>rfl)
 have O_law_moved:=bH l.prog w base X G D35 (tG D35.F Z O_law_take) (oE fun _ _ _ _ _ _ _ _ _=>rfl)
 have O_law_text_spoilt:=bH l.prog w base X G D36 (ml D36.F Z O_law_take O_law_moved) (kW fun _ _ _ _ _ _ _ _=>rfl)
 have O_law_tried:=bH l.prog w base X G D37 (tH D37.F Z GX T OX_read_plan OX_Desk___init__ O_Desk_say OX_read_piece) (oE fun _ _ _ _ _ _ _ _ _=>rfl)
 have O_law_right:=bH l.prog w base X G D38 (tI D38.F Z O_law_plan_read O_law_tried O_law_take O_law_piece_read) (kW fun _ _ _ _ _ _ _ _=>rfl)
 exact DD D39.F Z O_law_bag O_law_take O_law_plan O_law_piece_text O_law_right O_law_text_spoilt
theorem walk {l:PySem.W.OpenLaw} {q:Program} {loose:List Str} {XP:(Str->Option Value)->Heap->Prop} {YP:World->Heap->Prop} {d:DefRec} {K:Params->PySem.W.Frag} (hn:l.most=some 63) (hdf:d.params.defaults = [])
  (hY:∀ (w:World) (h:Heap),YP w h->(K w.params).In h)
  (F:∀ (w:World) (mg:Str->Option Value) (fa:Addr) (h:Heap),(K w.params).In h->h.Ns mainGlobals mg->mg d.name=some (.ref fa) ->
   ∃ fd:FuncData,(∀ (s:Shared) (u:Value),BindsTo s fd ⟨[u],[]⟩ [("script",u)])/\∀ base:Heap,(K w.params).In base->base.Ns mainGlobals mg->aZ l.prog w (K w.params) mg base bS 13 fa fd ["script"] (qT (K w.params))) :
  PySem.W.WalkO q loose XP YP l.row.toRowW d [] (fun f vs=>PySem.call f vs) :=
 L2.AW (n:=63) (k:=13) (x := "script") (CX:=fun _=>bS) (sp:=fun w=>qT (K w.params)) hn (by decide) hdf ⟨rfl,by decide,by decide⟩ hY F (fun _ _ a ns hl _ hS=>⟨a,ns,rfl,hS,hl,fun _=>rfl⟩) fun _ _ _ _ _ z=>z
end My
theorem PySem.W.Fast.tw6390792671256551758:True:=trivial
theorem PySem.W.Fast.tw9055568337791899239:True:=trivial
theorem PySem.W.Fast.tw5063590391125087489:True:=trivial
theorem PySem.W.Fast.tw18363336107428288675:True:=trivial
theorem PySem.W.Fast.tw2354896940373649874:True:=trivial
theorem PySem.W.Fast.tw4649358351935631884:True:=trivial
theorem PySem.W.Fast.tw12102741541393809858:True:=trivial
theorem PySem.W.Fast.tw8553020961824684105:True:=trivial
theorem PySem.W.Fast.tw9969797747220980195:True:=trivial
theorem PySem.W.Fast.tw5580000792158134013:True:=trivial
theorem PySem.W.Fast.tw13913830277661926112:True:=trivial
theorem PySem.W.Fast.tw6144906288191696392:True:=trivial
theorem PySem.W.Fast.tw16326610731661910390:True:=trivial
theorem PySem.W.Fast.tw15207008503936268205:True:=trivial
theorem PySem.W.Fast.tw6709983225989048790:True:=trivial
theorem PySem.W.Fast.tw15057621809917630207:True:=trivial
theorem PySem.W.Fast.tw1422299311304230276:True:=trivial
theorem PySem.W.Fast.tw6482212048184906092:True:=trivial
theorem PySem.W.Fast.tw2294604179009073217:True:=trivial
theorem PySem.W.Fast.tw2918846614623569096:True:=trivial
theorem PySem.W.Fast.tw18426733275625606500:True:=trivial
theorem PySem.W.Fast.tw13009014395643193074:True:=trivial
theorem PySem.W.Fast.tw13174270547814445230:True:=trivial
theorem PySem.W.Fast.tw8094100000696837239:True:=trivial
theorem PySem.W.Fast.tw5564621584633905677:True:=trivial
theorem PySem.W.Fast.tw2371019983375491916:True:=trivial
theorem PySem.W.Fast.tw11612558526274010451:True:=trivial
theorem PySem.W.Fast.tw9364983522467187891:True:=trivial
theorem PySem.W.Fast.tw5765029728313189381:True:=trivial
theorem PySem.W.Fast.tw12038786227801510547:True:=trivial
theorem PySem.W.Fast.tw8835558613134765798:True:=trivial
theorem PySem.W.Fast.tw13049748237485583525:True:=trivial
theorem PySem.W.Fast.tw5072554407410407865:True:=trivial
theorem PySem.W.Fast.tw4489967153024036299:True:=trivial
theorem PySem.W.Fast.tw15040982958378879093:True:=trivial
theorem PySem.W.Fast.tw16944438856294428137:True:=trivial
theorem PySem.W.Fast.tw7310452347022269065:True:=trivial
theorem PySem.W.Fast.tw17689069706970596053:True:=trivial
theorem PySem.W.Fast.tw1742961435771017373:True:=trivial
theorem PySem.W.Fast.tw10094517546943866640:True:=trivial
theorem PySem.W.Fast.tw13295307024637151494:True:=trivial
theorem PySem.W.Fast.tw5311002819644008493:True:=trivial
theorem PySem.W.Fast.tw16062570146811830932:True:=trivial
theorem PySem.W.Fast.tw5608995448696471797:True:=trivial
theorem PySem.W.Fast.tw14221960817290476147:True:=trivial
theorem PySem.W.Fast.tw13621544564681311649:True:=trivial
theorem PySem.W.Fast.tw18271310393775866946:True:=trivial
theorem PySem.W.Fast.tw15867592842780756080:True:=trivial
theorem PySem.W.Fast.tw13102842446741652355:True:=trivial
theorem PySem.W.Fast.tw1720298757780863609:True:=trivial
theorem PySem.W.Fast.tw7754599805959182694:True:=trivial
theorem PySem.W.Fast.tw9702093602564659378:True:=trivial
theorem PySem.W.Fast.tw8628337106942773501:True:=trivial
theorem PySem.W.Fast.tw6825201247254853359:True:=trivial
theorem PySem.W.Fast.tw18046327389740463908:True:=trivial
theorem PySem.W.Fast.tw13330173237127235044:True:=trivial
theorem PySem.W.Fast.tw16028368043601527088:True:=trivial
theorem PySem.W.Fast.tw8270478066937833089:True:=trivial
theorem PySem.W.Fast.tw8304705545221768116:True:=trivial
theorem PySem.W.Fast.tw16740232023175865409:True:=trivial
theorem PySem.W.Fast.tw16012501745583213117:True:=trivial
theorem PySem.W.Fast.tw10865092390305714541:True:=trivial
theorem PySem.W.Fast.tw14725396976255412954:True:=trivial
theorem PySem.W.Fast.tw83455414652110757:True:=trivial
theorem PySem.W.Fast.tw8716753774255661971:True:=trivial
theorem PySem.W.Fast.tw9997264973898150642:True:=trivial
theorem PySem.W.Fast.tw15252282125871473249:True:=trivial
theorem PySem.W.Fast.tw5826956055166614703:True:=trivial
theorem PySem.W.Fast.tw15772682509088851855:True:=trivial
theorem PySem.W.Fast.tw1133292474932980178:True:=trivial
theorem PySem.W.Fast.tw11614079595503238280:True:=trivial
theorem PySem.W.Fast.tw9555002639680326201:True:=trivial
theorem PySem.W.Fast.tw13695181377167521214:True:=trivial
theorem PySem.W.Fast.tw5799057751035799003:True:=trivial
theorem PySem.W.Fast.tw4667811926727959762:True:=trivial
theorem PySem.W.Fast.tw9401635686083568947:True:=trivial
theorem PySem.W.Fast.tw11189246223353462397:True:=trivial
theorem PySem.W.Fast.tw2751893482266983413:True:=trivial
theorem PySem.W.Fast.tw10461482326358205477:True:=trivial
theorem PySem.W.Fast.tw11594373887233507737:True:=trivial
theorem PySem.W.Fast.tw14239663479668250042:True:=trivial
theorem PySem.W.Fast.tw10048592446360270876:True:=trivial
theorem PySem.W.Fast.tw11155838001486305487:True:=trivial
theorem PySem.W.Fast.tw5517785119815565664:True:=trivial
theorem PySem.W.Fast.tw1316634318471475341:True:=trivial
theorem PySem.W.Fast.tw16473868383859340159:True:=trivial
theorem PySem.W.Fast.tw4398435893745884127:True:=trivial
theorem PySem.W.Fast.tw13339621421586106907:True:=trivial
theorem PySem.W.Fast.tw3527378906374318772:True:=trivial
theorem PySem.W.Fast.tw9545923038608094916:True:=trivial
theorem PySem.W.Fast.tw15733655315286464638:True:=trivial
theorem PySem.W.Fast.tw18249983566097104273:True:=trivial
theorem PySem.W.Fast.tw6181103315342837908:True:=trivial
theorem PySem.W.Fast.tw4321112717079833361:True:=trivial
theorem PySem.W.Fast.tw7424520507621479849:True:=trivial
theorem PySem.W.Fast.tw11447957941715791883:True:=trivial
theorem PySem.W.Fast.tw8245976949829267669:True:=trivial
theorem PySem.W.Fast.tw7701816805632095278:True:=trivial
theorem PySem.W.Fast.tw15917822482925179163:True:=trivial
theorem PySem.W.Fast.tw5182280392186699608:True:=trivial
theorem PySem.W.Fast.tw16378174810408783087:True:=trivial
theorem PySem.W.Fast.tw2781428724214165512:True:=trivial
theorem PySem.W.Fast.tw4724197490979745528:True:=trivial
theorem PySem.W.Fast.tw4541468487064207854:True:=trivial
theorem PySem.W.Fast.tw1494182914279514732:True:=trivial
theorem PySem.W.Fast.tw2369958615879747250:True:=trivial
theorem PySem.W.Fast.tw12333804289679384626:True:=trivial
theorem PySem.W.Fast.tw8905566924990353090:True:=trivial
theorem PySem.W.Fast.tw3637022351342866790:True:=trivial
theorem PySem.W.Fast.tw9847468862881986957:True:=trivial
theorem PySem.W.Fast.tw10535598329381433059:True:=trivial
theorem PySem.W.Fast.tw4372958341298498170:True:=trivial
theorem PySem.W.Fast.tw2781419961768646538:True:=trivial
theorem PySem.W.Fast.tw10941896108812618724:True:=trivial
theorem PySem.W.Fast.tw14344954135059888264:True:=trivial
theorem PySem.W.Fast.tw13537493812248827087:True:=trivial
theorem PySem.W.Fast.tw10160574121810163996:True:=trivial
theorem PySem.W.Fast.tw15401262130141701049:True:=trivial
theorem PySem.W.Fast.tw1989354559493131531:True:=trivial
theorem PySem.W.Fast.tw13240977593413681723:True:=trivial
theorem PySem.W.Fast.tw6674841906634810361:True:=trivial
theorem PySem.W.Fast.tw14893582271150880380:True:=trivial
theorem PySem.W.Fast.tw11159486994950074918:True:=trivial
theorem PySem.W.Fast.tw3565960970759480678:True:=trivial
theorem PySem.W.Fast.tw54845032156321735:True:=trivial
theorem PySem.W.Fast.tw9048318700844001158:True:=trivial
theorem PySem.W.Fast.tw15751320191440332689:True:=trivial
theorem PySem.W.Fast.tw6196587408193379780:True:=trivial
theorem PySem.W.Fast.tw15220471665362840404:True:=trivial
theorem PySem.W.Fast.tw1064736051065348518:True:=trivial
theorem PySem.W.Fast.tw15119789539950169180:True:=trivial
theorem PySem.W.Fast.tw9729244931225340716:True:=trivial
theorem PySem.W.Fast.tw10472743175822932350:True:=trivial
theorem PySem.W.Fast.tw13194078149683794602:True:=trivial
theorem PySem.W.Fast.tw7513964378972945089:True:=trivial
theorem PySem.W.Fast.tw12322489835917318834:True:=trivial
theorem PySem.W.Fast.tw15155460217032601329:True:=trivial
theorem PySem.W.Fast.tw1508809393277487829:True:=trivial
theorem PySem.W.Fast.tw13259906145313818385:True:=trivial
theorem PySem.W.Fast.tw8265495520107850419:True:=trivial
theorem PySem.W.Fast.tw13190209173522723297:True:=trivial
theorem PySem.W.Fast.tw4846981959202875172:True:=trivial
theorem PySem.W.Fast.tw16148584395906599391:True:=trivial
theorem PySem.W.Fast.tw15569026778784261839:True:=trivial
theorem PySem.W.Fast.tw2105002449524704516:True:=trivial
theorem PySem.W.Fast.tw630932979996208976:True:=trivial
theorem PySem.W.Fast.tw3373533375746170603:True:=trivial
theorem PySem.W.Fast.tw14722741155439306249:True:=trivial
theorem PySem.W.Fast.tw5546894128523866272:True:=trivial
theorem PySem.W.Fast.tw3902594807728404099:True:=trivial
theorem PySem.W.Fast.tw15580540372358774374:True:=trivial
theorem PySem.W.Fast.tw10574578127950777724:True:=trivial
theorem PySem.W.Fast.tw1594323210523717008:True:=trivial
theorem PySem.W.Fast.tw7350162182460568930:True:=trivial
theorem PySem.W.Fast.tw13790698053318738346:True:=trivial
theorem PySem.W.Fast.tw3818751975603769015:True:=trivial
theorem PySem.W.Fast.tw4061187741566430935:True:=trivial
theorem PySem.W.Fast.tw17921658942024882014:True:=trivial
theorem PySem.W.Fast.tw11394772451533493488:True:=trivial
theorem PySem.W.Fast.tw6187784990218591682:True:=trivial
theorem PySem.W.Fast.tw13406517998802284781:True:=trivial
theorem PySem.W.Fast.tw5915203544349600349:True:=trivial
theorem PySem.W.Fast.tw8272290413020458444:True:=trivial
theorem PySem.W.Fast.tw7172336784019885581:True:=trivial
theorem PySem.W.Fast.tw10618609273770295915:True:=trivial
theorem PySem.W.Fast.tw10862107350149464343:True:=trivial
theorem PySem.W.Fast.tw3816664011593764103:True:=trivial
theorem PySem.W.Fast.tw17993736646166938921:True:=trivial
theorem PySem.W.Fast.tw10960080279962114530:True:=trivial
theorem PySem.W.Fast.tw2031374976933892831:True:=trivial
theorem PySem.W.Fast.tw15364343457384508276:True:=trivial
theorem PySem.W.Fast.tw7309856310159673163:True:=trivial
theorem PySem.W.Fast.tw12685920569603063948:True:=trivial
theorem PySem.W.Fast.tw2317654290638929934:True:=trivial
theorem PySem.W.Fast.tw10354804699386499731:True:=trivial
theorem PySem.W.Fast.tw12410180034216147888:True:=trivial
theorem PySem.W.Fast.tw4846122321206657214:True:=trivial
theorem PySem.W.Fast.tw13506227527808172633:True:=trivial
theorem PySem.W.Fast.tw237020410353563934:True:=trivial
theorem PySem.W.Fast.tw16581734699589388965:True:=trivial
theorem PySem.W.Fast.tw13079816173047267720:True:=trivial
theorem PySem.W.Fast.tw6758112584306886828:True:=trivial
theorem PySem.W.Fast.tw17299105159710063628:True:=trivial
theorem PySem.W.Fast.tw5690203509930903350:True:=trivial
theorem PySem.W.Fast.tw13041881307025848551:True:=trivial
theorem PySem.W.Fast.tw8205988079771000781:True:=trivial
theorem PySem.W.Fast.tw775645220532596922:True:=trivial
theorem PySem.W.Fast.tw15889880024310871630:True:=trivial
theorem PySem.W.Fast.tw8999893807100344992:True:=trivial
theorem PySem.W.Fast.tw4976186876770193992:True:=trivial
theorem PySem.W.Fast.tw1820189912770877008:True:=trivial
theorem PySem.W.Fast.tw12840807332029812646:True:=trivial
theorem PySem.W.Fast.tw10120108790953021185:True:=trivial
theorem PySem.W.Fast.tw12596121235552221320:True:=trivial
theorem PySem.W.Fast.tw6957963484588383531:True:=trivial
theorem PySem.W.Fast.tw12026625701148423070:True:=trivial
theorem PySem.W.Fast.tw8617290863052887506:True:=trivial
theorem PySem.W.Fast.tw1600358695716302504:True:=trivial
theorem PySem.W.Fast.tw13921163282437240973:True:=trivial
theorem PySem.W.Fast.tw4581916273631335129:True:=trivial
theorem PySem.W.Fast.tw7537898901169835915:True:=trivial
theorem PySem.W.Fast.tw14072049211729779578:True:=trivial
theorem PySem.W.Fast.tw8985491879374998487:True:=trivial
theorem PySem.W.Fast.tw11847949552435064587:True:=trivial
theorem PySem.W.Fast.tw18158766079700583210:True:=trivial
theorem PySem.W.Fast.tw8074207862289749364:True:=trivial
theorem PySem.W.Fast.tw14262281701134712600:True:=trivial
theorem PySem.W.Fast.tw15447080037901206666:True:=trivial
theorem PySem.W.Fast.tw10190580339710450811:True:=trivial
theorem PySem.W.Fast.tw14792913363686347380:True:=trivial
theorem PySem.W.Fast.tw17852758627139727993:True:=trivial
theorem PySem.W.Fast.tw12063739019430034002:True:=trivial
theorem PySem.W.Fast.tw9974378971995913699:True:=trivial
theorem PySem.W.Fast.tw15614113791340804509:True:=trivial
theorem PySem.W.Fast.tw5626673811080399985:True:=trivial
theorem PySem.W.Fast.tw16021842485025659036:True:=trivial
theorem PySem.W.Fast.tw9422617710984711742:True:=trivial
theorem PySem.W.Fast.tw6443906995487578243:True:=trivial
theorem PySem.W.Fast.tw11678830611919336229:True:=trivial
theorem PySem.W.Fast.tw5793697428527780933:True:=trivial
theorem PySem.W.Fast.tw10248196988370667831:True:=trivial
theorem PySem.W.Fast.tw3946585893710854370:True:=trivial
theorem PySem.W.Fast.tw2394575773195670906:True:=trivial
theorem PySem.W.Fast.tw10745079181792039973:True:=trivial
theorem PySem.W.Fast.tw2456206987649282034:True:=trivial
theorem PySem.W.Fast.tw6905713469432739987:True:=trivial
theorem PySem.W.Fast.tw11469284770287413272:True:=trivial
theorem PySem.W.Fast.tw6782342418920508333:True:=trivial
theorem PySem.W.Fast.tw10158093842916288501:True:=trivial
theorem PySem.W.Fast.tw8199908717752060421:True:=trivial
theorem PySem.W.Fast.tw8378515112873917391:True:=trivial
theorem PySem.W.Fast.tw14123614758043308882:True:=trivial
theorem PySem.W.Fast.tw100799391640294689:True:=trivial
theorem PySem.W.Fast.tw7546596989932482235:True:=trivial
theorem PySem.W.Fast.tw14222856648470039287:True:=trivial
theorem PySem.W.Fast.tw5884036719879030766:True:=trivial
theorem PySem.W.Fast.tw4415518054187512009:True:=trivial
theorem PySem.W.Fast.tw12602644631787735971:True:=trivial
theorem PySem.W.Fast.tw2390447470626207768:True:=trivial
theorem PySem.W.Fast.tw17039151739738203741:True:=trivial
theorem PySem.W.Fast.tw16215692428898809350:True:=trivial
theorem PySem.W.Fast.tw5311126048735567643:True:=trivial
theorem PySem.W.Fast.tw17819438954862037596:True:=trivial
theorem PySem.W.Fast.tw14944240367939024391:True:=trivial
theorem PySem.W.Fast.tw17410531786907390221:True:=trivial
theorem PySem.W.Fast.tw4520645053132976978:True:=trivial
theorem PySem.W.Fast.tw15768050624834930058:True:=trivial
theorem PySem.W.Fast.tw9358552376384495866:True:=trivial
theorem PySem.W.Fast.tw13263235288638727853:True:=trivial
theorem PySem.W.Fast.tw11211594053704499400:True:=trivial
theorem PySem.W.Fast.tw18051731971960601261:True:=trivial
theorem PySem.W.Fast.tw10610642152478333054:True:=trivial
theorem PySem.W.Fast.tw16091353931403274950:True:=trivial
theorem PySem.W.Fast.tw15968720919517794107:True:=trivial
theorem PySem.W.Fast.tw1375152102816787061:True:=trivial
theorem PySem.W.Fast.tw789685646621424330:True:=trivial
theorem PySem.W.Fast.tw6795022227714705768:True:=trivial
theorem PySem.W.Fast.tw12323434797785469618:True:=trivial
theorem PySem.W.Fast.tw16257641942077133113:True:=trivial
theorem PySem.W.Fast.tw478563772709458898:True:=trivial
theorem PySem.W.Fast.tw11884381096490395881:True:=trivial
theorem PySem.W.Fast.tw5512438108461344003:True:=trivial
theorem PySem.W.Fast.tw17356161949647661224:True:=trivial
theorem PySem.W.Fast.tw11631614754015299154:True:=trivial
theorem PySem.W.Fast.tw8252759663004754560:True:=trivial
theorem PySem.W.Fast.tw3852429644930270592:True:=trivial
open PySem PySem.W PyProof.Rows
set_option maxRecDepth 100000 in
set_option maxHeartbeats 0 in
theorem PySem.Challenge.cw_ledpast_k22_whole_texts_spoilt_anywhere_holds : PySem.Challenge.rw_ledpast_k22_whole_texts_spoilt_anywhere.Holds := by
 w_on; o_law; k_head; (case hw => w_witness2)
 k_fill
 refine My.walk (l := PySem.Challenge.rw_ledpast_k22_whole_texts_spoilt_anywhere) rfl rfl (fun w h Y => PySem.W.kIn_of Y) ?F
 case F =>
  intro w mg fa h KX G hmg
  refine' My.all_mk KX G hmg ?z_len ?z_min ?z_max ?z_range ?z_isinstance ?z_bool ?z_int ?z_str ?z_tuple ?z_all ?z_zip ?z_list ?z_enumerate ?z_ValueError ?xgP ?xgM ?xgN ?xgR ?xgL ?xgO ?xhM ?xhN ?xhR ?xhL ?xhO ?xoM ?xoN ?xoR ?xoL ?xeM ?xeN ?xeR ?xeL ?xeO ?xdO ?xlO ?xsO ?xpO ?xtO ?xaP ?xrP ?xfP ?xi ?xq0 ?xq1 ?xq2 ?xq3 ?xq4 ?xeP ?xyP ?xyO ?xsM ?xzO ?xmM ?xmO ?g_LONGEST_NAME ?g_MOST_PIECES ?g_MOST_DEEDS ?g_MOST_FIGURES ?g_MOST_NUMBERS ?gE ?lE ?qE0 ?qE1 ?qE2 ?qE3 ?yE ?gD ?lD ?qD0 ?qD1 ?qD2 ?qD3 ?qD4 ?yD ?gR ?lR ?qR ?yR ?gS ?qS ?aCC ?pgC ?hdC ?poC ?saC ?mkC ?kcC ?nC_plans (L2.def_mk ?a0 ?l0 ?c0 ?k0) (L2.def_mk ?a1 ?l1 ?c1 ?k1) (L2.def_mk ?a2 ?l2 ?c2 ?k2) (L2.def_mk ?a3 ?l3 ?c3 ?k3) (L2.def_mk ?a4 ?l4 ?c4 ?k4) (L2.def_mk ?a5 ?l5 ?c5 ?k5) (L2.def_mk ?a6 ?l6 ?c6 ?k6) (L2.def_mk ?a7 ?l7 ?c7 ?k7) (L2.def_mk ?a8 ?l8 ?c8 ?k8) (L2.def_mk ?a9 ?l9 ?c9 ?k9) (L2.def_mk ?a10 ?l10 ?c10 ?k10) (L2.met_mk ?a11 ?i11 ?l11 ?c11 ?k11) (L2.def_mk ?a12 ?l12 ?c12 ?k12) (L2.def_mk ?a13 ?l13 ?c13 ?k13) (L2.def_mk ?a14 ?l14 ?c14 ?k14) (L2.def_mk ?a15 ?l15 ?c15 ?k15) (L2.def_mk ?a16 ?l16 ?c16 ?k16) (L2.def_mk ?a17 ?l17 ?c17 ?k17) (L2.def_mk ?a18 ?l18 ?c18 ?k18) (L2.def_mk ?a19 ?l19 ?c19 ?k19) (L2.met_mk ?a20 ?i20 ?l20 ?c20 ?k20) (L2.met_mk ?a21 ?i21 ?l21 ?c21 ?k21) (L2.def_mk ?a22 ?l22 ?c22 ?k22) (L2.def_mk ?a23 ?l23 ?c23 ?k23) (L2.def_mk ?a24 ?l24 ?c24 ?k24) (L2.def_mk ?a25 ?l25 ?c25 ?k25) (L2.def_mk ?a26 ?l26 ?c26 ?k26) (L2.def_mk ?a27 ?l27 ?c27 ?k27) (L2.def_mk ?a28 ?l28 ?c28 ?k28) (L2.def_mk ?a29 ?l29 ?c29 ?k29) (L2.def_mk ?a30 ?l30 ?c30 ?k30) (L2.def_mk ?a31 ?l31 ?c31 ?k31) (L2.def_mk ?a32 ?l32 ?c32 ?k32) (L2.def_mk ?a33 ?l33 ?c33 ?k33) (L2.def_mk ?a34 ?l34 ?c34 ?k34) (L2.def_mk ?a35 ?l35 ?c35 ?k35) (L2.def_mk ?a36 ?l36 ?c36 ?k36) (L2.def_mk ?a37 ?l37 ?c37 ?k37) (L2.def_mk ?a38 ?l38 ?c38 ?k38) (L2.def_mk ?a39 ?l39 ?c39 ?k39)
  case xgP | xgM | xgN | xgR | xgL | xgO | xhM | xhN | xhR | xhL | xhO | xdO | xlO | xsO | xtO | xaP | xrP | xfP | xyP | xyO | xsM | xzO | g_LONGEST_NAME | g_MOST_PIECES | g_MOST_DEEDS | g_MOST_FIGURES | g_MOST_NUMBERS | gE | lE | qE0 | qE1 | qE2 | qE3 | gD | lD | qD0 | qD1 | qD2 | qD3 | qD4 | gR | lR | qR | gS | qS | aCC | pgC | hdC | poC | saC | mkC | kcC | nC_plans | a0 | l0 | c0 | k0 | a1 | l1 | c1 | k1 | a2 | l2 | c2 | k2 | a3 | l3 | c3 | k3 | a4 | l4 | c4 | k4 | a5 | l5 | c5 | k5 | a6 | l6 | c6 | k6 | a7 | l7 | c7 | k7 | a8 | l8 | c8 | k8 | a9 | l9 | c9 | k9 | a10 | l10 | c10 | k10 | a11 | i11 | l11 | c11 | k11 | a12 | l12 | c12 | k12 | a13 | l13 | c13 | k13 | a14 | l14 | c14 | k14 | a15 | l15 | c15 | k15 | a16 | l16 | c16 | k16 | a17 | l17 | c17 | k17 | a18 | l18 | c18 | k18 | a19 | l19 | c19 | k19 | a20 | i20 | l20 | c20 | k20 | a21 | i21 | l21 | c21 | k21 | a22 | l22 | c22 | k22 | a23 | l23 | c23 | k23 | a24 | l24 | c24 | k24 | a25 | l25 | c25 | k25 | a26 | l26 | c26 | k26 | a27 | l27 | c27 | k27 | a28 | l28 | c28 | k28 | a29 | l29 | c29 | k29 | a30 | l30 | c30 | k30 | a31 | l31 | c31 | k31 | a32 | l32 | c32 | k32 | a33 | l33 | c33 | k33 | a34 | l34 | c34 | k34 | a35 | l35 | c35 | k35 | a36 | l36 | c36 | k36 | a37 | l37 | c37 | k37 | a38 | l38 | c38 | k38 | a39 | l39 | c39 | k39 | z_len | z_min | z_max | z_range | z_isinstance | z_bool | z_int | z_str | z_tuple | z_all | z_zip | z_list | z_enumerate | z_ValueError => k_is
  case xoM | xoN | xoR | xoL | xeM | xeN | xeR | xeL | xeO | xpO | xi | xq0 | xq1 | xq2 | xq3 | xq4 | xeP | xmM | xmO | yE | yD | yR => kernel_rfl
