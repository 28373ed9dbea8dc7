import PyProof.Rows.All
import Wide.All
import OpenK.AllK
import Wide.FinOn
import Lean
import PyProof.EqAt
import PyProof.EqKinds
import PyProof.TupleCall
import PyProof.NeData
import KE.KIntText
import PyProof.StrLawsIn
import PyProof.StrLawsIdx
import PySem.Challenge.RW_ledpast_k20_numbers_as_texts
-- CHANGE: your row's module here, as the last of these rows
set_option Elab.async false
set_option linter.all false
set_option maxRecDepth 100000
/-! THE HAND LAYER, for ints, bools, texts, own classes, LISTS and tuples (index, slices, in, append, pop ..), calls, loops. Paste it whole ahead of your own text; what your proof does not reach may be deleted. -/
namespace L2
open PySem PySem.Spec PyProof.Rows

/-- a key: an int or a str -/
abbrev Key := Sum Int Str
def keyIs : Key → Value → Bool
  | .inl k, v => Value.isInt k v
  | .inr x, v => Value.isStrOf x v
def keyH (w : World) : Key → Int
  | .inl k => hashInt k
  | .inr x => hashStr w x
theorem keyIs_shape : ∀ {k : Key} {v : Value}, keyIs k v = true → (∃ i t, k = Sum.inl i ∧ v = Value.int i t) ∨ (∃ x t, k = Sum.inr x ∧ v = Value.str x t)
  | .inl i, v, h => by
    obtain ⟨t, e⟩ := Value.isInt_shape (k := i) (v := v) h
    exact .inl ⟨i, t, rfl, e⟩
  | .inr x, v, h => by
    obtain ⟨t, e⟩ := Value.isStrOf_shape (x := x) (v := v) h
    exact .inr ⟨x, t, rfl, e⟩
theorem key_ll (a b : Int) : decide ((Sum.inl a : Key) = Sum.inl b) = (a == b) := by
  by_cases e : a = b
  · subst e; simp
  · have h : ¬ (Sum.inl a : Key) = Sum.inl b := fun q => e (Sum.inl.inj q)
    rw [decide_eq_false h]
    exact (beq_eq_false_iff_ne.mpr e).symm
theorem key_rr (a b : Str) : decide ((Sum.inr a : Key) = Sum.inr b) = decide (a = b) := by
  by_cases e : a = b
  · subst e; simp
  · have h : ¬ (Sum.inr a : Key) = Sum.inr b := fun q => e (Sum.inr.inj q)
    rw [decide_eq_false h, decide_eq_false e]
theorem key_lr (a : Int) (b : Str) : decide ((Sum.inl a : Key) = Sum.inr b) = false := decide_eq_false (fun q => nomatch q)
theorem key_rl (a : Str) (b : Int) : decide ((Sum.inr a : Key) = Sum.inl b) = false := decide_eq_false (fun q => nomatch q)

def mixKind (prog : Program) (w : World) : PySem.KeyKind prog w Key where
  is := keyIs
  hash := keyH w
  inj := fun v a b ha hb => by
    rcases keyIs_shape ha with ⟨i, t, rfl, rfl⟩ | ⟨x, t, rfl, rfl⟩
    · rcases keyIs_shape hb with ⟨j, u, rfl, e⟩ | ⟨y, u, rfl, e⟩
      · injection e with e1 _; rw [e1]
      · exact nomatch e
    · rcases keyIs_shape hb with ⟨j, u, rfl, e⟩ | ⟨y, u, rfl, e⟩
      · exact nomatch e
      · injection e with e1 _; rw [e1]
  byValue := fun k v h => by
    rcases keyIs_shape h with ⟨i, t, rfl, rfl⟩ | ⟨x, t, rfl, rfl⟩ <;> rfl
  pyHash := fun hv h => by
    rcases keyIs_shape hv with ⟨i, t, rfl, rfl⟩ | ⟨x, t, rfl, rfl⟩
    · exact wpAny_pyHash_int h
    · exact wpAny_pyHash_str h
  eqBool := fun hu hv h => by
    rcases keyIs_shape hu with ⟨i, t, rfl, rfl⟩ | ⟨x, t, rfl, rfl⟩
    · rcases keyIs_shape hv with ⟨j, u, rfl, rfl⟩ | ⟨y, u, rfl, rfl⟩
      · rw [key_ll] at h; exact wpAny_eqBool_int h
      · rw [key_lr] at h; exact SeqAt.EqAt.int_str i t y u _ _ _ _ h
    · rcases keyIs_shape hv with ⟨j, u, rfl, rfl⟩ | ⟨y, u, rfl, rfl⟩
      · rw [key_rl] at h; exact SeqAt.EqAt.str_int x t j u _ _ _ _ h
      · rw [key_rr] at h; exact wpAny_eqBool_str h
  «strs» := fun k x t v h => by
    rcases keyIs_shape h with ⟨i, u, rfl, e⟩ | ⟨y, u, rfl, e⟩
    · exact nomatch e
    · injection e with e1 _
      subst e1
      cases v <;> rfl

end L2

namespace L2
open PySem PySem.Spec PyProof.Rows

/-- a value, without the heap -/
inductive V where
  | non | bl (b : Bool) | int (i : Int) | str (x : Str) | byt (b : Array UInt8) | flt (b : UInt64) | ref (a : Addr) | ty (n : String)
  deriving DecidableEq

def RelV : V → Value → Prop
  | .non, u => u = Value.none
  | .bl b, u => u = Value.bool b
  | .int i, u => ∃ t, u = Value.int i t
  | .str x, u => ∃ t, u = Value.str x t
  | .byt b, u => ∃ t, u = Value.bytes b t
  | .flt b, u => ∃ t, u = Value.float b t
  | .ref a, u => u = Value.ref a
  | .ty n, u => u = Value.type n

abbrev Vals : List V → List Value → Prop := Paired RelV
theorem Vals.length {xs : List V} {us : List Value} (r : Vals xs us) : xs.length = us.length := Paired.length r
theorem Vals.get : ∀ {xs : List V} {us : List Value} {i : Nat} {x : V}, Vals xs us → xs[i]? = some x → ∃ u, us[i]? = some u ∧ RelV x u
  | _, _, _, _, .nil, e => by simp at e
  | _, _, 0, _, .cons r _, e => by simp at e; subst e; exact ⟨_, rfl, r⟩
  | _, _, i + 1, x, .cons _ t, e => by
    obtain ⟨u, h1, h2⟩ := Vals.get (i := i) (x := x) t (by simpa using e)
    exact ⟨u, by simpa using h1, h2⟩
theorem Vals.set {x : V} {u : Value} (r : RelV x u) : ∀ {xs : List V} {us : List Value} (i : Nat), Vals xs us → Vals (xs.set i x) (us.set i u)
  | _, _, _, .nil => .nil
  | _, _, 0, .cons _ t => .cons r t
  | _, _, i + 1, .cons q t => .cons q (Vals.set r i t)
theorem Vals.append : ∀ {xs ys : List V} {us ws : List Value}, Vals xs us → Vals ys ws → Vals (xs ++ ys) (us ++ ws)
  | _, _, _, _, .nil, s => s
  | _, _, _, _, .cons r t, s => .cons r (Vals.append t s)
theorem Vals.take : ∀ {xs : List V} {us : List Value} (n : Nat), Vals xs us → Vals (xs.take n) (us.take n)
  | _, _, 0, _ => .nil
  | _, _, _ + 1, .nil => .nil
  | _, _, n + 1, .cons r t => .cons r (Vals.take n t)
theorem Vals.drop : ∀ {xs : List V} {us : List Value} (n : Nat), Vals xs us → Vals (xs.drop n) (us.drop n)
  | _, _, 0, r => r
  | _, _, _ + 1, .nil => .nil
  | _, _, n + 1, .cons _ t => Vals.drop n t
def RelO : Option V → Option Value → Prop
  | some v, some u => RelV v u
  | none, none => True
  | _, _ => False
def KV {κ : Type} : List (κ × V) → List (κ × Value) → Prop := Paired fun (p : κ × V) (q : κ × Value) => p.1 = q.1 ∧ RelV p.2 q.2

/-- a key of a dict (00_mix): an int or a text -/
def kV : Key → V
  | .inl i => .int i
  | .inr x => .str x

/-- what stands at a tracked address -/
inductive HO where
  /-- a list -/
  | lst (xs : List V)
  /-- a tuple (never changes) -/
  | tup (xs : List V)
  /-- a dict whose keys are ints and texts; one whose keys are tuples of ints and texts (the empty one is both) -/
  | dK (kvs : List (Key × V)) | dT (kvs : List (List Key × V))
  /-- a set of ints: its members, its size -/
  | set (S : Int → Bool) (n : Nat)
  /-- an instance of the class at C, its dict at dx, its attributes -/
  | ins (C dx : Addr) (fs : List (Str × V))
  /-- the dict of the instance at x -/
  | own (x : Addr)
  /-- the dict of an exception -/
  | xd (fs : List (Str × V))
  /-- a bound method, f of x -/
  | met (f x : Addr)
  /-- a range object lo, lo + 1, .. below hi -/
  | rng (lo hi : Int)
  /-- a thing that is known to the object (the script; a dict while a loop walks it): read, never written while it is so -/
  | frz (o : Obj) (u : HO)
  /-- a code object's table -/
  | tbl (ps : Array Value)
  /-- any other thing, by what is true of its one object (a def of one's own: SetO a S n := HO.ext fun h => ..) -/
  | ext (φ : Heap → Prop)

abbrev Hp := Addr → Option HO
def upd (H : Hp) (a : Addr) (o : HO) : Hp := fun b => if b = a then some o else H b
theorem upd_same {H : Hp} {a : Addr} {o : HO} : upd H a o a = some o := by unfold upd; rw [if_pos rfl]
theorem upd_ne {H : Hp} {a b : Addr} {o : HO} (h : b ≠ a) : upd H a o b = H b := by unfold upd; rw [if_neg h]
/-- two objects of different content stand apart -/
theorem ne_of {H : Hp} {a b : Addr} {o u : HO} (h : H a = some o) (h' : H b = some u) (d : o ≠ u) : a ≠ b := by
  intro e; subst e; rw [h] at h'; exact d (Option.some.inj h')
theorem ne_of_none {H : Hp} {a b : Addr} {o : HO} (h : H a = some o) (h' : H b = none) : a ≠ b := by
  intro e; subst e; rw [h] at h'; cases h'

section
variable (P : Program) (w : World)
def ObjOk (H : Hp) (h : Heap) (a : Addr) : HO → Prop
  | .lst xs => xs.length ≤ sizeLine ∧ ∃ (its : List Value) (n : Nat), Vals xs its ∧ h.get? a = some { cls := .type "list", data := .seq its.toArray n }
  | .tup xs => xs.length ≤ sizeLine ∧ ∃ its : List Value, Vals xs its ∧ ∃ o, h.get? a = some o ∧ o.cls = .type "tuple" ∧ ∃ n, o.data = .seq its.toArray n ∧ o.dict = none
  | .dK kvs => kvs.length ≤ sizeLine ∧ (a == sysModules) = false ∧ ∃ vs, KV kvs vs ∧ h.DictOf (mixKind P w) a vs
  | .dT kvs => kvs.length ≤ sizeLine ∧ (a == sysModules) = false ∧ ∃ xs : List (List Key × Addr × Value),
      Paired (fun (p : List Key × V) (q : List Key × Addr × Value) => p.1 = q.1 ∧ H q.2.1 = some (.tup (p.1.map kV)) ∧ RelV p.2 q.2.2) kvs xs ∧
      ∃ o es ep, h.get? a = some o ∧ o.ExactDict ∧ o.data = .dict es ep ∧ es.toList = xs.map (entryOfKey (tupleKind (mixKind P w))) ∧ (xs.map (·.1)).Nodup
  | .set S n => h.SetOf (intKind P w) a S n
  | .ins C dx fs => H dx = some (.own a) ∧ fs.length ≤ 1000 ∧ dx ≠ a ∧ h.get? a = some (PySem.W.instObj C dx) ∧
      ∃ mA, h.Ns1 dx mA ∧ (∀ f, RelO (fs.lookup f) (mA f)) ∧ PySem.Within mA (fs.map (·.1))
  | .own _ => ∃ o, h.get? a = some o
  | .xd fs => ∃ mA, h.Ns1 a mA ∧ ∀ f, RelO (fs.lookup f) (mA f)
  | .rng lo hi => ∃ t u v, h.get? a = some { cls := .type "range", data := .fields #[.int lo t, .int hi u, .int 1 v] }
  | .frz o u => h.get? a = some o ∧ ObjOk H h a u
  | .tbl ps => h.get? a = some { cls := .none, data := .fields ps }
  | .met f x => h.get? a = some (PySem.W.methodObj (.ref f) (.ref x))
  | .ext φ => φ h ∧ (∃ o, h.get? a = some o) ∧ ∀ h1 h2 : Heap, φ h1 → (∀ o, h1.get? a = some o → h2.get? a = some o) → φ h2
/-- the abstract heap is held -/
def HOk (H : Hp) (h : Heap) : Prop := ∀ a o, H a = some o → ObjOk P w H h a o
end

section
variable {P : Program} {w : World} {H H' : Hp} {h h' : Heap} {a : Addr} {o : HO}
theorem ObjOk.lt (x : ObjOk P w H h a o) : a < h.objs.size := by
  cases o with
  | lst xs => obtain ⟨_, _, _, _, e⟩ := x; exact Heap.lt_size e
  | tup xs => obtain ⟨_, _, _, p⟩ := x; exact (let ⟨o, e, _⟩ := p; Heap.lt_size e)
  | dK kvs => obtain ⟨_, _, _, _, o, _, _, e, _⟩ := x; exact Heap.lt_size e
  | dT kvs => obtain ⟨_, _, _, _, o, _, _, e, _⟩ := x; exact Heap.lt_size e
  | set S n => obtain ⟨o, _, _, _, e, _⟩ := x; exact Heap.lt_size e
  | ins C dx fs => obtain ⟨_, _, _, e, _⟩ := x; exact Heap.lt_size e
  | own y => obtain ⟨_, e⟩ := x; exact Heap.lt_size e
  | xd fs => obtain ⟨_, ⟨_, _, _, e, _⟩, _⟩ := x; exact Heap.lt_size e
  | rng lo hi => obtain ⟨_, _, _, e⟩ := x; exact Heap.lt_size e
  | frz ob u => obtain ⟨e, _⟩ := x; exact Heap.lt_size e
  | tbl ps => exact Heap.lt_size (show h.get? a = some _ from x)
  | met f y => exact Heap.lt_size (show h.get? a = some _ from x)
  | ext φ => obtain ⟨_, ⟨_, e⟩, _⟩ := x; exact Heap.lt_size e
theorem Paired.mapP {α β : Type} {F G : α → β → Prop} : ∀ {l₁ : List α} {l₂ : List β}, Paired F l₁ l₂ → (∀ a b, F a b → G a b) → Paired G l₁ l₂
  | _, _, .nil, _ => .nil
  | _, _, .cons r t, f => .cons (f _ _ r) (Paired.mapP t f)
/-- what an object's description leans on: its own object, its own dict, the tuples -/
theorem ObjOk.stay (x : ObjOk P w H h a o) (k : ∀ b u, (b = a ∨ H b = some (.own a)) → h.get? b = some u → h'.get? b = some u)
    (ho : ∀ b, H b = some (.own a) → H' b = some (.own a)) (ht : ∀ b xs, H b = some (.tup xs) → H' b = some (.tup xs)) : ObjOk P w H' h' a o := by
  induction o with
  | lst xs => obtain ⟨z, its, n, r, e⟩ := x; exact ⟨z, its, n, r, k _ _ (.inl rfl) e⟩
  | tup xs => obtain ⟨z, its, r, ob, e, c⟩ := x; exact ⟨z, its, r, ob, k _ _ (.inl rfl) e, c⟩
  | dK kvs => obtain ⟨z, y, vs, r, ob, es, ep, e, c⟩ := x; exact ⟨z, y, vs, r, ob, es, ep, k _ _ (.inl rfl) e, c⟩
  | dT kvs =>
    obtain ⟨z, y, xs, r, ob, es, ep, e, c⟩ := x
    exact ⟨z, y, xs, Paired.mapP r fun p q z => ⟨z.1, ht _ _ z.2.1, z.2.2⟩, ob, es, ep, k _ _ (.inl rfl) e, c⟩
  | set S n => obtain ⟨ob, es, ep, t, e, c⟩ := x; exact ⟨ob, es, ep, t, k _ _ (.inl rfl) e, c⟩
  | ins C dx fs =>
    obtain ⟨d, z, ne, e, mA, ⟨od, es, ep, e2, c⟩, r⟩ := x
    exact ⟨ho _ d, z, ne, k _ _ (.inl rfl) e, mA, ⟨od, es, ep, k _ _ (.inr d) e2, c⟩, r⟩
  | own y => obtain ⟨ob, e⟩ := x; exact ⟨ob, k _ _ (.inl rfl) e⟩
  | xd fs => obtain ⟨mA, ⟨od, es, ep, e, c⟩, r⟩ := x; exact ⟨mA, ⟨od, es, ep, k _ _ (.inl rfl) e, c⟩, r⟩
  | rng lo hi => obtain ⟨t, u, v, e⟩ := x; exact ⟨t, u, v, k _ _ (.inl rfl) e⟩
  | frz ob u ih => obtain ⟨e, q⟩ := x; exact ⟨k _ _ (.inl rfl) e, ih q⟩
  | tbl ps =>
    have e : h.get? a = some { cls := .none, data := .fields ps } := x
    show h'.get? a = some { cls := .none, data := .fields ps }
    exact k a _ (.inl rfl) e
  | met f y =>
    have e : h.get? a = some (PySem.W.methodObj (.ref f) (.ref y)) := x
    show h'.get? a = some (PySem.W.methodObj (.ref f) (.ref y))
    exact k a _ (.inl rfl) e
  | ext φ => obtain ⟨p, ⟨o, e⟩, st⟩ := x; exact ⟨st _ _ p fun o q => k _ _ (.inl rfl) q, ⟨o, k _ _ (.inl rfl) e⟩, st⟩
theorem HOk.lt (x : HOk P w H h) (e : H a = some o) : a < h.objs.size := (x a o e).lt
theorem HOk.fresh (x : HOk P w H h) (e : h.objs.size ≤ a) : H a = none := by
  cases q : H a with
  | none => rfl
  | some u => exact absurd (Nat.lt_of_lt_of_le (x.lt q) e) (Nat.lt_irrefl _)
/-- every object of the heap is kept -/
theorem HOk.kept (x : HOk P w H h) (k : ∀ b u, h.get? b = some u → h'.get? b = some u) : HOk P w H h' := fun a o e =>
  (x a o e).stay (fun b u _ q => k b u q) (fun _ q => q) fun _ _ q => q
/-- a new object is laid and tracked -/
theorem HOk.laid (x : HOk P w H h) (k : ∀ b u, h.get? b = some u → h'.get? b = some u) (hp : h.objs.size ≤ a) (new : ObjOk P w (upd H a o) h' a o) : HOk P w (upd H a o) h' := fun b u e => by
  have hn := x.fresh hp
  by_cases hb : b = a
  · subst hb; rw [upd_same] at e; cases e; exact new
  · rw [upd_ne hb] at e
    exact (x b u e).stay (fun c v _ q => k c v q) (fun c q => by rw [upd_ne (ne_of_none q hn)]; exact q) fun c xs q => by rw [upd_ne (ne_of_none q hn)]; exact q
end

/-- what may be read as u: it is u, or a known u -/
def Rd (H : Hp) (a : Addr) (u : HO) : Prop := H a = some u ∨ ∃ o, H a = some (.frz o u)
theorem Rd.of {H : Hp} {a : Addr} {u : HO} (h : H a = some u) : Rd H a u := .inl h
theorem Rd.ok {P : Program} {w : World} {H : Hp} {h : Heap} {a : Addr} {u : HO} (r : Rd H a u) (x : HOk P w H h) : ObjOk P w H h a u := by
  rcases r with r | ⟨o, r⟩
  · exact x a u r
  · obtain ⟨_, q⟩ := x a _ r
    exact q
/-- what may be written -/
def Mut : Option HO → Prop
  | some (.lst _) => True
  | some (.dK _) => True
  | some (.dT _) => True
  | some (.set _ _) => True
  | some (.ins _ _ _) => True
  | some (.ext _) => True
  | _ => False
section
variable {P : Program} {w : World} {H : Hp} {h h' : Heap} {x e : Addr} {o' : HO}
/-- the object at e is changed: x itself, or the dict of the instance x -/
theorem HOk.write (ok : HOk P w H h) (mu : Mut (H x)) (he : e = x ∨ H e = some (.own x)) (k : ∀ b u, b ≠ e → h.get? b = some u → h'.get? b = some u) (heo : ∃ u, h'.get? e = some u)
    (new : ObjOk P w (upd H x o') h' x o') : HOk P w (upd H x o') h' := fun b u q => by
  have nown : ∀ c y, H c = some (.own y) → c ≠ x := fun c y r z => by subst z; rw [r] at mu; exact mu
  have ntup : ∀ c xs, H c = some (.tup xs) → c ≠ x := fun c xs r z => by subst z; rw [r] at mu; exact mu
  by_cases hb : b = x
  · subst hb; rw [upd_same] at q; cases q; exact new
  · rw [upd_ne hb] at q
    by_cases hbe : b = e
    · have q' : H b = some (.own x) := by
        rcases he with z | z
        · exact absurd (hbe.trans z) hb
        · rw [hbe]; exact z
      rw [q] at q'; cases q'
      obtain ⟨v, hv⟩ := heo
      exact ⟨v, by rw [hbe]; exact hv⟩
    · refine (ok b u q).stay (fun c v hc r => k c v ?_ r) (fun c r => by rw [upd_ne (nown c b r)]; exact r) fun c xs r => by rw [upd_ne (ntup c xs r)]; exact r
      rcases hc with rfl | hc
      · exact hbe
      · rintro rfl
        rcases he with z | z
        · exact nown c b hc z
        · rw [hc] at z; cases z; exact hb rfl
end

/-! ### kept unless tracked; of the frames at fs (the callers') the slots may change (an exception that passes writes there); of the records at ex (iterators) nothing is said -/
structure Un (fs ex : List Addr) (H H' : Hp) (h h' : Heap) : Prop where
  keep : ∀ b o, h.get? b = some o → H b = none → b ∉ fs → b ∉ ex → h'.get? b = some o
  slot : ∀ b o, h.get? b = some o → H b = none → b ∈ fs → b ∉ ex → ∃ sl, h'.get? b = some { o with slots := sl }
  free : ∀ b o, h.get? b = some o → H b = none → b ∉ ex → H' b = none
  there : ∀ b o, h.get? b = some o → b ∉ ex → ∃ o', h'.get? b = some o'
  tups : ∀ b xs, H b = some (.tup xs) → H' b = some (.tup xs)
  frzs : ∀ b o u, H b = some (.frz o u) → H' b = some (.frz o u)
  tbls : ∀ b ps, H b = some (.tbl ps) → ∃ more, H' b = some (.tbl (ps ++ more))
section
variable {fs fs' ex ex' : List Addr} {H H1 H2 : Hp} {h h1 h2 h' : Heap} {a x e : Addr} {o : HO}
theorem Un.any (u : Un fs ex H H1 h h1) {b : Addr} {ob : Obj} (q : h.get? b = some ob) (n : H b = none) (hx : b ∉ ex) : ∃ sl, h1.get? b = some { ob with slots := sl } := by
  by_cases hb : b ∈ fs
  · exact u.slot b ob q n hb hx
  · exact ⟨ob.slots, u.keep b ob q n hb hx⟩
theorem Un.trans (a : Un fs ex H H1 h h1) (b : Un fs ex H1 H2 h1 h2) : Un fs ex H H2 h h2 where
  keep := fun c ob q n hc hx => b.keep c ob (a.keep c ob q n hc hx) (a.free c ob q n hx) hc hx
  slot := fun c ob q n hc hx => by
    obtain ⟨sl, e1⟩ := a.slot c ob q n hc hx
    obtain ⟨sl', e2⟩ := b.slot c _ e1 (a.free c ob q n hx) hc hx
    exact ⟨sl', e2⟩
  free := fun c ob q n hx => by
    obtain ⟨o', e1⟩ := a.there c ob q hx
    exact b.free c o' e1 (a.free c ob q n hx) hx
  there := fun c ob q hx => by
    obtain ⟨o', e1⟩ := a.there c ob q hx
    exact b.there c o' e1 hx
  tups := fun c xs q => b.tups c xs (a.tups c xs q)
  frzs := fun c ob xs q => b.frzs c ob xs (a.frzs c ob xs q)
  tbls := fun c ps q => by
    obtain ⟨m1, e1⟩ := a.tbls c ps q
    obtain ⟨m2, e2⟩ := b.tbls c _ e1
    exact ⟨m1 ++ m2, by rw [e2, Array.append_assoc]⟩
theorem Un.kept (k : ∀ b u, h.get? b = some u → h'.get? b = some u) : Un fs ex H H h h' :=
  ⟨fun b ob q _ _ _ => k b ob q, fun b ob q _ _ _ => ⟨ob.slots, k b ob q⟩, fun _ _ _ n _ => n, fun b ob q _ => ⟨ob, k b ob q⟩, fun _ _ q => q, fun _ _ _ q => q, fun _ ps q => ⟨#[], by rw [q]; simp⟩⟩
theorem Un.refl : Un fs ex H H h h := Un.kept fun _ _ q => q
theorem Un.laid (k : ∀ b u, h.get? b = some u → h'.get? b = some u) (hp : h.objs.size ≤ a) (hn : H a = none) : Un fs ex H (upd H a o) h h' where
  keep := fun b u q _ _ _ => k b u q
  slot := fun b u q _ _ _ => ⟨u.slots, k b u q⟩
  free := fun b u q n _ => by rw [upd_ne (Nat.ne_of_lt (Nat.lt_of_lt_of_le (Heap.lt_size q) hp))]; exact n
  there := fun b u q _ => ⟨u, k b u q⟩
  tups := fun b xs q => by rw [upd_ne (ne_of_none q hn)]; exact q
  frzs := fun b u xs q => by rw [upd_ne (ne_of_none q hn)]; exact q
  tbls := fun b ps q => ⟨#[], by rw [upd_ne (ne_of_none q hn), q]; simp⟩
theorem Un.write (mu : Mut (H x)) (he : e = x ∨ H e = some (.own x)) (k : ∀ b u, b ≠ e → h.get? b = some u → h'.get? b = some u) (heo : ∃ u, h'.get? e = some u) : Un fs ex H (upd H x o) h h' := by
  have hx : ∀ b, H b = none → b ≠ x := fun b n z => by subst z; rw [n] at mu; exact mu
  have hb : ∀ b, H b = none → b ≠ e := fun b n z => by
    subst z
    rcases he with r | r
    · exact hx b n r
    · rw [n] at r; cases r
  have hm : ∀ b u, H b = some u → ¬ Mut (some u) → b ≠ x := fun b u q nm z => by subst z; rw [q] at mu; exact nm mu
  refine ⟨fun b u q n _ _ => k b u (hb b n) q, fun b u q n _ _ => ⟨u.slots, k b u (hb b n) q⟩, fun b u q n _ => by rw [upd_ne (hx b n)]; exact n, fun b u q _ => ?_,
    fun b xs q => by rw [upd_ne (hm b _ q fun z => z)]; exact q, fun b u xs q => by rw [upd_ne (hm b _ q fun z => z)]; exact q, fun b ps q => ⟨#[], by rw [upd_ne (hm b _ q fun z => z), q]; simp⟩⟩
  by_cases hbe : b = e
  · subst hbe; exact heo
  · exact ⟨u, k b u hbe q⟩
theorem Un.mono (u : Un fs ex H H1 h h1) (hs : ∀ b ∈ fs, b ∈ fs') (hx : ∀ b ∈ ex, b ∈ ex') : Un fs' ex' H H1 h h1 :=
  ⟨fun b ob q n hb he => u.keep b ob q n (fun z => hb (hs b z)) fun z => he (hx b z), fun _ _ q n _ he => u.any q n fun z => he (hx _ z), fun b ob q n he => u.free b ob q n fun z => he (hx b z), fun b ob q he => u.there b ob q fun z => he (hx b z), u.tups, u.frzs, u.tbls⟩
end

/-! ### the heap without what is tracked -/
def trk (h : Heap) (H : Hp) : List Addr := (List.range h.objs.size).filter fun a => (H a).isSome
def hidT (h : Heap) (H : Hp) : Heap := PySem.W.hideAll h (trk h H)
theorem hidT_size (h : Heap) (H : Hp) : (hidT h H).objs.size = h.objs.size := PySem.W.hideAll_size _ _
theorem hidT_get {h : Heap} {H : Hp} {b : Addr} {o : Obj} (e : h.get? b = some o) (n : H b = none) : (hidT h H).get? b = some o :=
  PySem.W.hideAll_get _ e fun hm => by
    have q : (H b).isSome = true := (List.mem_filter.mp hm).2
    rw [n] at q; simp at q
theorem of_hidT {h : Heap} {H : Hp} {b : Addr} {o : Obj} (e : (hidT h H).get? b = some o) : h.get? b = some o ∧ H b = none := by
  have e' : h.get? b = some o := PySem.W.of_hideAll (trk h H) e
  refine ⟨e', ?_⟩
  cases q : H b with
  | none => rfl
  | some x =>
    have hm : b ∈ trk h H := List.mem_filter.mpr ⟨List.mem_range.mpr (Heap.lt_size e'), by simp [q]⟩
    have z : (hidT h H).get? b = none := PySem.W.hideAll_none (trk h H) hm
    rw [z] at e; cases e

/-! ### OpenK's ledger, filled with every new object but one -/
def allNews (g h : Heap) (L : Addr) : List (Addr × Obj) := (List.range h.objs.size).filterMap fun a => if a = L ∨ (g.get? a).isSome = true then none else (h.get? a).map fun o => (a, o)
def rest (g h : Heap) (L d : Addr) : List (Addr × Obj) := (allNews g h L).filter fun p => decide (p.1 ≠ d)
end L2

namespace L2
open PySem PySem.Spec PyProof.Rows

/-- the module's facts, over the base: the heap at the law's entry without what is tracked there -/
structure Mod (K : PySem.W.Frag) (mg : Str → Option Value) (base : Heap) : Prop where
  kin : K.In base
  glob : base.Ns mainGlobals mg
  blt : ∃ mb, base.Ns builtinsNs mb ∧ ∀ x : Str, x ≠ "__name__" → mb x = bootBuiltins x
  nolimit : base.NoLimit

/-- the context: a def's body (or a comprehension's block) running. base: fixed through the whole law; s₀, H₀: the entry; outer: the frames whose slots others may change (a def's callers); stack: all frames that run;
   ex: iterators that were made ahead of the entry and are walked here (a comprehension's); fn: the names whose cells were made at the entry (a def: all; a comprehension's block: its own); calm: not within an except suite; pn: pins that every state bears; xe: what is wanted of an exception that leaves the code -/
structure Cx where
  prog : Program
  w : World
  K : PySem.W.Frag
  mg : Str → Option Value
  base : Heap
  A : Around
  N : List Str
  s₀ : Shared
  H₀ : Hp
  env : Env
  outer : List Env
  stack : List Env
  ex : List Addr
  fn : Str → Bool
  calm : Bool
  pn : List (Addr × Obj)
  xe : Value → Shared → Prop
/-- the callers' frames -/
def frs (l : List Env) : List Addr := l.filterMap (·.frame)
abbrev Cx.fs (X : Cx) : List Addr := frs X.outer

def Vis (sc : Scope) (x : Str) : Prop := sc.names.lookup x = some .local ∨ sc.names.lookup x = some .cell ∨ sc.names.lookup x = some .free
def Loc (sc : Scope) (x : Str) : Prop := sc.names.lookup x = some .local ∨ sc.names.lookup x = some .cell
def Look (env : Env) (h : Heap) (m : Str → Option Value) (x : Str) (u : Value) : Prop :=
  (env.kindOf x = some .local ∧ m x = some u) ∨ ((env.kindOf x = some .cell ∨ env.kindOf x = some .free) ∧ ∃ c, env.cells.lookup x = some c ∧ h.IsCell c (some u))

structure Cx.Ok (X : Cx) : Prop where
  mod : Mod X.K X.mg X.base
  kind : X.env.scope.kind = .function
  glob : X.env.globals = mainGlobals
  blt : X.env.builtins = builtinsNs
  above : X.s₀.heap.objs.size ≤ X.env.locals
  inj : ∀ x y c, X.env.cells.lookup x = some c → X.env.cells.lookup y = some c → x = y
  has : ∀ x, (X.env.kindOf x = some .cell ∨ X.env.kindOf x = some .free) → ∃ c, X.env.cells.lookup x = some c
  cab : ∀ x c, X.fn x = true → X.env.cells.lookup x = some c → X.s₀.heap.objs.size ≤ c
  hd : X.calm = true → X.A.handled = none
  frames : X.A.frames = some X.stack
  stk : X.stack = X.outer ∨ (X.stack = X.env :: X.outer ∧ X.env.frame = some X.env.locals)
  exf : ∀ b ∈ X.ex, b ≠ X.env.locals ∧ ∀ x c, X.env.cells.lookup x = some c → c ≠ b
  bs : ∀ b o, X.base.get? b = some o → X.s₀.heap.get? b = some o ∧ X.H₀ b = none
  bsz : X.base.objs.size ≤ X.s₀.heap.objs.size
  noex : ∀ b o, X.base.get? b = some o → b ∉ X.ex
  exfs : ∀ b ∈ X.ex, b ∉ X.fs
  funs : X.s₀.heap.FunFrames X.base X.outer
  frf : ∀ b ∈ X.fs, X.H₀ b = none

structure Inv (X : Cx) (pins : List (Addr × Obj)) (σ : List (Option V)) (H : Hp) (s : Shared) : Prop where
  ok : X.Ok
  os : s.os = X.s₀.os
  bare : AllBare s.gens
  base : Un X.fs X.ex X.H₀ H X.s₀.heap s.heap
  loc : ∃ m, s.heap.Ns X.env.locals m ∧ ∀ (i : Nat) (x : Str) (v : V), X.N[i]? = some x → σ[i]? = some (some v) → Vis X.env.scope x → ∃ u, RelV v u ∧ Look X.env s.heap m x u
  cell : ∀ x c, X.env.cells.lookup x = some c → ∃ v, s.heap.IsCell c v
  free : H X.env.locals = none
  freeC : ∀ x c, X.env.cells.lookup x = some c → H c = none
  pin : ∀ p ∈ X.pn ++ pins, s.heap.get? p.1 = some p.2 ∧ H p.1 = none ∧ p.1 ≠ X.env.locals ∧ p.1 ∉ X.fs ∧ ∀ v, p.2.data ≠ .cell v
  hok : HOk X.prog X.w H s.heap
  len : σ.length = X.N.length

section
variable {X : Cx} {pins : List (Addr × Obj)} {σ : List (Option V)} {H H' : Hp} {s : Shared} {h' : Heap}

theorem Cx.Ok.nofr (ok : X.Ok) {b : Addr} {o : Obj} (e : X.base.get? b = some o) : b ∉ X.fs := fun hb => by
  have := (ok.funs.mem hb).1
  rw [e] at this; cases this
theorem Inv.bs (I : Inv X pins σ H s) : ∀ b o, X.base.get? b = some o → s.heap.get? b = some o ∧ H b = none := fun b o e =>
  ⟨I.base.keep b o (I.ok.bs b o e).1 (I.ok.bs b o e).2 (I.ok.nofr e) (I.ok.noex b o e), I.base.free b o (I.ok.bs b o e).1 (I.ok.bs b o e).2 (I.ok.noex b o e)⟩
theorem Inv.bk (I : Inv X pins σ H s) : ∀ b o, X.base.get? b = some o → s.heap.get? b = some o := fun b o e => (I.bs b o e).1
theorem Inv.mod (I : Inv X pins σ H s) : Mod X.K X.mg X.base := I.ok.mod
theorem Inv.kIn (I : Inv X pins σ H s) : X.K.In s.heap := I.ok.mod.kin.keeps I.bk
theorem Inv.nolimit (I : Inv X pins σ H s) : s.heap.NoLimit := I.ok.mod.nolimit.keeps I.bk
/-- the frame over the base: for OpenK's rules (K.In X.base is I.mod.kin) -/
theorem Inv.fr (I : Inv X pins σ H s) : ∃ m, Fr X.base X.env.locals s.heap m :=
  let ⟨m, hn, _⟩ := I.loc
  ⟨m, hn, I.bk, Nat.le_trans I.ok.bsz I.ok.above⟩
theorem Inv.lt (I : Inv X pins σ H s) : X.env.locals < s.heap.objs.size := let ⟨_, hn, _⟩ := I.loc; hn.lt
theorem Inv.sz (I : Inv X pins σ H s) : X.s₀.heap.objs.size ≤ s.heap.objs.size := Nat.le_trans I.ok.above (Nat.le_of_lt I.lt)
theorem Inv.nofs (I : Inv X pins σ H s) {a : Addr} (h : s.heap.objs.size ≤ a) : a ∉ X.fs := fun hb => by
  obtain ⟨_, o, ho, _⟩ := I.ok.funs.mem hb
  exact absurd (Nat.lt_of_lt_of_le (Heap.lt_size ho) (Nat.le_trans I.sz h)) (Nat.lt_irrefl _)
theorem Inv.cne (I : Inv X pins σ H s) : ∀ x c, X.env.cells.lookup x = some c → c ≠ X.env.locals := fun x c e z => by
  obtain ⟨v, o, ho, hd⟩ := I.cell x c e
  obtain ⟨m, ⟨o', es, ep, ho', hd', _⟩, _⟩ := I.loc
  rw [z, ho'] at ho; cases ho; rw [hd'] at hd; cases hd
theorem Inv.funs (I : Inv X pins σ H s) : s.heap.FunFrames X.base X.outer := by
  have all : ∀ (l : List Env), (∀ b ∈ frs l, b ∈ X.fs) → X.s₀.heap.FunFrames X.base l → s.heap.FunFrames X.base l := by
    intro l
    induction l with
    | nil => intro _ _; trivial
    | cons env r ih =>
      intro hs hl
      obtain ⟨hk, ⟨L, o, hf, hn, ho, hd⟩, hr⟩ := hl
      have hL : L ∈ X.fs := hs L (by unfold frs; rw [List.filterMap_cons, hf]; exact List.mem_cons_self)
      obtain ⟨sl, e⟩ := I.base.slot L o ho (I.ok.frf L hL) hL fun z => I.ok.exfs L z hL
      exact ⟨hk, ⟨L, _, hf, hn, e, hd⟩, ih (fun b hb => hs b (by unfold frs; rw [List.filterMap_cons, hf]; exact List.mem_cons_of_mem _ hb)) hr⟩
  exact all X.outer (fun _ hb => hb) I.ok.funs

/-- the frames that run, for a call -/
theorem Inv.stack (I : Inv X pins σ H s) : s.heap.FunFrames X.base X.stack := by
  rcases I.ok.stk with e | ⟨e, hf⟩
  · rw [e]; exact I.funs
  · rw [e]
    obtain ⟨m, hn, _⟩ := I.loc
    refine .cons (by rw [I.ok.kind]; decide) hf hn ?_ I.funs
    exact Heap.get?_none_of_le (Nat.le_trans I.ok.bsz I.ok.above)
theorem Inv.stkSub (I : Inv X pins σ H s) : ∀ b ∈ frs X.stack, b ∈ X.env.locals :: X.fs := fun b hb => by
  rcases I.ok.stk with e | ⟨e, hf⟩
  · rw [e] at hb; exact List.mem_cons_of_mem _ hb
  · rw [e] at hb
    unfold frs at hb
    rw [List.filterMap_cons, hf] at hb
    exact hb
theorem Inv.stkFree (I : Inv X pins σ H s) : ∀ b ∈ frs X.stack, H b = none := fun b hb => by
  rcases List.mem_cons.mp (I.stkSub b hb) with e | hb
  · rw [e]; exact I.free
  · obtain ⟨_, o, ho, _⟩ := I.ok.funs.mem hb
    exact I.base.free b o ho (I.ok.frf b hb) fun z => I.ok.exfs b z hb

/-- THE STEP: the untracked objects but the frame and the records at ch are kept (the callers' frames up to slots), the frame's map is kept, the new abstract heap is held -/
theorem Inv.step {g' : Array GenState} {t' : Nat} {d' : Drawn} {ch : List Addr} (I : Inv X pins σ H s)
    (hch : ∀ b ∈ ch, (b ∈ X.ex ∨ X.s₀.heap.objs.size ≤ b) ∧ b ≠ X.env.locals ∧ (∀ x c, X.env.cells.lookup x = some c → c ≠ b) ∧ ∀ p ∈ X.pn ++ pins, p.1 ≠ b)
    (keep : ∀ b o, b ≠ X.env.locals → b ∉ X.fs → b ∉ ch → s.heap.get? b = some o → H b = none → h'.get? b = some o)
    (slot : ∀ b o, b ≠ X.env.locals → b ∈ X.fs → b ∉ ch → s.heap.get? b = some o → H b = none → ∃ sl, h'.get? b = some { o with slots := sl }) (free : ∀ b o, b ∉ ch → s.heap.get? b = some o → H b = none → H' b = none)
    (there : ∀ b o, b ∉ ch → s.heap.get? b = some o → ∃ o', h'.get? b = some o')
    (tups : ∀ b xs, H b = some (.tup xs) → H' b = some (.tup xs)) (frzs : ∀ b o u, H b = some (.frz o u) → H' b = some (.frz o u)) (tbls : ∀ b ps, H b = some (.tbl ps) → ∃ more, H' b = some (.tbl (ps ++ more)))
    (ns : ∀ m, s.heap.Ns X.env.locals m → h'.Ns X.env.locals m) (hok : HOk X.prog X.w H' h') (hg : AllBare g') :
    Inv X pins σ H' { s with heap := h', gens := g', drawn := d', toks := t' } := by
  have neL : ∀ b o, X.s₀.heap.get? b = some o → b ≠ X.env.locals := fun b o e => Nat.ne_of_lt (Nat.lt_of_lt_of_le (Heap.lt_size e) I.ok.above)
  have neC : ∀ b o, X.s₀.heap.get? b = some o → b ∉ X.ex → b ∉ ch := fun b o e hx hb => by
    rcases (hch b hb).1 with z | z
    · exact hx z
    · exact absurd (Nat.lt_of_lt_of_le (Heap.lt_size e) z) (Nat.lt_irrefl _)
  have cellK : ∀ x c, X.env.cells.lookup x = some c → ∀ v, s.heap.IsCell c v → h'.IsCell c v := fun x c e v ⟨o, ho, hd⟩ => by
    have nch : c ∉ ch := fun z => (hch c z).2.2.1 x c e rfl
    by_cases hc : c ∈ X.fs
    · obtain ⟨sl, q⟩ := slot c o (I.cne x c e) hc nch ho (I.freeC x c e)
      exact ⟨_, q, hd⟩
    · exact ⟨o, keep c o (I.cne x c e) hc nch ho (I.freeC x c e), hd⟩
  refine ⟨I.ok, I.os, hg, ⟨fun b o e n hb hx => ?_, fun b o e n hb hx => ?_, fun b o e n hx => ?_, fun b o e hx => ?_, fun b xs e => tups b xs (I.base.tups b xs e), fun b o xs e => frzs b o xs (I.base.frzs b o xs e), fun b ps e => ?_⟩, ?_, fun x c e => ?_, ?_, fun x c e => ?_, fun p hp => ?_, hok, I.len⟩
  · exact keep b o (neL b o e) hb (neC b o e hx) (I.base.keep b o e n hb hx) (I.base.free b o e n hx)
  · obtain ⟨sl, e1⟩ := I.base.slot b o e n hb hx
    obtain ⟨sl', e2⟩ := slot b _ (neL b o e) hb (neC b o e hx) e1 (I.base.free b o e n hx)
    exact ⟨sl', e2⟩
  · obtain ⟨o', e1⟩ := I.base.there b o e hx
    exact free b o' (neC b o e hx) e1 (I.base.free b o e n hx)
  · obtain ⟨o', e1⟩ := I.base.there b o e hx
    exact there b o' (neC b o e hx) e1
  · obtain ⟨m1, e1⟩ := I.base.tbls b ps e
    obtain ⟨m2, e2⟩ := tbls b _ e1
    exact ⟨m1 ++ m2, by rw [e2, Array.append_assoc]⟩
  · obtain ⟨m, hn, hl⟩ := I.loc
    refine ⟨m, ns m hn, fun i x v e1 e2 e3 => ?_⟩
    obtain ⟨u, r, l⟩ := hl i x v e1 e2 e3
    refine ⟨u, r, ?_⟩
    rcases l with l | ⟨k, c, e, z⟩
    · exact .inl l
    · exact .inr ⟨k, c, e, cellK x c e _ z⟩
  · obtain ⟨v, z⟩ := I.cell x c e
    exact ⟨v, cellK x c e v z⟩
  · obtain ⟨m, ⟨o, _, _, ho, _⟩, _⟩ := I.loc
    exact free _ o (fun z => (hch _ z).2.1 rfl) ho I.free
  · obtain ⟨v, o, ho, hd⟩ := I.cell x c e
    exact free c o (fun z => (hch c z).2.2.1 x c e rfl) ho (I.freeC x c e)
  · obtain ⟨e, n, ne, nf, d⟩ := I.pin p hp
    have nch : p.1 ∉ ch := fun z => (hch p.1 z).2.2.2 p hp rfl
    exact ⟨keep p.1 p.2 ne nf nch e n, free p.1 p.2 nch e n, ne, nf, d⟩
/-- .. where the frame's own object is kept too -/
theorem Inv.un {t' : Nat} (I : Inv X pins σ H s) (u : Un X.fs [] H H' s.heap h') (hok : HOk X.prog X.w H' h') : Inv X pins σ H' { s with heap := h', toks := t' } := by
  obtain ⟨m, ⟨o, es, ep, ho, r⟩, _⟩ := id I.loc
  obtain ⟨sl, hL⟩ := u.any ho I.free (by simp)
  exact I.step (g' := s.gens) (d' := s.drawn) (ch := []) (fun _ z => nomatch z) (fun b o _ hb _ e n => u.keep b o e n hb (by simp)) (fun b o _ hb _ e n => u.slot b o e n hb (by simp)) (fun b o _ e n => u.free b o e n (by simp)) (fun b o _ e => u.there b o e (by simp)) u.tups u.frzs u.tbls (fun m' hm => by
    obtain ⟨o', es', ep', ho', r'⟩ := hm
    rw [ho] at ho'; cases ho'
    exact ⟨_, es', ep', hL, r'⟩) hok I.bare
/-- behind a call (or a comprehension's block): the slots of this frame may have changed too, the records at ch may have turned -/
theorem Inv.call {g' : Array GenState} {t' : Nat} {d' : Drawn} {ch : List Addr} (I : Inv X pins σ H s) (u : Un (frs X.stack) ch H H' s.heap h') (hok : HOk X.prog X.w H' h') (hg : AllBare g')
    (hch : ∀ b ∈ ch, (b ∈ X.ex ∨ X.s₀.heap.objs.size ≤ b) ∧ b ≠ X.env.locals ∧ (∀ x c, X.env.cells.lookup x = some c → c ≠ b) ∧ ∀ p ∈ X.pn ++ pins, p.1 ≠ b) :
    Inv X pins σ H' { s with heap := h', gens := g', drawn := d', toks := t' } := by
  obtain ⟨m, ⟨o, es, ep, ho, r⟩, _⟩ := id I.loc
  obtain ⟨sl, hL⟩ := u.any ho I.free fun z => (hch _ z).2.1 rfl
  exact I.step (ch := ch) hch (fun b o hL hb hc e n => u.keep b o e n (fun z => (List.mem_cons.mp (I.stkSub b z)).elim hL hb) hc) (fun b o _ _ hc e n => u.any e n hc) (fun b o hc e n => u.free b o e n hc) (fun b o hc e => u.there b o e hc) u.tups u.frzs u.tbls (fun m' hm => by
    obtain ⟨o', es', ep', ho', r'⟩ := hm
    rw [ho] at ho'; cases ho'
    exact ⟨_, es', ep', hL, r'⟩) hok hg
/-- an untracked record of ours (an iterator) has turned -/
theorem Inv.turned {t' : Nat} {it : Addr} (I : Inv X pins σ H s) (k : ∀ b o, b ≠ it → s.heap.get? b = some o → h'.get? b = some o) (hn : H it = none) (hL : it ≠ X.env.locals)
    (h1 : it ∈ X.ex ∨ X.s₀.heap.objs.size ≤ it) (h2 : ∀ x c, X.env.cells.lookup x = some c → c ≠ it) (h3 : ∀ p ∈ X.pn ++ pins, p.1 ≠ it) : Inv X pins σ H { s with heap := h', toks := t' } := by
  have nit : ∀ b u, H b = some u → b ≠ it := fun b u e z => by rw [z, hn] at e; cases e
  refine I.step (g' := s.gens) (d' := s.drawn) (ch := [it]) (fun b hb => ?_) (fun b o _ _ hc e _ => k b o (fun z => hc (by simp [z])) e) (fun b o _ _ hc e _ => ⟨o.slots, k b o (fun z => hc (by simp [z])) e⟩) (fun _ _ _ _ n => n)
    (fun b o hc e => ⟨o, k b o (fun z => hc (by simp [z])) e⟩) (fun _ _ e => e) (fun _ _ _ e => e) (fun b ps e => ⟨#[], by rw [e]; simp⟩) (fun m hm => ?_) (fun b u e => ?_) I.bare
  · have e : b = it := by simpa using hb
    subst e
    exact ⟨h1, hL, h2, h3⟩
  · obtain ⟨o, es, ep, ho, r⟩ := hm
    exact ⟨o, es, ep, k _ o (Ne.symm hL) ho, r⟩
  · refine (I.hok b u e).stay (fun c v hc q => k c v ?_ q) (fun _ q => q) fun _ _ q => q
    rcases hc with z | z
    · rw [z]; exact nit b u e
    · exact nit c _ z
theorem Inv.tok (I : Inv X pins σ H s) (t : Nat) : Inv X pins σ H { s with toks := t } := I.un (h' := s.heap) (t' := t) Un.refl I.hok
/-- all objects kept -/
theorem Inv.kept {t' : Nat} (I : Inv X pins σ H s) (k : ∀ b u, s.heap.get? b = some u → h'.get? b = some u) : Inv X pins σ H { s with heap := h', toks := t' } := I.un (Un.kept k) (I.hok.kept k)
/-- a new object laid and tracked -/
theorem Inv.laid {a : Addr} {o : HO} {t' : Nat} (I : Inv X pins σ H s) (k : ∀ b u, s.heap.get? b = some u → h'.get? b = some u) (hp : s.heap.objs.size ≤ a) (new : ObjOk X.prog X.w (upd H a o) h' a o) :
    Inv X pins σ (upd H a o) { s with heap := h', toks := t' } := I.un (Un.laid k hp (I.hok.fresh hp)) (I.hok.laid k hp new)
/-- an object written -/
theorem Inv.write {x e : Addr} {o : HO} {t' : Nat} (I : Inv X pins σ H s) (mu : Mut (H x)) (he : e = x ∨ H e = some (.own x)) (k : ∀ b u, b ≠ e → s.heap.get? b = some u → h'.get? b = some u) (heo : ∃ u, h'.get? e = some u)
    (new : ObjOk X.prog X.w (upd H x o) h' x o) : Inv X pins σ (upd H x o) { s with heap := h', toks := t' } := I.un (Un.write mu he k heo) (I.hok.write mu he k heo new)
theorem Inv.pins_of {pins' : List (Addr × Obj)} (I : Inv X pins σ H s) (h : ∀ p ∈ pins', s.heap.get? p.1 = some p.2 ∧ H p.1 = none ∧ p.1 ≠ X.env.locals ∧ p.1 ∉ X.fs ∧ ∀ v, p.2.data ≠ .cell v) : Inv X pins' σ H s :=
  ⟨I.ok, I.os, I.bare, I.base, I.loc, I.cell, I.free, I.freeC, fun p hp => (List.mem_append.mp hp).elim (fun z => I.pin p (List.mem_append_left _ z)) (h p), I.hok, I.len⟩

theorem nodup_ix {N : List Str} (hN : N.Nodup) {i j : Nat} {x : Str} (a : N[i]? = some x) (b : N[j]? = some x) : i = j := by
  obtain ⟨h1, e1⟩ := List.getElem?_eq_some_iff.mp a
  obtain ⟨h2, e2⟩ := List.getElem?_eq_some_iff.mp b
  exact (List.getElem_inj hN).mp (e1.trans e2.symm)

/-- a name is stored; what changed -/
theorem store_ok2 {M : Model} {A : Around} {E : Value → Shared → Prop} {i : Nat} {x : Str} {v : V} {u : Value} {Q : Unit → Shared → Prop} (I : Inv X pins σ H s) (hN : X.N.Nodup) (hi : X.N[i]? = some x) (hx : Loc X.env.scope x) (r : RelV v u)
    (h : ∀ s', Inv X pins (σ.set i (some v)) H s' → (∃ a, Heap.SameBut a s.heap s'.heap ∧ (a = X.env.locals ∨ X.env.cells.lookup x = some a)) → Q () s') (hf : X.fn x = true ∨ X.env.scope.names.lookup x = some .local := by first | exact .inl rfl | exact .inr rfl | assumption) : wpAny M A (storeName X.env x u) Q E s := by
  obtain ⟨m, hn, hl⟩ := id I.loc
  have hcls : (X.env.scope.kind == .class || (X.env.scope.kind == .module && X.env.locals != X.env.globals)) = false := by rw [I.ok.kind]; rfl
  have hiσ : i < σ.length := by rw [I.len]; exact (List.getElem?_eq_some_iff.mp hi).1
  have cne := I.cne
  have tracked : ∀ {a : Addr} {h' : Heap}, (∃ o, s.heap.get? a = some o ∧ H a = none) → Heap.SameBut a s.heap h' → HOk X.prog X.w H h' := fun {a h'} ha hs b ob e => by
    obtain ⟨_, _, hfree⟩ := ha
    refine (I.hok b ob e).stay (fun c w' hc q => (hs.2 c ?_).trans q) (fun _ q => q) fun _ _ q => q
    rintro rfl
    rcases hc with rfl | hc
    · rw [hfree] at e; cases e
    · rw [hfree] at hc; cases hc
  rcases hx with hk | hk
  · refine wpAny_storeName_local hk hn (fun h' hn' hs => ?_) hcls
    obtain ⟨oL, _, _, hoL, _⟩ := id hn
    refine h _ ⟨I.ok, I.os, I.bare, ⟨fun b o e n hb hx => ?_, fun b o e n hb hx => ?_, I.base.free, fun b o e hx => ?_, I.base.tups, I.base.frzs, I.base.tbls⟩, ⟨_, hn', fun j y v' e1 e2 e3 => ?_⟩, fun y c e => ?_, I.free, I.freeC, fun p hp => ?_, tracked ⟨oL, hoL, I.free⟩ hs, by simpa using I.len⟩ ⟨_, hs, .inl rfl⟩
    · exact (hs.2 b (Nat.ne_of_lt (Nat.lt_of_lt_of_le (Heap.lt_size e) I.ok.above))).trans (I.base.keep b o e n hb hx)
    · obtain ⟨sl, e1⟩ := I.base.slot b o e n hb hx
      exact ⟨sl, (hs.2 b (Nat.ne_of_lt (Nat.lt_of_lt_of_le (Heap.lt_size e) I.ok.above))).trans e1⟩
    · obtain ⟨o', e1⟩ := I.base.there b o e hx
      exact ⟨o', (hs.2 b (Nat.ne_of_lt (Nat.lt_of_lt_of_le (Heap.lt_size e) I.ok.above))).trans e1⟩
    · by_cases hj : j = i
      · subst hj
        rw [hi] at e1; cases e1
        rw [List.getElem?_set_self hiσ] at e2
        cases e2
        exact ⟨u, r, .inl ⟨hk, by simp⟩⟩
      · rw [List.getElem?_set_ne (Ne.symm hj)] at e2
        obtain ⟨u', r', q⟩ := hl j y v' e1 e2 e3
        refine ⟨u', r', ?_⟩
        rcases q with ⟨k, e⟩ | ⟨k, c, e, z⟩
        · refine .inl ⟨k, ?_⟩
          have : y ≠ x := fun e => hj (nodup_ix hN e1 (e ▸ hi))
          simp [this, e]
        · exact .inr ⟨k, c, e, z.sameBut hs (cne y c e)⟩
    · obtain ⟨w', z⟩ := I.cell y c e
      exact ⟨w', z.sameBut hs (cne y c e)⟩
    · obtain ⟨e, n, ne, nf, d⟩ := I.pin p hp
      exact ⟨(hs.2 p.1 ne).trans e, n, ne, nf, d⟩
  · have hfn : X.fn x = true := by
      rcases hf with z | z
      · exact z
      · rw [z] at hk; cases hk
    obtain ⟨c, hc⟩ := I.ok.has x (.inl hk)
    obtain ⟨w', z⟩ := I.cell x c hc
    refine wpAny_storeName_cell I.ok.kind hk hc z (fun h' hc' hs => ?_)
    obtain ⟨oc, hoc, hocd⟩ := id z
    refine h { s with heap := h' } ⟨I.ok, I.os, I.bare, ⟨fun b o e n hb hx => ?_, fun b o e n hb hx => ?_, I.base.free, fun b o e hx => ?_, I.base.tups, I.base.frzs, I.base.tbls⟩, ⟨m, hn.sameBut hs (Ne.symm (cne x c hc)), fun j y v' e1 e2 e3 => ?_⟩, fun y c' e => ?_, I.free, I.freeC, fun p hp => ?_, tracked ⟨oc, hoc, I.freeC x c hc⟩ hs, by simpa using I.len⟩ ⟨c, hs, .inr hc⟩
    · exact (hs.2 b (Nat.ne_of_lt (Nat.lt_of_lt_of_le (Heap.lt_size e) (I.ok.cab x c hfn hc)))).trans (I.base.keep b o e n hb hx)
    · obtain ⟨sl, e1⟩ := I.base.slot b o e n hb hx
      exact ⟨sl, (hs.2 b (Nat.ne_of_lt (Nat.lt_of_lt_of_le (Heap.lt_size e) (I.ok.cab x c hfn hc)))).trans e1⟩
    · obtain ⟨o', e1⟩ := I.base.there b o e hx
      exact ⟨o', (hs.2 b (Nat.ne_of_lt (Nat.lt_of_lt_of_le (Heap.lt_size e) (I.ok.cab x c hfn hc)))).trans e1⟩
    · by_cases hj : j = i
      · subst hj
        rw [hi] at e1; cases e1
        rw [List.getElem?_set_self hiσ] at e2
        cases e2
        exact ⟨u, r, .inr ⟨.inl hk, c, hc, hc'⟩⟩
      · rw [List.getElem?_set_ne (Ne.symm hj)] at e2
        obtain ⟨u', r', q⟩ := hl j y v' e1 e2 e3
        refine ⟨u', r', ?_⟩
        rcases q with q | ⟨k, c', e, z'⟩
        · exact .inl q
        · refine .inr ⟨k, c', e, z'.sameBut hs ?_⟩
          rintro rfl
          exact hj (nodup_ix hN e1 (I.ok.inj _ _ _ e hc ▸ hi))
    · by_cases hcc : c' = c
      · subst hcc; exact ⟨_, hc'⟩
      · obtain ⟨w2, z2⟩ := I.cell y c' e
        exact ⟨w2, z2.sameBut hs hcc⟩
    · obtain ⟨e, n, ne, nf, d⟩ := I.pin p hp
      refine ⟨(hs.2 p.1 ?_).trans e, n, ne, nf, d⟩
      intro q
      rw [q, hoc] at e
      have q' : oc = p.2 := Option.some.inj e
      exact d w' (by rw [← q']; exact hocd)
theorem store_ok {M : Model} {A : Around} {E : Value → Shared → Prop} {i : Nat} {x : Str} {v : V} {u : Value} {Q : Unit → Shared → Prop} (I : Inv X pins σ H s) (hN : X.N.Nodup) (hi : X.N[i]? = some x) (hx : Loc X.env.scope x) (r : RelV v u)
    (h : ∀ s', Inv X pins (σ.set i (some v)) H s' → Q () s') (hf : X.fn x = true ∨ X.env.scope.names.lookup x = some .local := by first | exact .inl rfl | exact .inr rfl | assumption) : wpAny M A (storeName X.env x u) Q E s :=
  store_ok2 I hN hi hx r (fun s' I' _ => h s' I') hf
/-- behind a call or a block, the state as it is -/
theorem Inv.call' {s' : Shared} {ch : List Addr} (I : Inv X pins σ H s) (ho : s'.os = s.os) (u : Un (frs X.stack) ch H H' s.heap s'.heap) (hok : HOk X.prog X.w H' s'.heap) (hg : AllBare s'.gens)
    (hch : ∀ b ∈ ch, (b ∈ X.ex ∨ X.s₀.heap.objs.size ≤ b) ∧ b ≠ X.env.locals ∧ (∀ x c, X.env.cells.lookup x = some c → c ≠ b) ∧ ∀ p ∈ X.pn ++ pins, p.1 ≠ b) : Inv X pins σ H' s' := by
  obtain ⟨h', g', d', t', o'⟩ := s'
  have e : o' = s.os := ho
  subst e
  exact I.call (g' := g') (t' := t') (d' := d') u hok hg hch
end

/-! ### the judgements -/
/-- an exception: its class, its own dict's address (where it has one), the abstract heap behind it -/
abbrev XK := Value → Option Addr → Hp → Prop
abbrev St := List (Option V)
abbrev VK := V → Hp → Prop
/-- an expression's reading; a test's; an argument list's -/
abbrev TE := St → Hp → VK → Prop
abbrev TT := St → Hp → (Bool → Hp → Prop) → Prop
abbrev TA := St → Hp → (List V → Hp → Prop) → Prop
/-- what is wanted behind a statement -/
structure Ends where
  nx : St → Hp → Prop
  rt : VK
  bk : St → Hp → Prop := fun _ _ => False
  ct : St → Hp → Prop := fun _ _ => False
abbrev TS := Ends → St → Hp → Prop

def EP (X : Cx) (pins : List (Addr × Obj)) (σ : St) (Q : VK) (u : Value) (s' : Shared) : Prop := ∃ v H', Inv X pins σ H' s' ∧ RelV v u ∧ Q v H'
def TP (X : Cx) (pins : List (Addr × Obj)) (σ : St) (Q : Bool → Hp → Prop) (b : Bool) (s' : Shared) : Prop := ∃ H', Inv X pins σ H' s' ∧ Q b H'
def AP (X : Cx) (pins : List (Addr × Obj)) (σ : St) (Q : List V → Hp → Prop) (us : List Value) (s' : Shared) : Prop := ∃ vs H', Inv X pins σ H' s' ∧ Vals vs us ∧ Q vs H'
def SP (X : Cx) (pins : List (Addr × Obj)) (D : Ends) (f : Flow) (s' : Shared) : Prop :=
  match f with
  | .next => ∃ σ' H', Inv X pins σ' H' s' ∧ D.nx σ' H'
  | .brk => ∃ σ' H', Inv X pins σ' H' s' ∧ D.bk σ' H'
  | .cont => ∃ σ' H', Inv X pins σ' H' s' ∧ D.ct σ' H'
  | .ret u => ∃ v σ' H', Inv X pins σ' H' s' ∧ RelV v u ∧ D.rt v H'

def PE (X : Cx) (e : Expr) (t : TE) : Prop :=
  ∀ (pins : List (Addr × Obj)) (s : Shared) (σ : St) (H : Hp) (Q : VK), Inv X pins σ H s → t σ H Q → wpAny (model X.prog X.w) X.A (eval e X.env) (EP X pins σ Q) X.xe s
def PT (X : Cx) (e : Expr) (t : TT) : Prop :=
  ∀ (pins : List (Addr × Obj)) (s : Shared) (σ : St) (H : Hp) (Q : Bool → Hp → Prop), Inv X pins σ H s → t σ H Q → wpAny (model X.prog X.w) X.A (isTrue e X.env (eval e X.env)) (TP X pins σ Q) X.xe s
/-- a test whatever its 'whole' is (and, or) -/
def PW (X : Cx) (e : Expr) (t : TT) : Prop :=
  ∀ (whole : Sem Value) (pins : List (Addr × Obj)) (s : Shared) (σ : St) (H : Hp) (Q : Bool → Hp → Prop), Inv X pins σ H s → t σ H Q → wpAny (model X.prog X.w) X.A (isTrue e X.env whole) (TP X pins σ Q) X.xe s
theorem PW.pt {X : Cx} {e : Expr} {t : TT} (h : PW X e t) : PT X e t := h _
/-- an argument list (no star), from the left -/
def PA (X : Cx) (es : List Expr) (t : TA) : Prop :=
  ∀ (pos : Pos) (pins : List (Addr × Obj)) (s : Shared) (σ : St) (H : Hp) (Q : List V → Hp → Prop), Inv X pins σ H s → t σ H Q → wpAny (model X.prog X.w) X.A (spliced (backTo pos (starEach es X.env))) (AP X pins σ Q) X.xe s
def PS (X : Cx) (st : Stmt) (t : TS) : Prop :=
  ∀ (pins : List (Addr × Obj)) (s : Shared) (σ : St) (H : Hp) (D : Ends), Inv X pins σ H s → t D σ H → wpAny (model X.prog X.w) X.A (exec st X.env) (SP X pins D) X.xe s
def PSs (X : Cx) (st : List Stmt) (t : TS) : Prop :=
  ∀ (pins : List (Addr × Obj)) (s : Shared) (σ : St) (H : Hp) (D : Ends), Inv X pins σ H s → t D σ H → wpAny (model X.prog X.w) X.A (execs st X.env) (SP X pins D) X.xe s
/-- weaken the end -/
theorem thn {α : Type} {t : Sem α} {Q Q' : α → Shared → Prop} {M : Model} {A : Around} {E : Value → Shared → Prop} {s : Shared} (h : wpAny M A t Q E s) (hQ : ∀ a s, Q a s → Q' a s) : wpAny M A t Q' E s := wpAny_mono h hQ fun _ _ x => x
end L2

namespace L2
open PySem PySem.Spec PyProof.Rows
section
variable {X : Cx}

/-! ### names and constants -/
def tVar (i : Nat) : TE := fun σ H Q => ∃ v, σ[i]? = some (some v) ∧ Q v H
def tC (v : V) : TE := fun _ H Q => Q v H
theorem pe_var {i : Nat} {x : Str} {pos : Pos} (hN : X.N[i]? = some x) (hv : Vis X.env.scope x) (hd : (x == ("__debug__" : Str)) = false := by decide) (hcd : (x == ("__classdict__" : Str)) = false := by decide) : PE X (.Name x pos) (tVar i) := by
  intro pins s σ H Q I h
  obtain ⟨v, e, h⟩ := h
  obtain ⟨m, hn, hl⟩ := I.loc
  obtain ⟨u, r, l⟩ := hl i x v hN e hv
  have fin : EP X pins σ Q u s := ⟨v, H, I, r, h⟩
  rcases l with ⟨hk, hm⟩ | ⟨hk, c, hc, hcell⟩
  · exact wpAny_Name (wpAny_loadName_local I.ok.kind hk hn hm fin) hd
  · rcases hk with hk | hk
    · exact wpAny_Name (wpAny_loadName_cell I.ok.kind hk hc hcell fin) hd
    · exact wpAny_Name (wpAny_loadName_free I.ok.kind hk hc hcell fin hcd) hd
theorem pe_int {i j pos} : PE X (.Constant (.int i) j pos) (tC (.int i)) := fun _ _ _ H _ I h => wpAny_Constant_int ⟨.int i, H, I.tok _, ⟨_, rfl⟩, h⟩
theorem pe_bl {b j pos} : PE X (.Constant (.bool b) j pos) (tC (.bl b)) := fun _ _ _ H _ I h => Constant_bool ⟨.bl b, H, I, rfl, h⟩
theorem pe_non {j pos} : PE X (.Constant .none j pos) (tC .non) := fun _ _ _ H _ I h => Constant_none ⟨.non, H, I, rfl, h⟩
theorem pe_str {x j pos} : PE X (.Constant (.str x) j pos) (tC (.str x)) := fun _ _ _ H _ I h => Calls.Constant_str ⟨.str x, H, I.tok _, ⟨_, rfl⟩, h⟩

/-- a global name of the def -/
def Gl (X : Cx) (x : Str) : Prop := X.env.kindOf x = some .globalImplicit
theorem ld_glob {E : Value → Shared → Prop} {pins : List (Addr × Obj)} {s : Shared} {σ : St} {H : Hp} {x : Str} {u : Value} {pos : Pos} {Q : Value → Shared → Prop} (I : Inv X pins σ H s) (hg : Gl X x) (hm : X.mg x = some u) (h : Q u s)
    (hd : (x == ("__debug__" : Str)) = false := by decide) : wpAny (model X.prog X.w) X.A (eval (.Name x pos) X.env) Q E s :=
  Calls.Name_function_global I.ok.kind hg (Calls.loadGlobal_global (by rw [I.ok.glob]; exact I.mod.glob.keeps I.bk) hm h) hd
theorem ld_blt {E : Value → Shared → Prop} {pins : List (Addr × Obj)} {s : Shared} {σ : St} {H : Hp} {x : Str} {u : Value} {pos : Pos} {Q : Value → Shared → Prop} (I : Inv X pins σ H s) (hg : Gl X x) (hm : X.mg x = none) (hv : bootBuiltins x = some u) (h : Q u s)
    (hn : x ≠ "__name__" := by decide) (hd : (x == ("__debug__" : Str)) = false := by decide) : wpAny (model X.prog X.w) X.A (eval (.Name x pos) X.env) Q E s := by
  obtain ⟨mb, h1, h2⟩ := I.mod.blt
  exact Calls.Name_function_global I.ok.kind hg (Calls.loadGlobal_builtin (by rw [I.ok.glob]; exact I.mod.glob.keeps I.bk) hm (by rw [I.ok.blt]; exact h1.keeps I.bk) ((h2 x hn).trans hv) h) hd
/-- a module's constant, a class, a function, as a value -/
theorem pe_glob {x : Str} {v : V} {u : Value} {pos : Pos} (hg : Gl X x) (hm : X.mg x = some u) (r : RelV v u) (hd : (x == ("__debug__" : Str)) = false := by decide) : PE X (.Name x pos) (tC v) :=
  fun _ _ _ H _ I h => ld_glob I hg hm ⟨v, H, I, r, h⟩ hd
theorem pe_bltn {x : Str} {v : V} {u : Value} {pos : Pos} (hg : Gl X x) (hm : X.mg x = none) (hv : bootBuiltins x = some u) (r : RelV v u) (hn : x ≠ "__name__" := by decide) (hd : (x == ("__debug__" : Str)) = false := by decide) : PE X (.Name x pos) (tC v) :=
  fun _ _ _ H _ I h => ld_blt I hg hm hv ⟨v, H, I, r, h⟩ hn hd

/-! ### arithmetic -/
/-- two ints -/
def t2I (ta tb : TE) (k : Int → Int → Hp → Prop) : St → Hp → Prop := fun σ H => ta σ H fun x H1 => tb σ H1 fun y H2 => ∃ i j, x = .int i ∧ y = .int j ∧ k i j H2
def tAdd (ta tb : TE) : TE := fun σ H Q => t2I ta tb (fun i j H2 => Q (.int (i + j)) H2) σ H
def tSub (ta tb : TE) : TE := fun σ H Q => t2I ta tb (fun i j H2 => Q (.int (i - j)) H2) σ H
/-- the left factor below 2^64 -/
def tMul (ta tb : TE) : TE := fun σ H Q => t2I ta tb (fun i j H2 => (-(2 ^ 64) < i ∧ i < 2 ^ 64) ∧ Q (.int (i * j)) H2) σ H
variable {a b : Expr} {ta tb : TE} {pos : Pos}
/-! ### comparisons -/
def PC (X : Cx) (op : CmpOp) (a b : Expr) (t : TE) : Prop :=
  ∀ (pins : List (Addr × Obj)) (s : Shared) (σ : St) (H : Hp) (Q : VK), Inv X pins σ H s → t σ H Q →
    wpAny (model X.prog X.w) X.A (eval a X.env) (fun v s₁ => wpAny (model X.prog X.w) X.A (eval b X.env) (fun u s₂ => wpAny (model X.prog X.w) X.A (compareOp op v u) (EP X pins σ Q) X.xe s₂) X.xe s₁) X.xe s
theorem nobehind (b : Expr) {op : CmpOp} (h : op ≠ .In) (h2 : op ≠ .NotIn) : behindInMarks op b = false := by
  have e1 : (op == CmpOp.In) = false := by cases op <;> first | rfl | exact absurd rfl h
  have e2 : (op == CmpOp.NotIn) = false := by cases op <;> first | rfl | exact absurd rfl h2
  cases b <;> simp [behindInMarks, e1, e2]
def tCmp (p : Int → Int → Bool) (ta tb : TE) : TE := fun σ H Q => t2I ta tb (fun i j H2 => Q (.bl (p i j)) H2) σ H
abbrev tLt : TE → TE → TE := tCmp fun i j => decide (i < j)
abbrev tLe : TE → TE → TE := tCmp fun i j => decide (i ≤ j)
abbrev tGt : TE → TE → TE := tCmp fun i j => decide (j < i)
abbrev tGe : TE → TE → TE := tCmp fun i j => decide (j ≤ i)
abbrev tEqI : TE → TE → TE := tCmp fun i j => decide (i = j)
abbrev tNeI : TE → TE → TE := tCmp fun i j => !decide (i = j)
/-- is None -/
def tIsN (ta : TE) : TE := fun σ H Q => ta σ H fun x H1 => Q (.bl (decide (x = .non))) H1
def tNotN (ta : TE) : TE := fun σ H Q => ta σ H fun x H1 => Q (.bl (!decide (x = .non))) H1
theorem RelV.none_iff {x : V} {v : Value} (r : RelV x v) : (v == Value.none) = decide (x = .non) := by
  cases x with
  | non => cases r; rfl
  | bl _ => cases r; rfl
  | int _ => obtain ⟨t, rfl⟩ := r; rfl
  | str _ => obtain ⟨t, rfl⟩ := r; rfl
  | byt _ => obtain ⟨t, rfl⟩ := r; rfl
  | flt _ => obtain ⟨t, rfl⟩ := r; rfl
  | ref _ => cases r; rfl
  | ty _ => cases r; rfl
theorem pc_isN {j pos'} (ha : PE X a ta) : PC X .Is a (.Constant .none j pos') (tIsN ta) := by
  intro pins s σ H Q I h
  refine thn (ha pins s σ H _ I h) fun v s1 ⟨x, H1, I1, r1, q1⟩ => ?_
  exact Constant_none (is_none_gen ⟨.bl _, H1, I1, by rw [r1.none_iff]; rfl, q1⟩)
theorem pc_notN {j pos'} (ha : PE X a ta) : PC X .IsNot a (.Constant .none j pos') (tNotN ta) := by
  intro pins s σ H Q I h
  refine thn (ha pins s σ H _ I h) fun v s1 ⟨x, H1, I1, r1, q1⟩ => ?_
  exact Constant_none (isnot_none_gen ⟨.bl _, H1, I1, by rw [r1.none_iff]; rfl, q1⟩)
/-- a comparison as a value, as a test -/
def tB (t : TE) : TT := fun σ H Q => t σ H fun x H1 => ∃ c, x = .bl c ∧ Q c H1
theorem pt_cmp {op : CmpOp} {t : TE} (h : PC X op a b t) (h1 : behindInMarks op b = false := by first | exact nobehind _ (by decide) (by decide) | rfl) : PT X (.Compare a [op] [b] pos) (tB t) := by
  intro pins s σ H Q I hw
  refine wpAny_isTrue_Compare1 (thn (h pins s σ H _ I hw) fun v s1 h1 => thn h1 fun u s2 h2 => thn h2 fun c s3 ⟨x, H1, I1, r1, q1⟩ => ?_) h1
  obtain ⟨d, rfl, q⟩ := q1
  cases r1
  exact wpAny_truthy_bool ⟨H1, I1, q⟩
/-- an expression whose value is a bool, as a test -/
theorem pt_val {e : Expr} {t : TE} (h : PE X e t) (he : ∀ whole, isTrue e X.env whole = (do let v ← whole; standAt e.pos; holding [v] (truthy v)) := by intro _; rfl) : PT X e (tB t) := by
  intro pins s σ H Q I hw
  refine isTrue_plain (thn (h pins s σ H _ I hw) fun v s1 ⟨x, H1, I1, r1, q1⟩ => ?_) (he _)
  obtain ⟨d, rfl, q⟩ := q1
  cases r1
  exact wpAny_truthy_bool ⟨H1, I1, q⟩

/-! ### and, or, not -/
variable {tA tB' : TT} {rest : List Expr}
def tAnd (t u : TT) : TT := fun σ H Q => t σ H fun c H1 => if c = true then u σ H1 Q else Q false H1
def tOr (t u : TT) : TT := fun σ H Q => t σ H fun c H1 => if c = true then Q true H1 else u σ H1 Q
def tNot (t : TT) : TT := fun σ H Q => t σ H fun c H1 => Q (!c) H1
theorem pw_and1 (ha : PT X a tA) : PW X (.BoolOp .And [a] pos) tA := by
  intro wh pins s σ H Q I h
  refine isTrue_and (thn (ha pins s σ H Q I h) fun c s1 e => ?_)
  cases c with
  | true => exact isTrue_and_nil e
  | false => exact e
theorem pw_or1 (ha : PT X a tA) : PW X (.BoolOp .Or [a] pos) tA := by
  intro wh pins s σ H Q I h
  refine isTrue_or (thn (ha pins s σ H Q I h) fun c s1 e => ?_)
  cases c with
  | false => exact isTrue_or_nil e
  | true => exact e
theorem pw_and (ha : PT X a tA) (hb : PW X (.BoolOp .And (b :: rest) pos) tB') : PW X (.BoolOp .And (a :: b :: rest) pos) (tAnd tA tB') := by
  intro wh pins s σ H Q I h
  refine isTrue_and (thn (ha pins s σ H _ I h) fun c s1 ⟨H1, I1, q1⟩ => ?_)
  cases c with
  | true => exact hb wh pins s1 σ H1 Q I1 q1
  | false => exact ⟨H1, I1, q1⟩
theorem pw_or (ha : PT X a tA) (hb : PW X (.BoolOp .Or (b :: rest) pos) tB') : PW X (.BoolOp .Or (a :: b :: rest) pos) (tOr tA tB') := by
  intro wh pins s σ H Q I h
  refine isTrue_or (thn (ha pins s σ H _ I h) fun c s1 ⟨H1, I1, q1⟩ => ?_)
  cases c with
  | true => exact ⟨H1, I1, q1⟩
  | false => exact hb wh pins s1 σ H1 Q I1 q1
theorem pt_not (ha : PT X a tA) : PT X (.UnaryOp .Not a pos) (tNot tA) := by
  intro pins s σ H Q I h
  exact isTrue_not (ha pins s σ H (fun c H1 => Q (!c) H1) I h)
/-- .. as values (bools) -/
def tAndV (ta tb : TE) : TE := fun σ H Q => ta σ H fun x H1 => ∃ c, x = .bl c ∧ if c = true then tb σ H1 Q else Q (.bl false) H1
def tOrV (ta tb : TE) : TE := fun σ H Q => ta σ H fun x H1 => ∃ c, x = .bl c ∧ if c = true then Q (.bl true) H1 else tb σ H1 Q
def tNotV (ta : TE) : TE := fun σ H Q => ta σ H fun x H1 => ∃ c, x = .bl c ∧ Q (.bl (!c)) H1
/-- a if t else b -/
def tIf (t : TT) (ta tb : TE) : TE := fun σ H Q => t σ H fun c H1 => if c = true then ta σ H1 Q else tb σ H1 Q
theorem pe_ifExp {c : Expr} (hc : PT X c tA) (ha : PE X a ta) (hb : PE X b tb) : PE X (.IfExp c a b pos) (tIf tA ta tb) := by
  intro pins s σ H Q I h
  refine wpAny_IfExp (thn (hc pins s σ H _ I h) fun d s1 ⟨H1, I1, q1⟩ => ?_)
  cases d with
  | true => exact ha pins s1 σ H1 Q I1 q1
  | false => exact hb pins s1 σ H1 Q I1 q1
end
end L2

namespace L2
open PySem PySem.Spec PyProof.Rows

/-! ### a list, a tuple that is read: tracked, frozen, or an object of the module -/
def SqL (K : PySem.W.Frag) (H : Hp) (a : Addr) (xs : List V) : Prop :=
  Rd H a (.lst xs) ∨
    ∃ (o : Obj) (its : Array Value) (n : Nat), K.lookup a = some o ∧ o.cls = .type "list" ∧ o.dict = none ∧ o.data = .seq its n ∧ its.size ≤ sizeLine ∧ Vals xs its.toList
def SqT (K : PySem.W.Frag) (H : Hp) (a : Addr) (xs : List V) : Prop :=
  Rd H a (.tup xs) ∨
    ∃ (o : Obj) (its : Array Value) (n : Nat), K.lookup a = some o ∧ o.cls = .type "tuple" ∧ o.data = .seq its n ∧ its.size ≤ sizeLine ∧ Vals xs its.toList
def absV : Value → Option V
  | .none => some .non
  | .bool b => some (.bl b)
  | .int i _ => some (.int i)
  | .str x _ => some (.str x)
  | .bytes b _ => some (.byt b)
  | .float b _ => some (.flt b)
  | .ref a => some (.ref a)
  | .type n => some (.ty n)
  | _ => none
theorem RelV.abs {x : V} {u : Value} (r : RelV x u) : absV u = some x := by
  cases x with
  | non => cases r; rfl
  | bl _ => cases r; rfl
  | int _ => obtain ⟨t, rfl⟩ := r; rfl
  | str _ => obtain ⟨t, rfl⟩ := r; rfl
  | byt _ => obtain ⟨t, rfl⟩ := r; rfl
  | flt _ => obtain ⟨t, rfl⟩ := r; rfl
  | ref _ => cases r; rfl
  | ty _ => cases r; rfl
theorem RelV.inj {x y : V} {u : Value} (r : RelV x u) (q : RelV y u) : x = y := Option.some.inj (r.abs.symm.trans q.abs)
theorem Vals.inj : ∀ {xs ys : List V} {us : List Value}, Vals xs us → Vals ys us → xs = ys
  | _, _, _, .nil, .nil => rfl
  | _, _, _, .cons r t, .cons r' t' => by rw [r.inj r', Vals.inj t t']
section
variable {X : Cx} {pins : List (Addr × Obj)} {σ : St} {H : Hp} {s : Shared} {a : Addr} {xs ys : List V}
theorem SqL.of {K : PySem.W.Frag} (h : H a = some (.lst xs)) : SqL K H a xs := .inl (.inl h)
theorem SqT.of {K : PySem.W.Frag} (h : H a = some (.tup xs)) : SqT K H a xs := .inl (.inl h)
theorem Inv.list (I : Inv X pins σ H s) (h : SqL X.K H a xs) : ∃ its : List Value, Vals xs its ∧ PlainL s.heap a its.toArray ∧ xs.length ≤ sizeLine := by
  rcases h with h | ⟨o, its, n, hk, hc, hd, hs, hz, r⟩
  · obtain ⟨z, its, n, r, e⟩ := h.ok I.hok
    exact ⟨its, r, ⟨_, n, e, rfl, rfl, rfl⟩, z⟩
  · refine ⟨its.toList, r, ⟨o, n, I.kIn a o hk, hc, hd, by simpa using hs⟩, ?_⟩
    have e := r.length
    simp only [Array.length_toList] at e
    omega
theorem Inv.tuple (I : Inv X pins σ H s) (h : SqT X.K H a xs) : ∃ its : List Value, Vals xs its ∧ IsTup s.heap a its.toArray ∧ xs.length ≤ sizeLine := by
  rcases h with h | ⟨o, its, n, hk, hc, hs, hz, r⟩
  · obtain ⟨z, its, r, o, e, c, n, d, _⟩ := h.ok I.hok
    exact ⟨its, r, ⟨o, e, c, n, d⟩, z⟩
  · refine ⟨its.toList, r, ⟨o, I.kIn a o hk, hc, n, by simpa using hs⟩, ?_⟩
    have e := r.length
    simp only [Array.length_toList] at e
    omega
theorem Inv.list_inj (I : Inv X pins σ H s) (h : SqL X.K H a xs) (h' : SqL X.K H a ys) : xs = ys := by
  obtain ⟨its, r, ⟨o, n, e, _, _, d⟩, _⟩ := I.list h
  obtain ⟨its', r', ⟨o', n', e', _, _, d'⟩, _⟩ := I.list h'
  rw [e] at e'; cases e'
  rw [d] at d'
  injection d' with d1 _
  have : its = its' := by simpa using congrArg Array.toList d1
  subst this
  exact r.inj r'
end

/-! ### another wish about exceptions -/
abbrev Cx.wish (X : Cx) (E : Value → Shared → Prop) : Cx := { X with xe := E }
/-- no exception leaves -/
abbrev Cx.nox (X : Cx) : Cx := X.wish fun _ _ => False
theorem Cx.Ok.wish {X : Cx} (ok : X.Ok) (E : Value → Shared → Prop) : (X.wish E).Ok :=
  ⟨ok.mod, ok.kind, ok.glob, ok.blt, ok.above, ok.inj, ok.has, ok.cab, ok.hd, ok.frames, ok.stk, ok.exf, ok.bs, ok.bsz, ok.noex, ok.exfs, ok.funs, ok.frf⟩
theorem Cx.Ok.unwish {X : Cx} {E : Value → Shared → Prop} (ok : (X.wish E).Ok) : X.Ok :=
  ⟨ok.mod, ok.kind, ok.glob, ok.blt, ok.above, ok.inj, ok.has, ok.cab, ok.hd, ok.frames, ok.stk, ok.exf, ok.bs, ok.bsz, ok.noex, ok.exfs, ok.funs, ok.frf⟩
section
variable {X : Cx} {pins : List (Addr × Obj)} {σ : St} {H : Hp} {s : Shared} {E : Value → Shared → Prop}
theorem Inv.wish (I : Inv X pins σ H s) (E : Value → Shared → Prop) : Inv (X.wish E) pins σ H s := ⟨I.ok.wish E, I.os, I.bare, I.base, I.loc, I.cell, I.free, I.freeC, I.pin, I.hok, I.len⟩
theorem Inv.unwish (I : Inv (X.wish E) pins σ H s) : Inv X pins σ H s := ⟨I.ok.unwish, I.os, I.bare, I.base, I.loc, I.cell, I.free, I.freeC, I.pin, I.hok, I.len⟩
theorem SP.unwish {D : Ends} {f : Flow} {s' : Shared} (h : SP (X.wish E) pins D f s') : SP X pins D f s' := by
  cases f with
  | next => obtain ⟨σ', H', I, q⟩ := h; exact ⟨σ', H', I.unwish, q⟩
  | brk => obtain ⟨σ', H', I, q⟩ := h; exact ⟨σ', H', I.unwish, q⟩
  | cont => obtain ⟨σ', H', I, q⟩ := h; exact ⟨σ', H', I.unwish, q⟩
  | ret u => obtain ⟨v, σ', H', I, r, q⟩ := h; exact ⟨v, σ', H', I.unwish, r, q⟩
theorem PE.nox {e : Expr} {t : TE} (h : PE X.nox e t) : PE X e t := fun pins s σ H Q I hw =>
  wpAny_mono (h pins s σ H Q (I.wish _) hw) (fun _ _ ⟨v, H', I', r, q⟩ => ⟨v, H', I'.unwish, r, q⟩) fun _ _ z => False.elim z
theorem PT.nox {e : Expr} {t : TT} (h : PT X.nox e t) : PT X e t := fun pins s σ H Q I hw =>
  wpAny_mono (h pins s σ H Q (I.wish _) hw) (fun _ _ ⟨H', I', q⟩ => ⟨H', I'.unwish, q⟩) fun _ _ z => False.elim z
theorem PSs.nox {st : List Stmt} {t : TS} (h : PSs X.nox st t) : PSs X st t := fun pins s σ H D I hw =>
  wpAny_mono (h pins s σ H D (I.wish _) hw) (fun _ _ q => q.unwish) fun _ _ z => False.elim z
end

/-! ### blocks and small statements -/
section
variable {X : Cx} {st : Stmt} {rest : List Stmt} {t u : TS} {e : Expr} {te : TE} {pos : Pos}
def tNext : TS := fun D σ H => D.nx σ H
def tSeq (t u : TS) : TS := fun D σ H => t { D with nx := u D } σ H
theorem pss_nil : PSs X [] tNext := fun _ _ σ H _ I h => wpAny_execs_nil ⟨σ, H, I, h⟩
theorem pss_cons (h1 : PS X st t) (h2 : PSs X rest u) : PSs X (st :: rest) (tSeq t u) := by
  intro pins s σ H D I h
  refine wpAny_execs_cons (thn (h1 pins s σ H { D with nx := u D } I h) fun f s1 q => ?_)
  cases f with
  | next =>
    obtain ⟨σ', H', I', q⟩ := q
    exact h2 pins s1 σ' H' D I' q
  | ret v => exact q
  | brk => exact q
  | cont => exact q
theorem pss_one (h1 : PS X st t) : PSs X [st] t := by
  intro pins s σ H D I h
  refine wpAny_execs_cons (thn (h1 pins s σ H D I h) fun f s1 q => ?_)
  cases f with
  | next => exact wpAny_execs_nil q
  | ret v => exact q
  | brk => exact q
  | cont => exact q
def tBreak : TS := fun D σ H => D.bk σ H
def tCont : TS := fun D σ H => D.ct σ H
/-- in a def's body nothing is shown -/
theorem Inv.quiet {pins : List (Addr × Obj)} {σ : St} {H : Hp} {s : Shared} (I : Inv X pins σ H s) : interactive X.env = false := by simp [interactive, I.ok.kind]
/-- an expression whose value is dropped -/
def tDrop (te : TE) : TS := fun D σ H => te σ H fun _ H1 => D.nx σ H1
def tRet (te : TE) : TS := fun D σ H => te σ H D.rt
theorem ps_ret (he : PE X e te) : PS X (.Return (some e) pos) (tRet te) := by
  intro pins s σ H D I h
  exact wpAny_Return_some (thn (he pins s σ H _ I h) fun v s1 ⟨x, H1, I1, r1, q1⟩ => ⟨x, σ, H1, I1, r1, q1⟩)
def tRetN : TS := fun D _ H => D.rt .non H
def tIfS (c : TT) (t u : TS) : TS := fun D σ H => c σ H fun b H1 => if b = true then t D σ H1 else u D σ H1
theorem ps_if {c : Expr} {a b : List Stmt} {tc : TT} (hc : PT X c tc) (ha : PSs X a t) (hb : PSs X b u) : PS X (.If c a b pos) (tIfS tc t u) := by
  intro pins s σ H D I h
  refine wpAny_If (thn (hc pins s σ H _ I h) fun d s1 ⟨H1, I1, q1⟩ => ?_)
  cases d with
  | true => exact ha pins s1 σ H1 D I1 q1
  | false => exact hb pins s1 σ H1 D I1 q1
/-- code that the proof never comes to -/
def tNever : TS := fun _ _ _ => False
end

/-! ### targets -/
abbrev TG := V → St → Hp → (St → Hp → Prop) → Prop
abbrev TGs := List V → St → Hp → (St → Hp → Prop) → Prop
def PG (X : Cx) (target : Expr) (t : TG) : Prop :=
  ∀ (pins : List (Addr × Obj)) (s : Shared) (σ : St) (H : Hp) (v : V) (u : Value) (Q : St → Hp → Prop), Inv X pins σ H s → RelV v u → t v σ H Q →
    wpAny (model X.prog X.w) X.A (assign target X.env u) (fun _ s' => ∃ σ' H', Inv X pins σ' H' s' ∧ Q σ' H') X.xe s
/-- several targets, one after another -/
def PGs (X : Cx) (ts : List Expr) (t : TGs) : Prop :=
  ∀ (pins : List (Addr × Obj)) (s : Shared) (σ : St) (H : Hp) (vs : List V) (us : List Value) (Q : St → Hp → Prop), Inv X pins σ H s → Vals vs us → t vs σ H Q →
    wpAny (model X.prog X.w) X.A (assignInOrder ((assignEach ts X.env).map (·.2)) us) (fun _ s' => ∃ σ' H', Inv X pins σ' H' s' ∧ Q σ' H') X.xe s
/-- o[i] = v, by values -/
abbrev TSet := V → V → V → Hp → (Hp → Prop) → Prop
def PSet (X : Cx) (t : TSet) : Prop :=
  ∀ (pins : List (Addr × Obj)) (s : Shared) (σ : St) (H : Hp) (o i v : V) (ov iv u : Value) (Q : Hp → Prop), Inv X pins σ H s → RelV o ov → RelV i iv → RelV v u → t o i v H Q →
    wpAny (model X.prog X.w) X.A (setItem ov iv u) (fun _ s' => ∃ H', Inv X pins σ H' s' ∧ Q H') X.xe s
/-- a op= b, by values -/
abbrev TIp := V → V → Hp → VK → Prop
def PIp (X : Cx) (op : Operator) (t : TIp) : Prop :=
  ∀ (pins : List (Addr × Obj)) (s : Shared) (σ : St) (H : Hp) (x y : V) (v u : Value) (Q : VK), Inv X pins σ H s → RelV x v → RelV y u → t x y H Q →
    wpAny (model X.prog X.w) X.A (inplaceOp op v u) (EP X pins σ Q) X.xe s
section
variable {X : Cx} {pos : Pos}
def gName (i : Nat) : TG := fun v σ H Q => Q (σ.set i (some v)) H
theorem pg_name {i : Nat} {x : Str} (hN : X.N.Nodup) (hi : X.N[i]? = some x) (hx : Loc X.env.scope x) (hf : X.fn x = true ∨ X.env.scope.names.lookup x = some .local := by first | exact .inl rfl | exact .inr rfl | assumption) : PG X (.Name x pos) (gName i) := by
  intro pins s σ H v u Q I r h
  exact wpAny_assign_Name (store_ok I hN hi hx r (fun s' I' => ⟨_, H, I', h⟩) hf)
def gNil : TGs := fun vs σ H Q => vs = [] ∧ Q σ H
def gCons (t : TG) (u : TGs) : TGs := fun vs σ H Q => ∃ v r, vs = v :: r ∧ t v σ H fun σ' H' => u r σ' H' Q
/-- (a, b, ..) = a tuple of that length -/
def gTup (K : PySem.W.Frag) (n : Nat) (t : TGs) : TG := fun v σ H Q => ∃ a xs, v = .ref a ∧ SqT K H a xs ∧ xs.length = n ∧ t xs σ H Q
/-- o[i] = .. -/
def gSub (to ti : TE) (t : TSet) : TG := fun v σ H Q => to σ H fun o H1 => ti σ H1 fun i H2 => t o i v H2 fun H3 => Q σ H3
theorem pg_sub {o i : Expr} {to ti : TE} {t : TSet} (ho : PE X o to) (hi : PE X i ti) (hs : PSet X t)
    (ha : ∀ v, assign (.Subscript o i pos) X.env v = (do
      let ov ← holding [v] (eval o X.env)
      let iv ← holding [v, ov] (eval i X.env)
      standAt pos
      holding [v, ov, iv] (setItem ov iv v)
      release [v, ov, iv] []) := by intro _; rfl) : PG X (.Subscript o i pos) (gSub to ti t) := by
  intro pins s σ H v u Q I r h
  rw [ha]
  refine wpAny_bind (wpAny_holding (thn (ho pins s σ H _ I h) fun ov s1 ⟨x, H1, I1, r1, q1⟩ => ?_))
  refine wpAny_bind (wpAny_holding (thn (hi pins s1 σ H1 _ I1 q1) fun iv s2 ⟨y, H2, I2, r2, q2⟩ => ?_))
  refine wpAny_bind (wpAny_standAt (wpAny_bind (wpAny_holding (thn (hs pins s2 σ H2 x y v ov iv u _ I2 r1 r2 r q2) fun _ s3 ⟨H3, I3, q3⟩ => ?_))))
  exact wpAny_release ⟨σ, H3, I3, q3⟩
/-- target = value -/
def tAsg (te : TE) (g : TG) : TS := fun D σ H => te σ H fun x H1 => g x σ H1 D.nx
theorem ps_asg {tg e : Expr} {te : TE} {g : TG} (he : PE X e te) (hg : PG X tg g) (hs : swapsWithSole [tg] e pos.line X.env = pure false := by rfl) (hw : swappedStores [tg] e X.env = pure none := by rfl)
    (h1 : (assignEach [tg] X.env).map (·.2) = [assign tg X.env] := by rfl) : PS X (.Assign [tg] e pos) (tAsg te g) := by
  intro pins s σ H D I h
  refine wpAny_Assign_stores (thn (he pins s σ H _ I h) fun v s1 ⟨x, H1, I1, r1, q1⟩ => ?_) hs hw
  rw [h1]
  exact thn (hg pins s1 σ H1 x v _ I1 r1 q1) fun _ s2 q => q
/-- name = value -/
theorem ps_set {i : Nat} {x : Str} {e : Expr} {te : TE} {pos' : Pos} (hN : X.N.Nodup) (hi : X.N[i]? = some x) (hx : Loc X.env.scope x) (he : PE X e te) (hs : swapsWith e (some (.Name x pos')) pos.line X.env = pure false := by rfl) (hf : X.fn x = true ∨ X.env.scope.names.lookup x = some .local := by first | exact .inl rfl | exact .inr rfl | assumption) :
    PS X (.Assign [.Name x pos'] e pos) (tAsg te (gName i)) := by
  intro pins s σ H D I h
  refine wpAny_Assign_Name (thn (he pins s σ H _ I h) fun v s1 ⟨y, H1, I1, r1, q1⟩ => ?_) hs
  exact store_ok I1 hN hi hx r1 (fun s2 I2 => ⟨_, H1, I2, q1⟩) hf
/-- a, b = x, y with plain local names: stored from the right; the pair itself is not tracked (the opening rows as in PyProof/Rows/TupAssign.lean:23) -/
def tPar (i j : Nat) (ta : TA) : TS := fun D σ H => ta σ H fun vs H1 => ∃ v w, vs = [v, w] ∧ D.nx ((σ.set i (some v)).set j (some w)) H1
/-- name op= e -/
def tAug (i : Nat) (te : TE) (ti : TIp) : TS := fun D σ H => ∃ x, σ[i]? = some (some x) ∧ te σ H fun y H1 => ti x y H1 fun z H2 => D.nx (σ.set i (some z)) H2
/-- o[i] op= e -/
def tAugS (to ti te : TE) (tget : V → V → Hp → VK → Prop) (tip : TIp) (tset : TSet) : TS := fun D σ H => to σ H fun o H1 => ti σ H1 fun i H2 => tget o i H2 fun x H3 => te σ H3 fun y H4 => tip x y H4 fun z H5 => tset o i z H5 fun H6 => D.nx σ H6
/-- o[i], by values -/
def PGet (X : Cx) (t : V → V → Hp → VK → Prop) : Prop :=
  ∀ (pins : List (Addr × Obj)) (s : Shared) (σ : St) (H : Hp) (o i : V) (ov iv : Value) (Q : VK), Inv X pins σ H s → RelV o ov → RelV i iv → t o i H Q →
    wpAny (model X.prog X.w) X.A (getItem ov iv) (EP X pins σ Q) X.xe s
/-- ints -/
def ipI (f : Int → Int → Int) : TIp := fun x y H Q => ∃ i j, x = .int i ∧ y = .int j ∧ Q (.int (f i j)) H
end

/-! ### while -/
section
variable {X : Cx} {pos : Pos}
/-- the invariant W with its measure -/
def tWhile (c : TT) (tb : TS) : TS := fun D σ H => ∃ W : Nat → St → Hp → Prop, (∃ m, W m σ H) ∧ ∀ m σ H, W m σ H →
  c σ H fun b H1 => if b = true then ∃ N : St → Hp → Prop, (∀ σ' H', N σ' H' → ∃ m', m' < m ∧ W m' σ' H') ∧ tb { D with nx := N, ct := N, bk := D.nx } σ H1 else D.nx σ H1
end

/-! ### what a loop or a comprehension walks -/
/-- at turn i: it yields x (the heap may grow), or it stops -/
structure It where
  go : Nat → Hp → Prop
  yld : Nat → Hp → V → Hp → Prop
  stop : Nat → Hp → Prop
/-- the iterator's own objects may turn: they are not the frame's, not pinned, younger than the entry (or a comprehension's own) -/
def FpOk (X : Cx) (pins : List (Addr × Obj)) (H : Hp) (b : Addr) : Prop :=
  H b = none ∧ b ≠ X.env.locals ∧ b ∉ X.fs ∧ (b ∈ X.ex ∨ X.s₀.heap.objs.size ≤ b) ∧ (∀ x c, X.env.cells.lookup x = some c → c ≠ b) ∧ ∀ p ∈ X.pn ++ pins, p.1 ≠ b
theorem Inv.fpOk {X : Cx} {pins : List (Addr × Obj)} {σ : St} {H H' : Hp} {s : Shared} {b : Addr} (I : Inv X pins σ H s) (hb : s.heap.objs.size ≤ b) (hn : H' b = none) : FpOk X pins H' b := by
  refine ⟨hn, Nat.ne_of_gt (Nat.lt_of_lt_of_le I.lt hb), I.nofs hb, .inr (Nat.le_trans I.sz hb), fun x c e z => ?_, fun p hp z => ?_⟩
  · obtain ⟨v, q⟩ := I.cell x c e
    exact absurd (Nat.lt_of_lt_of_le q.lt (by rw [z]; exact hb)) (Nat.lt_irrefl _)
  · exact absurd (Nat.lt_of_lt_of_le (Heap.lt_size (I.pin p hp).1) (by rw [z]; exact hb)) (Nat.lt_irrefl _)
structure Turn (P : Program) (w : World) (K : PySem.W.Frag) (tg : Expr) (J : It) (fp : List Addr) (it : Addr) (tn : Nat → Heap → Prop) : Prop where
  mem : it ∈ fp
  obj : ∀ i h, tn i h → ∀ b ∈ fp, ∃ o, h.get? b = some o ∧ ∀ v, o.data ≠ .cell v
  keep : ∀ i h h', tn i h → (∀ b ∈ fp, ∀ o, h.get? b = some o → h'.get? b = some o) → tn i h'
  item : ∀ (X : Cx), X.prog = P → X.w = w → X.K = K → X.calm = true → ∀ (i : Nat) (pins : List (Addr × Obj)) (s : Shared) (σ : St) (H : Hp) (E : Value → Shared → Prop), Inv X pins σ H s → (∀ b ∈ fp, FpOk X pins H b) → tn i s.heap → J.go i H →
    wpAny (model P w) X.A (pyNext (.ref it)) (fun r s1 => ∃ u, r = some u ∧
      wpAny (model P w) X.A (letOwnedTupleGo tg (.ref it) u) (fun _ s2 => ∃ x H', Inv X pins σ H' s2 ∧ RelV x u ∧ J.yld i H x H' ∧ tn (i + 1) s2.heap ∧ ∀ b ∈ fp, H' b = none) E s1) E s
  done : ∀ (X : Cx), X.prog = P → X.w = w → X.K = K → X.calm = true → ∀ (i : Nat) (pins : List (Addr × Obj)) (s : Shared) (σ : St) (H : Hp) (E : Value → Shared → Prop), Inv X pins σ H s → (∀ b ∈ fp, FpOk X pins H b) → tn i s.heap → J.stop i H →
    wpAny (model P w) X.A (pyNext (.ref it)) (fun r s1 => r = none ∧ Inv X pins σ H s1) E s
  self : ∀ (A : Around) (i : Nat) (s : Shared) (Q : Value → Shared → Prop) (E : Value → Shared → Prop), tn i s.heap → Q (.ref it) s → wpAny (model P w) A (pyIter (.ref it)) Q E s
abbrev TI := St → Hp → (It → Hp → Prop) → Prop
/-- an iterator has come -/
def PIE (X : Cx) (pins : List (Addr × Obj)) (σ : St) (tg : Expr) (R : It → Hp → Prop) (itv : Value) (s2 : Shared) : Prop :=
  ∃ (it : Addr) (fp : List Addr) (tn : Nat → Heap → Prop) (J : It) (H' : Hp), itv = .ref it ∧ Inv X pins σ H' s2 ∧ Turn X.prog X.w X.K tg J fp it tn ∧ tn 0 s2.heap ∧ (∀ b ∈ fp, FpOk X pins H' b) ∧ R J H'
def PI (X : Cx) (tg iter : Expr) (wi : TI) : Prop :=
  ∀ (pins : List (Addr × Obj)) (s : Shared) (σ : St) (H : Hp) (R : It → Hp → Prop), Inv X pins σ H s → wi σ H R →
    wpAny (model X.prog X.w) X.A (eval iter X.env) (fun v s1 => wpAny (model X.prog X.w) X.A (pyIter v) (PIE X pins σ tg R) X.xe s1) X.xe s

/-- the step ahead of the store is nothing for an iterator that keeps no tuple -/
theorem go_of {M : Model} {A : Around} {E : Value → Shared → Prop} {s : Shared} {tg : Expr} {it : Addr} {u : Value} {o : Obj} {n : String} {vs : Array Value} {Q : Unit → Shared → Prop} (ho : s.heap.get? it = some o) (hc : o.cls = .type n) (hd : o.data = .fields vs)
    (hn : ["enumerate", "zip", "dict_itemiterator", "dict_reverseitemiterator", "odict_iterator", "itertools.zip_longest", "itertools.pairwise"].contains n = false) (hQ : Q () s) : wpAny M A (letOwnedTupleGo tg (.ref it) u) Q E s := by
  unfold letOwnedTupleGo
  cases tg <;> first
    | exact wpAny_pure hQ
    | (cases u <;> first
        | exact wpAny_pure hQ
        | (refine wpAny_bind (wpAny_load ho ?_)
           rw [hc, hd]
           show wpAny M A (if (["enumerate", "zip", "dict_itemiterator", "dict_reverseitemiterator", "odict_iterator", "itertools.zip_longest", "itertools.pairwise"].contains n && vs[0]? == some (rawInt _)) = true then _ else _) Q E s
           rw [if_neg (by intro h; rw [hn, Bool.false_and] at h; cases h)]
           exact wpAny_pure hQ))

/-- the list at a, as it stands at each turn (a loop may append to it) -/
def Itl (K : PySem.W.Frag) (a : Addr) : It :=
  ⟨fun i H => ∃ xs x, SqL K H a xs ∧ xs[i]? = some x, fun i H x H' => H' = H ∧ ∀ xs, SqL K H a xs → xs[i]? = some x, fun i H => ∃ xs, SqL K H a xs ∧ xs.length ≤ i⟩
def Itt (K : PySem.W.Frag) (a : Addr) : It :=
  ⟨fun i H => ∃ xs x, SqT K H a xs ∧ xs[i]? = some x, fun i H x H' => H' = H ∧ ∀ xs, SqT K H a xs → xs[i]? = some x, fun i H => ∃ xs, SqT K H a xs ∧ xs.length ≤ i⟩
/-- lo, lo + 1, .. (n of them) -/
def Itr (lo : Int) (n : Nat) : It := ⟨fun i _ => i < n, fun i H x H' => H' = H ∧ x = .int (lo + i), fun i _ => n ≤ i⟩
theorem turn_list {P : Program} {w : World} {K : PySem.W.Frag} {tg : Expr} (a it : Addr) : Turn P w K tg (Itl K a) [it] it (fun i h => h.IsListIter it a i) where
  mem := by simp
  obj := fun i h st b hb => by
    have e : b = it := by simpa using hb
    subst e
    obtain ⟨o, e, c, d⟩ := st
    exact ⟨o, e, fun v z => by rw [d] at z; cases z⟩
  keep := fun i h h' st k => st.at fun o e => k it (by simp) o e
  item := by
    intro X hP hw hK hc i pins s σ H E I hf st hg
    subst hP hw hK
    obtain ⟨xs, x, hq, hx⟩ := hg
    obtain ⟨its, rv, p, hz⟩ := I.list hq
    obtain ⟨u, hu, ru⟩ := rv.get hx
    obtain ⟨f0, f1, f2, f3, f4, f5⟩ := hf it (by simp)
    refine wpAny_pyNext_list_item st p.isList (x := u) (by simpa using hu) fun h' st' sb => ?_
    have I1 : Inv X pins σ H { s with heap := h' } := I.turned (t' := s.toks) (fun b o hb e => (sb.2 b hb).trans e) f0 f1 f3 f4 f5
    obtain ⟨o, e, c, d⟩ := id st'
    exact ⟨u, rfl, go_of (s := { s with heap := h' }) e c d (by decide) ⟨x, H, I1, ru, ⟨rfl, fun ys hy => by rw [I.list_inj hy hq]; exact hx⟩, st', fun b hb => (hf b hb).1⟩⟩
  done := by
    intro X hP hw hK hc i pins s σ H E I hf st hg
    subst hP hw hK
    obtain ⟨xs, hq, hx⟩ := hg
    obtain ⟨its, rv, p, hz⟩ := I.list hq
    obtain ⟨f0, f1, f2, f3, f4, f5⟩ := hf it (by simp)
    have hl := rv.length
    exact wpAny_pyNext_list_end (I.ok.hd hc) st p.isList (by simp; omega) fun h' eb => ⟨rfl, I.turned (t' := s.toks) (fun b o hb e => eb b o hb e) f0 f1 f3 f4 f5⟩
  self := fun _ _ _ _ _ st h => wpAny_pyIter_listiter st h
theorem turn_range {P : Program} {w : World} {K : PySem.W.Frag} {tg : Expr} (it : Addr) (lo : Int) (n : Nat) : Turn P w K tg (Itr lo n) [it] it (fun i h => IsRangeIter h it (lo + (i : Nat) * 1) ((n : Int) - (i : Nat)) 1) where
  mem := by simp
  obj := fun i h st b hb => by
    have e : b = it := by simpa using hb
    subst e
    exact ⟨_, st, fun v z => by
      have z' : Data.fields _ = Data.cell v := z
      cases z'⟩
  keep := fun i h h' st k => k it (by simp) _ st
  item := by
    intro X hP hw hK hc i pins s σ H E I hf st hg
    subst hP hw hK
    obtain ⟨f0, f1, f2, f3, f4, f5⟩ := hf it (by simp)
    have W := Walks.range (prog := X.prog) (w := X.w) (I.ok.hd hc) it lo 1 n
    refine W.item i s _ _ hg st fun v h' tk hv st' kk => ?_
    obtain ⟨t, rfl⟩ := hv
    have I1 : Inv X pins σ H { s with heap := h', toks := tk } := I.turned (fun b o hb e => kk b o (by simpa using hb) e) f0 f1 f3 f4 f5
    refine ⟨_, rfl, go_of (s := { s with heap := h', toks := tk }) (n := "range_iterator") st' rfl rfl (by decide) ⟨.int (lo + i), H, I1, ⟨t, ?_⟩, ⟨rfl, rfl⟩, st', fun b hb => (hf b hb).1⟩⟩
    rw [Int.mul_one]
  done := by
    intro X hP hw hK hc i pins s σ H E I hf st hg
    subst hP hw hK
    obtain ⟨f0, f1, f2, f3, f4, f5⟩ := hf it (by simp)
    exact wpAny_pyNext_range_end (I.ok.hd hc) st (by have : n ≤ i := hg; omega) fun h' eb => ⟨rfl, I.turned (t' := s.toks) (fun b o hb e => eb b o hb e) f0 f1 f3 f4 f5⟩
  self := fun _ _ _ _ _ st h => wpAny_pyIter_rangeiter st h
end L2

namespace L2
open PySem PySem.Spec PyProof.Rows
section
variable {X : Cx} {tg : Expr}
def iList (K : PySem.W.Frag) (tl : TE) : TI := fun σ H R => tl σ H fun x H1 => ∃ a, x = .ref a ∧ (∃ xs, SqL K H1 a xs) ∧ R (Itl K a) H1
def iTup (K : PySem.W.Frag) (tl : TE) : TI := fun σ H R => tl σ H fun x H1 => ∃ a, x = .ref a ∧ (∃ xs, SqT K H1 a xs) ∧ R (Itt K a) H1
theorem pi_list {l : Expr} {tl : TE} (hl : PE X l tl) : PI X tg l (iList X.K tl) := by
  intro pins s σ H R I h
  refine thn (hl pins s σ H _ I h) fun v s1 ⟨x, H1, I1, r1, q1⟩ => ?_
  obtain ⟨a, e, ⟨xs, hq⟩, q⟩ := q1
  subst e
  cases r1
  obtain ⟨its, rv, p, hz⟩ := I1.list hq
  refine wpAny_pyIter_list p.isList ?_
  refine ⟨s1.heap.objs.size, [s1.heap.objs.size], _, _, H1, rfl, I1.kept (t' := s1.toks) fun b o e => Heap.get?_push_of_some _ e, turn_list a _, ⟨_, Heap.get?_push_size _ rfl, rfl, rfl⟩, fun b hb => ?_, q⟩
  have e : b = s1.heap.objs.size := by simpa using hb
  subst e
  exact I1.fpOk (Nat.le_refl _) (I1.hok.fresh (Nat.le_refl _))
/-- a range object just made, walked -/
theorem range_it {pins : List (Addr × Obj)} {σ : St} {H : Hp} {s : Shared} {R : It → Hp → Prop} {E : Value → Shared → Prop} {lo hi : Int} {t u v : Tok} {tk : Nat} (I : Inv X pins σ H s) (h1 : -(2 ^ 62) ≤ lo) (h2 : lo < 2 ^ 62) (h3 : -(2 ^ 62) ≤ hi) (h4 : hi < 2 ^ 62)
    (q : R (Itr lo (hi - lo).toNat) H) : wpAny (model X.prog X.w) X.A (pyIter (.ref s.heap.objs.size)) (PIE X pins σ tg R) E { s with heap := s.heap.push { cls := .type "range", data := .fields #[.int lo t, .int hi u, .int 1 v] }, toks := tk } := by
  refine wpAny_pyIter_range (IsRange.new ..) (small_one h1 h2 h3 h4) ?_
  have I1 : Inv X pins σ H { s with heap := s.heap.push { cls := .type "range", data := .fields #[.int lo t, .int hi u, .int 1 v] }, toks := tk } := I.kept fun b o e => Heap.get?_push_of_some _ e
  refine ⟨(s.heap.push { cls := .type "range", data := .fields #[.int lo t, .int hi u, .int 1 v] }).objs.size, [(s.heap.push { cls := .type "range", data := .fields #[.int lo t, .int hi u, .int 1 v] }).objs.size], _, _, H, rfl,
    I1.kept (t' := tk) fun b o e => Heap.get?_push_of_some _ e, turn_range _ lo (hi - lo).toNat, ?_, fun b hb => ?_, q⟩
  · have e1 : lo + ((0 : Nat) : Int) * 1 = lo := by simp
    have e2 : (((hi - lo).toNat : Nat) : Int) - ((0 : Nat) : Int) = Builtin.Range.rangeSize lo hi 1 := by rw [rangeSize_one]; split <;> omega
    show IsRangeIter _ _ (lo + ((0 : Nat) : Int) * 1) ((((hi - lo).toNat : Nat) : Int) - ((0 : Nat) : Int)) 1
    rw [e1, e2]
    exact Heap.get?_push_size _ rfl
  · have e : b = (s.heap.push { cls := .type "range", data := .fields #[.int lo t, .int hi u, .int 1 v] }).objs.size := by simpa using hb
    subst e
    exact I1.fpOk (Nat.le_refl _) (I1.hok.fresh (Nat.le_refl _))
def iRng1 (ta : TA) : TI := fun σ H R => ta σ H fun vs H1 => ∃ j : Int, vs = [.int j] ∧ -(2 ^ 62) ≤ j ∧ j < 2 ^ 62 ∧ R (Itr 0 j.toNat) H1
def iRng2 (ta : TA) : TI := fun σ H R => ta σ H fun vs H1 => ∃ i j : Int, vs = [.int i, .int j] ∧ (-(2 ^ 62) ≤ i ∧ i < 2 ^ 62 ∧ -(2 ^ 62) ≤ j ∧ j < 2 ^ 62) ∧ R (Itr i (j - i).toNat) H1
theorem pi_range1 {a : Expr} {ta : TA} {p pos : Pos} (hg : Gl X "range") (hm : X.mg "range" = none) (ha : PA X [a] ta) (hs : starEach [a] X.env = [(false, eval a X.env)] := by rfl) : PI X tg (.Call (.Name "range" p) [a] [] pos) (iRng1 ta) := by
  intro pins s σ H R I h
  refine Call_ (ld_blt I hg hm boot_range (PyProof.Rows.callWith_type1 (thn (ha pos pins s σ H _ I h) fun us s1 ⟨vs, H1, I1, r1, q1⟩ => ?_) hs rfl))
  obtain ⟨j, e, q1, q2, q⟩ := q1
  subst e
  cases r1 with
  | cons r rr =>
    cases rr
    obtain ⟨t, rfl⟩ := r
    exact call_range_1 (range_it I1 (by omega) (by omega) q1 q2 (by simpa using q))
/-! ### for -/
/-- W: the invariant by the turn and a measure; N: what the body is to reach -/
def tFor (wi : TI) (g : TG) (tb : TS) : TS := fun D σ H => wi σ H fun J H1 => ∃ W : Nat → Nat → St → Hp → Prop, (∃ m, W 0 m σ H1) ∧ ∀ i m σ H, W i m σ H →
  (J.stop i H ∧ D.nx σ H) ∨ (J.go i H ∧ ∃ N : St → Hp → Prop, (∀ σ' H', N σ' H' → ∃ m', m' < m ∧ W (i + 1) m' σ' H') ∧ ∀ x H', J.yld i H x H' → g x σ H' fun σ2 H2 => tb { D with nx := N, ct := N, bk := D.nx } σ2 H2)
/-- the records at fp as they stand -/
def pinsAt (fp : List Addr) (h : Heap) : List (Addr × Obj) := fp.filterMap fun b => (h.get? b).map fun o => (b, o)
theorem mem_pinsAt {fp : List Addr} {h : Heap} {b : Addr} {o : Obj} (hb : b ∈ fp) (e : h.get? b = some o) : (b, o) ∈ pinsAt fp h := List.mem_filterMap.mpr ⟨b, hb, by rw [e]; rfl⟩
theorem of_pinsAt {fp : List Addr} {h : Heap} {p : Addr × Obj} (hp : p ∈ pinsAt fp h) : p.1 ∈ fp ∧ h.get? p.1 = some p.2 := by
  obtain ⟨b, hb, e⟩ := List.mem_filterMap.mp hp
  cases q : h.get? b with
  | none => rw [q] at e; cases e
  | some o =>
    rw [q] at e
    have e' : (b, o) = p := Option.some.inj e
    subst e'
    exact ⟨hb, q⟩
theorem Inv.pinned {pins : List (Addr × Obj)} {σ : St} {H : Hp} {s : Shared} {fp : List Addr} (I : Inv X pins σ H s) (hf : ∀ b ∈ fp, FpOk X pins H b) (ho : ∀ b ∈ fp, ∃ o, s.heap.get? b = some o ∧ ∀ v, o.data ≠ .cell v) : Inv X (pins ++ pinsAt fp s.heap) σ H s :=
  I.pins_of fun p hp => (List.mem_append.mp hp).elim (fun z => I.pin p (List.mem_append_right _ z)) fun z => by
    obtain ⟨hb, e⟩ := of_pinsAt z
    obtain ⟨f0, f1, f2, _⟩ := hf p.1 hb
    obtain ⟨o, e', d⟩ := ho p.1 hb
    rw [e] at e'; cases e'
    exact ⟨e, f0, f1, f2, d⟩
theorem Inv.unpinned {pins pl : List (Addr × Obj)} {σ : St} {H : Hp} {s : Shared} (I : Inv X (pins ++ pl) σ H s) : Inv X pins σ H s := I.pins_of fun p hp => I.pin p (List.mem_append_right _ (List.mem_append_left _ hp))
theorem ps_for {iter : Expr} {body : List Stmt} {wi : TI} {g : TG} {tb : TS} {pos : Pos} (hp : PassesOwn (model X.prog X.w) X.A X.env X.xe) (hc : X.calm = true) (hi : PI X tg iter wi) (hg : PG X tg g) (hb : PSs X body tb)
    (hs : ∀ x, foldedSetIterable iter X.env x = pure x := by intro _; rfl) : PS X (.For tg iter body [] pos) (tFor wi g tb) := by
  intro pins s σ H D I h
  refine wpAny_For (thn (hi pins s σ H _ I h) fun v s1 h1 => thn h1 fun itv s2 h2 => ?_) hs
  obtain ⟨it, fp, tn, J, H2, e, I2, T, st2, f2, W, ⟨m0, w0⟩, turn⟩ := h2
  subst e
  -- what stays true of the iterator's objects through the loop
  have stat : ∀ {H' : Hp}, (∀ b ∈ fp, H' b = none) → ∀ b ∈ fp, FpOk X pins H' b := fun hn b hb => ⟨hn b hb, (f2 b hb).2⟩
  refine codeAny_forLoop_any (fun n s' => ∃ i σ' H', Inv X pins σ' H' s' ∧ tn i s'.heap ∧ (∀ b ∈ fp, H' b = none) ∧ W i n σ' H') ?_ m0 ⟨0, σ, H2, I2, st2, fun b hb => (f2 b hb).1, w0⟩
  rintro n s3 ⟨i, σ3, H3, I3, st3, fr3, w3⟩
  rcases turn i n σ3 H3 w3 with ⟨stop, qn⟩ | ⟨go, N, hN, step⟩
  · refine wpAny_passesOwn hp (thn (T.done X rfl rfl rfl hc i pins s3 σ3 H3 X.xe I3 (stat fr3) st3 stop) fun r s4 ⟨hr, I4⟩ => ?_)
    subst hr
    exact wpAny_execs_nil ⟨σ3, H3, I4, qn⟩
  · refine wpAny_passesOwn hp (thn (T.item X rfl rfl rfl hc i pins s3 σ3 H3 X.xe I3 (stat fr3) st3 go) fun r s4 ⟨u, hr, h4⟩ => ?_)
    subst hr
    refine wpAny_passesOwn hp (thn h4 fun _ s5 ⟨x, H5, I5, r5, y5, st5, fr5⟩ => ?_)
    have I5' := I5.pinned (stat fr5) (T.obj _ _ st5)
    refine wpAny_passesOwn hp (thn (hg _ s5 σ3 H5 x u _ I5' r5 (step x H5 y5)) fun _ s6 ⟨σ6, H6, I6, q6⟩ => ?_)
    refine wpAny_passesOwn hp (thn (hb _ s6 σ6 H6 _ I6 q6) fun f s7 q7 => ?_)
    have again : ∀ {σ7 : St} {H7 : Hp}, Inv X (pins ++ pinsAt fp s5.heap) σ7 H7 s7 → N σ7 H7 → ∃ m, m < n ∧ ∃ i σ' H', Inv X pins σ' H' s7 ∧ tn i s7.heap ∧ (∀ b ∈ fp, H' b = none) ∧ W i m σ' H' := fun {σ7 H7} I7 n7 => by
      obtain ⟨m', hm, w7⟩ := hN σ7 H7 n7
      refine ⟨m', hm, i + 1, σ7, H7, I7.unpinned, T.keep _ _ _ st5 fun b hb o e => (I7.pin (b, o) (List.mem_append_right _ (List.mem_append_right _ (mem_pinsAt hb e)))).1, fun b hb => ?_, w7⟩
      obtain ⟨o, e, d⟩ := T.obj _ _ st5 b hb
      exact (I7.pin (b, o) (List.mem_append_right _ (List.mem_append_right _ (mem_pinsAt hb e)))).2.1
    cases f with
    | next => obtain ⟨σ7, H7, I7, n7⟩ := q7; exact again I7 n7
    | cont => obtain ⟨σ7, H7, I7, n7⟩ := q7; exact again I7 n7
    | brk => obtain ⟨σ7, H7, I7, q7⟩ := q7; exact ⟨σ7, H7, I7.unpinned, q7⟩
    | ret v => obtain ⟨x7, σ7, H7, I7, r7, q7⟩ := q7; exact ⟨x7, σ7, H7, I7.unpinned, r7, q7⟩
end

/-! ### the forms one uses -/
theorem for_range {lo : Int} {n : Nat} {g : TG} {tb : TS} {D : Ends} {σ : St} {H : Hp} (Pv : Nat → St → Hp → Prop) (h0 : Pv 0 σ H)
    (hs : ∀ i σ H, i < n → Pv i σ H → g (.int (lo + i)) σ H fun σ2 H2 => tb { D with nx := Pv (i + 1), ct := Pv (i + 1), bk := D.nx } σ2 H2) (hd : ∀ σ H, Pv n σ H → D.nx σ H) :
    ∃ W : Nat → Nat → St → Hp → Prop, (∃ m, W 0 m σ H) ∧ ∀ i m σ H, W i m σ H →
      ((Itr lo n).stop i H ∧ D.nx σ H) ∨ ((Itr lo n).go i H ∧ ∃ N : St → Hp → Prop, (∀ σ' H', N σ' H' → ∃ m', m' < m ∧ W (i + 1) m' σ' H') ∧ ∀ x H', (Itr lo n).yld i H x H' → g x σ H' fun σ2 H2 => tb { D with nx := N, ct := N, bk := D.nx } σ2 H2) := by
  refine ⟨fun i m σ H => m = n - i ∧ i ≤ n ∧ Pv i σ H, ⟨n, by simp, Nat.zero_le _, h0⟩, ?_⟩
  rintro i m σ H ⟨rfl, hi, p⟩
  by_cases hlt : i < n
  · refine .inr ⟨hlt, Pv (i + 1), fun σ' H' p' => ⟨n - (i + 1), by omega, rfl, hlt, p'⟩, fun x H' y => ?_⟩
    obtain ⟨e, y⟩ := y
    subst e y
    exact hs i σ _ hlt p
  · have e : i = n := by omega
    subst e
    exact .inl ⟨Nat.le_refl _, hd σ H p⟩
end L2

namespace L2
open PySem PySem.Spec PyProof.Rows

abbrev R2 := V → V → Hp → VK → Prop
/-- a two-place operation on values: f is binaryOp op, inplaceOp op or compareOp op -/
def OpR (X : Cx) (f : Value → Value → Sem Value) (r : R2) : Prop :=
  ∀ (pins : List (Addr × Obj)) (s : Shared) (σ : St) (H : Hp) (x y : V) (v u : Value) (Q : VK), Inv X pins σ H s → RelV x v → RelV y u → r x y H Q →
    wpAny (model X.prog X.w) X.A (f v u) (EP X pins σ Q) X.xe s
/-- a one-place operation -/
def UnR (X : Cx) (f : Value → Sem Value) (r : V → Hp → VK → Prop) : Prop :=
  ∀ (pins : List (Addr × Obj)) (s : Shared) (σ : St) (H : Hp) (x : V) (v : Value) (Q : VK), Inv X pins σ H s → RelV x v → r x H Q →
    wpAny (model X.prog X.w) X.A (f v) (EP X pins σ Q) X.xe s
/-- a call of a value that is known (a builtin, a type) with values -/
def CallR (X : Cx) (f : Value) (r : List V → Hp → VK → Prop) : Prop :=
  ∀ (pins : List (Addr × Obj)) (s : Shared) (σ : St) (H : Hp) (xs : List V) (us : List Value) (Q : VK), Inv X pins σ H s → Vals xs us → r xs H Q →
    wpAny (model X.prog X.w) X.A (call f us) (EP X pins σ Q) X.xe s
/-- a value's truth -/
def TruR (X : Cx) (r : V → Hp → (Bool → Hp → Prop) → Prop) : Prop :=
  ∀ (pins : List (Addr × Obj)) (s : Shared) (σ : St) (H : Hp) (x : V) (v : Value) (Q : Bool → Hp → Prop), Inv X pins σ H s → RelV x v → r x H Q →
    wpAny (model X.prog X.w) X.A (truthy v) (TP X pins σ Q) X.xe s

def tOp (r : R2) (ta tb : TE) : TE := fun σ H Q => ta σ H fun x H1 => tb σ H1 fun y H2 => r x y H2 Q
def tUn (r : V → Hp → VK → Prop) (ta : TE) : TE := fun σ H Q => ta σ H fun x H1 => r x H1 Q
/-- ints in, under C, and a value out -/
def rI (C : Int → Int → Prop) (g : Int → Int → V) : R2 := fun x y H Q => ∃ i j, x = .int i ∧ y = .int j ∧ C i j ∧ Q (g i j) H
def rI0 (g : Int → Int → V) : R2 := fun x y H Q => ∃ i j, x = .int i ∧ y = .int j ∧ Q (g i j) H
def rU (g : Int → V) : V → Hp → VK → Prop := fun x H Q => ∃ i, x = .int i ∧ Q (g i) H

section
variable {X : Cx} {a b c : Expr} {ta tb tc : TE} {pos : Pos}

theorem binT (ha : PE X a ta) (hb : PE X b tb) {pins : List (Addr × Obj)} {s : Shared} {σ : St} {H : Hp} {R : V → V → Hp → Prop} (I : Inv X pins σ H s)
    (h : ta σ H fun x H1 => tb σ H1 fun y H2 => R x y H2) {Q : Value → Shared → Prop} {f : Value → Value → Sem Value}
    (hf : ∀ v u s2 x y H2, Inv X pins σ H2 s2 → RelV x v → RelV y u → R x y H2 → wpAny (model X.prog X.w) X.A (f v u) Q X.xe s2) :
    wpAny (model X.prog X.w) X.A (eval a X.env) (fun v s₁ => wpAny (model X.prog X.w) X.A (eval b X.env) (fun u s₂ => wpAny (model X.prog X.w) X.A (f v u) Q X.xe s₂) X.xe s₁) X.xe s := by
  refine thn (ha pins s σ H _ I h) fun v s1 ⟨x, H1, I1, r1, q1⟩ => ?_
  refine thn (hb pins s1 σ H1 _ I1 q1) fun u s2 ⟨y, H2, I2, r2, q2⟩ => ?_
  exact hf v u s2 x y H2 I2 r1 r2 q2

theorem pe_op {op : Operator} {r : R2} (ho : OpR X (binaryOp op) r) (ha : PE X a ta) (hb : PE X b tb) : PE X (.BinOp a op b pos) (tOp r ta tb) := by
  intro pins s σ H Q I h
  exact wpAny_BinOp (binT ha hb I h fun v u s2 x y H2 I2 rx ry q => ho pins s2 σ H2 x y v u Q I2 rx ry q)
theorem pe_un {op : UnaryOp} {r : V → Hp → VK → Prop} (ho : UnR X (unaryOp op) r) (ha : PE X a ta) : PE X (.UnaryOp op a pos) (tUn r ta) := by
  intro pins s σ H Q I h
  exact UnaryOp_ (thn (ha pins s σ H _ I h) fun v s1 ⟨x, H1, I1, r1, q1⟩ => ho pins s1 σ H1 x v Q I1 r1 q1)
/-! ### ints -/
theorem opI {f : Value → Value → Sem Value} {C : Int → Int → Prop} {g : Int → Int → Int}
    (rule : ∀ (i j : Int) (t u : Tok) (s : Shared) (Q : Value → Shared → Prop) (E : Value → Shared → Prop), C i j → Q (.int (g i j) s.toks) { s with toks := s.toks + 1 } → wpAny (model X.prog X.w) X.A (f (.int i t) (.int j u)) Q E s) :
    OpR X f (rI C fun i j => .int (g i j)) := by
  intro pins s σ H x y v u Q I rx ry h
  obtain ⟨i, j, rfl, rfl, hc, q⟩ := h
  obtain ⟨t, rfl⟩ := rx
  obtain ⟨t', rfl⟩ := ry
  exact rule i j t t' s _ _ hc ⟨.int (g i j), H, I.tok _, ⟨_, rfl⟩, q⟩
theorem opI0 {f : Value → Value → Sem Value} {g : Int → Int → Int}
    (rule : ∀ (i j : Int) (t u : Tok) (s : Shared) (Q : Value → Shared → Prop) (E : Value → Shared → Prop), Q (.int (g i j) s.toks) { s with toks := s.toks + 1 } → wpAny (model X.prog X.w) X.A (f (.int i t) (.int j u)) Q E s) :
    OpR X f (rI0 fun i j => .int (g i j)) := by
  intro pins s σ H x y v u Q I rx ry h
  obtain ⟨i, j, rfl, rfl, q⟩ := h
  obtain ⟨t, rfl⟩ := rx
  obtain ⟨t', rfl⟩ := ry
  exact rule i j t t' s _ _ ⟨.int (g i j), H, I.tok _, ⟨_, rfl⟩, q⟩
theorem opB0 {f : Value → Value → Sem Value} {g : Int → Int → Bool}
    (rule : ∀ (i j : Int) (t u : Tok) (s : Shared) (Q : Value → Shared → Prop) (E : Value → Shared → Prop), Q (.bool (g i j)) s → wpAny (model X.prog X.w) X.A (f (.int i t) (.int j u)) Q E s) :
    OpR X f (rI0 fun i j => .bl (g i j)) := by
  intro pins s σ H x y v u Q I rx ry h
  obtain ⟨i, j, rfl, rfl, q⟩ := h
  obtain ⟨t, rfl⟩ := rx
  obtain ⟨t', rfl⟩ := ry
  exact rule i j t t' s _ _ ⟨.bl (g i j), H, I, rfl, q⟩

def CDiv (i j : Int) : Prop := 0 < j ∧ j < 1073741824
def CDivN (i j : Int) : Prop := j ≠ 0 ∧ j.natAbs < 1073741824
def CPow (i j : Int) : Prop := 0 ≤ j ∧ j ≤ 1000000 ∧ i.natAbs < 2 ^ 64
def CMul (i j : Int) : Prop := (-(2 ^ 64) < i ∧ i < 2 ^ 64) ∨ (-(2 ^ 64) < j ∧ j < 2 ^ 64)
theorem CMul.ok {i j : Int} (h : CMul i j) : IntMulOk i j := by
  rcases h with ⟨h1, h2⟩ | ⟨h1, h2⟩
  · exact .of_left (intBits_le_64 h1 h2)
  · exact .of_right (intBits_le_64 h1 h2)
theorem op_add : OpR X (binaryOp .Add) (rI0 fun i j => .int (i + j)) := opI0 fun _ _ _ _ _ _ _ q => add_int q
theorem op_mul : OpR X (binaryOp .Mult) (rI CMul fun i j => .int (i * j)) := opI fun _ _ _ _ _ _ _ hc q => mul_int q hc.ok
/-- // by a positive divisor -/
theorem op_fdiv : OpR X (binaryOp .FloorDiv) (rI CDiv fun i j => .int (i / j)) := opI fun i j _ _ _ _ _ hc q => by
  have h1 : (0 : Int) < j := hc.1
  have h2 : j < 1073741824 := hc.2
  exact floordiv_int (by omega) (by rw [Int.fdiv_eq_ediv_of_nonneg i (by omega)]; exact q) (.inl (PyProof.noPylong_small (by omega)))
/-- % by a positive divisor of any size -/
theorem op_mod : OpR X (binaryOp .Mod) (rI (fun _ j => 0 < j) fun i j => .int (i % j)) := opI fun i j _ _ _ _ _ hc q => by
  have h1 : (0 : Int) < j := hc
  exact mod_int' (by omega) (by rw [Int.fmod_eq_emod_of_nonneg i (by omega)]; exact q)
theorem op_pow : OpR X (binaryOp .Pow) (rI CPow fun i j => .int (i ^ j.toNat)) := opI fun _ _ _ _ _ _ _ hc q => pow_int_small hc.1 hc.2.1 hc.2.2 q
theorem unI {f : Value → Sem Value} {g : Int → Int}
    (rule : ∀ (i : Int) (t : Tok) (s : Shared) (Q : Value → Shared → Prop) (E : Value → Shared → Prop), Q (.int (g i) s.toks) { s with toks := s.toks + 1 } → wpAny (model X.prog X.w) X.A (f (.int i t)) Q E s) :
    UnR X f (rU fun i => .int (g i)) := by
  intro pins s σ H x v Q I rx h
  obtain ⟨i, rfl, q⟩ := h
  obtain ⟨t, rfl⟩ := rx
  exact rule i t s _ _ ⟨.int (g i), H, I.tok _, ⟨_, rfl⟩, q⟩
theorem un_neg : UnR X (unaryOp .USub) (rU fun i => .int (-i)) := unI fun _ _ _ _ _ q => neg_int q
/-! ### bools among ints: n += (a < b) -/
end

/-! ### comparisons -/
/-- the scalars that == tells apart as data does -/
def scal : V → V → Bool
  | .non, .non => true | .non, .int _ => true | .int _, .non => true | .non, .bl _ => true | .bl _, .non => true | .non, .str _ => true | .str _, .non => true
  | .int _, .int _ => true | .bl _, .bl _ => true | .str _, .str _ => true | .byt _, .byt _ => true
  | .int _, .str _ => true | .str _, .int _ => true | .bl _, .str _ => true | .str _, .bl _ => true
  | _, _ => false
def rEq : R2 := fun x y H Q => scal x y = true ∧ Q (.bl (decide (x = y))) H
def rNe : R2 := fun x y H Q => scal x y = true ∧ Q (.bl (!decide (x = y))) H

theorem dec_int {i j : Int} : decide (V.int i = V.int j) = (i == j) := by
  rw [Bool.eq_iff_iff]
  simp
theorem dec_bl {i j : Bool} : decide (V.bl i = V.bl j) = (i == j) := by
  rw [Bool.eq_iff_iff]
  simp
theorem dec_str {i j : Str} : decide (V.str i = V.str j) = (i == j) := by
  rw [Bool.eq_iff_iff]
  simp
theorem dec_byt {i j : Array UInt8} : decide (V.byt i = V.byt j) = (i.toList == j.toList) := by
  rw [Bool.eq_iff_iff]
  cases i
  cases j
  simp

section
variable {X : Cx} {a b c : Expr} {ta tb tc : TE} {pos : Pos}
theorem fin_bl {pins : List (Addr × Obj)} {σ : St} {H : Hp} {s : Shared} {Q : VK} {k k' : Bool} (I : Inv X pins σ H s) (q : Q (.bl k) H) (e : k = k') : EP X pins σ Q (.bool k') s := by
  subst e
  exact ⟨.bl k, H, I, rfl, q⟩
theorem op_eq : OpR X (compareOp .Eq) rEq := by
  intro pins s σ H x y v u Q I rx ry h
  obtain ⟨hs, q⟩ := h
  cases x with
  | non =>
    cases rx
    cases y with
    | non => cases ry; exact PySem.EqNone.eq_none_none (fin_bl I q (by simp))
    | bl j => cases ry; exact PySem.EqNone.eq_none_bool (fin_bl I q (by simp))
    | int j => obtain ⟨t', rfl⟩ := ry; exact PySem.EqNone.eq_none_int (fin_bl I q (by simp))
    | str j => obtain ⟨t', rfl⟩ := ry; exact PySem.EqNone.eq_none_str (fin_bl I q (by simp))
    | _ => exact absurd (show false = true from hs) Bool.false_ne_true
  | bl i =>
    cases rx
    cases y with
    | non => cases ry; exact PySem.EqNone.eq_bool_none (fin_bl I q (by simp))
    | bl j => cases ry; exact eq_bool (fin_bl I q dec_bl)
    | str j => obtain ⟨t', rfl⟩ := ry; exact PySem.EqMixed.eq_bool_str (fin_bl I q (by simp))
    | _ => exact absurd (show false = true from hs) Bool.false_ne_true
  | int i =>
    obtain ⟨t, rfl⟩ := rx
    cases y with
    | non => cases ry; exact PySem.EqNone.eq_int_none (fin_bl I q (by simp))
    | int j => obtain ⟨t', rfl⟩ := ry; exact eq_int (fin_bl I q dec_int)
    | str j => obtain ⟨t', rfl⟩ := ry; exact PySem.EqMixed.eq_int_str (fin_bl I q (by simp))
    | _ => exact absurd (show false = true from hs) Bool.false_ne_true
  | str i =>
    obtain ⟨t, rfl⟩ := rx
    cases y with
    | non => cases ry; exact PySem.EqNone.eq_str_none (fin_bl I q (by simp))
    | bl j => cases ry; exact PySem.EqMixed.eq_str_bool (fin_bl I q (by simp))
    | int j => obtain ⟨t', rfl⟩ := ry; exact PySem.EqMixed.eq_str_int (fin_bl I q (by simp))
    | str j => obtain ⟨t', rfl⟩ := ry; exact eq_str (fin_bl I q dec_str)
    | _ => exact absurd (show false = true from hs) Bool.false_ne_true
  | byt i =>
    obtain ⟨t, rfl⟩ := rx
    cases y with
    | byt j => obtain ⟨t', rfl⟩ := ry; exact PySem.W.eq_bytes (fin_bl I q dec_byt)
    | _ => exact absurd (show false = true from hs) Bool.false_ne_true
  | _ => cases y <;> exact absurd (show false = true from hs) Bool.false_ne_true
theorem op_ne : OpR X (compareOp .NotEq) rNe := by
  intro pins s σ H x y v u Q I rx ry h
  obtain ⟨hs, q⟩ := h
  cases x with
  | non =>
    cases rx
    cases y with
    | non => cases ry; exact PySem.EqNone.ne_none_none (fin_bl I q (by simp))
    | bl j => cases ry; exact PySem.EqNone.ne_none_bool (fin_bl I q (by simp))
    | int j => obtain ⟨t', rfl⟩ := ry; exact PySem.EqNone.ne_none_int (fin_bl I q (by simp))
    | str j => obtain ⟨t', rfl⟩ := ry; exact PySem.EqNone.ne_none_str (fin_bl I q (by simp))
    | _ => exact absurd (show false = true from hs) Bool.false_ne_true
  | bl i =>
    cases rx
    cases y with
    | non => cases ry; exact PySem.EqNone.ne_bool_none (fin_bl I q (by simp))
    | bl j => cases ry; exact ne_bool (fin_bl I q (congrArg not dec_bl))
    | str j => obtain ⟨t', rfl⟩ := ry; exact PySem.EqMixed.ne_bool_str (fin_bl I q (by simp))
    | _ => exact absurd (show false = true from hs) Bool.false_ne_true
  | int i =>
    obtain ⟨t, rfl⟩ := rx
    cases y with
    | non => cases ry; exact PySem.EqNone.ne_int_none (fin_bl I q (by simp))
    | int j => obtain ⟨t', rfl⟩ := ry; exact ne_int (fin_bl I q (congrArg not dec_int))
    | str j => obtain ⟨t', rfl⟩ := ry; exact PySem.EqMixed.ne_int_str (fin_bl I q (by simp))
    | _ => exact absurd (show false = true from hs) Bool.false_ne_true
  | str i =>
    obtain ⟨t, rfl⟩ := rx
    cases y with
    | non => cases ry; exact PySem.EqNone.ne_str_none (fin_bl I q (by simp))
    | bl j => cases ry; exact PySem.EqMixed.ne_str_bool (fin_bl I q (by simp))
    | int j => obtain ⟨t', rfl⟩ := ry; exact PySem.EqMixed.ne_str_int (fin_bl I q (by simp))
    | str j => obtain ⟨t', rfl⟩ := ry; exact ne_str (fin_bl I q (congrArg not dec_str))
    | _ => exact absurd (show false = true from hs) Bool.false_ne_true
  | byt i =>
    obtain ⟨t, rfl⟩ := rx
    cases y with
    | byt j => obtain ⟨t', rfl⟩ := ry; exact PySem.W.ne_bytes (fin_bl I q (congrArg not dec_byt))
    | _ => exact absurd (show false = true from hs) Bool.false_ne_true
  | _ => cases y <;> exact absurd (show false = true from hs) Bool.false_ne_true

theorem op_lt : OpR X (compareOp .Lt) (rI0 fun i j => .bl (decide (i < j))) := opB0 fun _ _ _ _ _ _ _ q => lt_int q
theorem op_le : OpR X (compareOp .LtE) (rI0 fun i j => .bl (decide (i ≤ j))) := opB0 fun _ _ _ _ _ _ _ q => le_int q
theorem op_gt : OpR X (compareOp .Gt) (rI0 fun i j => .bl (decide (j < i))) := opB0 fun _ _ _ _ _ _ _ q => gt_int q
/-- is, is not of two objects that are tracked lists or instances -/
def isObj : HO → Bool
  | .lst _ => true
  | .ins _ _ _ => true
  | _ => false
/-- two rules for one operation: by cases -/
theorem OpR.or {f : Value → Value → Sem Value} {r r' : R2} (h : OpR X f r) (h' : OpR X f r') : OpR X f (fun x y H Q => r x y H Q ∨ r' x y H Q) := by
  intro pins s σ H x y v u Q I rx ry q
  rcases q with q | q
  · exact h pins s σ H x y v u Q I rx ry q
  · exact h' pins s σ H x y v u Q I rx ry q

theorem nomark (b : Expr) {op : CmpOp} (h : op ≠ .In := by decide) (h2 : op ≠ .NotIn := by decide) : behindInMarks op b = false := by
  have e1 : (op == CmpOp.In) = false := by cases op <;> first | rfl | exact absurd rfl h
  have e2 : (op == CmpOp.NotIn) = false := by cases op <;> first | rfl | exact absurd rfl h2
  cases b <;> simp [behindInMarks, e1, e2]
/-- a comparison as a value; hm: nomark b, or (for in, not in) by with_unfolding_all rfl -/
theorem pe_cmpR {op : CmpOp} {r : R2} (ho : OpR X (compareOp op) r) (ha : PE X a ta) (hb : PE X b tb) (hm : behindInMarks op b = false) : PE X (.Compare a [op] [b] pos) (tOp r ta tb) := by
  intro pins s σ H Q I h
  exact wpAny_Compare1 (binT ha hb I h fun v u s2 x y H2 I2 rx ry q => ho pins s2 σ H2 x y v u Q I2 rx ry q) hm
/-- a reading of a value as a test -/
def tTest (t : TE) : TT := fun σ H Q => t σ H fun x H' => ∃ k, x = .bl k ∧ Q k H'
theorem pt_cmpR {op : CmpOp} {r : R2} (ho : OpR X (compareOp op) r) (ha : PE X a ta) (hb : PE X b tb) (hm : behindInMarks op b = false) : PT X (.Compare a [op] [b] pos) (tTest (tOp r ta tb)) := by
  intro pins s σ H Q I h
  refine wpAny_isTrue_Compare1 (thn (ha pins s σ H _ I h) fun v s1 ⟨x, H1, I1, r1, q1⟩ => thn (hb pins s1 σ H1 _ I1 q1) fun u s2 ⟨y, H2, I2, r2, q2⟩ =>
    thn (ho pins s2 σ H2 x y v u _ I2 r1 r2 q2) fun c s3 ⟨z, H3, I3, r3, k, e, q3⟩ => ?_) hm
  subst e
  cases r3
  exact wpAny_truthy_bool ⟨H3, I3, q3⟩
/-- a op1 b op2 c -/
def tChain (r r' : R2) (ta tb tc : TE) : TE := fun σ H Q => ta σ H fun x H1 => tb σ H1 fun y H2 => r x y H2 fun z H3 => ∃ k, z = .bl k ∧
  (if k = true then tc σ H3 fun w' H4 => r' y w' H4 Q else Q (.bl false) H3)
theorem pe_chain {op op' : CmpOp} {r r' : R2} (ho : OpR X (compareOp op) r) (ho' : OpR X (compareOp op') r') (ha : PE X a ta) (hb : PE X b tb) (hc : PE X c tc)
    (hm : lastMarks [op, op'] [b, c] = false := by with_unfolding_all rfl) : PE X (.Compare a [op, op'] [b, c] pos) (tChain r r' ta tb tc) := by
  intro pins s σ H Q I h
  refine Compare_chain (thn (ha pins s σ H _ I h) fun v s1 ⟨x, H1, I1, r1, q1⟩ => chain_link (thn (hb pins s1 σ H1 _ I1 q1) fun u s2 ⟨y, H2, I2, r2, q2⟩ =>
    thn (ho pins s2 σ H2 x y v u _ I2 r1 r2 q2) fun d s3 ⟨z, H3, I3, r3, k, e, q3⟩ => ?_)) hm
  subst e
  cases r3
  refine wpAny_truthy_bool ?_
  cases k with
  | false => exact ite_ff ⟨.bl false, H3, I3, rfl, q3⟩
  | true => exact ite_tt (chain_last (thn (hc pins s3 σ H3 _ I3 q3) fun w' s4 ⟨z', H4, I4, r4, q4⟩ => ho' pins s4 σ H4 y z' u w' Q I4 r2 r4 q4))
theorem pt_chain {op op' : CmpOp} {r r' : R2} (ho : OpR X (compareOp op) r) (ho' : OpR X (compareOp op') r') (ha : PE X a ta) (hb : PE X b tb) (hc : PE X c tc)
    (hm : lastMarks [op, op'] [b, c] = false := by with_unfolding_all rfl) : PT X (.Compare a [op, op'] [b, c] pos) (tTest (tChain r r' ta tb tc)) := by
  intro pins s σ H Q I h
  refine isTrue_chain (thn (ha pins s σ H _ I h) fun v s1 ⟨x, H1, I1, r1, q1⟩ => test_link (thn (hb pins s1 σ H1 _ I1 q1) fun u s2 ⟨y, H2, I2, r2, q2⟩ =>
    thn (ho pins s2 σ H2 x y v u _ I2 r1 r2 q2) fun d s3 ⟨z, H3, I3, r3, k, e, q3⟩ => ?_)) hm
  subst e
  cases r3
  refine wpAny_truthy_bool ?_
  cases k with
  | false =>
    obtain ⟨k', e', q'⟩ := q3
    cases e'
    exact ite_ff ⟨H3, I3, q'⟩
  | true =>
    refine ite_tt (test_last (thn (hc pins s3 σ H3 _ I3 q3) fun w' s4 ⟨z', H4, I4, r4, q4⟩ => thn (ho' pins s4 σ H4 y z' u w' _ I4 r2 r4 q4) fun d' s5 ⟨z2, H5, I5, r5, k2, e2, q5⟩ => ?_))
    subst e2
    cases r5
    exact wpAny_truthy_bool ⟨H5, I5, q5⟩

/-! ### truth -/
/-- a value's truth by the abstract heap -/
def TruV (K : PySem.W.Frag) (x : V) (H : Hp) (k : Bool) : Prop :=
  match x with
  | .non => k = false
  | .bl b => k = b
  | .int i => k = (i != 0)
  | .str y => y.length ≤ sizeLine ∧ k = ((y.length : Int) != 0)
  | .byt y => y.size ≤ sizeLine ∧ k = ((y.size : Int) != 0)
  | .ref p => (∃ xs, SqL K H p xs ∧ k = !xs.isEmpty) ∨ (∃ xs, SqT K H p xs ∧ k = !xs.isEmpty) ∨ ∃ kvs, H p = some (.dK kvs) ∧ k = !kvs.isEmpty
  | _ => False
theorem line63 : (sizeLine : Nat) < 2 ^ 63 := by rw [sizeLine_eq]; decide
/-! ### strs and bytes -/
theorem op_add_str : OpR X (binaryOp .Add) (fun x y H Q => ∃ i j, x = .str i ∧ y = .str j ∧ i.length + j.length ≤ sizeLine ∧ Q (.str (i ++ j)) H) := by
  intro pins s σ H x y v u Q I rx ry h
  obtain ⟨i, j, rfl, rfl, hz, q⟩ := h
  obtain ⟨t, rfl⟩ := rx
  obtain ⟨t', rfl⟩ := ry
  exact add_str (fun t' tk => ⟨.str (i ++ j), H, I.tok _, ⟨_, rfl⟩, q⟩) hz
def PlainIxT (b : Expr) : Prop := ∀ o i, subscripted b false o i = operate [o, i] (getItem o i)
/-! ### scalar builtins, by CallR -/
theorem vals1 {x : V} {us : List Value} (r : Vals [x] us) : ∃ u, us = [u] ∧ RelV x u := by
  cases r with
  | cons r1 r2 => cases r2; exact ⟨_, rfl, r1⟩
theorem vals2 {x y : V} {us : List Value} (r : Vals [x, y] us) : ∃ u w', us = [u, w'] ∧ RelV x u ∧ RelV y w' := by
  cases r with
  | cons r1 r2 =>
    cases r2 with
    | cons r3 r4 => cases r4; exact ⟨_, _, rfl, r1, r3⟩
theorem call_min2 (hc : X.calm = true) : CallR X (.builtin "min") (fun xs H Q => ∃ i j, xs = [.int i, .int j] ∧ Q (.int (if j < i then j else i)) H) := by
  intro pins s σ H xs us Q I r h
  obtain ⟨i, j, rfl, q⟩ := h
  obtain ⟨u, w', rfl, ⟨t, rfl⟩, ⟨t', rfl⟩⟩ := vals2 r
  refine min_two_ints (I.ok.hd hc) fun h' tk k => ⟨_, H, I.kept k, ?_, q⟩
  by_cases hj : j < i
  · rw [if_pos hj, if_pos hj]; exact ⟨_, rfl⟩
  · rw [if_neg hj, if_neg hj]; exact ⟨_, rfl⟩
theorem call_int1 : CallR X (.type "int") (fun xs H Q => (∃ i, xs = [.int i] ∧ Q (.int i) H) ∨ ∃ k, xs = [.bl k] ∧ Q (.int (if k then 1 else 0)) H) := by
  intro pins s σ H xs us Q I r h
  rcases h with ⟨i, rfl, q⟩ | ⟨k, rfl, q⟩
  · obtain ⟨u, rfl, t, rfl⟩ := vals1 r
    exact call_int_int ⟨.int i, H, I, ⟨_, rfl⟩, q⟩
  · obtain ⟨u, rfl, r1⟩ := vals1 r
    cases r1
    exact call_int_bool ⟨.int (if k then 1 else 0), H, I.tok _, ⟨_, rfl⟩, q⟩
/-- len of a str, a bytes, a list, a tuple -/
def LenV (K : PySem.W.Frag) (x : V) (H : Hp) (n : Nat) : Prop :=
  match x with
  | .str y => y.length ≤ sizeLine ∧ n = y.length
  | .byt y => y.size ≤ sizeLine ∧ n = y.size
  | .ref p => (∃ xs, SqL K H p xs ∧ n = xs.length) ∨ ∃ xs, SqT K H p xs ∧ n = xs.length
  | _ => False
end
end L2

namespace L2
open PySem PySem.Spec PyProof.Rows

/-! ### an instance, its attributes a map -/
structure ObjM (h : Heap) (x dx C : Addr) (mA : Str → Option Value) : Prop where
  obj : h.get? x = some (PySem.W.instObj C dx)
  ns : h.Ns1 dx mA
  ne : dx ≠ x

theorem lookIn_ns {h : Heap} {dx : Addr} {mA : Str → Option Value} (n : h.Ns1 dx mA) : ∃ od, h.get? dx = some od ∧ ∀ name, PySem.W.lookIn name od = some (mA name) := by
  obtain ⟨o, es, ep, ho, hd, hk, _, hm⟩ := n
  refine ⟨o, ho, fun name => ?_⟩
  have e := hm name
  unfold nsFind findBy at e
  rw [← Array.find?_toList] at e
  unfold PySem.W.lookIn
  rw [hd]
  dsimp only
  split
  · rename_i y q
    rw [q] at e
    exact congrArg some e
  · rename_i q
    rw [q] at e
    have a : es.toList.any (·.refKey) = false := by
      rw [List.any_eq_false]
      intro y hy
      obtain ⟨z, t, hkey⟩ := hk y (Array.mem_toList_iff.mp hy)
      simp [DictEntry.refKey, hkey]
    have a' : ¬ es.toList.any (·.refKey) = true := by rw [a]; exact Bool.false_ne_true
    rw [if_neg a']
    exact congrArg some e

theorem ObjM.look {h : Heap} {x dx C : Addr} {mA : Str → Option Value} (I : ObjM h x dx C mA) : ∃ od, PySem.W.InstAt h x (PySem.W.instObj C dx) C (some od) ∧ ∀ name, PySem.W.lookIn name od = some (mA name) :=
  let ⟨od, ho, hl⟩ := lookIn_ns I.ns
  ⟨od, ⟨I.obj, rfl, rfl, ho⟩, hl⟩

section
variable {prog : Program} {w : World} {A : Around} {E : Value → Shared → Prop} {s : Shared} {K : PySem.W.Frag} {x dx C f : Addr} {mA : Str → Option Value} {name : Str} {v : Value}

end

/-! ### the attributes as a list of pairs -/
def putF (f : Str) (v : V) : List (Str × V) → List (Str × V)
  | [] => [(f, v)]
  | (g, x) :: r => if g = f then (g, v) :: r else (g, x) :: putF f v r
section
variable {P : Program} {w : World} {H H' : Hp} {h h' : Heap} {a C dx : Addr} {fs fs' : List (Str × V)}
theorem ins_get (hok : HOk P w H h) (e : H a = some (.ins C dx fs)) : ∃ mA, ObjM h a dx C mA ∧ (∀ f, RelO (fs.lookup f) (mA f)) ∧ PySem.Within mA (fs.map (·.1)) ∧ fs.length ≤ 1000 ∧ H dx = some (.own a) := by
  obtain ⟨d, z, ne, ob, mA, n, r, q⟩ := (show ObjOk P w H h a (.ins C dx fs) from hok a _ e)
  exact ⟨mA, ⟨ob, n, ne⟩, r, q, z, d⟩
end

/-! ### what of the text a class must have -/
structure Cls (K : PySem.W.Frag) (C : Addr) : Prop where
  pg : PySem.W.plainGet K C Str.empty = true
  hd : PySem.W.hasDictIn K C = true
  po : PySem.W.plainOver K C = true
  sa : PySem.W.findIn K (.ref C) "__setattr__" = some (some (.builtin "object.__setattr__"))
theorem Cls.get {K : PySem.W.Frag} {C : Addr} (c : Cls K C) (f : Str) : PySem.W.plainGet K C f = true := c.pg
/-- no class of it has the name -/
def NoAttr (K : PySem.W.Frag) (C : Addr) (f : Str) : Prop := PySem.W.findIn K (.ref C) f = some none
/-- a constant of the class -/
structure Con (K : PySem.W.Frag) (C : Addr) (f : Str) (v : V) (u : Value) : Prop where
  at_ : PySem.W.findIn K (.ref C) f = some (some u)
  rel : RelV v u
  get : PySem.W.specialIn K u "__get__" = some none
  cp : PySem.W.copiedNames.contains f = false
/-- a method: a plain def of the class or of one above it -/
structure Meth (K : PySem.W.Frag) (C : Addr) (m : Str) (f : Addr) : Prop where
  at_ : PySem.W.findIn K (.ref C) m = some (some (.ref f))
  fn : PySem.W.isFn K (.ref f) = true
  kp : PySem.W.keepIn K (.ref f) = true

section
variable {X : Cx} {pins : List (Addr × Obj)} {σ : St} {H : Hp} {s : Shared} {a C dx : Addr} {fs : List (Str × V)} {f : Str} {v : V} {A : Around} {E : Value → Shared → Prop}

/-- a new instance, tracked, without attributes -/
theorem Inv.made (I : Inv X pins σ H s) : Inv X pins σ (upd (upd H s.heap.objs.size (.own (s.heap.objs.size + 1))) (s.heap.objs.size + 1) (.ins C s.heap.objs.size []))
    { s with heap := (s.heap.push PySem.W.emptyDict).push (PySem.W.instObj C s.heap.objs.size) } := by
  have e1 : (s.heap.push PySem.W.emptyDict).get? s.heap.objs.size = some PySem.W.emptyDict := Heap.get?_push_size s.heap rfl
  have e2 : ((s.heap.push PySem.W.emptyDict).push (PySem.W.instObj C s.heap.objs.size)).get? (s.heap.objs.size + 1) = some (PySem.W.instObj C s.heap.objs.size) := by
    have := Heap.get?_push_size (s.heap.push PySem.W.emptyDict) (o := PySem.W.instObj C s.heap.objs.size) rfl
    rwa [Heap.size_push] at this
  have e3 : (s.heap.push PySem.W.emptyDict).Ns s.heap.objs.size (fun _ => none) := ⟨PySem.W.emptyDict, #[], _, e1, rfl, (fun e he => absurd he (by simp)), fun _ => rfl⟩
  have I1 := I.laid (a := s.heap.objs.size) (o := .own (s.heap.objs.size + 1)) (h' := s.heap.push PySem.W.emptyDict) (t' := s.toks) (fun b u q => Heap.get?_push_of_some _ q) (Nat.le_refl _) ⟨_, e1⟩
  refine I1.laid (a := s.heap.objs.size + 1) (o := .ins C s.heap.objs.size []) (t' := s.toks) (fun b u q => Heap.get?_push_of_some _ q) (Nat.le_of_eq (Heap.size_push _ _)) ?_
  have ne : s.heap.objs.size ≠ s.heap.objs.size + 1 := Nat.ne_of_lt (Nat.lt_succ_self _)
  refine ⟨by rw [upd_ne ne, upd_same], Nat.zero_le _, ne, e2, fun _ => none, (Heap.Ns1.of_empty e3).at fun o q => Heap.get?_push_of_some _ q, fun _ => True.intro, fun y hy => absurd rfl hy⟩

end

/-! ### readings and rules -/
/-- e.f, an attribute of the instance -/
def tFld (K : PySem.W.Frag) (ta : TE) (f : Str) : TE := fun σ H Q => ta σ H fun x H1 => ∃ a C dx fs v, x = .ref a ∧ H1 a = some (.ins C dx fs) ∧ Cls K C ∧ NoAttr K C f ∧ fs.lookup f = some v ∧ Q v H1
/-- e.f, a constant of the class -/
def tCon (K : PySem.W.Frag) (ta : TE) (f : Str) : TE := fun σ H Q => ta σ H fun x H1 => ∃ a C dx fs v u, x = .ref a ∧ H1 a = some (.ins C dx fs) ∧ Cls K C ∧ Con K C f v u ∧ fs.lookup f = none ∧ Q v H1
/-- e.f = value -/
def sFld (K : PySem.W.Frag) (ta tv : TE) (f : Str) : TS := fun D σ H => tv σ H fun y H1 => ta σ H1 fun x H2 => ∃ a C dx fs, x = .ref a ∧ H2 a = some (.ins C dx fs) ∧ Cls K C ∧ NoAttr K C f ∧ fs.length < 1000 ∧
  D.nx σ (upd H2 a (.ins C dx (putF f y fs)))
/-- an augmented operator on two values -/
def InOp (X : Cx) (op : Operator) (rd : V → V → Hp → VK → Prop) : Prop :=
  ∀ (pins : List (Addr × Obj)) (s : Shared) (σ : St) (H : Hp) (x y : V) (u v : Value) (Q : VK), Inv X pins σ H s → RelV x u → RelV y v → rd x y H Q → wpAny (model X.prog X.w) X.A (inplaceOp op u v) (EP X pins σ Q) X.xe s
/-- e.f op= value -/
def sFldAug (K : PySem.W.Frag) (ta tv : TE) (rd : V → V → Hp → VK → Prop) (f : Str) : TS := fun D σ H => ta σ H fun x H1 => ∃ a C dx fs v, x = .ref a ∧ H1 a = some (.ins C dx fs) ∧ Cls K C ∧ NoAttr K C f ∧ fs.lookup f = some v ∧
  tv σ H1 fun y H2 => rd v y H2 fun z H3 => ∃ dx' fs', H3 a = some (.ins C dx' fs') ∧ fs'.length < 1000 ∧ D.nx σ (upd H3 a (.ins C dx' (putF f z fs')))

section
variable {X : Cx} {o e value : Expr} {f : Str} {pos pos' tpos : Pos} {ta tv : TE}
def rAdd : V → V → Hp → VK → Prop := fun x y H Q => ∃ i j, x = .int i ∧ y = .int j ∧ Q (.int (i + j)) H
def rSub : V → V → Hp → VK → Prop := fun x y H Q => ∃ i j, x = .int i ∧ y = .int j ∧ Q (.int (i - j)) H
end

/-! ### isinstance -/
section
variable {X : Cx} {pins : List (Addr × Obj)} {σ : St} {H : Hp} {s : Shared} {A : Around} {E : Value → Shared → Prop} {Q : Value → Shared → Prop} {c : Value} {b : Bool}
/-- the type of a value, as the fragment's deciders take it; for an instance its class -/
inductive TyOf (K : PySem.W.Frag) (H : Hp) : V → Value → Prop where
  | non : TyOf K H .non (.type "NoneType")
  | bl (x : Bool) : TyOf K H (.bl x) (.type "bool")
  | int (i : Int) : TyOf K H (.int i) (.type "int")
  | str (x : Str) : TyOf K H (.str x) (.type "str")
  | flt (x : UInt64) : TyOf K H (.flt x) (.type "float")
  | lst {a : Addr} {xs : List V} (e : H a = some (.lst xs)) : TyOf K H (.ref a) (.type "list")
  | frz {a : Addr} {o : Obj} {xs : List V} (e : H a = some (.frz o (.lst xs))) : TyOf K H (.ref a) (.type "list")
  | tup {a : Addr} {xs : List V} (e : H a = some (.tup xs)) : TyOf K H (.ref a) (.type "tuple")
  | dK {a : Addr} {kvs : List (Key × V)} (e : H a = some (.dK kvs)) : TyOf K H (.ref a) (.type "dict")
  | dT {a : Addr} {kvs : List (List Key × V)} (e : H a = some (.dT kvs)) : TyOf K H (.ref a) (.type "dict")
  | ins {a C dx : Addr} {fs : List (Str × V)} (e : H a = some (.ins C dx fs)) (cl : Cls K C) (ha : PySem.W.findIn K (.ref C) "__class__" = some (some (.builtin "object.__class__")))
      (hn : PySem.W.specialIn K (.builtin "object.__class__") "__get__" = some (some (.builtin "getset_descriptor.__get__"))) (htk : PySem.W.takesIn K (.builtin "object.__class__") = some true)
      (hm : PySem.W.mroIn K C (.type "object") = some true) : TyOf K H (.ref a) (.ref C)
/-- isinstance(x, c) for one class c, a built-in or an own one: kitOne's answer -/
theorem isinst_ok {x : V} {u t : Value} (I : Inv X pins σ H s) (rx : RelV x u) (ty : TyOf X.K H x t) (e : PySem.W.kitOne X.K t c = some b) (h : ∀ tk, Q (.bool b) { s with toks := tk }) :
    wpAny (model X.prog X.w) A (call (.builtin "isinstance") [u, c]) Q E s := by
  cases ty with
  | non => cases (show u = Value.none from rx); exact PySem.W.kia_one PySem.W.kitx_none I.kIn True.intro e (fun z => nomatch z) h
  | bl y => cases (show u = Value.bool y from rx); exact PySem.W.kia_one PySem.W.kitx_bool I.kIn True.intro e (fun z => nomatch z) h
  | int i => obtain ⟨t, q⟩ := (show ∃ t, u = Value.int i t from rx); cases q; exact PySem.W.kia_one PySem.W.kitx_int I.kIn True.intro e (fun z => nomatch z) h
  | str y => obtain ⟨t, q⟩ := (show ∃ t, u = Value.str y t from rx); cases q; exact PySem.W.kia_one PySem.W.kitx_str I.kIn True.intro e (fun z => nomatch z) h
  | flt y => obtain ⟨t, q⟩ := (show ∃ t, u = Value.float y t from rx); cases q; exact PySem.W.kia_one PySem.W.kitx_float I.kIn True.intro e (fun z => nomatch z) h
  | @lst a xs ea =>
    cases (show u = Value.ref a from rx)
    obtain ⟨_, _, n, _, h1⟩ := (show ObjOk X.prog X.w H s.heap a (.lst xs) from I.hok a _ ea)
    exact PySem.W.kia_one PySem.W.kitx_list I.kIn ⟨_, h1, rfl⟩ e (fun z => nomatch z) h
  | @frz a ob xs ea =>
    cases (show u = Value.ref a from rx)
    obtain ⟨_, _, _, n, _, h1⟩ := (show ObjOk X.prog X.w H s.heap a (.frz ob (.lst xs)) from I.hok a _ ea)
    exact PySem.W.kia_one PySem.W.kitx_list I.kIn ⟨_, h1, rfl⟩ e (fun z => nomatch z) h
  | @tup a xs ea =>
    cases (show u = Value.ref a from rx)
    obtain ⟨_, _, _, p⟩ := (show ObjOk X.prog X.w H s.heap a (.tup xs) from I.hok a _ ea)
    obtain ⟨o, h1, h2, _⟩ := p
    exact PySem.W.kia_one PySem.W.kitx_tuple I.kIn ⟨o, h1, h2⟩ e (fun z => nomatch z) h
  | @dK a kvs ea =>
    cases (show u = Value.ref a from rx)
    obtain ⟨_, _, vs, _, p⟩ := (show ObjOk X.prog X.w H s.heap a (.dK kvs) from I.hok a _ ea)
    obtain ⟨o, es, ep, h1, h2, _⟩ := p
    exact PySem.W.kia_one PySem.W.kitx_dict I.kIn ⟨o, h1, h2.1⟩ e (fun z => nomatch z) h
  | @dT a kvs ea =>
    cases (show u = Value.ref a from rx)
    obtain ⟨_, _, xs, _, o, es, ep, h1, h2, _⟩ := (show ObjOk X.prog X.w H s.heap a (.dT kvs) from I.hok a _ ea)
    exact PySem.W.kia_one PySem.W.kitx_dict I.kIn ⟨o, h1, h2.1⟩ e (fun z => nomatch z) h
  | @ins a C dx fs ea cl ha hn htk hm =>
    cases (show u = Value.ref a from rx)
    obtain ⟨mA, O, _⟩ := ins_get I.hok ea
    obtain ⟨od, J, _⟩ := O.look
    exact PySem.W.kia_one (PySem.W.kitx_own (cl.get _) cl.hd ha hn htk hm) I.kIn J e (fun z => nomatch z) h
end
end L2

namespace L2
open PySem PySem.Spec PyProof.Rows

/-! ### room -/
structure Room (k : Nat) (A : Around) : Prop where
  hd : A.handled = none
  dp : A.depth + 3 * k + 5 < recursionLimit
  un : A.units + 16 * k + 200 < cLine
theorem Room.mono {j k : Nat} {A : Around} (r : Room k A) (h : j ≤ k) : Room j A := ⟨r.hd, by have := r.dp; omega, by have := r.un; omega⟩
theorem Room.deeper {k : Nat} {A : Around} (r : Room (k + 1) A) (env : Env) : Room k (A.deeper env) :=
  ⟨r.hd, by have := r.dp; show A.depth + 1 + 3 * k + 5 < _; omega, by have := r.un; show A.units + 3 + 16 * k + 200 < _; omega⟩
theorem Room.in1 {k : Nat} {A : Around} (r : Room (k + 1) A) : Room k A.in1 :=
  ⟨r.hd, by have := r.dp; show A.depth + 3 * k + 5 < _; omega, by have := r.un; show A.units + 1 + 16 * k + 200 < _; omega⟩
theorem make_depth {A : Around} {C : Addr} {us : List Value} {kw : List (Str × Value)} : (A.under (.builtin "type.__call__" ⟨.ref C :: us, kw⟩)).depth = A.depth + 1 := by
  first | rfl | simp [Around.under, Code.weight, Code.isCreation, Code.isGuard, Code.isCaller, Code.frames, Code.isFrame, guardIds]
theorem make_units {A : Around} {C : Addr} {us : List Value} {kw : List (Str × Value)} : (A.under (.builtin "type.__call__" ⟨.ref C :: us, kw⟩)).units = A.units + 1 := by
  first | rfl | simp [Around.under, Code.cUnits, Code.frames, Code.isFrame]
theorem Room.make {k : Nat} {A : Around} (r : Room (k + 1) A) (C : Addr) (us : List Value) (kw : List (Str × Value)) : Room k (A.under (.builtin "type.__call__" ⟨.ref C :: us, kw⟩)) :=
  ⟨r.hd, by have := r.dp; rw [make_depth]; omega, by have := r.un; rw [make_units]; omega⟩
theorem Room.depth {k : Nat} {A : Around} (r : Room k A) : A.depth < recursionLimit := by have := r.dp; omega
theorem Room.units {k : Nat} {A : Around} (r : Room k A) : A.units + 64 < cLine := by have := r.un; omega
/-! ### argument lists and displays -/
def tNil : TA := fun _ H Q => Q [] H
def tCons (ta : TE) (tr : TA) : TA := fun σ H Q => ta σ H fun x H1 => tr σ H1 fun xs H2 => Q (x :: xs) H2
section
variable {X : Cx} {e : Expr} {es : List Expr} {te : TE} {t : TA} {pos : Pos}
theorem pa_nil : PA X [] tNil := fun _ _ _ _ H Q I h => Calls.spliced_nil ⟨[], H, I, .nil, h⟩
theorem pa_cons (ha : PE X e te) (hr : PA X es t) (hs : starEach (e :: es) X.env = (false, eval e X.env) :: starEach es X.env := by rfl) : PA X (e :: es) (tCons te t) := by
  intro pos pins s σ H Q I h
  rw [hs]
  show wpAny _ _ (spliced ((false, eval e X.env) :: backTo pos (starEach es X.env))) _ _ s
  refine Calls.spliced_cons (thn (ha pins s σ H _ I h) fun u s1 ⟨x, H1, I1, r1, q1⟩ => ?_)
  exact thn (hr pos pins s1 σ H1 _ I1 q1) fun us s2 ⟨xs, H2, I2, r2, q2⟩ => ⟨x :: xs, H2, I2, .cons r1 r2, q2⟩

/-- a tuple, a list of written items -/
def tTup (t : TA) : TE := fun σ H Q => t σ H fun xs H1 => xs.length ≤ sizeLine ∧ ∀ p, H1 p = none → Q (.ref p) (upd H1 p (.tup xs))
def tLst (t : TA) : TE := fun σ H Q => t σ H fun xs H1 => xs.length ≤ sizeLine ∧ ∀ p, H1 p = none → Q (.ref p) (upd H1 p (.lst xs))
theorem pe_lst (h : PA X es t) : PE X (.List es pos) (tLst t) := by
  intro pins s σ H Q I hq
  refine wpAny_List_spliced (thn (h pos pins s σ H _ I hq) fun us s1 ⟨xs, H1, I1, r, z, q⟩ => ⟨by rw [← r.length]; exact z, ?_⟩)
  have hf : H1 s1.heap.objs.size = none := I1.hok.fresh (Nat.le_refl _)
  refine ⟨.ref s1.heap.objs.size, upd H1 s1.heap.objs.size (.lst xs), I1.laid (t' := s1.toks) (fun b u e => Heap.get?_push_of_some _ e) (Nat.le_refl _) ?_, rfl, q _ hf⟩
  exact ⟨z, us, 0, r, Heap.get?_push_size _ rfl⟩
end

/-! ### what a def promises -/
/-- a def's promise: the bound arguments in the parameters' order, the heap, the wanted end, the wanted exception -/
abbrev Sp := List V → Hp → VK → XK → Prop
/-- how an exception lies behind a call (file 08 gives it): the callers' frames, abstract heap and state ahead of the call, the wish, the exception, the state -/
abbrev CXT := List Env → Hp → Shared → XK → Value → Shared → Prop

/-- the state at a call -/
structure Env0 (P : Program) (w : World) (K : PySem.W.Frag) (mg : Str → Option Value) (base : Heap) (A : Around) (outer : List Env) (s : Shared) (H : Hp) : Prop where
  frames : A.frames = some outer
  mod : Mod K mg base
  bs : ∀ b o, base.get? b = some o → s.heap.get? b = some o ∧ H b = none
  bsz : base.objs.size ≤ s.heap.objs.size
  funs : s.heap.FunFrames base outer
  frf : ∀ b ∈ frs outer, H b = none
  hok : HOk P w H s.heap
  bare : AllBare s.gens
/-- a call's end -/
def CE (outer : List Env) (P : Program) (w : World) (H : Hp) (s : Shared) (Q : VK) (u : Value) (s' : Shared) : Prop :=
  ∃ v H', s'.os = s.os ∧ AllBare s'.gens ∧ Un (frs outer) [] H H' s.heap s'.heap ∧ HOk P w H' s'.heap ∧ RelV v u ∧ Q v H'
def CR (CX : CXT) (outer : List Env) (P : Program) (w : World) (H : Hp) (s : Shared) (Q : VK) (E : XK) (r : Result) (s' : Shared) : Prop :=
  match r with
  | .ok (.ret u) => CE outer P w H s Q u s'
  | .ok _ => False
  | .error e => CX outer H s E e s'
structure FnOk (P : Program) (w : World) (K : PySem.W.Frag) (mg : Str → Option Value) (base : Heap) (CX : CXT) (k : Nat) (f : Addr) (fd : FuncData) (ps : List Str) (sp : Sp) : Prop where
  len : ∀ vs H Q E, sp vs H Q E → vs.length = ps.length
  run : ∀ (A : Around) (outer : List Env) (s : Shared) (H : Hp) (args : Args) (us : List Value) (vs : List V) (Q : VK) (E : XK), Room k A → Env0 P w K mg base A outer s H → BindsTo s fd args (ps.zip us) → Vals vs us → sp vs H Q E →
    codeAny (model P w) A (.call (.ref f) args) (CR CX outer P w H s Q E) s
theorem FnOk.mono {P : Program} {w : World} {K : PySem.W.Frag} {mg : Str → Option Value} {base : Heap} {CX : CXT} {j k : Nat} {f : Addr} {fd : FuncData} {ps : List Str} {sp : Sp} (F : FnOk P w K mg base CX j f fd ps sp) (h : j ≤ k) :
    FnOk P w K mg base CX k f fd ps sp := ⟨F.len, fun A outer s H args us vs Q E hr => F.run A outer s H args us vs Q E (hr.mono h)⟩
theorem Env0.make {P : Program} {w : World} {K : PySem.W.Frag} {mg : Str → Option Value} {base : Heap} {A : Around} {outer : List Env} {s : Shared} {H : Hp} (e : Env0 P w K mg base A outer s H) (C : Addr) (us : List Value) (kw : List (Str × Value)) :
    Env0 P w K mg base (A.under (.builtin "type.__call__" ⟨.ref C :: us, kw⟩)) outer s H := ⟨by first | exact e.frames | (simpa [Around.under, Code.envs, Code.isFrame, pushEnvs] using e.frames), e.mod, e.bs, e.bsz, e.funs, e.frf, e.hok, e.bare⟩
theorem Env0.in1 {P : Program} {w : World} {K : PySem.W.Frag} {mg : Str → Option Value} {base : Heap} {A : Around} {outer : List Env} {s : Shared} {H : Hp} (e : Env0 P w K mg base A outer s H) :
    Env0 P w K mg base A.in1 outer s H := ⟨e.frames, e.mod, e.bs, e.bsz, e.funs, e.frf, e.hok, e.bare⟩

section
variable {X : Cx} {pins : List (Addr × Obj)} {σ : St} {H : Hp} {s s' : Shared}
/-- from a body: what a callee wants -/
theorem Inv.env0 (I : Inv X pins σ H s) : Env0 X.prog X.w X.K X.mg X.base X.A X.stack s H :=
  ⟨I.ok.frames, I.ok.mod, I.bs, Nat.le_trans I.ok.bsz I.sz, I.stack, I.stkFree, I.hok, I.bare⟩
/-- behind a call -/
theorem Inv.after {Q : VK} {u : Value} (I : Inv X pins σ H s) (h : CE X.stack X.prog X.w H s Q u s') : EP X pins σ Q u s' := by
  obtain ⟨v, H', os, bare, un, hok, r, q⟩ := h
  obtain ⟨hh, g, d, t, os'⟩ := s'
  obtain rfl : os' = s.os := os
  exact ⟨v, H', I.call (h' := hh) (g' := g) (d' := d) (t' := t) (ch := []) un hok bare (fun b z => absurd z (by simp)), r, q⟩
end

/-! ### calls -/
/-- f(..): the written arguments, then the defaults dvs; E: what is wanted of an exception -/
def tCall (sp : Sp) (dvs : List V) (E : XK) (t : TA) : TE := fun σ H Q => t σ H fun vs H1 => sp (vs ++ dvs) H1 Q E
/-- o.m(..) of an instance of the class at C -/
def tMeth (C : Addr) (m : Str) (sp : Sp) (dvs : List V) (E : XK) (ta : TE) (t : TA) : TE := fun σ H Q => ta σ H fun x H1 => ∃ a dx fs, x = .ref a ∧ H1 a = some (.ins C dx fs) ∧ fs.lookup m = none ∧
  t σ H1 fun vs H2 => sp (x :: (vs ++ dvs)) H2 Q E
/-- C(..): a new instance and its dict, then __init__ -/
def tMake (C : Addr) (sp : Sp) (dvs : List V) (E : XK) (t : TA) : TE := fun σ H Q => t σ H fun vs H1 => ∀ x dx, H1 x = none → H1 dx = none → dx ≠ x →
  sp (.ref x :: (vs ++ dvs)) (upd (upd H1 dx (.own x)) x (.ins C dx [])) (fun v H2 => v = .non ∧ Q (.ref x) H2) E

/-- how the parameters are bound: us the positional arguments, kw the keywords' values by name, ds the defaults that fill up -/
def Binds (K : PySem.W.Frag) (fd : FuncData) (ps : List Str) (ds : List Value) : Prop :=
  ∀ (s : Shared) (us : List Value), K.In s.heap → (us ++ ds).length = ps.length → BindsTo s fd ⟨us, []⟩ (ps.zip (us ++ ds))
/-- every parameter is given -/
theorem Binds.all {K : PySem.W.Frag} {fd : FuncData} {ps : List Str} (h : ∀ us : List Value, us.length = ps.length → bindArgs fd ⟨us, []⟩ = pure (ps.zip us)) : Binds K fd ps [] := fun s us _ hl => by
  rw [List.append_nil] at hl ⊢
  exact .of_eq (h us hl)

/-- an exception of a callee reaches what this body wants of exceptions -/
def Passes (CX : CXT) (X : Cx) (E : XK) : Prop := ∀ (pins : List (Addr × Obj)) (σ : St) (H : Hp) (s : Shared) (e : Value) (s' : Shared), Inv X pins σ H s → CX X.stack H s E e s' → X.xe e s'

section
variable {X : Cx} {CX : CXT} {k : Nat} {f C : Addr} {fd : FuncData} {ps : List Str} {sp : Sp} {dvs : List V} {ds : List Value} {E : XK} {x m : Str} {p pos apos : Pos} {e o : Expr} {es : List Expr} {ta : TE} {t : TA}

/-- the callee runs -/
theorem run_fn {pins : List (Addr × Obj)} {σ : St} {H : Hp} {s : Shared} {Q : VK} {us : List Value} {vs : List V} (F : FnOk X.prog X.w X.K X.mg X.base CX k f fd ps sp) (hr : Room k X.A) (hb : Binds X.K fd ps ds) (hd : Vals dvs ds) (hx : Passes CX X E)
    (I : Inv X pins σ H s) (r : Vals vs us) (h : sp (vs ++ dvs) H Q E) : wpAny (model X.prog X.w) X.A (call (.ref f) us) (EP X pins σ Q) X.xe s := by
  have r2 : Vals (vs ++ dvs) (us ++ ds) := r.append hd
  have hl : (us ++ ds).length = ps.length := by rw [← r2.length]; exact F.len _ _ _ _ h
  refine wpAny_call (codeAny_mono (F.run X.A X.stack s H ⟨us, []⟩ (us ++ ds) (vs ++ dvs) Q E hr I.env0 (hb s us I.kIn hl) r2 h) fun r s' hq => ?_)
  cases r with
  | error e => exact hx pins σ H s e s' I hq
  | ok fl =>
    cases fl with
    | ret u => exact I.after hq
    | next => exact False.elim hq
    | brk => exact False.elim hq
    | cont => exact False.elim hq

theorem pe_call (F : FnOk X.prog X.w X.K X.mg X.base CX k f fd ps sp) (hr : Room k X.A) (hg : Gl X x) (hm : X.mg x = some (.ref f)) (hk : PySem.W.keepIn X.K (.ref f) = true) (hb : Binds X.K fd ps ds) (hd : Vals dvs ds) (hx : Passes CX X E)
    (ha : PA X (e :: es) t) (hdb : (x == ("__debug__" : Str)) = false := by decide) (he : starEach (e :: es) X.env = (false, eval e X.env) :: starEach es X.env := by rfl) (hpl : (backTo pos (starEach es X.env)).any (·.1) = false := by rfl) :
    PE X (.Call (.Name x p) (e :: es) [] pos) (tCall sp dvs E t) := by
  intro pins s σ H Q I h
  refine wpAny_Call_Name_kw (ld_glob I hg hm ?_ hdb)
  refine PySem.W.callWith_K (h₀ := X.base) I.ok.mod.kin hk (thn (ha pos pins s σ H _ I h) fun us s1 ⟨vs, H1, I1, r, q⟩ => ⟨I1.kIn, ?_⟩) he hpl
  exact run_fn F hr hb hd hx I1 r q
/-- what a class must have to be made -/
structure Mk (K : PySem.W.Frag) (C f : Addr) : Prop where
  makes : PySem.W.makesIn K C = true
  init : PySem.W.findIn K (.ref C) "__init__" = some (some (.ref f))
  fn : PySem.W.isFn K (.ref f) = true
  kp : PySem.W.keepIn K (.ref C) = true

end

/-! ### keywords -/
/-- the values of the keywords, from the left -/
def PK (X : Cx) (kws : List Keyword) (t : TA) : Prop :=
  ∀ (pos : Pos) (pins : List (Addr × Obj)) (s : Shared) (σ : St) (H : Hp) (Q : List V → Hp → Prop), Inv X pins σ H s → t σ H Q → wpAny (model X.prog X.w) X.A (evalAll ((backToKw pos (keywordEach kws X.env)).map (·.2))) (AP X pins σ Q) X.xe s
section
variable {X : Cx} {CX : CXT} {k : Nat} {f C : Addr} {fd : FuncData} {ps ks : List Str} {sp : Sp} {E : XK} {x m : Str} {p pos apos kpos : Pos} {e o : Expr} {es : List Expr} {kws : List Keyword} {te ta : TE} {t tk : TA} {nm : Option Str}
/-- how a call with keywords binds: g puts the positional values us and the keywords' values ws (names ks) in the parameters' order, defaults among them -/
structure KBinds (K : PySem.W.Frag) (fd : FuncData) (ps ks : List Str) (g : List Value → List Value → List Value) (gV : List V → List V → List V) : Prop where
  to : ∀ (s : Shared) (us ws : List Value), K.In s.heap → (g us ws).length = ps.length → BindsTo s fd ⟨us, ks.zip ws⟩ (ps.zip (g us ws))
  rel : ∀ {vs : List V} {us : List Value} {zs : List V} {ws : List Value}, Vals vs us → Vals zs ws → Vals (gV vs zs) (g us ws)
def tCallK (sp : Sp) (gV : List V → List V → List V) (E : XK) (t tk : TA) : TE := fun σ H Q => t σ H fun vs H1 => tk σ H1 fun zs H2 => sp (gV vs zs) H2 Q E
variable {g : List Value → List Value → List Value} {gV : List V → List V → List V}
end

/-! ### a def's body keeps its promise -/
/-- names: the parameters first -/
structure FnScope (N P : List Str) (sc : Scope) : Prop where
  kind : sc.kind = .function
  co : sc.isCoroutine = false
  gen : sc.isGenerator = false
  nd : N.Nodup
  pre : N.take P.length = P
  par : ∀ x ∈ P, sc.names.lookup x = some .local ∨ sc.names.lookup x = some .cell
  nofree : ∀ y ∈ sc.names, y.2 ≠ .free

theorem bindL_out {kindOf : Str → Option NameKind} {x : Str} : ∀ {binds : List (Str × Value)} {m : Str → Option Value}, (∀ v, (x, v) ∉ binds) → bindL kindOf binds m x = m x
  | [], _, _ => rfl
  | (n, v) :: r, m, h => by
    unfold bindL
    rw [bindL_out fun w hw => h w (List.mem_cons_of_mem _ hw)]
    split
    · have : x ≠ n := by rintro rfl; exact h v List.mem_cons_self
      simp [this]
    · rfl
theorem bindC_out {kindOf : Str → Option NameKind} {x : Str} : ∀ {binds : List (Str × Value)} {m : Str → Option Value}, (∀ v, (x, v) ∉ binds) → bindC kindOf binds m x = m x
  | [], _, _ => rfl
  | (n, v) :: r, m, h => by
    unfold bindC
    rw [bindC_out fun w hw => h w (List.mem_cons_of_mem _ hw)]
    split
    · rfl
    · have : x ≠ n := by rintro rfl; exact h v List.mem_cons_self
      simp [this]
theorem bindL_get {kindOf : Str → Option NameKind} {x : Str} {v : Value} : ∀ {P : List Str} {vs : List Value} {i : Nat} {m : Str → Option Value}, P.Nodup → P[i]? = some x → vs[i]? = some v → kindOf x = some .local →
    bindL kindOf (P.zip vs) m x = some v
  | [], _, _, _, _, h, _, _ => by simp at h
  | _ :: _, [], _, _, _, _, h, _ => by simp at h
  | p :: P, w :: vs, 0, m, nd, h1, h2, hk => by
    simp at h1 h2; subst h1; subst h2
    show bindL kindOf ((p, w) :: P.zip vs) m p = _
    unfold bindL
    rw [bindL_out fun v hv => (List.nodup_cons.mp nd).1 (List.of_mem_zip hv).1, if_pos hk]
    simp
  | p :: P, w :: vs, i + 1, m, nd, h1, h2, hk => by
    show bindL kindOf ((p, w) :: P.zip vs) m x = _
    unfold bindL
    exact bindL_get (i := i) (List.nodup_cons.mp nd).2 (by simpa using h1) (by simpa using h2) hk
theorem bindC_get {kindOf : Str → Option NameKind} {x : Str} {v : Value} : ∀ {P : List Str} {vs : List Value} {i : Nat} {m : Str → Option Value}, P.Nodup → P[i]? = some x → vs[i]? = some v → kindOf x ≠ some .local →
    bindC kindOf (P.zip vs) m x = some v
  | [], _, _, _, _, h, _, _ => by simp at h
  | _ :: _, [], _, _, _, _, h, _ => by simp at h
  | p :: P, w :: vs, 0, m, nd, h1, h2, hk => by
    simp at h1 h2; subst h1; subst h2
    show bindC kindOf ((p, w) :: P.zip vs) m p = _
    unfold bindC
    rw [bindC_out fun v hv => (List.nodup_cons.mp nd).1 (List.of_mem_zip hv).1, if_neg hk]
    simp
  | p :: P, w :: vs, i + 1, m, nd, h1, h2, hk => by
    show bindC kindOf ((p, w) :: P.zip vs) m x = _
    unfold bindC
    exact bindC_get (i := i) (List.nodup_cons.mp nd).2 (by simpa using h1) (by simpa using h2) hk

/-- the names' values at the entry -/
def start (N : List Str) (vs : List V) : St := vs.map some ++ List.replicate (N.length - vs.length) none

/-- the context of a def's body, at its entry; an exception leaves the frame, then lies as CX says -/
def cxOf (CX : CXT) (P : Program) (w : World) (K : PySem.W.Frag) (mg : Str → Option Value) (base : Heap) (N : List Str) (qual : Str) (scope : Scope) (f : Addr) (cd : Value) (A : Around) (outer : List Env) (s : Shared) (H : Hp) (E : XK) : Cx where
  prog := P
  w := w
  K := K
  mg := mg
  base := base
  A := A.deeper (envOfC qual scope s.heap.objs.size f cd)
  N := N
  s₀ := s
  H₀ := H
  env := envOfC qual scope s.heap.objs.size f cd
  outer := outer
  stack := envOfC qual scope s.heap.objs.size f cd :: outer
  ex := []
  calm := true
  fn := fun _ => true
  pn := []
  xe := fun e s' => wpAny (model P w) (A.deeper (envOfC qual scope s.heap.objs.size f cd)) (leaving (envOfC qual scope s.heap.objs.size f cd) e) (fun _ s'' => CX outer H s E e s'') (fun e' s'' => CX outer H s E e' s'') s'

theorem cell_has {sc : Scope} {n : Nat} {x : Str} (h : sc.names.lookup x = some .cell) : ∃ c, (cellsFrom n sc.names []).lookup x = some c := by
  have q := PySem.W.cellsFrom_some sc.names n [] (.inl h)
  exact Option.isSome_iff_exists.mp q

theorem inv_start {CX : CXT} {P : Program} {w : World} {K : PySem.W.Frag} {mg : Str → Option Value} {base : Heap} {N ps : List Str} {qual : Str} {scope : Scope} {f : Addr} {cd : Value} {A : Around} {outer : List Env} {s s1 : Shared} {H : Hp} {E : XK} {us : List Value} {vs : List V}
    (S : FnScope N ps scope) (hd : A.handled = none) (e0 : Env0 P w K mg base A outer s H) (hl : vs.length = ps.length) (r : Vals vs us)
    (x : InCallC s s.heap.objs.size (bindL (envOfC qual scope s.heap.objs.size f cd).kindOf (ps.zip us) fun _ => none) (cellsFrom (s.heap.objs.size + 1) scope.names []) (bindC (envOfC qual scope s.heap.objs.size f cd).kindOf (ps.zip us) fun _ => none) s1) :
    Inv (cxOf CX P w K mg base N qual scope f cd A outer s H E) [] (start N vs) H s1 := by
  have hpl : ps.length ≤ N.length := by have := congrArg List.length S.pre; rw [List.length_take] at this; omega
  obtain ⟨h1, tk, rfl, hk⟩ := x.done
  have noA : ∀ b : Addr, b ∉ (cxOf CX P w K mg base N qual scope f cd A outer s H E).ex := fun b z => absurd (show b ∈ ([] : List Addr) from z) (by simp)
  refine ⟨⟨e0.mod, S.kind, rfl, rfl, Nat.le_refl _, fun y z c h1 h2 => ?_, fun y hy => ?_, fun y c _ h => ?_, fun _ => hd, Around.frames_deeper e0.frames, .inr ⟨rfl, rfl⟩, fun b z => absurd z (noA b), e0.bs, e0.bsz, fun b _ _ => noA b, fun b z => absurd z (noA b), e0.funs, e0.frf⟩,
    rfl, e0.bare, Un.kept hk, ⟨_, x.toInCall.ns, fun i y v h1 h2 h3 => ?_⟩, fun y c h => ⟨_, x.cell y c h⟩, e0.hok.fresh (Nat.le_refl _), fun y c h => ?_, fun p hp => absurd (show p ∈ ([] : List (Addr × Obj)) from hp) (by simp), e0.hok.kept hk, ?_⟩
  · exact name_of_addr x.apart (PySem.mem_of_lookup h1) (PySem.mem_of_lookup h2)
  · have hy : scope.names.lookup y = some .cell ∨ scope.names.lookup y = some .free := hy
    rcases hy with hy | hy
    · exact cell_has hy
    · exact absurd rfl (S.nofree _ (PySem.mem_of_lookup hy))
  · exact Nat.le_of_lt (x.above y c (PySem.mem_of_lookup h))
  · have hi : i < vs.length := by
      unfold start at h2
      by_cases hi : i < vs.length
      · exact hi
      · rw [List.getElem?_append_right (by simpa using hi)] at h2
        rw [List.getElem?_replicate] at h2
        split at h2 <;> cases h2
    have ha : vs[i]? = some v := by
      unfold start at h2
      rw [List.getElem?_append_left (by simpa using hi), List.getElem?_map] at h2
      cases e : vs[i]? with
      | none => rw [e] at h2; cases h2
      | some a => rw [e] at h2; cases h2; rfl
    obtain ⟨u, hu, rv⟩ := r.get ha
    have hp : ps[i]? = some y := by
      rw [← S.pre, List.getElem?_take_of_lt (by omega)]; exact h1
    have ndP : ps.Nodup := by rw [← S.pre]; exact S.nd.sublist (List.take_sublist _ _)
    refine ⟨u, rv, ?_⟩
    rcases S.par y (List.mem_of_getElem? hp) with k | k
    · exact .inl ⟨k, bindL_get ndP hp hu k⟩
    · obtain ⟨c, e⟩ := cell_has (n := s.heap.objs.size + 1) k
      refine .inr ⟨.inl k, c, e, ?_⟩
      have q := x.cell y c e
      rw [bindC_get ndP hp hu (by show scope.names.lookup y ≠ _; rw [k]; decide)] at q
      exact q
  · exact e0.hok.fresh (Nat.le_of_lt (x.above y c (PySem.mem_of_lookup h)))
  · unfold start
    show _ = N.length
    rw [List.length_append, List.length_map, List.length_replicate]
    omega

/-- THE RULE: a def (or a method) of the text, by its body. The body's reading t is chosen for each entry; it is run at the parameters' values -/
theorem fn_of {CX : CXT} {P : Program} {w : World} {K : PySem.W.Frag} {mg : Str → Option Value} {base : Heap} {k : Nat} {f : Addr} {name qual : Str} {params : Arguments} {body : List Stmt} {scope : Scope} {dV kV doc pm cdv ct oc : Value} {an od : Option Addr}
    {osl : Array (Option Value)} {N ps : List Str} {sp : Sp} (lk : K.lookup f = some ⟨oc, od, .func (PySem.W.fnOf name qual params body scope dV kV doc pm an cdv ct), osl⟩) (hcd : PySem.W.codeIn K cdv qual = true) (S : FnScope N ps scope)
    (len : ∀ vs H Q E, sp vs H Q E → vs.length = ps.length)
    (hbody : ∀ (A : Around) (outer : List Env) (s : Shared) (H : Hp) (vs : List V) (Q : VK) (E : XK), Room k (A.deeper (envOfC qual scope s.heap.objs.size f cdv)) → sp vs H Q E →
      ∃ t, PSs (cxOf CX P w K mg base N qual scope f cdv A outer s H E) body t ∧ t { nx := fun _ H' => Q .non H', rt := Q } (start N vs) H) :
    FnOk P w K mg base CX (k + 1) f (PySem.W.fnOf name qual params body scope dV kV doc pm an cdv ct) ps sp := by
  refine ⟨len, fun A outer s H args us vs Q E hr e0 hb r hsp => ?_⟩
  have hl := len _ _ _ _ hsp
  have KX : K.In s.heap := e0.mod.kin.keeps fun b o e => (e0.bs b o e).1
  have lim : s.heap.NoLimit := e0.mod.nolimit.keeps fun b o e => (e0.bs b o e).1
  have hkind : ∀ y ∈ ps.zip us, scope.names.lookup y.1 = some .local ∨ (scope.names.lookup y.1 = some .cell ∧ ((cellsFrom (s.heap.objs.size + 1) scope.names []).lookup y.1).isSome = true) := fun ⟨n, v⟩ hy => by
    rcases S.par n (List.of_mem_zip hy).1 with q | q
    · exact .inl q
    · exact .inr ⟨q, PySem.W.cellsFrom_some _ _ _ (.inl q)⟩
  refine codeAny_call_function hr.depth (KX _ _ lk) rfl S.co S.gen rfl (PySem.W.codeRec_of KX hcd) (hb _ _ _ _ ?_)
  refine wpAny_newFunctionEnv_cells S.kind hkind fun env he s1 x => ?_
  subst he
  refine ⟨lim.keeps x.toInCall.keep, codeAny_func ?_⟩
  obtain ⟨t, ht, hq⟩ := hbody A outer s H vs Q E (hr.deeper _) hsp
  have I : Inv (cxOf CX P w K mg base N qual scope f cdv A outer s H E) [] (start N vs) H s1 := inv_start S hr.hd e0 hl r x
  refine wpAny_mono (ht [] s1 (start N vs) H _ I hq) (fun fl s' hs => ?_) fun e s' hs => hs
  have fin : ∀ {σ' : St} {H' : Hp} {v : V} {u : Value}, Inv (cxOf CX P w K mg base N qual scope f cdv A outer s H E) [] σ' H' s' → RelV v u → Q v H' → CE outer P w H s Q u s' :=
    fun {σ' H' v u} J rv q => ⟨v, H', J.os, J.bare, J.base, J.hok, rv, q⟩
  cases fl with
  | ret u =>
    obtain ⟨v, σ', H', J, rv, q⟩ := hs
    exact fin J rv q
  | next =>
    obtain ⟨σ', H', J, q⟩ := hs
    exact fin (v := V.non) (u := Value.none) J rfl q
  | brk =>
    obtain ⟨_, _, _, q⟩ := hs
    exact False.elim q
  | cont =>
    obtain ⟨_, _, _, q⟩ := hs
    exact False.elim q
end L2

namespace L2
open PySem PySem.Spec PyProof.Rows
section
variable {X : Cx} {x : Str} {p pos : Pos} {e : Expr} {es : List Expr} {t : TA} {id T : String} {r : List V → Hp → VK → Prop}

def tCB (r : List V → Hp → VK → Prop) (t : TA) : TE := fun σ H Q => t σ H fun vs H1 => r vs H1 Q
/-- f(e, ..), f a built-in function -/
theorem pe_callB (hc : CallR X (.builtin id) r) (hg : Gl X x) (hm : X.mg x = none) (hv : bootBuiltins x = some (.builtin id)) (ha : PA X (e :: es) t) (hn : x ≠ "__name__" := by decide) (hdb : (x == ("__debug__" : Str)) = false := by decide)
    (he : starEach (e :: es) X.env = (false, eval e X.env) :: starEach es X.env := by rfl) (hpl : (backTo pos (starEach es X.env)).any (·.1) = false := by rfl) : PE X (.Call (.Name x p) (e :: es) [] pos) (tCB r t) := by
  intro pins s σ H Q I h
  refine wpAny_Call_Name_kw (ld_blt I hg hm hv ?_ hn hdb)
  exact PyProof.Rows.callWith_builtin1 (thn (ha pos pins s σ H _ I h) fun us s1 ⟨vs, H1, I1, r1, q1⟩ => hc pins s1 σ H1 vs us Q I1 r1 q1) he hpl
/-- T(e, ..), T a built-in type -/
theorem pe_callTy (hc : CallR X (.type T) r) (hg : Gl X x) (hm : X.mg x = none) (hv : bootBuiltins x = some (.type T)) (ha : PA X (e :: es) t) (hn : x ≠ "__name__" := by decide) (hdb : (x == ("__debug__" : Str)) = false := by decide)
    (he : starEach (e :: es) X.env = (false, eval e X.env) :: starEach es X.env := by rfl) (hpl : (backTo pos (starEach es X.env)).any (·.1) = false := by rfl) : PE X (.Call (.Name x p) (e :: es) [] pos) (tCB r t) := by
  intro pins s σ H Q I h
  refine wpAny_Call_Name_kw (ld_blt I hg hm hv ?_ hn hdb)
  exact PyProof.Rows.callWith_type1 (thn (ha pos pins s σ H _ I h) fun us s1 ⟨vs, H1, I1, r1, q1⟩ => hc pins s1 σ H1 vs us Q I1 r1 q1) he hpl
end
end L2

namespace HT
open PySem PyProof.Rows

/-- t < u of tuples of ints -/
def lexLt : List Int → List Int → Bool
  | [], [] => false
  | [], _ :: _ => true
  | _ :: _, [] => false
  | x :: xs, y :: ys => if x = y then lexLt xs ys else decide (x < y)
section
open PySem.SeqAt
open PySem.AutoSeq1 (wpAny_loadPart')
open PySem.MeetsSeq PySem.MeetsSeq2 PySem.MeetsSeq3

end

section
variable {prog : Program} {w : World} {A : Around} {E : Value → Shared → Prop} {s : Shared}

/-! ### t[a:b], not the whole -/
/-- a slice's bound as a place among n (d where it is left out) -/
def sIx (n d : Nat) : Option Int → Nat
  | none => d
  | some v => if v < 0 then (v + (n : Int)).toNat else min v.toNat n
end
end HT

namespace L2
open PySem PySem.Spec PyProof.Rows

/-! ### the parts of a slice -/
abbrev TO := St → Hp → (Option Int → Hp → Prop) → Prop
/-- a slice's part (left out, or an int) -/
def PO (X : Cx) (e : Option Expr) (t : TO) : Prop :=
  ∀ (pins : List (Addr × Obj)) (s : Shared) (σ : St) (H : Hp) (Q : Option Int → Hp → Prop), Inv X pins σ H s → t σ H Q →
    wpAny (model X.prog X.w) X.A (evalPart e X.env) (fun u s' => ∃ o H', Inv X pins σ H' s' ∧ IsPart u o ∧ Q o H') X.xe s
def tNoPart : TO := fun _ H Q => Q none H
def tPart (t : TE) : TO := fun σ H Q => t σ H fun x H1 => ∃ i, x = .int i ∧ Q (some i) H1

section
variable {X : Cx} {e : Expr} {te : TE} {lo hi : Option Expr} {tl th : TO} {pos p2 : Pos}

theorem po_none : PO X none tNoPart := by
  intro pins s σ H Q I h
  rw [evalPart_none]
  exact wpAny_pure ⟨none, H, I, .none, h⟩
theorem po_some (h : PE X e te) : PO X (some e) (tPart te) := by
  intro pins s σ H Q I hw
  rw [evalPart_some]
  refine thn (h pins s σ H _ I hw) fun u s1 ⟨x, H1, I1, r1, q1⟩ => ?_
  obtain ⟨i, rfl, q⟩ := q1
  obtain ⟨t, rfl⟩ := r1
  exact ⟨some i, H1, I1, .int i t, q⟩

/-- what a slice of a value is, by values: the slice object stands at sl -/
def SlR (X : Cx) (r : V → Option Int → Option Int → Hp → VK → Prop) : Prop :=
  ∀ (pins : List (Addr × Obj)) (s : Shared) (σ : St) (H : Hp) (x : V) (v vl vu : Value) (lo hi : Option Int) (sl : Addr) (Q : VK), Inv X pins σ H s → RelV x v → s.heap.IsSliceOf sl vl vu .none → IsPart vl lo → IsPart vu hi → r x lo hi H Q →
    ∃ T id, typeLookup (.type T) "__getitem__" = pure (some (.builtin id)) ∧ s.TypeIs v T ∧ wpAny (model X.prog X.w) X.A (getItem v (.ref sl)) (EP X pins σ Q) X.xe s
theorem SlR.or {r r' : V → Option Int → Option Int → Hp → VK → Prop} (h : SlR X r) (h' : SlR X r') : SlR X (fun x lo hi H Q => r x lo hi H Q ∨ r' x lo hi H Q) := by
  intro pins s σ H x v vl vu lo hi sl Q I rx hs pl pu q
  rcases q with q | q
  · exact h pins s σ H x v vl vu lo hi sl Q I rx hs pl pu q
  · exact h' pins s σ H x v vl vu lo hi sl Q I rx hs pl pu q
def tSl (r : V → Option Int → Option Int → Hp → VK → Prop) (te : TE) (tl th : TO) : TE := fun σ H Q => te σ H fun x H1 => tl σ H1 fun l H2 => th σ H2 fun u H3 => r x l u H3 Q
/-- a[lo:hi], any a -/
theorem pe_slice {r : V → Option Int → Option Int → Hp → VK → Prop} (hr : SlR X r) (he : PE X e te) (hl : PO X lo tl) (hu : PO X hi th) : PE X (.Subscript e (.Slice lo hi none p2) pos) (tSl r te tl th) := by
  intro pins s σ H Q I h
  refine Subscript_ (thn (he pins s σ H _ I h) fun v s1 ⟨x, H1, I1, r1, q1⟩ => ?_)
  refine wpAny_Slice (thn (hl pins s1 σ H1 _ I1 q1) fun vl s2 ⟨l, H2, I2, pl, q2⟩ => thn (hu pins s2 σ H2 _ I2 q2) fun vu s3 ⟨u, H3, I3, pu, q3⟩ => ?_)
  rw [evalPart_none]
  refine wpAny_pure ?_
  have I4 : Inv X pins σ H3 { s3 with heap := s3.heap.push { cls := .type "slice", data := .fields #[vl, vu, .none] } } := I3.kept (t' := s3.toks) fun b ob q => Heap.get?_push_of_some _ q
  obtain ⟨T, id, hT, ht, hg⟩ := hr pins { s3 with heap := s3.heap.push { cls := .type "slice", data := .fields #[vl, vu, .none] } } σ H3 x v vl vu l u s3.heap.objs.size Q I4 r1 (Heap.IsSliceOf.new ..) pl pu q3
  show wpAny (model X.prog X.w) X.A (subscriptTail e (.Slice lo hi none p2) v (.ref s3.heap.objs.size)) (EP X pins σ Q) X.xe { s3 with heap := s3.heap.push { cls := .type "slice", data := .fields #[vl, vu, .none] } }
  exact tail_any (ops := [.ref s3.heap.objs.size, v]) ht hT hg (by with_unfolding_all rfl)

/-- the items of xs[lo:hi] -/
def cutV (xs : List V) (lo hi : Option Int) : List V := (xs.drop (HT.sIx xs.length 0 lo)).take (HT.sIx xs.length xs.length hi - HT.sIx xs.length 0 lo)
/-- t[lo:hi], not the whole of it (the whole would be t itself) -/
def rSlT (K : PySem.W.Frag) : V → Option Int → Option Int → Hp → VK → Prop := fun x lo hi H Q => ∃ a xs, x = .ref a ∧ SqT K H a xs ∧
  ¬ (HT.sIx xs.length 0 lo = 0 ∧ HT.sIx xs.length xs.length hi = xs.length) ∧ ∀ p, H p = none → Q (.ref p) (upd H p (.tup (cutV xs lo hi)))
/-! ### t < u, t + u -/
def rLtT (K : PySem.W.Frag) : R2 := fun x y H Q => ∃ a b ns ms, x = .ref a ∧ y = .ref b ∧ SqT K H a (ns.map V.int) ∧ SqT K H b (ms.map V.int) ∧ Q (.bl (HT.lexLt ns ms)) H
/-- t + u, t not empty: u empty gives t itself -/
def rCatT (K : PySem.W.Frag) : R2 := fun x y H Q => ∃ a b xs ys, x = .ref a ∧ y = .ref b ∧ SqT K H a xs ∧ SqT K H b ys ∧ xs ≠ [] ∧ xs.length + ys.length ≤ sizeLine ∧
  (ys = [] → Q (.ref a) H) ∧ (ys ≠ [] → ∀ p, H p = none → Q (.ref p) (upd H p (.tup (xs ++ ys))))
end
end L2

namespace L2
open PySem PySem.Spec PyProof.Rows

/-! ### places -/
/-- the place that an index of any sign means -/
def ixN (n : Nat) (i : Int) : Option Nat := if 0 ≤ i then (if i < n then some i.toNat else none) else if -(n : Int) ≤ i then some (i + n).toNat else none
def atI {α : Type} (xs : List α) (i : Int) : Option α := (ixN xs.length i).bind fun j => xs[j]?
theorem ixN_seq {n : Nat} {i : Int} {j : Nat} (h : ixN n i = some j) : seqIndex? i n = some j ∧ j < n ∧ -(n : Int) ≤ i ∧ i < n := by
  unfold ixN at h
  by_cases h0 : 0 ≤ i
  · rw [if_pos h0] at h
    by_cases h1 : i < n
    · rw [if_pos h1] at h
      have e : i.toNat = j := Option.some.inj h
      exact ⟨by rw [seqIndex_of h0 h1, e], by omega, by omega, h1⟩
    · rw [if_neg h1] at h; cases h
  · rw [if_neg h0] at h
    by_cases h1 : -(n : Int) ≤ i
    · rw [if_pos h1] at h
      have e : (i + n).toNat = j := Option.some.inj h
      exact ⟨by rw [seqIndex_neg (by omega) h1, e], by omega, h1, by omega⟩
    · rw [if_neg h1] at h; cases h
theorem atI_get {α : Type} {xs : List α} {i : Int} {v : α} (h : atI xs i = some v) : ∃ j, seqIndex? i xs.length = some j ∧ xs[j]? = some v ∧ j < xs.length ∧ -(xs.length : Int) ≤ i ∧ i < xs.length := by
  unfold atI at h
  cases e : ixN xs.length i with
  | none => rw [e] at h; cases h
  | some j =>
    rw [e] at h
    obtain ⟨h1, h2, h3, h4⟩ := ixN_seq e
    exact ⟨j, h1, h, h2, h3, h4⟩
theorem atI_nat {α : Type} {xs : List α} {j : Nat} {v : α} (h : xs[j]? = some v) : atI xs (j : Int) = some v := by
  have hj : j < xs.length := (List.getElem?_eq_some_iff.mp h).1
  have e : ixN xs.length (j : Int) = some j := by
    unfold ixN
    rw [if_pos (by omega), if_pos (by omega)]; simp
  unfold atI; rw [e]; exact h
/-! ### what may be subscripted -/
/-- what stands as an index of a plain subscript -/
def PlainIx (b : Expr) : Prop := ∀ o i, subscripted b false o i = operate [o, i] (getItem o i)
/-- a subscript by values -/
def IxR (X : Cx) (r : R2) : Prop :=
  ∀ (value slice : Expr) (pins : List (Addr × Obj)) (s : Shared) (σ : St) (H : Hp) (x y : V) (v u : Value) (Q : VK), Inv X pins σ H s → RelV x v → RelV y u → r x y H Q →
    subscripted slice false v u = operate [v, u] (getItem v u) → wpAny (model X.prog X.w) X.A (subscriptTail value slice v u) (EP X pins σ Q) X.xe s
/-- a call of a builtin's method by values: the receiver, the arguments -/
def MtR (X : Cx) (id : String) (r : V → List V → Hp → VK → Prop) : Prop :=
  ∀ (pins : List (Addr × Obj)) (s : Shared) (σ : St) (H : Hp) (x : V) (xs : List V) (v : Value) (us : List Value) (Q : VK), Inv X pins σ H s → RelV x v → Vals xs us → r x xs H Q →
    wpAny (model X.prog X.w) X.A (call (.builtin id) (v :: us)) (EP X pins σ Q) X.xe s
section
variable {X : Cx} {a b : Expr} {ta tb : TE} {pos : Pos}
theorem IxR.or {r r' : R2} (h : IxR X r) (h' : IxR X r') : IxR X (fun x y H Q => r x y H Q ∨ r' x y H Q) := by
  intro value slice pins s σ H x y v u Q I rx ry q hs
  rcases q with q | q
  · exact h value slice pins s σ H x y v u Q I rx ry q hs
  · exact h' value slice pins s σ H x y v u Q I rx ry q hs
theorem MtR.or {id : String} {r r' : V → List V → Hp → VK → Prop} (h : MtR X id r) (h' : MtR X id r') : MtR X id (fun x xs H Q => r x xs H Q ∨ r' x xs H Q) := by
  intro pins s σ H x xs v us Q I rx rs q
  rcases q with q | q
  · exact h pins s σ H x xs v us Q I rx rs q
  · exact h' pins s σ H x xs v us Q I rx rs q
/-- a[b] -/
theorem pe_ix {r : R2} (hr : IxR X r) (ha : PE X a ta) (hb : PE X b tb) (hs : PlainIx b) : PE X (.Subscript a b pos) (tOp r ta tb) := by
  intro pins s σ H Q I h
  exact Subscript_ (binT ha hb I h fun v u s2 x y H2 I2 rx ry q => hr a b pins s2 σ H2 x y v u Q I2 rx ry q (hs _ _))

def rIxL (K : PySem.W.Frag) : R2 := fun x y H Q => ∃ p xs i v, x = .ref p ∧ y = .int i ∧ SqL K H p xs ∧ atI xs i = some v ∧ Q v H
def rIxT (K : PySem.W.Frag) : R2 := fun x y H Q => ∃ p xs i v, x = .ref p ∧ y = .int i ∧ SqT K H p xs ∧ atI xs i = some v ∧ Q v H
def rIxS : R2 := fun x y H Q => ∃ z i c, x = .str z ∧ y = .int i ∧ z.length ≤ sizeLine ∧ atI z.cps.toList i = some c ∧ Q (.str ⟨#[c]⟩) H
theorem ix_list : IxR X (rIxL X.K) := by
  intro value slice pins s σ H x y v u Q I rx ry h hs
  obtain ⟨p, xs, i, z, rfl, rfl, hq, he, q⟩ := h
  cases rx
  obtain ⟨t, rfl⟩ := ry
  obtain ⟨its, r, pl, hz⟩ := I.list hq
  obtain ⟨j, h1, h2, h3, h4, h5⟩ := atI_get he
  obtain ⟨w, ew, rw'⟩ := r.get h2
  have hl := r.length
  have hn := line63
  have fin : EP X pins σ Q w s := ⟨z, H, I, rw', q⟩
  by_cases h0 : 0 ≤ i
  · have hj : i.toNat = j := by
      rw [seqIndex_of h0 h5] at h1
      exact Option.some.inj h1
    exact item_listR pl.isList h0 (by omega) (by rw [hj]; simpa using ew) fin hs
  · have hj : (i + (its.toArray.size : Int)).toNat = j := by
      rw [seqIndex_neg (by omega) h4] at h1
      rw [List.size_toArray, ← hl]
      exact Option.some.inj h1
    exact subscriptTail_builtinR (x := w) pl.isList.typeIs slot_list_getitem.lookup
      (wpAny_getItem_list_neg (Q := fun r s' => r = w ∧ EP X pins σ Q r s') pl.isList (by omega) (by rw [List.size_toArray] <;> omega) (by omega) (by rw [hj]; simpa using ew) ⟨rfl, fin⟩) hs
theorem ix_str : IxR X rIxS := by
  intro value slice pins s σ H x y v u Q I rx ry h hs
  obtain ⟨z, i, c, rfl, rfl, hz, he, q⟩ := h
  obtain ⟨t, rfl⟩ := rx
  obtain ⟨t', rfl⟩ := ry
  obtain ⟨j, h1, h2, h3, h4, h5⟩ := atI_get he
  have hl : z.cps.toList.length = z.length := by simp [Str.length]
  rw [hl] at h1 h4 h5
  have hn := line63
  exact tail_any (typeIs_str s z t) slot_str_getitem.lookup (getItem_str (c := c) (by
    have e1 : decide (i < -(2 ^ 63 : Int)) = false := decide_eq_false (by omega)
    have e2 : decide (i ≥ 2 ^ 63) = false := decide_eq_false (by omega)
    rw [e1, e2, Bool.or_false]) (by rw [h1]; simpa using h2) ⟨.str ⟨#[c]⟩, H, I.tok _, ⟨_, rfl⟩, q⟩) hs
/-- list, tuple or str -/
def rIx (K : PySem.W.Frag) : R2 := fun x y H Q => rIxL K x y H Q ∨ rIxT K x y H Q ∨ rIxS x y H Q
/-! ### xs[i] = v, any sign -/
/-- the list's object behind a store -/
theorem mapSeq_set (its : List Value) (n j : Nat) (u : Value) : Obj.mapSeq (·.setIfInBounds j u) { cls := .type "list", data := .seq its.toArray n } = { cls := .type "list", data := .seq (its.set j u).toArray n } := by
  simp [Obj.mapSeq]
theorem Inv.lst {pins : List (Addr × Obj)} {σ : St} {H : Hp} {s : Shared} {p : Addr} {xs : List V} (I : Inv X pins σ H s) (h : H p = some (.lst xs)) :
    ∃ (its : List Value) (n : Nat), Vals xs its ∧ s.heap.get? p = some { cls := .type "list", data := .seq its.toArray n } ∧ xs.length ≤ sizeLine := by
  obtain ⟨z, its, n, r, e⟩ := I.hok p _ h
  exact ⟨its, n, r, e, z⟩
/-- the list at p is written by an update of its object -/
theorem Inv.lstUpd {pins : List (Addr × Obj)} {σ : St} {H : Hp} {s : Shared} {p : Addr} {xs ys : List V} {its its' : List Value} {n n' : Nat} {f : Obj → Obj} (I : Inv X pins σ H s) (h : H p = some (.lst xs))
    (ho : s.heap.get? p = some { cls := .type "list", data := .seq its.toArray n }) (hf : f { cls := .type "list", data := .seq its.toArray n } = { cls := .type "list", data := .seq its'.toArray n' }) (r : Vals ys its') (hz : ys.length ≤ sizeLine) (t : Nat) :
    Inv X pins σ (upd H p (.lst ys)) { s with heap := s.heap.update p f, toks := t } := by
  have e : (s.heap.update p f).get? p = some { cls := .type "list", data := .seq its'.toArray n' } := by
    rw [Heap.get?_update_self f ho (by rw [hf] <;> rfl), hf]
  refine I.write (x := p) (e := p) (by rw [h]; trivial) (.inl rfl) (fun b u hb q => (Heap.get?_update_other _ _ (Ne.symm hb)).trans q) ⟨_, e⟩ ?_
  exact ⟨hz, its', n', r, e⟩
def rSetL : V → V → V → Hp → (Hp → Prop) → Prop := fun o i v H Q => ∃ p xs k j, o = .ref p ∧ i = .int k ∧ H p = some (.lst xs) ∧ ixN xs.length k = some j ∧ Q (upd H p (.lst (xs.set j v)))
theorem set_list : PSet X rSetL := by
  intro pins s σ H o i v ov iv u Q I ro ri rv h
  obtain ⟨p, xs, k, j, rfl, rfl, hp, hj, q⟩ := h
  cases ro
  obtain ⟨t, rfl⟩ := ri
  obtain ⟨its, n, r, ho, hz⟩ := I.lst hp
  obtain ⟨h1, h2, h3, h4⟩ := ixN_seq hj
  have hl := r.length
  have hn := line63
  have I' : Inv X pins σ (upd H p (.lst (xs.set j v))) { s with heap := s.heap.update p (Obj.mapSeq (·.setIfInBounds j u)) } :=
    I.lstUpd hp ho (mapSeq_set its n j u) (r.set rv j) (by rw [List.length_set]; exact hz) s.toks
  by_cases h0 : 0 ≤ k
  · have hk : k.toNat = j := by
      rw [seqIndex_of h0 h4] at h1
      exact Option.some.inj h1
    exact PySem.W.ki_setAt ho h0 (by omega) (by rw [List.size_toArray, ← hl]; exact h4) (by rw [hk]; exact ⟨_, I', q⟩)
  · have hk : (k + (its.toArray.size : Int)).toNat = j := by
      rw [seqIndex_neg (by omega) h3] at h1
      rw [List.size_toArray, ← hl]
      exact Option.some.inj h1
    exact PySem.W.ki_setBack ho (by omega) (by rw [List.size_toArray, ← hl]; exact h3) (by omega) (by rw [hk]; exact ⟨_, I', q⟩)

/-! ### slices -/
/-- xs[lo:hi] of a list: a new list -/
def rSlL (K : PySem.W.Frag) : V → Option Int → Option Int → Hp → VK → Prop := fun x lo hi H Q => ∃ a xs, x = .ref a ∧ SqL K H a xs ∧ ∀ p, H p = none → Q (.ref p) (upd H p (.lst (cutV xs lo hi)))
/-! ### in, not in: flat items -/
def flatV : V → Bool
  | .non => true
  | .bl _ => true
  | .int _ => true
  | .str _ => true
  | _ => false
/-- == of flat values -/
def eqV : V → V → Bool
  | .non, .non => true
  | .bl a, .bl b => a == b
  | .bl a, .int b => (if a then 1 else 0) == b
  | .int a, .bl b => a == (if b then 1 else 0)
  | .int a, .int b => a == b
  | .str a, .str b => a == b
  | _, _ => false
/-- the items' answers, read off the values (a value's own answer does not lean on its token) -/
def eqU (x : V) (u : Value) : Bool := match u with
  | .none => eqV .non x
  | .bool b => eqV (.bl b) x
  | .int i _ => eqV (.int i) x
  | .str z _ => eqV (.str z) x
  | _ => false
def inV (x : V) (xs : List V) : Bool := xs.any fun y => eqV y x
/-- x in a list or tuple of flat items -/
def rIn (K : PySem.W.Frag) (neg : Bool) : R2 := fun x y H Q => ∃ p xs, y = .ref p ∧ (SqL K H p xs ∨ SqT K H p xs) ∧ flatV x = true ∧ xs.all flatV = true ∧ Q (.bl (if neg then !inV x xs else inV x xs)) H
theorem op_notIn_str : OpR X (compareOp .NotIn) (fun x y H Q => ∃ i j, x = .str i ∧ y = .str j ∧ Q (.bl (!(!(Builtin.Str.occurrences j i 0 j.length 1).isEmpty))) H) := by
  intro pins s σ H x y v u Q I rx ry h
  obtain ⟨i, j, rfl, rfl, q⟩ := h
  obtain ⟨t, rfl⟩ := rx
  obtain ⟨t', rfl⟩ := ry
  exact notIn_str ⟨.bl _, H, I, rfl, q⟩

/-! ### len, list(x), tuple(x) of any list or tuple that is read -/
theorem call_len_seq : CallR X (.builtin "len") (fun xs H Q => ∃ p ys, xs = [.ref p] ∧ (SqL X.K H p ys ∨ SqT X.K H p ys) ∧ Q (.int ys.length) H) := by
  intro pins s σ H xs us Q I r h
  obtain ⟨p, ys, rfl, hq, q⟩ := h
  obtain ⟨u, rfl, rx⟩ := vals1 r
  cases rx
  have hn := line63
  rcases hq with hq | hq
  · obtain ⟨its, r', pl, hz⟩ := I.list hq
    have hlen := r'.length
    exact Calls.call_len_list pl.isList (by simp only [List.size_toArray] <;> omega) ⟨.int ys.length, H, I.tok _, ⟨s.toks + 1, by rw [List.size_toArray, hlen]⟩, q⟩
  · obtain ⟨its, r', pl, hz⟩ := I.tuple hq
    have hlen := r'.length
    exact len_tuple pl (by simp only [List.size_toArray] <;> omega) ⟨.int ys.length, H, I.tok _, ⟨s.toks + 1, by rw [List.size_toArray, hlen]⟩, q⟩
theorem call_len_str : CallR X (.builtin "len") (fun xs H Q => ∃ z, xs = [.str z] ∧ z.length ≤ sizeLine ∧ Q (.int z.length) H) := by
  intro pins s σ H xs us Q I r h
  obtain ⟨z, rfl, hz, q⟩ := h
  obtain ⟨u, rfl, t, rfl⟩ := vals1 r
  have hn := line63
  exact len_str (by omega) ⟨.int z.length, H, I.tok _, ⟨_, rfl⟩, q⟩
theorem CallR.or {f : Value} {r r' : List V → Hp → VK → Prop} (h : CallR X f r) (h' : CallR X f r') : CallR X f (fun xs H Q => r xs H Q ∨ r' xs H Q) := by
  intro pins s σ H xs us Q I rs q
  rcases q with q | q
  · exact h pins s σ H xs us Q I rs q
  · exact h' pins s σ H xs us Q I rs q
/-! ### the call of a builtin's method: o.m(..) -/
/-- the value is of that builtin type -/
def tyV (K : PySem.W.Frag) (T : String) (x : V) (H : Hp) : Prop := match x with
  | .str _ => T = "str"
  | .int _ => T = "int"
  | .ref p => (T = "list" ∧ ∃ xs, SqL K H p xs) ∨ (T = "tuple" ∧ ∃ o, K.lookup p = some o ∧ o.cls = .type "tuple" ∧ o.dict = none) ∨
      (T = "dict" ∧ ((∃ kvs, H p = some (.dK kvs)) ∨ ∃ kvs, H p = some (.dT kvs))) ∨ (T = "set" ∧ ∃ S n, H p = some (.set S n))
  | _ => False
theorem tyV_is {pins : List (Addr × Obj)} {σ : St} {H : Hp} {s : Shared} {T : String} {x : V} {v : Value} (I : Inv X pins σ H s) (r : RelV x v) (ty : tyV X.K T x H) :
    s.TypeIs v T ∧ ∀ a, v = .ref a → ∃ ob, s.heap.get? a = some ob ∧ ob.dict = none := by
  cases x with
  | str z =>
    obtain ⟨t, rfl⟩ := r
    cases (show T = "str" from ty)
    exact ⟨typeIs_str s z t, fun _ e => nomatch e⟩
  | int i =>
    obtain ⟨t, rfl⟩ := r
    cases (show T = "int" from ty)
    exact ⟨typeIs_int s i t, fun _ e => nomatch e⟩
  | ref p =>
    cases r
    rcases ty with ⟨rfl, xs, hq⟩ | ⟨rfl, o, hk, hc, hd⟩ | ⟨rfl, hk⟩ | ⟨rfl, S, n, hk⟩
    · obtain ⟨its, _, pl, _⟩ := I.list hq
      refine ⟨pl.isList.typeIs, fun a e => ?_⟩
      cases e
      obtain ⟨o, n, e, c, hd, _⟩ := pl
      exact ⟨o, e, hd⟩
    · refine ⟨⟨o, I.kIn p o hk, hc⟩, fun a e => ?_⟩
      cases e
      exact ⟨o, I.kIn _ o hk, hd⟩
    · have z : ∃ o, s.heap.get? p = some o ∧ o.ExactDict := by
        rcases hk with ⟨kvs, hk⟩ | ⟨kvs, hk⟩
        · obtain ⟨_, _, _, _, o, _, _, e, ex, _⟩ := I.hok p _ hk
          exact ⟨o, e, ex⟩
        · obtain ⟨_, _, _, _, o, _, _, e, ex, _⟩ := I.hok p _ hk
          exact ⟨o, e, ex⟩
      obtain ⟨o, e, ex⟩ := z
      refine ⟨⟨o, e, ex.1⟩, fun a e2 => ?_⟩
      cases e2
      exact ⟨o, e, ex.2.1⟩
    · obtain ⟨o, _, _, _, e, ex, _⟩ := I.hok p _ hk
      refine ⟨⟨o, e, ex.1⟩, fun a e2 => ?_⟩
      cases e2
      exact ⟨o, e, ex.2.1⟩
  | _ => exact False.elim ty
def tBM0 (K : PySem.W.Frag) (T : String) (r : V → List V → Hp → VK → Prop) (to : TE) : TE := fun σ H Q => to σ H fun x H1 => tyV K T x H1 ∧ r x [] H1 Q
def tBM (K : PySem.W.Frag) (T : String) (r : V → List V → Hp → VK → Prop) (to : TE) (t : TA) : TE := fun σ H Q => to σ H fun x H1 => tyV K T x H1 ∧ t σ H1 fun xs H2 => r x xs H2 Q
variable {o e : Expr} {es : List Expr} {to : TE} {t : TA} {name : Str} {apos cpos : Pos} {T id : String} {r : V → List V → Hp → VK → Prop}
theorem pe_bm (pa : PlainAttrs T) (slot : Slot T name id) (hty : typeOf (.builtin id) = pure (.type "method_descriptor")) (hm : MtR X id r) (ho : PE X o to) (ha : PA X (e :: es) t)
    (hbase : attributeBase o name X.env (eval o X.env) = eval o X.env := by rfl)
    (hfew : ((backTo cpos (starEach (e :: es) X.env)).all (fun x => !x.1) && (backToKw cpos (keywordEach [] X.env)).all (fun x => x.1.isSome)
      && decide ((e :: es).length + ([] : List Keyword).length + (if ([] : List Keyword).isEmpty then 0 else 1) < 30)) = true := by rfl)
    (hline : (apos.endLine == cpos.line) = true := by rfl) (hs : starEach (e :: es) X.env = (false, eval e X.env) :: starEach es X.env := by rfl) (hplain : (backTo cpos (starEach es X.env)).any (·.1) = false := by rfl) :
    PE X (.Call (.Attribute o name apos) (e :: es) [] cpos) (tBM X.K T r to t) := by
  intro pins s σ H Q I h
  refine wpAny_Call_method_late hbase hfew hline rfl (thn (ho pins s σ H _ I h) fun v s1 ⟨x, H1, I1, r1, ty, q1⟩ => ?_)
  obtain ⟨h1, h2⟩ := tyV_is I1 r1 ty
  refine ⟨T, id, pa, slot, hty, h1, h2, ?_⟩
  have hA := ha cpos pins s1 σ H1 _ I1 q1
  rw [hs] at hA ⊢
  refine Calls.callWith_builtin (by show (false || (backTo cpos (starEach es X.env)).any (·.1)) = false; rw [hplain] <;> rfl) (Calls.evalArgs_plain ?_)
  exact thn hA fun us s2 ⟨vs, H2, I2, r2, q2⟩ => hm pins s2 σ H2 x vs v us Q I2 r1 r2 q2
/- xs.append(e), list.index on a module's tuple .. are MtR facts of 06m -/
end
end L2

namespace L2
open PySem PySem.Spec PyProof.Rows

def MtM (X : Cx) (id : String) (r : V → List V → Hp → VK → Prop) : Prop :=
  ∀ (pins : List (Addr × Obj)) (s : Shared) (σ : St) (H : Hp) (x : V) (xs : List V) (v : Value) (us : List Value) (Q : VK), Inv X pins σ H s → RelV x v → Vals xs us → r x xs H Q →
    wpAny (model X.prog X.w) X.A (call (.builtin id) (v :: us)) (EP X pins σ Q) X.xe s

/-! ### lists of values -/
theorem Vals.one : ∀ {x : V} {us : List Value}, Vals [x] us → ∃ u, us = [u] ∧ RelV x u
  | _, _, .cons r .nil => ⟨_, rfl, r⟩
theorem Vals.two : ∀ {x y : V} {us : List Value}, Vals [x, y] us → ∃ u v, us = [u, v] ∧ RelV x u ∧ RelV y v
  | _, _, _, .cons r (.cons q .nil) => ⟨_, _, rfl, r, q⟩
theorem Vals.zero : ∀ {us : List Value}, Vals [] us → us = []
  | _, .nil => rfl
theorem Vals.dropLast {xs : List V} {us : List Value} (h : Vals xs us) : Vals xs.dropLast us.dropLast := by
  induction h with
  | nil => exact .nil
  | cons r t ih =>
    cases t with
    | nil => exact .nil
    | cons q t' => exact .cons r ih
theorem Vals.eraseIdx : ∀ {xs : List V} {us : List Value} (i : Nat), Vals xs us → Vals (xs.eraseIdx i) (us.eraseIdx i)
  | _, _, _, .nil => .nil
  | _, _, 0, .cons _ t => t
  | _, _, i + 1, .cons r t => .cons r (Vals.eraseIdx i t)
theorem Vals.reverse {xs : List V} {us : List Value} (h : Vals xs us) : Vals xs.reverse us.reverse := by
  induction h with
  | nil => exact .nil
  | cons r t ih => rw [List.reverse_cons, List.reverse_cons]; exact Vals.append ih (.cons r .nil)
section
variable {X : Cx} {pins : List (Addr × Obj)} {σ : St} {H : Hp} {s : Shared} {l b : Addr} {xs ys zs : List V}

/-! ### the two steps: a tracked list is rewritten, a new list is laid -/
theorem Inv.lset {its its' : List Value} {n : Nat} {f : Array Value → Array Value} {t' : Nat} (I : Inv X pins σ H s) (hH : H l = some (.lst xs))
    (e : s.heap.get? l = some { cls := .type "list", data := .seq its.toArray n }) (hf : f its.toArray = its'.toArray) (hv : Vals ys its') (hz : ys.length ≤ sizeLine) :
    Inv X pins σ (upd H l (.lst ys)) { s with heap := s.heap.update l (Obj.mapSeq f), toks := t' } := by
  have q := PySem.IsL.update e f
  rw [hf] at q
  refine I.write (x := l) (e := l) (by rw [hH]; exact trivial) (.inl rfl) (fun b' u hb hu => (Heap.get?_update_other s.heap (Obj.mapSeq f) (Ne.symm hb)).trans hu) ⟨_, q⟩ ?_
  exact ⟨hz, its', _, hv, q⟩
theorem Inv.lnew {its : List Value} {t' : Nat} (I : Inv X pins σ H s) (hv : Vals ys its) (hz : ys.length ≤ sizeLine) :
    Inv X pins σ (upd H s.heap.objs.size (.lst ys)) { s with heap := s.heap.push { cls := .type "list", data := .seq its.toArray }, toks := t' } :=
  I.laid (fun _ _ q => Heap.get?_push_of_some _ q) (Nat.le_refl _) ⟨hz, its, 0, hv, Heap.get?_push_size _ rfl⟩
theorem Inv.fresh (I : Inv X pins σ H s) : H s.heap.objs.size = none := I.hok.fresh (Nat.le_refl _)
theorem Inv.lstM (I : Inv X pins σ H s) (hH : H l = some (.lst xs)) : xs.length ≤ sizeLine ∧ ∃ (its : List Value) (n : Nat), Vals xs its ∧ xs.length = its.length ∧ s.heap.get? l = some { cls := .type "list", data := .seq its.toArray n } := by
  obtain ⟨z, its, n, r, e⟩ := I.hok l _ hH
  exact ⟨z, its, n, r, r.length, e⟩

end

section
variable {X : Cx}

/-! ### methods -/
def rAppend : V → List V → Hp → VK → Prop := fun x vs H Q => ∃ l xs y, x = .ref l ∧ vs = [y] ∧ H l = some (.lst xs) ∧ xs.length < sizeLine ∧ Q .non (upd H l (.lst (xs ++ [y])))
theorem mt_append : MtM X "list.append" rAppend := by
  intro pins s σ H x vs v us Q I rx rv h
  obtain ⟨l, xs, y, rfl, rfl, hH, hz, q⟩ := h
  cases rx
  obtain ⟨u, rfl, ru⟩ := rv.one
  obtain ⟨z, its, n, r, hl, e⟩ := I.lstM hH
  refine call_meets F.slot_list_append ⟨_, e, rfl⟩ F.entry_list_append (F.args_list_append_2 _ _) (PySem.list_append l its.toArray n u (by rw [List.size_toArray]; omega)) ⟨e, ?_⟩
  refine ⟨.non, _, I.lset (its' := its ++ [u]) hH e (by simp) (r.append (.cons ru .nil)) ?_, rfl, q⟩
  rw [List.length_append, List.length_singleton]
  omega

def rExtend : V → List V → Hp → VK → Prop := fun x vs H Q => ∃ l b xs zs, x = .ref l ∧ vs = [.ref b] ∧ H l = some (.lst xs) ∧ H b = some (.lst zs) ∧ xs.length + zs.length ≤ sizeLine ∧ Q .non (upd H l (.lst (xs ++ zs)))
def rPop : V → List V → Hp → VK → Prop := fun x vs H Q => ∃ l xs y, x = .ref l ∧ vs = [] ∧ H l = some (.lst xs) ∧ xs[xs.length - 1]? = some y ∧ Q y (upd H l (.lst xs.dropLast))
def rPopAt : V → List V → Hp → VK → Prop := fun x vs H Q => ∃ l xs i k y, x = .ref l ∧ vs = [.int i] ∧ H l = some (.lst xs) ∧ -(2 ^ 63) ≤ i ∧ i < 2 ^ 63 ∧ seqIndex? i xs.length = some k ∧ xs[k]? = some y ∧ Q y (upd H l (.lst (xs.eraseIdx k)))
def rReverse : V → List V → Hp → VK → Prop := fun x vs H Q => ∃ l xs, x = .ref l ∧ vs = [] ∧ H l = some (.lst xs) ∧ Q .non (upd H l (.lst xs.reverse))
def rClear : V → List V → Hp → VK → Prop := fun x vs H Q => ∃ l xs, x = .ref l ∧ vs = [] ∧ H l = some (.lst xs) ∧ Q .non (upd H l (.lst []))
/-! ### list + list, list += list, list * int -/
def rCat : R2 := fun x y H Q => ∃ l b xs zs, x = .ref l ∧ y = .ref b ∧ H l = some (.lst xs) ∧ H b = some (.lst zs) ∧ xs.length + zs.length ≤ sizeLine ∧ ∀ p, H p = none → Q (.ref p) (upd H p (.lst (xs ++ zs)))
theorem op_cat : OpR X (binaryOp .Add) rCat := by
  intro pins s σ H x y v u Q I rx ry h
  obtain ⟨l, b, xs, zs, rfl, rfl, hH, hB, hz, q⟩ := h
  cases rx
  cases ry
  obtain ⟨z, its, n, r, hl, e⟩ := I.lstM hH
  obtain ⟨z2, its2, n2, r2, hl2, e2⟩ := I.lstM hB
  refine PySem.P.add_list e e2 ?_ (by rw [List.size_toArray, List.size_toArray]; omega)
  have ea : its.toArray ++ its2.toArray = (its ++ its2).toArray := by simp
  rw [ea]
  exact ⟨.ref _, _, I.lnew (t' := s.toks) (r.append r2) (by rw [List.length_append]; omega), rfl, q _ I.fresh⟩
/-- a list times an int (a negative one is nothing) -/
def rRep : R2 := fun x y H Q => ∃ l k xs, x = .ref l ∧ y = .int k ∧ H l = some (.lst xs) ∧ -(2 ^ 63) ≤ k ∧ k < 2 ^ 63 ∧ xs.length * k.toNat ≤ sizeLine ∧
  ∀ p, H p = none → Q (.ref p) (upd H p (.lst (List.replicate k.toNat xs).flatten))
/-! ### del xs[i] -/
end

/-! ### xs[a:b] = ys -/
section
variable {prog : Program} {w : World} {A : Around} {E : Value → Shared → Prop} {s : Shared}
end

section
variable {X : Cx}
end
end L2

namespace Att
open PySem PySem.W PySem.Calls PyProof.Rows

/-! ### the script -/
theorem ints_of_wellAll {P : Params} {h : Heap} : ∀ (ns : List Int) (vs : List Value), WellAll P h vs (ns.map WData.int) → IntsAre vs ns := by
  intro ns
  induction ns with
  | nil =>
    intro vs w
    rw [List.map_nil] at w
    cases w
    exact .nil
  | cons n ns ih =>
    intro vs w
    rw [List.map_cons] at w
    cases w with
    | cons a b =>
      cases a
      exact .cons _ _ (ih _ b)

theorem script_of {l : OpenLaw} {n : Nat} (hn : l.most = some n) {P : Params} {h : Heap} {args : List WData} {vals : List Value}
    (hpre : l.row.toRowW.claim.pre args = true) (hwl : WellAll P h vals args) :
    ∃ a vs ns, vals = [Value.ref a] ∧ args = [WData.list (ns.map WData.int)] ∧ h.get? a = some { cls := .type "list", data := .seq vs.toArray } ∧ IntsAre vs ns ∧ ns.length ≤ n := by
  have hsh : WShape.hasAll [] args [.list .int] = true := (pre_splitW hpre).1
  have hc : l.pre.holds [] { args := args } = true := (pre_splitW hpre).2
  obtain ⟨d, r, rfl, h1, h2⟩ := hasAllW_cons hsh
  obtain rfl := hasAllW_nil h2
  obtain ⟨xs, rfl, h3⟩ := hasW_list h1
  obtain ⟨ns, rfl⟩ := items_int h3
  have hlen : ns.length ≤ n := by
    unfold OpenLaw.pre at hc
    have h4 : (WTm.not (.lt (.lit (.int (n : Int))) (.len (.arg 0)))).holds [] { args := [.list (ns.map .int)] } = true := by
      have h4 := (holds_andW hc).1
      rw [hn] at h4
      exact h4
    have h5 := condW_of h4 (w_not (w_lt w_lit (w_len_list (w_arg rfl))))
    rw [List.length_map] at h5
    refine Nat.le_of_not_lt fun q => ?_
    have q' : (n : Int) < ((ns.length : Nat) : Int) := by omega
    first
      | (rw [decide_eq_true q'] at h5; exact absurd h5 (by decide))
      | (simp at h5; omega)
  cases hwl with
  | cons w1 w2 =>
    cases w2
    cases w1 with
    | list ho hall => exact ⟨_, _, ns, rfl, rfl, ho, ints_of_wellAll ns _ hall, hlen⟩

theorem post_true (l : OpenLaw) (args : List WData) : l.row.toRowW.claim.post args (.bool true) args = true :=
  postW_of (r := l.row.toRowW) (X := (true == true))
    (show WShape.has [] (.bool true) .bool = true by first | rfl | decide | simp [WShape.has, WShape.arms, WShape.armsAll])
    (show (WTm.eq .res (.lit (.bool true))).value [] { args := args, res := some (.bool true), after := args } = some (.bool (true == true)) from w_eq_bool (w_res rfl) w_lit) rfl

/-! ### the attachment: holds_open's last premise (the goal 'hc' behind k_head) from a wpAny of the law's body -/
/-- the same from a codeAny of the CALL (for a layer whose function contracts speak of calls) -/
theorem attach_call {l : OpenLaw} {n : Nat} {q : Program} {loose : List Str} {XP : (Str → Option Value) → Heap → Prop} {YP : World → Heap → Prop} {d : DefRec}
    (hn : l.most = some n) (hdf : d.params.defaults = [])
    (call : ∀ (w : World) (s₀ s₁ : Shared) (mg mb : Str → Option Value) (fa : Addr) (o : Obj) (pm cd doc : Value) (a : Addr) (vs : List Value) (ns : List Int),
      Ground q loose [] XP w s₀ mg mb s₁.heap → YP w s₁.heap →
      s₁.heap.get? fa = some o → o.data = .func (docDef d.name d.params d.body d.scope pm cd doc) → s₁.heap.CodeRec cd d.name → mg d.name = some (.ref fa) →
      s₁.heap.get? a = some { cls := .type "list", data := .seq vs.toArray } → IntsAre vs ns → ns.length ≤ n → s₁.gens = #[] →
      codeAny (model l.prog w) callerA (.call (.ref fa) ⟨[.ref a], []⟩) (fun r s' => r = .ok (.ret (.bool true)) ∧ OldK s₁.heap s'.heap ∧ s'.os = s₁.os ∧ AllBare s'.gens) s₁) :
    WalkO q loose XP YP l.row.toRowW d [] (fun f vs => PySem.call f vs) := by
  intro w s₀ s₁ mg mb G Y fa o pm cd doc dV kV ho hd hcd hD hmg hg args vals as hpre hlay hrd hwl hlo
  obtain rfl : dV = .none := Dflts.none hD hdf
  obtain rfl : kV = .none := Dflts.noKw hD
  obtain ⟨a, vs, ns, rfl, rfl, hobj, hints, hlen⟩ := script_of hn hpre hwl
  refine enter_call (codeAny_mono (call w s₀ s₁ mg mb fa o pm cd doc a vs ns G Y ho (fd_plain hd) hcd hmg hobj hints hlen hg) fun r s' hq => ?_)
  obtain ⟨rfl, h2, h3, h4⟩ := hq
  exact ⟨.inl ⟨.bool true, .bool true, [], rfl, fun _ => rfl, .bool true, post_true l _, fun _ => ⟨List.Pairwise.nil, fun _ hm => (nomatch hm)⟩⟩, h2, h3, h4⟩

/-! ### rules over ANY heap (no ledger) from facts about the written part K: the library's own take a ledger (News) for what they write -/
section
variable {prog : Program} {w : World} {A : Around} {E : Value → Shared → Prop} {s : Shared} {K : Frag}

/-! the whole heap as the ledger: makes every rule that writes through a ledger a rule over any heap -/
def noObjs (h : Heap) : Heap := { h with objs := #[] }
def ledger (h : Heap) (L d : Addr) : List (Addr × Obj) := (List.range h.objs.size).filterMap fun a => if a = L ∨ a = d then none else (h.get? a).map fun o => (a, o)
end
end Att

namespace L2
open PySem PySem.Spec PyProof.Rows

theorem vals_ints : ∀ {vs : List Value} {ns : List Int}, IntsAre vs ns → Vals (ns.map V.int) vs
  | _, _, .nil => .nil
  | _, _, .cons n t h => .cons ⟨t, rfl⟩ (vals_ints h)

/-- nothing is tracked but the script, known to the object (or it is an object of the module) -/
def Only (H : Hp) : Prop := ∀ b, H b = none ∨ ∃ o xs, H b = some (.frz o (.lst xs))

/-- THE HEAD: the law's promise, at the heap behind the top. F, the promise of the law's def, may use that base is part of the heap (so K.In base, base.Ns mainGlobals mg stand in Mod) -/
theorem law_call {P : Program} {w : World} {K : PySem.W.Frag} {mg mb : Str → Option Value} {CX : CXT} {k : Nat} {fa a : Addr} {fd : FuncData} {x : Str} {sp : Sp} {s₁ : Shared} {vs : List Value} {ns : List Int}
    (KX : K.In s₁.heap) (hns : s₁.heap.Ns mainGlobals mg) (hb : s₁.heap.Ns builtinsNs mb) (hbb : ∀ x : Str, x ≠ "__name__" → mb x = bootBuiltins x) (hlim : s₁.heap.NoLimit) (hg : s₁.gens = #[])
    (ha : s₁.heap.get? a = some { cls := .type "list", data := .seq vs.toArray }) (hi : IntsAre vs ns) (hl : ns.length ≤ sizeLine) (hr : Room k callerA)
    (F : ∀ base : Heap, K.In base → base.Ns mainGlobals mg → FnOk P w K mg base CX k fa fd [x] sp) (hbind : ∀ (s : Shared) (u : Value), BindsTo s fd ⟨[u], []⟩ [(x, u)])
    (hsp : ∀ H : Hp, Only H → SqL K H a (ns.map V.int) → sp [.ref a] H (fun v _ => v = .bl true) fun _ _ _ => False)
    (hCX : ∀ H e s', CX [] H s₁ (fun _ _ _ => False) e s' → False) :
    codeAny (model P w) callerA (.call (.ref fa) ⟨[.ref a], []⟩) (fun r s' => r = .ok (.ret (.bool true)) ∧ OldK s₁.heap s'.heap ∧ s'.os = s₁.os ∧ AllBare s'.gens) s₁ := by
  have rv := vals_ints hi
  have lenV := hi.length
  -- from an abstract heap in which nothing but the script may be tracked
  have core : ∀ H : Hp, Only H → SqL K H a (ns.map V.int) → HOk P w H s₁.heap → (∀ b, H b ≠ none → b = a) → (H a ≠ none → K.lookup a = none) →
      codeAny (model P w) callerA (.call (.ref fa) ⟨[.ref a], []⟩) (fun r s' => r = .ok (.ret (.bool true)) ∧ OldK s₁.heap s'.heap ∧ s'.os = s₁.os ∧ AllBare s'.gens) s₁ := by
    intro H hO hS hok hA hK
    have base_of : ∀ {b : Addr} {o : Obj}, s₁.heap.get? b = some o → H b = none → (hidT s₁.heap H).get? b = some o := fun e n => hidT_get e n
    have noA : ∀ {b : Addr} {o : Obj} {es : Array DictEntry} {ep : Nat}, s₁.heap.get? b = some o → o.data = .dict es ep → H b = none := fun {b o es ep} e d => by
      cases q : H b with
      | none => rfl
      | some u =>
        have e' : b = a := hA b (by rw [q]; simp)
        subst e'
        rw [ha] at e; cases e
        have d' : Data.seq vs.toArray _ = Data.dict es ep := d
        cases d'
    have nsK : ∀ {b : Addr} {m : Str → Option Value}, s₁.heap.Ns b m → (hidT s₁.heap H).Ns b m := fun {b m} ⟨o, es, ep, e, d, r⟩ => ⟨o, es, ep, base_of e (noA e d), d, r⟩
    have hKb : K.In (hidT s₁.heap H) := fun b o e => base_of (KX b o e) (by
      cases q : H b with
      | none => rfl
      | some u =>
        have e' : b = a := hA b (by rw [q]; simp)
        subst e'
        rw [hK (by rw [q]; simp)] at e; cases e)
    have hM : Mod K mg (hidT s₁.heap H) := ⟨hKb, nsK hns, ⟨mb, nsK hb, hbb⟩, let ⟨mc, h1, h2⟩ := hlim; ⟨mc, nsK h1, h2⟩⟩
    have e0 : Env0 P w K mg (hidT s₁.heap H) callerA [] s₁ H := ⟨rfl, hM, fun b o e => of_hidT e, Nat.le_of_eq (hidT_size _ _), trivial, fun b hb => absurd (show b ∈ ([] : List Addr) from hb) (by simp), hok, .of_eq hg⟩
    refine codeAny_mono ((F _ hKb (nsK hns)).run callerA [] s₁ H ⟨[.ref a], []⟩ [.ref a] [.ref a] _ _ hr e0 (hbind s₁ (.ref a)) (.cons rfl .nil) (hsp H hO hS)) fun r s' h => ?_
    cases r with
    | error e => exact (hCX H e s' h).elim
    | ok fl =>
      cases fl with
      | next => exact False.elim h
      | brk => exact False.elim h
      | cont => exact False.elim h
      | ret u =>
        obtain ⟨v, H', os, bare, un, hok', r', q⟩ := h
        have q' : v = .bl true := q
        subst q'
        obtain rfl : u = Value.bool true := r'
        refine ⟨rfl, OldK.of_keep fun b o e => ?_, os, bare⟩
        cases q : H b with
        | none => exact un.keep b o e q (by intro z; exact absurd (show b ∈ ([] : List Addr) from z) (by simp)) (by simp)
        | some u =>
          rcases hO b with z | ⟨ob, xs, z⟩
          · rw [q] at z; cases z
          · have z2 := un.frzs b ob _ z
            obtain ⟨e1, _⟩ := hok b _ z
            obtain ⟨e2, _⟩ := hok' b _ z2
            rw [e] at e1; cases e1
            exact e2
  cases hk : K.lookup a with
  | some o =>
    -- the script is one of the module's own objects
    have e := KX a o hk
    rw [ha] at e
    cases e
    refine core (fun _ => none) (fun _ => .inl rfl) (.inr ⟨_, vs.toArray, _, hk, rfl, rfl, rfl, by rw [List.size_toArray, lenV]; exact hl, by simpa using rv⟩) (fun b u z => by have z' : (none : Option HO) = some u := z; cases z') (fun b z => absurd rfl z) fun z => absurd rfl z
  | none =>
    refine core (fun b => if b = a then some (.frz { cls := .type "list", data := .seq vs.toArray } (.lst (ns.map V.int))) else none) (fun b => ?_) (.inl (.inr ⟨{ cls := .type "list", data := .seq vs.toArray }, if_pos rfl⟩)) (fun b u z => ?_) (fun b z => ?_) fun _ => hk
    · by_cases hb : b = a
      · exact .inr ⟨_, _, if_pos hb⟩
      · exact .inl (if_neg hb)
    · by_cases hb : b = a
      · have z' := (if_pos hb).symm.trans z
        cases z'
        subst hb
        exact ⟨ha, by rw [List.length_map]; exact hl, vs, _, rv, ha⟩
      · have z' := (if_neg hb).symm.trans z
        cases z'
    · by_cases hb : b = a
      · exact hb
      · exact absurd (if_neg hb) z
end L2

namespace L2
open PySem PySem.Spec PyProof.Rows

abbrev KOf {K : PySem.W.Frag} {h : Heap} (_ : K.In h) : PySem.W.Frag := K

/-- the goal that k_head leaves (case hc), from the law's promise. F gives the function object fd (K's own) once, then the promise over every base -/
theorem walk_of {l : PySem.W.OpenLaw} {n k : Nat} {q : Program} {loose : List Str} {XP : (Str → Option Value) → Heap → Prop} {YP : World → Heap → Prop} {d : DefRec} {K : Params → PySem.W.Frag} {CX : World → CXT} {sp : World → Sp} {x : Str}
    (hn : l.most = some n) (hn2 : n ≤ sizeLine) (hdf : d.params.defaults = []) (hr : Room k callerA)
    (hY : ∀ (w : World) (h : Heap), YP w h → (K w.params).In h)
    (F : ∀ (w : World) (mg : Str → Option Value) (fa : Addr) (h : Heap), (K w.params).In h → h.Ns mainGlobals mg → mg d.name = some (.ref fa) →
      ∃ fd : FuncData, (∀ (s : Shared) (u : Value), BindsTo s fd ⟨[u], []⟩ [(x, u)]) ∧
        ∀ base : Heap, (K w.params).In base → base.Ns mainGlobals mg → FnOk l.prog w (K w.params) mg base (CX w) k fa fd [x] (sp w))
    (hsp : ∀ (w : World) (H : Hp) (a : Addr) (ns : List Int), ns.length ≤ n → Only H → SqL (K w.params) H a (ns.map V.int) → sp w [.ref a] H (fun v _ => v = .bl true) fun _ _ _ => False)
    (hCX : ∀ (w : World) (H : Hp) (s : Shared) (e : Value) (s' : Shared), CX w [] H s (fun _ _ _ => False) e s' → False) :
    PySem.W.WalkO q loose XP YP l.row.toRowW d [] (fun f vs => PySem.call f vs) := by
  refine Att.attach_call hn hdf fun w s₀ s₁ mg mb fa o pm cd doc a vs ns G Y ho hd hcd hmg hobj hints hlen hg => ?_
  have KX := hY w _ Y
  obtain ⟨fd, hb, hF⟩ := F w mg fa _ KX G.T.g hmg
  exact law_call KX G.T.g G.T.b G.T.builtins G.T.nolimit hg hobj hints (Nat.le_trans hlen hn2) hr hF hb (fun H hO hS => hsp w H a ns hlen hO hS) fun H e s' => hCX w H s₁ e s'
end L2

/- THE LAST THEOREM (shape; LID, My.* are yours):
   My.Adr: a structure of the addresses that your layer names (classes, functions); My.Txt K t: a structure (Prop) of the equations over K;
   My.txt_mk : {K} {implicit addresses ..} (e1 : nsIn K mainGlobals "law" = some (some (.ref f))) (e2 : K.lookup f = some ⟨oc, od, .func (fnOf "law" "law" params body scope dV kV doc pm an cdv ct), sl⟩) (e3 : codeIn K cdv "law" = true) .. : ∃ t, My.Txt K t

set_option maxRecDepth 100000 in
set_option maxHeartbeats 0 in
theorem PySem.Challenge.cw_LID_holds : PySem.Challenge.rw_LID.Holds := by
  w_on; o_law; k_head; (case hw => w_witness2)
  k_fill
  refine L2.walk_of (l := PySem.Challenge.rw_LID) (n := 63) (k := 40) (x := "script") (CX := fun w => ..) (sp := fun _ => My.sp_law) rfl (by decide) rfl ⟨rfl, by decide, by decide⟩ (fun w h Y => PySem.W.kIn_of Y) ?F ?S ?C
  case F =>
    intro w mg fa h KX G hmg
    have T : ∃ t, My.Txt (L2.KOf KX) t := by
      dsimp only [L2.KOf]                          -- K must stand as «<heap const> w.params» for k_is
      refine' My.txt_mk ?e1 ?e2 ?e3 ..
      (case e1 => PySem.W.k_is)                    -- in the order: a name -> its address -> its object -> its parts
      (case e2 => PySem.W.k_is)
      ..
    obtain ⟨t, T⟩ := T
    have e0 := hmg.symm.trans (PySem.W.mg_of KX G T.law)
    cases e0                                       -- fa is the law's own address
    exact ⟨_, fun s u => .of_eq rfl, fun base kb nb => My.law_fn T kb nb⟩     -- if «.of_eq rfl» comes too early: refine' ⟨_, ?b, fun base kb nb => My.law_fn T kb nb⟩; exact fun s u => .of_eq rfl
  case S => exact fun w H a ns hl hO hS => ..
  case C => exact ..
(the tactic k_is has no namespace: write k_is) -/

/-! SHORT WORDS over the layer: a def of the text, its body, what a loop and a test want. -/
namespace L2
open PySem PySem.Spec PyProof.Rows

/-! ### the text by places -/
/-- the j-th statement of a class's body -/
def inClass (s : Stmt) (j : Nat) : Stmt := match s with
  | .ClassDef _ _ _ body _ _ _ _ _ _ _ => body.getD j (.Pass ⟨0, 0, 0, 0⟩)
  | _ => .Pass ⟨0, 0, 0, 0⟩
def defArgs (s : Stmt) : Arguments := match s with
  | .FunctionDef _ a _ _ _ _ _ _ _ _ => a
  | _ => { posonlyargs := [], args := [], vararg := none, kwonlyargs := [], kw_defaults := [], kwarg := none, defaults := [] }
def defBody (s : Stmt) : List Stmt := match s with
  | .FunctionDef _ _ b _ _ _ _ _ _ _ => b
  | _ => []
def defScope (s : Stmt) : Scope := match s with
  | .FunctionDef _ _ _ _ _ _ sc _ _ _ => sc
  | _ => { kind := .function, names := [], isGenerator := false, isCoroutine := false }

/-! ### no exception leaves a def -/
abbrev CX0 : CXT := fun _ _ _ _ _ _ => False
abbrev E0 : XK := fun _ _ _ => False
theorem pass0 {X : Cx} : Passes CX0 X E0 := fun _ _ _ _ _ _ _ h => h.elim

/-! ### a def (or method) of the text as it stands behind the top -/
structure Fun (K : PySem.W.Frag) (x qual : Str) (st : Stmt) (f : Addr) (fd : FuncData) : Prop where
  ex : ∃ (oc : Value) (od : Option Addr) (kV doc pm : Value) (an : Option Addr) (cdv ct : Value) (osl : Array (Option Value)),
    fd = PySem.W.fnOf x qual (defArgs st) (defBody st) (defScope st) .none kV doc pm an cdv ct ∧ K.lookup f = some ⟨oc, od, .func fd, osl⟩ ∧ PySem.W.codeIn K cdv qual = true
  kp : PySem.W.keepIn K (.ref f) = true
section
variable {P : Program} {w : World} {K : PySem.W.Frag} {mg : Str → Option Value} {base : Heap}
/-- THE RULE for a def: its body as a term of rules, and the reading of that term -/
theorem Fun.ok {x qual : Str} {st : Stmt} {f : Addr} {fd : FuncData} {N ps : List Str} {k : Nat} {sp : Sp} (F : Fun K x qual st f fd) (S : FnScope N ps (defScope st)) (len : ∀ vs H Q E, sp vs H Q E → vs.length = ps.length)
    (hbody : ∀ (cdv : Value) (A : Around) (outer : List Env) (s : Shared) (H : Hp) (vs : List V) (Q : VK) (E : XK), Room k (A.deeper (envOfC qual (defScope st) s.heap.objs.size f cdv)) → sp vs H Q E →
      ∃ t, PSs (cxOf CX0 P w K mg base N qual (defScope st) f cdv A outer s H E).nox (defBody st) t ∧ t { nx := fun _ H' => Q .non H', rt := Q } (start N vs) H) : FnOk P w K mg base CX0 (k + 1) f fd ps sp := by
  obtain ⟨oc, od, kV, doc, pm, an, cdv, ct, osl, rfl, lk, hcd⟩ := F.ex
  refine fn_of lk hcd S len fun A outer s H vs Q E hr hsp => ?_
  obtain ⟨t, h, q⟩ := hbody cdv A outer s H vs Q E hr hsp
  exact ⟨t, h.nox, q⟩
/-- how its arguments bind (no defaults): h is «fun _ _ _ _ _ _ us hl => match us, hl with | [_, _], _ => rfl», one _ a parameter -/
theorem Fun.binds {x qual : Str} {st : Stmt} {f : Addr} {fd : FuncData} {ps : List Str} (F : Fun K x qual st f fd)
    (h : ∀ (kV doc pm : Value) (an : Option Addr) (cdv ct : Value) (us : List Value), us.length = ps.length → bindArgs (PySem.W.fnOf x qual (defArgs st) (defBody st) (defScope st) .none kV doc pm an cdv ct) ⟨us, []⟩ = pure (ps.zip us)) : Binds K fd ps [] := by
  obtain ⟨oc, od, kV, doc, pm, an, cdv, ct, osl, rfl, lk, hcd⟩ := F.ex
  exact .all (h kV doc pm an cdv ct)
theorem fun_mk {x qual : Str} {st : Stmt} {f : Addr} {oc : Value} {od an : Option Addr} {osl : Array (Option Value)} {kV doc pm cdv ct : Value} (l : K.lookup f = some ⟨oc, od, .func (PySem.W.fnOf x qual (defArgs st) (defBody st) (defScope st) .none kV doc pm an cdv ct), osl⟩)
    (c : PySem.W.codeIn K cdv qual = true) (k : PySem.W.keepIn K (.ref f) = true) : Fun K x qual st f (PySem.W.fnOf x qual (defArgs st) (defBody st) (defScope st) .none kV doc pm an cdv ct) := ⟨⟨oc, od, kV, doc, pm, an, cdv, ct, osl, rfl, l, c⟩, k⟩
end
theorem small1000 {n : Nat} (h : n ≤ 1000) : n < sizeLine := Nat.lt_of_le_of_lt h (by decide)

/-! ### expressions in short: the name that stands in the i-th slot -/
section
variable {X : Cx}
theorem pv (i : Nat) {x : Str} {pos : Pos} (hN : X.N[i]? = some x := by rfl) (hv : Vis X.env.scope x := by first | exact Or.inl rfl | exact Or.inr (Or.inl rfl) | exact Or.inr (Or.inr rfl)) (hd : (x == ("__debug__" : Str)) = false := by decide)
    (hcd : (x == ("__classdict__" : Str)) = false := by decide) : PE X (.Name x pos) (tVar i) := pe_var hN hv hd hcd
end

/-! ### tests -/
theorem iteF {A B : Prop} (h : B) : if false = true then A else B := by
  rw [if_neg Bool.false_ne_true]
  exact h
theorem iteT {A B : Prop} (h : A) : if true = true then A else B := by
  rw [if_pos rfl]
  exact h
theorem ite2 {c A B : Prop} [Decidable c] (h1 : c → A) (h2 : ¬ c → B) : if c then A else B := by
  by_cases h : c
  · rw [if_pos h]
    exact h1 h
  · rw [if_neg h]
    exact h2 h
/-! ### heaps -/
/-- all that was tracked is as it was -/
def Same (H H' : Hp) : Prop := ∀ b o, H b = some o → H' b = some o
theorem Same.refl (H : Hp) : Same H H := fun _ _ h => h
theorem Same.trans {H H1 H2 : Hp} (a : Same H H1) (b : Same H1 H2) : Same H H2 := fun c o h => b c o (a c o h)
theorem Same.free {H H' : Hp} (e : Same H H') {l : Addr} (h : H' l = Option.none) : H l = Option.none := by
  cases q : H l with
  | none => rfl
  | some o =>
    rw [e l o q] at h
    cases h
theorem Same.seq {K : PySem.W.Frag} {H H' : Hp} {a : Addr} {xs : List V} (e : Same H H') (h : SqL K H a xs) : SqL K H' a xs := by
  rcases h with (h | ⟨o, h⟩) | h
  · exact .inl (.inl (e _ _ h))
  · exact .inl (.inr ⟨o, e _ _ h⟩)
  · exact .inr h

end L2

set_option Elab.async false
set_option linter.all false
set_option maxRecDepth 100000
namespace L2
open PySem PySem.Spec PyProof.Rows

/-! ### lists of pairs as tables -/
section
variable {κ : Type} [DecidableEq κ]
def valV (kvs : List (κ × V)) (k : κ) : Option V := (kvs.find? fun kv => decide (kv.1 = k)).map (·.2)
/-- in its place, or at the end -/
def putK (kvs : List (κ × V)) (k : κ) (v : V) : List (κ × V) :=
  if (kvs.any fun kv => decide (kv.1 = k)) = true then kvs.map (fun kv => if kv.1 = k then (kv.1, v) else kv) else kvs ++ [(k, v)]
def dropK (kvs : List (κ × V)) (k : κ) : List (κ × V) := kvs.filter fun kv => decide (kv.1 ≠ k)

theorem valV_pos {p : κ × V} {r : List (κ × V)} {k : κ} (e : p.1 = k) : valV (p :: r) k = some p.2 := by simp [valV, List.find?_cons, e]
theorem valV_neg {p : κ × V} {r : List (κ × V)} {k : κ} (e : ¬ p.1 = k) : valV (p :: r) k = valV r k := by simp [valV, List.find?_cons, e]
theorem valV_any (k : κ) : ∀ kvs : List (κ × V), (kvs.any fun kv => decide (kv.1 = k)) = (valV kvs k).isSome
  | [] => rfl
  | p :: r => by
    rw [List.any_cons]
    by_cases e : p.1 = k
    · simp only [valV_pos e, decide_eq_true e, Bool.true_or, Option.isSome_some]
    · rw [valV_neg e, decide_eq_false e, Bool.false_or]; exact valV_any k r
theorem valV_map (k j : κ) (y : V) : ∀ kvs : List (κ × V), valV (kvs.map fun kv => if kv.1 = k then (kv.1, y) else kv) j = (valV kvs j).map fun x => if j = k then y else x
  | [] => rfl
  | p :: r => by
    have ih := valV_map k j y r
    rw [List.map_cons]
    by_cases h : p.1 = k
    · rw [if_pos h]
      by_cases e : p.1 = j
      · rw [valV_pos (p := (p.1, y)) e, valV_pos e, Option.map_some, if_pos (e.symm.trans h)]
      · rw [valV_neg (p := (p.1, y)) e, valV_neg e, ih]
    · rw [if_neg h]
      by_cases e : p.1 = j
      · rw [valV_pos (p := p) e, valV_pos e, Option.map_some, if_neg (fun z => h (e.trans z))]
      · rw [valV_neg (p := p) e, valV_neg e, ih]
theorem valV_snoc (k j : κ) (y : V) : ∀ kvs : List (κ × V), valV kvs k = none → valV (kvs ++ [(k, y)]) j = if j = k then some y else valV kvs j
  | [], _ => by
    by_cases e : k = j
    · rw [if_pos e.symm]; exact valV_pos (p := (k, y)) e
    · rw [if_neg (fun z => e z.symm)]; exact valV_neg (p := (k, y)) e
  | p :: r, hn => by
    rw [List.cons_append]
    have hk : ¬ p.1 = k := fun z => by rw [valV_pos z] at hn; cases hn
    rw [valV_neg hk] at hn
    have ih := valV_snoc k j y r hn
    by_cases e : p.1 = j
    · rw [valV_pos e, valV_pos e, if_neg (fun z => hk (e.trans z))]
    · rw [valV_neg e, valV_neg e, ih]
theorem valV_put (kvs : List (κ × V)) (k j : κ) (y : V) : valV (putK kvs k y) j = if j = k then some y else valV kvs j := by
  unfold putK
  by_cases a : (kvs.any fun kv => decide (kv.1 = k)) = true
  · rw [if_pos a, valV_map]
    rw [valV_any] at a
    by_cases e : j = k
    · obtain ⟨x, hx⟩ := Option.isSome_iff_exists.mp a
      rw [if_pos e, e, hx, Option.map_some, if_pos rfl]
    · rw [if_neg e]
      cases valV kvs j with
      | none => rfl
      | some x => rw [Option.map_some, if_neg e]
  · rw [if_neg a]
    refine valV_snoc k j y kvs ?_
    rw [valV_any] at a
    cases q : valV kvs k with
    | none => rfl
    | some x => rw [q] at a; exact (a rfl).elim
theorem length_putK (kvs : List (κ × V)) (k : κ) (v : V) : (putK kvs k v).length ≤ kvs.length + 1 := by
  unfold putK
  split
  · rw [List.length_map]; omega
  · rw [List.length_append, List.length_cons, List.length_nil]; omega
theorem RelO.isSome_eq {o : Option V} {u : Option Value} (r : RelO o u) : o.isSome = u.isSome := by
  cases o with
  | none => cases u with
    | none => rfl
    | some _ => exact (show False from r).elim
  | some _ => cases u with
    | none => exact (show False from r).elim
    | some _ => rfl
theorem RelO.getD {o : Option V} {u : Option Value} {d : V} {d' : Value} (r : RelO o u) (rd : RelV d d') : RelV (o.getD d) (u.getD d') := by
  cases o with
  | none => cases u with
    | none => exact rd
    | some _ => exact (show False from r).elim
  | some _ => cases u with
    | none => exact (show False from r).elim
    | some _ => exact r

/-- raw tables of the same keys -/
theorem KV.val {kvs : List (κ × V)} {vs : List (κ × Value)} (r : KV kvs vs) (k : κ) : RelO (valV kvs k) (valueAt vs k) := by
  unfold KV at r
  induction r with
  | nil => exact True.intro
  | @cons p q ps qs h t ih =>
    obtain ⟨h1, h2⟩ := h
    by_cases e : p.1 = k
    · have e' : q.1 = k := h1.symm.trans e
      have b : valueAt (q :: qs) k = some q.2 := by simp [valueAt, List.find?_cons, e']
      rw [valV_pos e, b]; exact h2
    · have e' : ¬ q.1 = k := fun z => e (h1.trans z)
      have b : valueAt (q :: qs) k = valueAt qs k := by simp [valueAt, List.find?_cons, e']
      rw [valV_neg e, b]; exact ih
theorem KV.any {kvs : List (κ × V)} {vs : List (κ × Value)} (r : KV kvs vs) (k : κ) : (kvs.any fun kv => decide (kv.1 = k)) = vs.any fun kv => decide (kv.1 = k) := by
  unfold KV at r
  induction r with
  | nil => rfl
  | cons h t ih => rw [List.any_cons, List.any_cons, ih, h.1]
theorem KV.repl {kvs : List (κ × V)} {vs : List (κ × Value)} (r : KV kvs vs) (k : κ) {y : V} {u : Value} (ry : RelV y u) :
    KV (kvs.map fun kv => if kv.1 = k then (kv.1, y) else kv) (vs.map fun kv => if kv.1 = k then (kv.1, u) else kv) := by
  unfold KV at r ⊢
  induction r with
  | nil => exact .nil
  | @cons p q ps qs h t ih =>
    rw [List.map_cons, List.map_cons]
    refine .cons ?_ ih
    obtain ⟨h1, h2⟩ := h
    by_cases e : p.1 = k
    · rw [if_pos e, if_pos (h1.symm.trans e)]; exact ⟨h1, ry⟩
    · rw [if_neg e, if_neg (fun z => e (h1.trans z))]; exact ⟨h1, h2⟩
theorem KV.put {kvs : List (κ × V)} {vs : List (κ × Value)} (r : KV kvs vs) (k : κ) {y : V} {u : Value} (ry : RelV y u) : KV (putK kvs k y) (stored vs k u) := by
  unfold putK stored
  rw [r.any k]
  by_cases e : (vs.any fun kv => decide (kv.1 = k)) = true
  · rw [if_pos e, if_pos e]; exact r.repl k ry
  · rw [if_neg e, if_neg e]; exact Paired.snoc r ⟨rfl, ry⟩
theorem KV.drop {kvs : List (κ × V)} {vs : List (κ × Value)} (r : KV kvs vs) (k : κ) : KV (dropK kvs k) (without vs k) := by
  unfold KV at r ⊢
  unfold dropK without
  induction r with
  | nil => exact .nil
  | @cons p q ps qs h t ih =>
    obtain ⟨h1, h2⟩ := h
    rw [List.filter_cons, List.filter_cons]
    by_cases e : p.1 = k
    · have a : ¬ decide (p.1 ≠ k) = true := by simp [e]
      have b : ¬ decide (q.1 ≠ k) = true := by simp [h1.symm.trans e]
      rw [if_neg a, if_neg b]; exact ih
    · have e' : ¬ q.1 = k := fun z => e (h1.trans z)
      have a : decide (p.1 ≠ k) = true := by simp [e]
      have b : decide (q.1 ≠ k) = true := by simp [e']
      rw [if_pos a, if_pos b]; exact .cons ⟨h1, h2⟩ ih
theorem KV.keys {kvs : List (κ × V)} {vs : List (κ × Value)} (r : KV kvs vs) : kvs.map (·.1) = vs.map (·.1) := by
  unfold KV at r
  induction r with
  | nil => rfl
  | cons h t ih => rw [List.map_cons, List.map_cons, ih, h.1]
theorem KV.length {kvs : List (κ × V)} {vs : List (κ × Value)} (r : KV kvs vs) : kvs.length = vs.length := Paired.length r
end


/-! ### a tracked dict, its keys ints and texts or tuples of these -/
/-- raw entries of a dict with tuple keys -/
abbrev KT (H : Hp) : List (List Key × V) → List (List Key × Addr × Value) → Prop := Paired fun p q => p.1 = q.1 ∧ H q.2.1 = some (.tup (p.1.map kV)) ∧ RelV p.2 q.2.2
theorem KT.val {H : Hp} {kvs : List (List Key × V)} {xs : List (List Key × Addr × Value)} (r : KT H kvs xs) (k : List Key) : RelO (valV kvs k) ((atKey xs k).map (·.2)) := by
  induction r with
  | nil => exact True.intro
  | @cons p q ps qs h t ih =>
    obtain ⟨h1, _, h2⟩ := h
    by_cases e : p.1 = k
    · have e' : q.1 = k := h1.symm.trans e
      have b : atKey (q :: qs) k = some q.2 := by simp [atKey, List.find?_cons, e']
      rw [valV_pos e, b]; exact h2
    · have e' : ¬ q.1 = k := fun z => e (h1.trans z)
      have b : atKey (q :: qs) k = atKey qs k := by simp [atKey, List.find?_cons, e']
      rw [valV_neg e, b]; exact ih
theorem KT.repl {H : Hp} {kvs : List (List Key × V)} {xs : List (List Key × Addr × Value)} (r : KT H kvs xs) (k : List Key) {y : V} {u : Value} (ry : RelV y u) :
    KT H (kvs.map fun kv => if kv.1 = k then (kv.1, y) else kv) (xs.map (putAt k u)) := by
  induction r with
  | nil => exact .nil
  | @cons p q ps qs h t ih =>
    rw [List.map_cons, List.map_cons]
    refine .cons ?_ ih
    obtain ⟨h1, h2, h3⟩ := h
    unfold putAt
    by_cases e : p.1 = k
    · rw [if_pos e, if_pos (h1.symm.trans e)]; exact ⟨h1, h2, ry⟩
    · rw [if_neg e, if_neg (fun z => e (h1.trans z))]; exact ⟨h1, h2, h3⟩
theorem KT.put {H : Hp} {kvs : List (List Key × V)} {xs : List (List Key × Addr × Value)} (r : KT H kvs xs) (k : List Key) {b : Addr} {y : V} {u : Value} (hb : H b = some (.tup (k.map kV))) (ry : RelV y u) :
    KT H (putK kvs k y) (storedH xs k b u) := by
  have e : (kvs.any fun kv => decide (kv.1 = k)) = (atKey xs k).isSome := by
    rw [valV_any, (r.val k).isSome_eq, Option.isSome_map]
  unfold putK storedH
  rw [e]
  by_cases q : (atKey xs k).isSome = true
  · rw [if_pos q, if_pos q]; exact r.repl k ry
  · rw [if_neg q, if_neg q]; exact Paired.snoc r ⟨rfl, hb, ry⟩
theorem KT.keeps {H H' : Hp} {kvs : List (List Key × V)} {xs : List (List Key × Addr × Value)} (r : KT H kvs xs) (ht : ∀ b ys, H b = some (.tup ys) → H' b = some (.tup ys)) : KT H' kvs xs :=
  Paired.mapP r fun _ _ z => ⟨z.1, ht _ _ z.2.1, z.2.2⟩

section
variable {P : Program} {w : World} {H : Hp} {h : Heap} {a : Addr}
end

/-- what the dict at a holds at the key y -/
def DGet (H : Hp) (a : Addr) (y : V) (r : Option V) : Prop :=
  (∃ kvs k, Rd H a (.dK kvs) ∧ y = kV k ∧ r = valV kvs k) ∨ ∃ kvs k b, Rd H a (.dT kvs) ∧ y = .ref b ∧ H b = some (.tup (k.map kV)) ∧ r = valV kvs k
/-- the heap behind a[y] = v -/
def DPut (H : Hp) (a : Addr) (y v : V) (H' : Hp) : Prop :=
  (∃ kvs k, H a = some (.dK kvs) ∧ y = kV k ∧ kvs.length < sizeLine ∧ H' = upd H a (.dK (putK kvs k v))) ∨
  ∃ kvs k b, H a = some (.dT kvs) ∧ y = .ref b ∧ H b = some (.tup (k.map kV)) ∧ kvs.length < sizeLine ∧ H' = upd H a (.dT (putK kvs k v))
theorem DGet.k {H : Hp} {a : Addr} {kvs : List (Key × V)} {k : Key} (e : H a = some (.dK kvs)) : DGet H a (kV k) (valV kvs k) := .inl ⟨kvs, k, .inl e, rfl, rfl⟩
theorem DGet.t {H : Hp} {a b : Addr} {kvs : List (List Key × V)} {k : List Key} (e : H a = some (.dT kvs)) (eb : H b = some (.tup (k.map kV))) : DGet H a (.ref b) (valV kvs k) := .inr ⟨kvs, k, b, .inl e, rfl, eb, rfl⟩
theorem DPut.k {H : Hp} {a : Addr} {kvs : List (Key × V)} {k : Key} {v : V} (e : H a = some (.dK kvs)) (hl : kvs.length < sizeLine) : DPut H a (kV k) v (upd H a (.dK (putK kvs k v))) := .inl ⟨kvs, k, e, rfl, hl, rfl⟩
theorem DPut.t {H : Hp} {a b : Addr} {kvs : List (List Key × V)} {k : List Key} {v : V} (e : H a = some (.dT kvs)) (eb : H b = some (.tup (k.map kV))) (hl : kvs.length < sizeLine) :
    DPut H a (.ref b) v (upd H a (.dT (putK kvs k v))) := .inr ⟨kvs, k, b, e, rfl, eb, hl, rfl⟩


section
variable {X : Cx} {pins : List (Addr × Obj)} {σ : St} {H : Hp} {s : Shared} {a : Addr} {y v : V} {u r : Value} {o : Option V} {A : Around} {E : Value → Shared → Prop}

end

section
variable {X : Cx} {pins : List (Addr × Obj)} {σ : St} {H : Hp} {s : Shared} {a : Addr} {kvs : List (Key × V)} {k : Key} {u : Value} {A : Around} {E : Value → Shared → Prop}
end


/-! ### readings and rules -/
/-- the element of a subscription, not a slice -/
def NoSl (i : Expr) : Prop := ∀ ov iv, subscripted i false ov iv = operate [ov, iv] (getItem ov iv)
/-- d[y] -/
def tDGet (td ty : TE) : TE := fun σ H Q => td σ H fun x H1 => ty σ H1 fun y H2 => ∃ a v, x = .ref a ∧ DGet H2 a y (some v) ∧ Q v H2
/-- y in d, y not in d -/
def tDIn (ty td : TE) : TE := fun σ H Q => ty σ H fun y H1 => td σ H1 fun x H2 => ∃ a o, x = .ref a ∧ DGet H2 a y o ∧ Q (.bl o.isSome) H2
def tDNotIn (ty td : TE) : TE := fun σ H Q => ty σ H fun y H1 => td σ H1 fun x H2 => ∃ a o, x = .ref a ∧ DGet H2 a y o ∧ Q (.bl (!o.isSome)) H2
/-- d[y] = v -/
def sDPut (td ty tv : TE) : TS := fun D σ H => tv σ H fun v H1 => td σ H1 fun x H2 => ty σ H2 fun y H3 => ∃ a H4, x = .ref a ∧ DPut H3 a y v H4 ∧ D.nx σ H4
/-- d[y] op= v -/
def sDAug (td ty tv : TE) (rd : V → V → Hp → VK → Prop) : TS := fun D σ H => td σ H fun x H1 => ty σ H1 fun y H2 => ∃ a v, x = .ref a ∧ DGet H2 a y (some v) ∧
  tv σ H2 fun y2 H3 => rd v y2 H3 fun z H4 => ∃ H5, DPut H4 a y z H5 ∧ D.nx σ H5
/-- del d[y] -/
def sDDel (td ty : TE) : TS := fun D σ H => td σ H fun x H1 => ty σ H1 fun y H2 => ∃ a kvs k, x = .ref a ∧ H2 a = some (.dK kvs) ∧ y = kV k ∧ (valV kvs k).isSome = true ∧ D.nx σ (upd H2 a (.dK (dropK kvs k)))

section
variable {X : Cx} {o i e value : Expr} {pos pos' tpos : Pos} {td ty tv : TE}
end


/-! ### displays -/
/-- {}, to be a dict of the kind that is wanted -/
def tDNewK : TE := fun _ H Q => ∀ p, H p = none → Q (.ref p) (upd H p (.dK []))
def tDNewT : TE := fun _ H Q => ∀ p, H p = none → Q (.ref p) (upd H p (.dT []))
section
variable {X : Cx} {pos : Pos}
end

/-- the pairs of a display, from the left -/
def tPairs : List (TE × TE) → St → Hp → (List (V × V) → Hp → Prop) → Prop
  | [], _, H, Q => Q [] H
  | (tk, tv) :: r, σ, H, Q => tk σ H fun x H1 => tv σ H1 fun y H2 => tPairs r σ H2 fun ps H3 => Q ((x, y) :: ps) H3
abbrev VV : List (V × V) → List (Value × Value) → Prop := Paired fun p q => RelV p.1 q.1 ∧ RelV p.2 q.2
def PPs (X : Cx) (pos : Pos) (keys : List (Option Expr)) (values : List Expr) (trs : List (TE × TE)) : Prop :=
  ∀ (pins : List (Addr × Obj)) (s : Shared) (σ : St) (H : Hp) (Q : List (V × V) → Hp → Prop), Inv X pins σ H s → tPairs trs σ H Q →
    wpAny (model X.prog X.w) X.A (evalPairs (pairTrees keys values X.env pos)) (fun vs s' => ∃ ps H', Inv X pins σ H' s' ∧ VV ps vs ∧ Q ps H') X.xe s
def mergeK (kvs more : List (Key × V)) : List (Key × V) := more.foldl (fun acc kv => putK acc kv.1 kv.2) kvs
/-- {k: v, ..} with keys ints and texts; the new dict stands empty while the pairs are made -/
def tDisp (trs : List (TE × TE)) : TE := fun σ H Q => ∀ p, H p = none → tPairs trs σ (upd H p (.dK [])) fun ps H2 => H2 p = some (.dK []) ∧ ∃ kvs : List (Key × V), ps = kvs.map (fun kv => (kV kv.1, kv.2)) ∧ kvs.length ≤ 15 ∧ Q (.ref p) (upd H2 p (.dK (mergeK [] kvs)))
/-! ### methods -/
/-- a method call o.m(e) of a built-in, with one argument: what must be seen of the text -/
structure M1 (X : Cx) (o : Expr) (m : Str) (apos : Pos) (e : Expr) (cpos : Pos) : Prop where
  base : attributeBase o m X.env (eval o X.env) = eval o X.env
  few : ((backTo cpos (starEach [e] X.env)).all (fun x => !x.1) && (backToKw cpos (keywordEach [] X.env)).all (fun x => x.1.isSome)
    && decide (([e] : List Expr).length + ([] : List Keyword).length + (if ([] : List Keyword).isEmpty then 0 else 1) < 30)) = true
  line : (apos.endLine == cpos.line) = true
  trees : backTo cpos (starEach [e] X.env) = [(false, eval e X.env)]
structure M2 (X : Cx) (o : Expr) (m : Str) (apos : Pos) (e f : Expr) (cpos : Pos) : Prop where
  base : attributeBase o m X.env (eval o X.env) = eval o X.env
  few : ((backTo cpos (starEach [e, f] X.env)).all (fun x => !x.1) && (backToKw cpos (keywordEach [] X.env)).all (fun x => x.1.isSome)
    && decide (([e, f] : List Expr).length + ([] : List Keyword).length + (if ([] : List Keyword).isEmpty then 0 else 1) < 30)) = true
  line : (apos.endLine == cpos.line) = true
  trees : backTo cpos (starEach [e, f] X.env) = [(false, eval e X.env), (false, eval f X.env)]

/-- a is a dict, whatever its keys -/
def IsD (H : Hp) (a : Addr) : Prop := (∃ kvs, Rd H a (.dK kvs)) ∨ ∃ kvs, Rd H a (.dT kvs)
section
variable {X : Cx} {pins : List (Addr × Obj)} {σ : St} {H : Hp} {s : Shared} {a : Addr} {y d : V} {u r : Value} {o : Option V} {A : Around} {E : Value → Shared → Prop}
end

def tDGet1 (td ty : TE) : TE := fun σ H Q => td σ H fun x H1 => ∃ a, x = .ref a ∧ IsD H1 a ∧ ty σ H1 fun y H2 => ∃ o, DGet H2 a y o ∧ Q (o.getD .non) H2
def tDGet2 (td ty tx : TE) : TE := fun σ H Q => td σ H fun x H1 => ∃ a, x = .ref a ∧ IsD H1 a ∧ ty σ H1 fun y H2 => tx σ H2 fun z H3 => ∃ o, DGet H3 a y o ∧ Q (o.getD z) H3
/-- d.pop(k): there; d.pop(k, x): there or not -/
def tDPop1 (td ty : TE) : TE := fun σ H Q => td σ H fun x H1 => ∃ a, x = .ref a ∧ IsD H1 a ∧ ty σ H1 fun y H2 => ∃ kvs k v, H2 a = some (.dK kvs) ∧ y = kV k ∧ valV kvs k = some v ∧ Q v (upd H2 a (.dK (dropK kvs k)))
def tDPop2 (td ty tx : TE) : TE := fun σ H Q => td σ H fun x H1 => ∃ a, x = .ref a ∧ IsD H1 a ∧ ty σ H1 fun y H2 => tx σ H2 fun z H3 => ∃ kvs k, H3 a = some (.dK kvs) ∧ y = kV k ∧
  (∀ v, valV kvs k = some v → Q v (upd H3 a (.dK (dropK kvs k)))) ∧ (valV kvs k = none → Q z H3)
section
variable {X : Cx} {o e f : Expr} {apos cpos : Pos} {td ty tx : TE}
end

/-! ### dict(d): a copy -/
section
variable {X : Cx} {pins : List (Addr × Obj)} {σ : St} {H : Hp} {s : Shared} {a : Addr} {kvs : List (Key × V)} {A : Around} {E : Value → Shared → Prop}
end


section
variable {X : Cx} {pins : List (Addr × Obj)} {σ : St} {H : Hp} {s : Shared} {a : Addr} {y : V} {u : Value} {A : Around} {E : Value → Shared → Prop}
end
end L2
namespace L2
open PySem PySem.Spec PyProof.Rows
section
variable {X : Cx}
end
section
variable {κ : Type} [DecidableEq κ]
end
end L2

set_option Elab.async false
set_option linter.all false
set_option maxRecDepth 100000
namespace L2
open PySem PySem.Spec PyProof.Rows
section
variable {X : Cx}
/-! ### more of ints -/
theorem op_mulB : OpR X (binaryOp .Mult) (rI IntMulOk fun i j => .int (i * j)) := opI fun _ _ _ _ _ _ _ hc q => mul_int q hc
def CDivB (_i j : Int) : Prop := 0 < j ∧ j.natAbs.log2 < 9000
theorem op_fdivB : OpR X (binaryOp .FloorDiv) (rI CDivB fun i j => .int (i / j)) := opI fun i j _ _ _ _ _ hc q => by
  have h1 : (0 : Int) < j := hc.1
  exact floordiv_int (by omega) (by rw [Int.fdiv_eq_ediv_of_nonneg i (by omega)]; exact q) (.inl (PyProof.noPylong_of_log2 hc.2))
/-! ### isinstance by a builtin type -/
def rIsi (K : PySem.W.Frag) : List V → Hp → VK → Prop := fun xs H Q => ∃ x T t b, xs = [x, .ty T] ∧ TyOf K H x t ∧ PySem.W.kitOne K t (.type T) = some b ∧ Q (.bl b) H
theorem call_isi : CallR X (.builtin "isinstance") (rIsi X.K) := by
  intro pins s σ H vs us Q I rv h
  obtain ⟨x, T, t, b, rfl, ty, e, q⟩ := h
  obtain ⟨u, w', rfl, ru, rw'⟩ := vals2 rv
  cases (show w' = Value.type T from rw')
  exact isinst_ok I ru ty e fun tk => ⟨.bl b, H, I.tok tk, rfl, q⟩
/-! ### a call of a def of the text -/
structure Own (P : Program) (w : World) (K : PySem.W.Frag) (mg : Str → Option Value) (base : Heap) (x : Str) (k : Nat) (ps : List Str) (sp : Sp) : Prop where
  ex : ∃ f fd, FnOk P w K mg base CX0 k f fd ps sp ∧ mg x = some (.ref f) ∧ PySem.W.keepIn K (.ref f) = true ∧ Binds K fd ps []
variable {x : Str} {k : Nat} {ps : List Str} {sp : Sp} {e : Expr} {es : List Expr} {t : TA} {p pos : Pos}
theorem pe_own (o : Own X.prog X.w X.K X.mg X.base x k ps sp) (hr : Room k X.A) (hg : Gl X x) (ha : PA X (e :: es) t)
    (hdb : (x == ("__debug__" : Str)) = false := by decide) (he : starEach (e :: es) X.env = (false, eval e X.env) :: starEach es X.env := by rfl)
    (hpl : (backTo pos (starEach es X.env)).any (·.1) = false := by rfl) : PE X (.Call (.Name x p) (e :: es) [] pos) (tCall sp [] E0 t) := by
  obtain ⟨f, fd, F, hm, hk, hb⟩ := o.ex
  exact pe_call F hr hg hm hk hb .nil pass0 ha hdb he hpl
end
theorem at0 {α : Type} {x : α} {xs : List α} : atI (x :: xs) 0 = some x := atI_nat (j := 0) rfl
theorem at1 {α : Type} {x y : α} {xs : List α} : atI (x :: y :: xs) 1 = some y := atI_nat (j := 1) rfl
/-- an index that lies in the list -/
theorem at_in {α : Type} {xs : List α} {i : Int} (h0 : 0 ≤ i) (h1 : i < xs.length) : ∃ v, atI xs i = some v ∧ v ∈ xs := by
  obtain ⟨j, rfl⟩ : ∃ j : Nat, i = j := ⟨i.toNat, by omega⟩
  have hj : j < xs.length := by omega
  exact ⟨xs[j], atI_nat (by simp [hj]), List.getElem_mem hj⟩
theorem bt_len : bootBuiltins "len" = some (.builtin "len") := by decide +kernel
theorem bt_min : bootBuiltins "min" = some (.builtin "min") := by decide +kernel
theorem bt_isinstance : bootBuiltins "isinstance" = some (.builtin "isinstance") := by decide +kernel
theorem bt_int : bootBuiltins "int" = some (.type "int") := by decide +kernel
theorem bt_bool : bootBuiltins "bool" = some (.type "bool") := by decide +kernel
/-! ### the laws' bag of draws -/
def Bag (H : Hp) (b : Addr) : Prop := ∃ x y : Int, H b = some (.lst [.int x, .int y]) ∧ 0 ≤ y ∧ y < 2147483648
/-- all that was tracked is as it was, but what stands at b -/
def Fix (b : Addr) (H H' : Hp) : Prop := ∀ c o, H c = some o → c ≠ b → H' c = some o
theorem Fix.refl (b : Addr) (H : Hp) : Fix b H H := fun _ _ h _ => h
theorem Fix.trans {b : Addr} {H H1 H2 : Hp} (u : Fix b H H1) (v : Fix b H1 H2) : Fix b H H2 := fun c o h n => v c o (u c o h n) n
theorem Fix.upd_b {b : Addr} {H : Hp} {o : HO} : Fix b H (upd H b o) := fun c u h n => by rw [upd_ne n]; exact h
theorem Fix.new {b p : Addr} {H : Hp} {o : HO} (hp : H p = none) : Fix b H (upd H p o) := fun c u h _ => by rw [upd_ne (ne_of_none h hp)]; exact h
theorem Same.new {p : Addr} {H : Hp} {o : HO} (hp : H p = none) : Same H (upd H p o) := fun c u h => by rw [upd_ne (ne_of_none h hp)]; exact h
theorem Bag.new {b p : Addr} {H : Hp} {o : HO} (h : Bag H b) (hp : H p = none) : Bag (upd H p o) b := by
  obtain ⟨x, y, e, q⟩ := h
  exact ⟨x, y, by rw [upd_ne (ne_of_none e hp)]; exact e, q⟩
theorem Bag.same {b : Addr} {H H' : Hp} (h : Bag H b) (s : Same H H') : Bag H' b := by
  obtain ⟨x, y, e, q⟩ := h
  exact ⟨x, y, s _ _ e, q⟩
theorem ln2 {α : Type} {x0 x1 : α} : [x0, x1].length ≤ sizeLine := by show 2 ≤ sizeLine; decide
theorem ln3 {α : Type} {x0 x1 x2 : α} : [x0, x1, x2].length ≤ sizeLine := by show 3 ≤ sizeLine; decide
theorem ln4 {α : Type} {x0 x1 x2 x3 : α} : [x0, x1, x2, x3].length ≤ sizeLine := by show 4 ≤ sizeLine; decide
theorem ln6 {α : Type} {x0 x1 x2 x3 x4 x5 : α} : [x0, x1, x2, x3, x4, x5].length ≤ sizeLine := by show 6 ≤ sizeLine; decide
theorem Same.of_fix {b : Addr} {H H1 H2 : Hp} (s : Same H H1) (n : H b = none) (f : Fix b H1 H2) : Same H H2 := fun c o e => f c o (s c o e) (ne_of_none e n)
theorem Bag.ne_new {b p : Addr} {H : Hp} (h : Bag H b) (e : H p = none) : p ≠ b := by
  obtain ⟨x, y, e1, _⟩ := h
  exact fun z => ne_of_none e1 e z.symm
/-- _law_bag -/
def spBag (K : PySem.W.Frag) : Sp := fun vs H Q _ => ∃ (a : Addr) (ns : List Int) (k : Int), vs = [.ref a, .int k] ∧ SqL K H a (ns.map V.int) ∧ 0 ≤ k ∧
  ∀ b H', H b = none → Bag H' b → Same H H' → Q (.ref b) H'
/-- _law_take -/
def spTake : Sp := fun vs H Q _ => ∃ (b : Addr) (m : Int), vs = [.ref b, .int m] ∧ Bag H b ∧ (0 < m ∧ m.natAbs.log2 < 9000) ∧
  ∀ r H', 0 ≤ r → r < m → Bag H' b → Fix b H H' → Q (.int r) H'
def spLaw (K : PySem.W.Frag) : Sp := fun vs H Q _ => ∃ (a : Addr) (ns : List Int), vs = [.ref a] ∧ SqL K H a (ns.map V.int) ∧ ns.length ≤ 63 ∧ ∀ H', Q (.bl true) H'
end L2

set_option Elab.async false
set_option linter.all false
set_option maxRecDepth 100000
namespace L2
open PySem PySem.Spec PyProof.Rows
/-! ### comprehensions: the cells that a block takes along -/
def clF (cells : List (Str × Addr)) : List (Str × NameKind) → List (Str × Addr) → List (Str × Addr)
  | [], cs => cs
  | (n, k) :: r, cs => clF cells r (if k == .free then (n, (cells.lookup n).getD 0) :: cs else cs)
theorem closure_eq {scope : Scope} {env : Env} (hf : ∀ y ∈ scope.names, y.2 = .free → ∃ c, env.cells.lookup y.1 = some c) : closureFor scope env = pure (clF env.cells scope.names []) := by
  have key : ∀ (names : List (Str × NameKind)) (cs : List (Str × Addr)), (∀ y ∈ names, y.2 = .free → ∃ c, env.cells.lookup y.1 = some c) →
      (forIn names cs fun x r => match x with
        | (name, kind) => if (kind == NameKind.free) = true then (do let a ← cellOf env name; pure (ForInStep.yield ((name, a) :: r))) else pure (ForInStep.yield r) : Sem (List (Str × Addr))) = pure (clF env.cells names cs) := by
    intro names
    induction names with
    | nil => intro cs _; rfl
    | cons y r ih =>
      intro cs hy
      obtain ⟨n, k⟩ := y
      have ih' := fun cs => ih cs fun z hz => hy z (List.mem_cons_of_mem _ hz)
      rw [List.forIn_cons]
      by_cases hk : (k == NameKind.free) = true
      · have e : k = .free := by simpa using hk
        obtain ⟨c, hc⟩ := hy (n, k) List.mem_cons_self e
        have hc' : env.cells.lookup n = some c := hc
        simp only [hk, if_true, cellOf, hc', pure_bind, clF, Option.getD_some]
        exact ih' _
      · have hk' : (k == NameKind.free) = false := by simpa using hk
        simp only [hk', Bool.false_eq_true, if_false, pure_bind, clF]
        exact ih' _
  unfold closureFor
  have e := key scope.names [] hf
  show ((forIn scope.names ([] : List (Str × Addr)) fun x r => match x with
        | (name, kind) => if (kind == NameKind.free) = true then (do let a ← cellOf env name; pure (ForInStep.yield ((name, a) :: r))) else pure (ForInStep.yield r) : Sem (List (Str × Addr))) >>= fun r => pure r) = _
  rw [e, pure_bind]
theorem clF_agree {cells : List (Str × Addr)} : ∀ (names : List (Str × NameKind)) (cs : List (Str × Addr)), (∀ y ∈ names, y.2 = .free → ∃ c, cells.lookup y.1 = some c) →
    (∀ x c, cs.lookup x = some c → cells.lookup x = some c) → ∀ x c, (clF cells names cs).lookup x = some c → cells.lookup x = some c
  | [], _, _, h, x, c, e => h x c e
  | (n, k) :: r, cs, hf, h, x, c, e => by
    refine clF_agree r _ (fun y hy => hf y (List.mem_cons_of_mem _ hy)) (fun z d hz => ?_) x c e
    by_cases hk : (k == NameKind.free) = true
    · rw [if_pos hk] at hz
      obtain ⟨c', hc⟩ := hf (n, k) List.mem_cons_self (by simpa using hk)
      have hc' : cells.lookup n = some c' := hc
      rw [List.lookup_cons] at hz
      cases hzn : z == n with
      | true =>
        rw [hzn] at hz
        have : z = n := by simpa using hzn
        subst this
        rw [hc'] at hz ⊢
        simpa using hz
      | false => rw [hzn] at hz; exact h z d hz
    · rw [if_neg hk] at hz; exact h z d hz
theorem clF_has {cells : List (Str × Addr)} {x : Str} : ∀ (names : List (Str × NameKind)) (cs : List (Str × Addr)), ((x, NameKind.free) ∈ names ∨ ∃ c, cs.lookup x = some c) → ∃ c, (clF cells names cs).lookup x = some c
  | [], _, h => by
    rcases h with h | h
    · cases h
    · exact h
  | (n, k) :: r, cs, h => by
    refine clF_has r _ ?_
    by_cases hk : (k == NameKind.free) = true
    · rw [if_pos hk]
      cases hxn : x == n with
      | true => exact .inr ⟨_, by rw [List.lookup_cons, hxn]⟩
      | false =>
        rcases h with h | ⟨c, h⟩
        · rcases List.mem_cons.mp h with h | h
          · have : x = n := (Prod.mk.inj h).1
            subst this
            simp at hxn
          · exact .inl h
        · exact .inr ⟨c, by rw [List.lookup_cons, hxn]; exact h⟩
    · rw [if_neg hk]
      rcases h with h | h
      · rcases List.mem_cons.mp h with h | h
        · have : NameKind.free = k := (Prod.mk.inj h).2
          subst this
          simp at hk
        · exact .inl h
      · exact .inr h
theorem relabel_back {env : Env} {x : Str} {k : NameKind} (hk : k = .cell ∨ k = .free) : ∀ {names : List (Str × NameKind)}, (∀ y ∈ names, y.2 ≠ .cell) →
    (names.map fun (n, k) => if (k == NameKind.free && env.scope.kind == .function && env.kindOf n == some .cell) then (n, NameKind.cell) else (n, k)).lookup x = some k → (x, NameKind.free) ∈ names
  | [], _, h => by simp at h
  | (n, q) :: r, hc, h => by
    have ih := relabel_back (env := env) (x := x) hk (names := r) (fun y hy => hc y (List.mem_cons_of_mem _ hy))
    have h' : List.lookup x ((if (q == NameKind.free && env.scope.kind == .function && env.kindOf n == some .cell) = true then (n, NameKind.cell) else (n, q)) :: _) = some k := h
    by_cases hq : (q == NameKind.free && env.scope.kind == .function && env.kindOf n == some .cell) = true
    · rw [if_pos hq, List.lookup_cons] at h'
      have eq : q = .free := by
        rw [Bool.and_eq_true, Bool.and_eq_true] at hq
        simpa using hq.1.1
      cases hxn : x == n with
      | true =>
        have : x = n := by simpa using hxn
        subst this; subst eq
        exact List.mem_cons_self
      | false => rw [hxn] at h'; exact List.mem_cons_of_mem _ (ih h')
    · rw [if_neg hq, List.lookup_cons] at h'
      cases hxn : x == n with
      | true =>
        rw [hxn] at h'
        have : x = n := by simpa using hxn
        subst this
        have e : q = k := Option.some.inj h'
        subst e
        rcases hk with hk | hk
        · exact absurd hk (hc (x, q) List.mem_cons_self)
        · subst hk; exact List.mem_cons_self
      | false => rw [hxn] at h'; exact List.mem_cons_of_mem _ (ih h')
theorem relabel_free {env : Env} {x : Str} : ∀ {names : List (Str × NameKind)}, names.lookup x = some .free →
    (names.map fun (n, k) => if (k == NameKind.free && env.scope.kind == .function && env.kindOf n == some .cell) then (n, NameKind.cell) else (n, k)).lookup x = some .cell ∨
    (names.map fun (n, k) => if (k == NameKind.free && env.scope.kind == .function && env.kindOf n == some .cell) then (n, NameKind.cell) else (n, k)).lookup x = some .free
  | [], h => by simp at h
  | (n, q) :: r, h => by
    have ih := relabel_free (env := env) (x := x) (names := r)
    show List.lookup x ((if (q == NameKind.free && env.scope.kind == .function && env.kindOf n == some .cell) = true then (n, NameKind.cell) else (n, q)) :: _) = some .cell ∨
      List.lookup x ((if (q == NameKind.free && env.scope.kind == .function && env.kindOf n == some .cell) = true then (n, NameKind.cell) else (n, q)) :: _) = some .free
    rw [List.lookup_cons] at h
    by_cases hq : (q == NameKind.free && env.scope.kind == .function && env.kindOf n == some .cell) = true
    · rw [if_pos hq, List.lookup_cons]
      cases hxn : x == n with
      | true => exact .inl rfl
      | false => rw [hxn] at h; exact ih h
    · rw [if_neg hq, List.lookup_cons]
      cases hxn : x == n with
      | true => rw [hxn] at h; exact .inr h
      | false => rw [hxn] at h; exact ih h

/-- the block's context -/
def blkCx (X : Cx) (scope : Scope) (C : Addr) (N' : List Str) (fp : List Addr) (s₁ : Shared) (H₁ : Hp) : Cx where
  prog := X.prog
  w := X.w
  K := X.K
  mg := X.mg
  base := X.base
  A := X.A
  N := N'
  s₀ := s₁
  H₀ := H₁
  env := compEnvC scope (clF X.env.cells scope.names []) C X.env
  outer := X.stack
  stack := X.stack
  ex := fp
  fn := fun _ => false
  calm := X.calm
  pn := []
  xe := fun _ _ => False
/-- the names that the block takes from outside: their places outside -/
def FrOk (X : Cx) (scope : Scope) : List Str → List Nat → Prop
  | [], [] => True
  | x :: fr, j :: js => (X.N[j]? = some x ∧ (X.env.kindOf x = some .cell ∨ X.env.kindOf x = some .free) ∧ scope.names.lookup x = some .free) ∧ FrOk X scope fr js
  | _, _ => False
theorem FrOk.len {X : Cx} {scope : Scope} : ∀ {fr : List Str} {js : List Nat}, FrOk X scope fr js → fr.length = js.length
  | [], [], _ => rfl
  | _ :: _, _ :: _, h => by simp [FrOk.len h.2]
  | [], _ :: _, h => h.elim
  | _ :: _, [], h => h.elim
theorem FrOk.mem {X : Cx} {scope : Scope} {x : Str} : ∀ {fr : List Str} {js : List Nat}, FrOk X scope fr js → x ∈ fr → X.env.kindOf x = some .cell ∨ X.env.kindOf x = some .free
  | [], [], _, h => by cases h
  | a :: fr, b :: js, h, hm => by
    rcases List.mem_cons.mp hm with rfl | hm
    · exact h.1.2.1
    · exact FrOk.mem h.2 hm
  | [], _ :: _, h, _ => h.elim
  | _ :: _, [], h, _ => h.elim
theorem FrOk.get {X : Cx} {scope : Scope} : ∀ {fr : List Str} {js : List Nat} {i : Nat} {x : Str} {j : Nat}, FrOk X scope fr js → fr[i]? = some x → js[i]? = some j →
    X.N[j]? = some x ∧ (X.env.kindOf x = some .cell ∨ X.env.kindOf x = some .free) ∧ scope.names.lookup x = some .free
  | [], [], _, _, _, _, h, _ => by simp at h
  | a :: fr, b :: js, 0, x, j, h, h1, h2 => by
    simp at h1 h2
    subst h1; subst h2
    exact h.1
  | a :: fr, b :: js, i + 1, x, j, h, h1, h2 => FrOk.get h.2 (by simpa using h1) (by simpa using h2)
  | [], _ :: _, _, _, _, h, _, _ => h.elim
  | _ :: _, [], _, _, _, h, _, _ => h.elim
/-- the block's names at its start -/
def blk (n : Nat) (js : List Nat) (σ : St) : St := List.replicate n none ++ js.map fun j => σ.getD j none

theorem blk_ok {X : Cx} {pins : List (Addr × Obj)} {σ : St} {H : Hp} {s : Shared} {scope : Scope} {fp : List Addr} {C : Addr} {N' : List Str} (I : Inv X pins σ H s) (hk : scope.kind = .function) (hcell : ∀ y ∈ scope.names, y.2 ≠ .cell)
    (hf : ∀ y ∈ scope.names, y.2 = .free → ∃ c, X.env.cells.lookup y.1 = some c) (hC : s.heap.objs.size ≤ C) (hfp : ∀ b ∈ fp, FpOk X pins H b) (hlt : ∀ b ∈ fp, b < s.heap.objs.size) : (blkCx X scope C N' fp s H).Ok := by
  have ag : ∀ x c, (clF X.env.cells scope.names []).lookup x = some c → X.env.cells.lookup x = some c := clF_agree scope.names [] hf fun x c e => by simp at e
  refine ⟨I.ok.mod, hk, I.ok.glob, I.ok.blt, hC, fun x y c h1 h2 => I.ok.inj x y c (ag x c h1) (ag y c h2), fun x hx => ?_, (fun x c h => (by cases h)), I.ok.hd, I.ok.frames, .inl rfl, fun b hb => ?_, I.bs, ?_, fun b o e hb => ?_, fun b hb => ?_, I.stack, I.stkFree⟩
  · refine clF_has scope.names [] (.inl ?_)
    rcases hx with hx | hx
    · exact relabel_back (.inl rfl) hcell hx
    · exact relabel_back (.inr rfl) hcell hx
  · obtain ⟨h1, h2, h3, h4, h5, h6⟩ := hfp b hb
    exact ⟨Nat.ne_of_lt (Nat.lt_of_lt_of_le (hlt b hb) hC), fun x c e => h5 x c (ag x c e)⟩
  · exact Nat.le_trans I.ok.bsz I.sz
  · obtain ⟨h1, h2, h3, h4, h5, h6⟩ := hfp b hb
    rcases h4 with h4 | h4
    · exact I.ok.noex b o e h4
    · exact absurd (Nat.lt_of_lt_of_le (Heap.lt_size e) (Nat.le_trans I.ok.bsz h4)) (Nat.lt_irrefl _)
  · obtain ⟨h1, h2, h3, h4, h5, h6⟩ := hfp b hb
    intro z
    rcases List.mem_cons.mp (I.stkSub b z) with z | z
    · exact h2 z
    · exact h3 z

/-- what a comprehension wants of its block: a word W by the turn, a measure, the items so far, the names, the heap -/
def LcG (J : It) (n : Nat) (js : List Nat) (g : TG) (ct : TT) (te : TE) (acc : Addr) (σ : St) (H1 : Hp) (Q : VK) : Prop :=
  ∃ W : Nat → Nat → List V → St → Hp → Prop, (∃ m, W 0 m [] (blk n js σ) (upd H1 acc (.lst []))) ∧ ∀ i m ys τ H2, W i m ys τ H2 → H2 acc = some (.lst ys) ∧ ys.length < sizeLine ∧
    ((J.stop i H2 ∧ Q (.ref acc) H2) ∨ (J.go i H2 ∧ ∃ N : List V → St → Hp → Prop, (∀ ys' τ' H', N ys' τ' H' → ∃ m', m' < m ∧ W (i + 1) m' ys' τ' H') ∧ ∀ x H3, J.yld i H2 x H3 → g x τ H3 fun τ1 H4 => ct τ1 H4 fun b H5 =>
      if b = true then te τ1 H5 fun y H6 => H6 acc = some (.lst ys) ∧ N (ys ++ [y]) τ1 (upd H6 acc (.lst (ys ++ [y]))) else N ys τ1 H5))
/-- [elt for tg in iter if c ..] -/
def tLC (n : Nat) (js : List Nat) (wi : TI) (g : TG) (ct : TT) (te : TE) : TE := fun σ H Q => wi σ H fun J H1 => ∀ acc, H1 acc = none → LcG J n js g ct te acc σ H1 Q
/-- the tests of a comprehension's clause -/
def PTs (X : Cx) (ifs : List Expr) (t : TT) : Prop :=
  ∀ (pins : List (Addr × Obj)) (s : Shared) (σ : St) (H : Hp) (Q : Bool → Hp → Prop), Inv X pins σ H s → t σ H Q →
    wpAny (model X.prog X.w) X.A (forIn ifs true fun c r => if r = true then do let ok ← isTrue c X.env (eval c X.env); pure (ForInStep.yield ok) else pure (ForInStep.yield r)) (TP X pins σ Q) X.xe s
def tYes : TT := fun _ H Q => Q true H
theorem pts_nil {X : Cx} : PTs X [] tYes := fun _ _ σ H Q I h => wpAny_pure ⟨H, I, h⟩
theorem pts_one {X : Cx} {c : Expr} {t : TT} (h : PT X c t) : PTs X [c] t := by
  intro pins s σ H Q I q
  rw [List.forIn_cons]
  simp only [if_true, bind_assoc, pure_bind]
  refine wpAny_bind (thn (h pins s σ H Q I q) fun b s1 h1 => ?_)
  exact wpAny_pure h1
section
variable {X : Cx} {pos : Pos}
theorem codeAny_compLoop_tg {prog : Program} {w : World} {A : Around} {R : Result → Shared → Prop} {s : Shared} {elt target iter : Expr} {ifs : List Expr} {scope : Scope} {pos : Pos} {it acc : Value} {env : Env} (I : Nat → Shared → Prop)
    (turn : ∀ n s, I n s → wpAny (model prog w) A (pyNext it) (fun r s₁ => match r with
      | none => R (.ok .next) s₁
      | some v => wpAny (model prog w) A (letOwnedTupleGo target it v) (fun _ s₁' => wpAny (model prog w) A (assign target env v) (fun _ s₂ =>
          wpAny (model prog w) A (forIn ifs true fun c r => if r = true then do let ok ← isTrue c env (eval c env); pure (ForInStep.yield ok) else pure (ForInStep.yield r)) (fun ok s₃ =>
            if ok = true then wpAny (model prog w) A (eval elt env) (fun x s₄ =>
              wpAny (model prog w) A (call (.builtin "list.append") [acc, x]) (fun _ s₅ => ∃ m, m < n ∧ I m s₅) (fun _ _ => False) s₄) (fun _ _ => False) s₃
            else ∃ m, m < n ∧ I m s₃) (fun _ _ => False) s₂) (fun _ _ => False) s₁') (fun _ _ => False) s₁) (fun _ _ => False) s)
    (n : Nat) (h : I n s) :
    codeAny (model prog w) A (.compLoop (.ListComp elt [⟨target, iter, ifs, 0⟩] scope pos) 0 it acc env) R s := by
  refine codeAny_loop rfl I (fun n s hI => ?_) n h
  show wpAny _ A ((compTurn (.ListComp elt [⟨target, iter, ifs, 0⟩] scope pos) 0 it acc env).onRaise (fun x => do noteFrame x env; theTreesLotGoes x)) _ _ s
  refine wpAny_noted ?_
  rw [compTurn_list]
  refine wpAny_bind (wpAny_standAt (wpAny_bind (wpAny_mono (turn n s hI) (fun r s₁ h₁ => ?_) fun _ _ h' => h'.elim)))
  cases r with
  | none => exact wpAny_pure h₁
  | some v =>
    refine wpAny_bind (wpAny_mono h₁ (fun _ s₁' h₁' => ?_) fun _ _ h' => h'.elim)
    refine wpAny_bind (wpAny_mono h₁' (fun _ s₂ h₂ => wpAny_bind (wpAny_mono h₂ (fun ok s₃ h₃ => ?_) fun _ _ h' => h'.elim)) fun _ _ h' => h'.elim)
    cases ok with
    | false => exact wpAny_pure ⟨rfl, h₃⟩
    | true =>
      exact wpAny_bind (wpAny_bind (wpAny_mono h₃ (fun x s₄ h₄ => wpAny_bind (wpAny_mono h₄ (fun _ s₅ h₅ => wpAny_pure (wpAny_pure ⟨rfl, h₅⟩)) fun _ _ h' => h'.elim)) fun _ _ h' => h'.elim))
/-- the block, from the iterator on -/
theorem lc_core {pins : List (Addr × Obj)} {σ : St} {H : Hp} {s : Shared} {E : Value → Shared → Prop} {tg elt iter : Expr} {ifs : List Expr} {scope : Scope} {g : TG} {ct : TT} {te : TE} {ts fr : List Str} {js : List Nat}
    {it : Addr} {fp : List Addr} {tn : Nat → Heap → Prop} {J : It} {Q : VK} {RR : Value → Addr → Result → Shared → Prop}
    (hc : X.calm = true) (hkind : scope.kind = .function) (hcell : ∀ y ∈ scope.names, y.2 ≠ .cell) (hfree : ∀ y ∈ scope.names, y.2 = .free → X.env.kindOf y.1 = some .cell ∨ X.env.kindOf y.1 = some .free)
    (hfr : FrOk X scope fr js) (htg : ∀ C fp s₁ H₁, PG (blkCx X scope C (ts ++ fr) fp s₁ H₁) tg g) (hct : ∀ C fp s₁ H₁, PTs (blkCx X scope C (ts ++ fr) fp s₁ H₁) ifs ct) (hte : ∀ C fp s₁ H₁, PE (blkCx X scope C (ts ++ fr) fp s₁ H₁) elt te)
    (I : Inv X pins σ H s) (T : Turn X.prog X.w X.K tg J fp it tn) (st : tn 0 s.heap) (hfp : ∀ b ∈ fp, FpOk X pins H b)
    (h : ∀ acc, H acc = none → LcG J ts.length js g ct te acc σ H Q)
    (hRR : ∀ acc C H' s' m, Inv X pins σ H' s' → s'.heap.Ns C m → H' C = none → s.heap.objs.size ≤ C → Q (.ref acc) H' → RR (.ref acc) C (.ok .next) s') :
    wpAny (model X.prog X.w) X.A (newList []) (fun acc s₃ => wpAny (model X.prog X.w) X.A (newFunctionEnv scope X.env.globals (clF X.env.cells scope.names []) [] X.env.qual none .none (some X.env)) (fun cenv s₄ =>
      codeAny (model X.prog X.w) X.A (.compStart (.ListComp elt [⟨tg, iter, ifs, 0⟩] scope pos) 0 (.ref it) acc { cenv with scope := relabel scope X.env }) (RR acc cenv.locals) s₄) E s₃) E s := by
  have hf : ∀ y ∈ scope.names, y.2 = .free → ∃ c, X.env.cells.lookup y.1 = some c := fun y hy e => I.ok.has y.1 (hfree y hy e)
  have ag : ∀ x c, (clF X.env.cells scope.names []).lookup x = some c → X.env.cells.lookup x = some c := clF_agree scope.names [] hf fun x c e => by simp at e
  have hlt : ∀ b ∈ fp, b < s.heap.objs.size := fun b hb => by
    obtain ⟨o, e, _⟩ := T.obj _ _ st b hb
    exact Heap.lt_size e
  refine wpAny_newObj_type (wpAny_newFunctionEnv hcell (by intro y hy; simp at hy) (fun h₁ hns₁ hsb₁ => ?_) hkind)
  dsimp only at hns₁ hsb₁ ⊢
  generalize hH2 : s.heap.push { cls := .type "list", dict := none, data := .seq ([] : List Value).toArray } = G2 at hns₁ hsb₁ ⊢
  have hC : G2.objs.size = s.heap.objs.size + 1 := by rw [← hH2, Heap.size_push]
  have hDC : s.heap.objs.size ≠ G2.objs.size := by rw [hC]; exact Nat.ne_of_lt (Nat.lt_succ_self _)
  have hCle : s.heap.objs.size ≤ G2.objs.size := by rw [hC]; exact Nat.le_succ _
  have below : ∀ b, b < s.heap.objs.size → b ≠ G2.objs.size ∧ b ≠ s.heap.objs.size := fun b hb => ⟨by rw [hC]; exact Nat.ne_of_lt (Nat.lt_succ_of_lt hb), Nat.ne_of_lt hb⟩
  have old : ∀ b o, s.heap.get? b = some o → h₁.get? b = some o := fun b o e => hsb₁.extBut b o (below b (Heap.lt_size e)).1 (Heap.get?_push_of_some _ (hH2 ▸ Heap.get?_push_of_some _ e))
  have hacc : h₁.get? s.heap.objs.size = some { cls := .type "list", data := .seq ([] : List Value).toArray } := hsb₁.extBut _ _ hDC (Heap.get?_push_of_some _ (hH2 ▸ Heap.get?_push_size _ rfl))
  have nD : H s.heap.objs.size = none := I.hok.fresh (Nat.le_refl _)
  have nC : H G2.objs.size = none := I.hok.fresh hCle
  obtain ⟨W, ⟨m0, w0⟩, turn⟩ := h s.heap.objs.size nD
  generalize hXb : blkCx X scope G2.objs.size (ts ++ fr) fp s H = Xb
  have Ib : ∀ tk, Inv Xb [] (blk ts.length js σ) (upd H s.heap.objs.size (.lst [])) { s with heap := h₁, toks := tk } := by
    intro tk
    subst hXb
    refine ⟨blk_ok I hkind hcell hf hCle hfp hlt, rfl, I.bare, Un.laid old (Nat.le_refl _) nD, ⟨_, hns₁, fun i x v e1 e2 e3 => ?_⟩, fun x c e => ?_, ?_, fun x c e => ?_, fun p hp => absurd (show p ∈ ([] : List (Addr × Obj)) from hp) (by simp), I.hok.laid old (Nat.le_refl _) ⟨by show 0 ≤ sizeLine; decide, [], _, .nil, hacc⟩, ?_⟩
    · have hi : ts.length ≤ i := by
        refine Nat.le_of_not_lt fun hi => ?_
        unfold blk at e2
        rw [List.getElem?_append_left (by simpa using hi), List.getElem?_replicate] at e2
        split at e2 <;> cases e2
      have e1' : fr[i - ts.length]? = some x := by
        have e1'' : (ts ++ fr)[i]? = some x := e1
        rw [List.getElem?_append_right hi] at e1''
        exact e1''
      unfold blk at e2
      rw [List.getElem?_append_right (by simpa using hi), List.length_replicate, List.getElem?_map] at e2
      cases ej : js[i - ts.length]? with
      | none => rw [ej] at e2; cases e2
      | some j =>
        rw [ej] at e2
        have e2' : σ.getD j none = some v := by simpa using e2
        obtain ⟨q1, q2, q3⟩ := hfr.get e1' ej
        have e2'' : σ[j]? = some (some v) := by
          rw [List.getD_eq_getElem?_getD] at e2'
          cases ez : σ[j]? with
          | none => rw [ez] at e2'; cases e2'
          | some z => rw [ez] at e2'; rw [show z = some v from e2']
        obtain ⟨m, hn, hl⟩ := I.loc
        obtain ⟨u, r, l⟩ := hl j x v q1 e2'' (by
          rcases q2 with q2 | q2
          · exact .inr (.inl q2)
          · exact .inr (.inr q2))
        refine ⟨u, r, .inr ⟨relabel_free q3, ?_⟩⟩
        rcases l with ⟨l, _⟩ | ⟨_, c, lc, lv⟩
        · rcases q2 with q2 | q2 <;> (rw [l] at q2; cases q2)
        · obtain ⟨c', hc'⟩ := clF_has (cells := X.env.cells) scope.names [] (.inl (PySem.mem_of_lookup q3))
          have := ag x c' hc'
          rw [lc] at this
          cases this
          obtain ⟨o, ho, hd⟩ := lv
          exact ⟨c, hc', o, old _ _ ho, hd⟩
    · obtain ⟨v, o, ho, hd⟩ := I.cell x c (ag x c e)
      exact ⟨v, o, old _ _ ho, hd⟩
    · show upd H s.heap.objs.size (.lst []) G2.objs.size = none
      rw [upd_ne hDC.symm]; exact nC
    · obtain ⟨v, o, ho, hd⟩ := I.cell x c (ag x c e)
      rw [upd_ne (Nat.ne_of_lt (Heap.lt_size ho))]
      exact I.freeC x c (ag x c e)
    · show (blk ts.length js σ).length = (ts ++ fr).length
      unfold blk
      rw [List.length_append, List.length_replicate, List.length_map, List.length_append, hfr.len]
  have fpB : ∀ {H' : Hp}, (∀ b ∈ fp, H' b = none) → ∀ b ∈ fp, FpOk Xb [] H' b := fun {H'} hn b hb => by
    subst hXb
    obtain ⟨h1, h2, h3, h4, h5, h6⟩ := hfp b hb
    refine ⟨hn b hb, (below b (hlt b hb)).1, fun z => ?_, .inl hb, fun x c e => h5 x c (ag x c e), fun p hp => absurd (show p ∈ ([] : List (Addr × Obj)) from hp) (by simp)⟩
    rcases List.mem_cons.mp (I.stkSub b z) with z | z
    · exact h2 z
    · exact h3 z
  have fin : ∀ {τ : St} {H' : Hp} {s' : Shared}, Inv Xb [] τ H' s' → Q (.ref s.heap.objs.size) H' → RR (.ref s.heap.objs.size) G2.objs.size (.ok .next) s' := fun {τ H' s'} Jb q => by
    subst hXb
    obtain ⟨m, hn, _⟩ := Jb.loc
    refine hRR _ _ H' s' m (I.call' (ch := fp) Jb.os Jb.base Jb.hok Jb.bare fun b hb => ?_) hn Jb.free hCle q
    obtain ⟨h1, h2, h3, h4, h5, h6⟩ := hfp b hb
    exact ⟨h4, h2, h5, h6⟩
  have loop : ∀ tk, codeAny (model X.prog X.w) X.A (.compLoop (.ListComp elt [⟨tg, iter, ifs, 0⟩] scope pos) 0 (.ref it) (.ref s.heap.objs.size) (compEnvC scope (clF X.env.cells scope.names []) G2.objs.size X.env))
        (RR (.ref s.heap.objs.size) G2.objs.size) { s with heap := h₁, toks := tk } := by
    intro tk
    refine codeAny_compLoop_tg (fun n s' => ∃ i ys τ H', Inv Xb [] τ H' s' ∧ tn i s'.heap ∧ (∀ b ∈ fp, H' b = none) ∧ W i n ys τ H') ?_ m0 ⟨0, [], _, _, Ib tk, T.keep _ _ _ st fun b hb o e => old b o e, fun b hb => ?_, w0⟩
    · rintro n s3 ⟨i, ys, τ, H3, I3, st3, fr3, w3⟩
      have htg' := htg G2.objs.size fp s H
      have hct' := hct G2.objs.size fp s H
      have hte' := hte G2.objs.size fp s H
      rw [hXb] at htg' hct' hte'
      have eP : Xb.prog = X.prog := by subst hXb; rfl
      have ew : Xb.w = X.w := by subst hXb; rfl
      have eK : Xb.K = X.K := by subst hXb; rfl
      have eA : Xb.A = X.A := by subst hXb; rfl
      have ec : Xb.calm = true := by subst hXb; exact hc
      have ee : Xb.env = compEnvC scope (clF X.env.cells scope.names []) G2.objs.size X.env := by subst hXb; rfl
      have ex : Xb.xe = fun _ _ => False := by subst hXb; rfl
      rw [← eP, ← ew, ← eA, ← ee]
      obtain ⟨ha, hl, turn'⟩ := turn i n ys τ H3 w3
      rcases turn' with ⟨stop, q⟩ | ⟨go, N, hN, step⟩
      · have hd := T.done Xb eP ew eK ec i [] s3 τ H3 (fun _ _ => False) I3 (fpB fr3) st3 stop
        rw [← eP, ← ew] at hd
        refine wpAny_mono hd (fun r s4 hr4 => ?_) fun _ _ z => z
        obtain ⟨hr, I4⟩ := hr4
        subst hr
        exact fin I4 q
      · have hd := T.item Xb eP ew eK ec i [] s3 τ H3 (fun _ _ => False) I3 (fpB fr3) st3 go
        rw [← eP, ← ew] at hd
        refine wpAny_mono hd (fun r s4 hr4 => ?_) fun _ _ z => z
        obtain ⟨u, hr, h4⟩ := hr4
        subst hr
        refine wpAny_mono h4 (fun _ s5 ⟨x, H5, I5, r5, y5, st5, fr5⟩ => ?_) fun _ _ z => z
        have I5' := I5.pinned (fpB fr5) (T.obj _ _ st5)
        have keepT : ∀ {σ7 : St} {H7 : Hp} {s7 : Shared}, Inv Xb ([] ++ pinsAt fp s5.heap) σ7 H7 s7 → tn (i + 1) s7.heap ∧ ∀ b ∈ fp, H7 b = none := fun {σ7 H7 s7} I7 => by
          refine ⟨T.keep _ _ _ st5 fun b hb o e => (I7.pin (b, o) (List.mem_append_right _ (List.mem_append_right _ (mem_pinsAt hb e)))).1, fun b hb => ?_⟩
          obtain ⟨o, e, d⟩ := T.obj _ _ st5 b hb
          exact (I7.pin (b, o) (List.mem_append_right _ (List.mem_append_right _ (mem_pinsAt hb e)))).2.1
        refine wpAny_mono (htg' _ s5 τ H5 x u _ I5' r5 (step x H5 y5)) (fun _ s6 ⟨τ6, H6, I6, q6⟩ => ?_) (fun _ _ z => by rw [ex] at z; exact z)
        refine wpAny_mono (hct' _ s6 τ6 H6 _ I6 q6) (fun ok s7 ⟨H7, I7, q7⟩ => ?_) (fun _ _ z => by rw [ex] at z; exact z)
        cases ok with
        | false =>
          have q7' : N ys τ6 H7 := by rw [if_neg (by simp)] at q7; exact q7
          rw [if_neg (by simp)]
          obtain ⟨m', hm, w7⟩ := hN _ _ _ q7'
          exact ⟨m', hm, i + 1, ys, τ6, H7, I7.unpinned, (keepT I7).1, (keepT I7).2, w7⟩
        | true =>
          rw [if_pos rfl] at q7 ⊢
          refine wpAny_mono (hte' _ s7 τ6 H7 _ I7 q7) (fun v s8 ⟨y, H8, I8, r8, ha8, n8⟩ => ?_) (fun _ _ z => by rw [ex] at z; exact z)
          refine wpAny_mono (mt_append (X := Xb) _ s8 τ6 H8 (.ref s.heap.objs.size) [y] (.ref s.heap.objs.size) [v] (fun _ H9 => H9 = upd H8 s.heap.objs.size (.lst (ys ++ [y]))) I8 rfl (.cons r8 .nil) ⟨_, ys, y, rfl, rfl, ha8, hl, rfl⟩) (fun _ s9 ⟨_, H9, I9, _, e9⟩ => ?_) (fun _ _ z => by rw [ex] at z; exact z)
          subst e9
          obtain ⟨m', hm, w8⟩ := hN _ _ _ n8
          exact ⟨m', hm, i + 1, _, τ6, _, I9.unpinned, (keepT I9).1, (keepT I9).2, w8⟩
    · rw [upd_ne (Nat.ne_of_lt (hlt b hb))]
      exact (hfp b hb).1
  exact codeAny_compStart_list (loop _) (T.self _ 0 _ _ _ (T.keep _ _ _ st fun b hb o e => old b o e) (loop _))

theorem Inv.let_go {pins : List (Addr × Obj)} {σ : St} {H H' : Hp} {s s' : Shared} {C : Addr} {h' : Heap} (I : Inv X pins σ H s) {σ' : St} (I' : Inv X pins σ' H' s') (hC : H' C = none) (hle : s.heap.objs.size ≤ C) (hsb : Heap.SameBut C s'.heap h') :
    Inv X pins σ' H' { s' with heap := h' } := by
  obtain ⟨h1, h2, h3, h4, h5, h6⟩ := I.fpOk (H' := H') hle hC
  exact I'.turned (t' := s'.toks) (fun b o hb e => hsb.extBut b o hb e) hC h2 h4 h5 h6
theorem pe_lcomp {tg elt iter : Expr} {ifs : List Expr} {scope : Scope} {wi : TI} {g : TG} {ct : TT} {te : TE} (ts fr : List Str) (js : List Nat)
    (hc : X.calm = true) (hi : PI X tg iter wi) (hkind : scope.kind = .function) (hcell : ∀ y ∈ scope.names, y.2 ≠ .cell) (hnames : ∀ y ∈ scope.names, y.2 = .local → scope.names.lookup y.1 = some .local)
    (hfree0 : ∀ y ∈ scope.names, y.2 = .free → y.1 ∈ fr) (hfr : FrOk X scope fr js)
    (htg : ∀ C fp s₁ H₁, PG (blkCx X scope C (ts ++ fr) fp s₁ H₁) tg g) (hct : ∀ C fp s₁ H₁, PTs (blkCx X scope C (ts ++ fr) fp s₁ H₁) ifs ct) (hte : ∀ C fp s₁ H₁, PE (blkCx X scope C (ts ++ fr) fp s₁ H₁) elt te)
    (hs : ∀ x, foldedSetIterable iter X.env x = pure x := by intro _; rfl) : PE X (.ListComp elt [⟨tg, iter, ifs, 0⟩] scope pos) (tLC ts.length js wi g ct te) := by
  have hfree : ∀ y ∈ scope.names, y.2 = .free → X.env.kindOf y.1 = some .cell ∨ X.env.kindOf y.1 = some .free := fun y hy e => hfr.mem (hfree0 y hy e)
  intro pins s σ H Q I h
  rw [eval_ListComp]
  refine wpAny_comprehension_free (use := none) rfl hs (closure_eq fun y hy e => I.ok.has y.1 (hfree y hy e)) hkind hnames (thn (hi pins s σ H _ I h) fun xv s1 h1 => thn h1 fun itv s2 h2 => ?_)
  obtain ⟨it, fp, tn, J, H2, e, I2, T, st2, f2, hW⟩ := h2
  subst e
  refine lc_core (RR := fun acc C => compPost (model X.prog X.w) X.A X.xe none (EP X pins σ Q) acc C) hc hkind hcell hfree hfr htg hct hte I2 T st2 f2 hW ?_
  intro acc C H' s' m I' hn hC hle q
  exact ⟨m, hn, fun h' hsb => ⟨.ref acc, H', I2.let_go I' hC hle hsb, rfl, q⟩⟩
end
/-! ### the forms one uses -/
theorem lc_list {K : PySem.W.Frag} {a acc : Addr} {xs : List V} {n : Nat} {js : List Nat} {g : TG} {ct : TT} {te : TE} {σ : St} {H1 : Hp} {Q : VK} (Pv : Nat → List V → St → Hp → Prop) (h0 : Pv 0 [] (blk n js σ) (upd H1 acc (.lst [])))
    (hl : ∀ i ys τ H, i ≤ xs.length → Pv i ys τ H → SqL K H a xs ∧ H acc = some (.lst ys) ∧ ys.length < sizeLine)
    (hs : ∀ i x ys τ H, xs[i]? = some x → Pv i ys τ H → g x τ H fun τ1 H4 => ct τ1 H4 fun b H5 => if b = true then te τ1 H5 fun y H6 => H6 acc = some (.lst ys) ∧ Pv (i + 1) (ys ++ [y]) τ1 (upd H6 acc (.lst (ys ++ [y]))) else Pv (i + 1) ys τ1 H5)
    (hd : ∀ ys τ H, Pv xs.length ys τ H → Q (.ref acc) H) :
    LcG (Itl K a) n js g ct te acc σ H1 Q := by
  refine ⟨fun i m ys τ H => m = xs.length - i ∧ i ≤ xs.length ∧ Pv i ys τ H, ⟨xs.length, by simp, Nat.zero_le _, h0⟩, ?_⟩
  rintro i m ys τ H ⟨rfl, hi, p⟩
  obtain ⟨q, q2, q3⟩ := hl i ys τ H hi p
  refine ⟨q2, q3, ?_⟩
  by_cases hlt : i < xs.length
  · refine .inr ⟨⟨xs, xs[i], q, by simp [hlt]⟩, Pv (i + 1), fun ys' τ' H' p' => ⟨xs.length - (i + 1), by omega, rfl, hlt, p'⟩, fun x H' y => ?_⟩
    obtain ⟨e, y⟩ := y
    subst e
    exact hs i x ys τ _ (y xs q) p
  · have e : i = xs.length := by omega
    subst e
    exact .inl ⟨⟨xs, q, Nat.le_refl _⟩, hd ys τ H p⟩
theorem lc_range {lo : Int} {k : Nat} {acc : Addr} {n : Nat} {js : List Nat} {g : TG} {ct : TT} {te : TE} {σ : St} {H1 : Hp} {Q : VK} (Pv : Nat → List V → St → Hp → Prop) (h0 : Pv 0 [] (blk n js σ) (upd H1 acc (.lst [])))
    (hl : ∀ i ys τ H, i ≤ k → Pv i ys τ H → H acc = some (.lst ys) ∧ ys.length < sizeLine)
    (hs : ∀ i ys τ H, i < k → Pv i ys τ H → g (.int (lo + i)) τ H fun τ1 H4 => ct τ1 H4 fun b H5 => if b = true then te τ1 H5 fun y H6 => H6 acc = some (.lst ys) ∧ Pv (i + 1) (ys ++ [y]) τ1 (upd H6 acc (.lst (ys ++ [y]))) else Pv (i + 1) ys τ1 H5)
    (hd : ∀ ys τ H, Pv k ys τ H → Q (.ref acc) H) :
    LcG (Itr lo k) n js g ct te acc σ H1 Q := by
  refine ⟨fun i m ys τ H => m = k - i ∧ i ≤ k ∧ Pv i ys τ H, ⟨k, by simp, Nat.zero_le _, h0⟩, ?_⟩
  rintro i m ys τ H ⟨rfl, hi, p⟩
  obtain ⟨q2, q3⟩ := hl i ys τ H hi p
  refine ⟨q2, q3, ?_⟩
  by_cases hlt : i < k
  · refine .inr ⟨hlt, Pv (i + 1), fun ys' τ' H' p' => ⟨k - (i + 1), by omega, rfl, hlt, p'⟩, fun x H' y => ?_⟩
    obtain ⟨e, y⟩ := y
    subst e y
    exact hs i ys τ _ hlt p
  · have e : i = k := by omega
    subst e
    exact .inl ⟨Nat.le_refl _, hd ys τ H p⟩
section
variable {X : Cx}
/-- max of a list of ints -/
def rMaxL (K : PySem.W.Frag) : List V → Hp → VK → Prop := fun vs H Q => ∃ (p : Addr) (ns : List Int), vs = [.ref p] ∧ SqL K H p (ns.map V.int) ∧ 0 < ns.length ∧ ∀ M, M ∈ ns → (∀ a, a ∈ ns → a ≤ M) → Q (.int M) H
end

/-- a statement, cut behind it by a word of one's own -/
def tCut (t : TS) : TS := fun D σ H => ∃ M : St → Hp → Prop, t { D with nx := M } σ H ∧ ∀ σ' H', M σ' H' → D.nx σ' H'
theorem ps_cut {X : Cx} {st : Stmt} {t : TS} (h : PS X st t) : PS X st (tCut t) := by
  intro pins s σ H D I q
  obtain ⟨M, q, hM⟩ := q
  refine thn (h pins s σ H _ I q) fun f s' hs => ?_
  cases f with
  | next =>
    obtain ⟨σ', H', I', m⟩ := hs
    exact ⟨σ', H', I', hM _ _ m⟩
  | brk => exact hs
  | cont => exact hs
  | ret u => exact hs
theorem smallM {m : Int} (h0 : 0 < m) (h1 : m < 1073741824) : m.natAbs.log2 < 9000 := by
  have h : m.natAbs.log2 < 30 := (Nat.log2_lt (by omega)).mpr (by omega)
  omega
end L2

set_option Elab.async false
set_option linter.all false
set_option maxRecDepth 100000
namespace L2
open PySem PySem.Spec PyProof.Rows
/-! ### data within the heap: == and != at any depth -/
mutual
inductive RdD (H : Hp) : V → PyData → Prop
  | non : RdD H .non .none
  | bl (b : Bool) : RdD H (.bl b) (.bool b)
  | int (i : Int) : RdD H (.int i) (.int i)
  | str (x : Str) : RdD H (.str x) (.str x)
  | lst {p : Addr} {xs : List V} {ds : List PyData} : H p = some (.lst xs) → RdDs H xs ds → RdD H (.ref p) (.list ds)
  | tup {p : Addr} {xs : List V} {ds : List PyData} : H p = some (.tup xs) → RdDs H xs ds → RdD H (.ref p) (.tuple ds)
inductive RdDs (H : Hp) : List V → List PyData → Prop
  | nil : RdDs H [] []
  | cons {x : V} {xs : List V} {d : PyData} {ds : List PyData} : RdD H x d → RdDs H xs ds → RdDs H (x :: xs) (d :: ds)
end
section
variable {P : Program} {w : World} {H : Hp} {h : Heap}
mutual
theorem RdD.reads (ok : HOk P w H h) : ∀ {x : V} {d : PyData} {v : Value}, RdD H x d → RelV x v → ∃ as, Reads h v d as
  | _, _, v, .non, r => by
    cases (show v = Value.none from r)
    exact ⟨_, .none⟩
  | _, _, v, .bl b, r => by
    cases (show v = Value.bool b from r)
    exact ⟨_, .bool b⟩
  | _, _, v, .int i, r => by
    obtain ⟨t, e⟩ := (show ∃ t, v = Value.int i t from r)
    cases e
    exact ⟨_, .int i t⟩
  | _, _, v, .str x, r => by
    obtain ⟨t, e⟩ := (show ∃ t, v = Value.str x t from r)
    cases e
    exact ⟨_, .str x t⟩
  | _, _, v, .lst (p := p) (xs := xs) e ds, r => by
    cases (show v = Value.ref p from r)
    obtain ⟨_, its, n, rv, h1⟩ := (show ObjOk P w H h p (.lst xs) from ok p _ e)
    obtain ⟨as, ra⟩ := RdDs.reads ok ds rv
    exact ⟨_, .list (vs := its.toArray) h1 rfl rfl (by simpa using ra)⟩
  | _, _, v, .tup (p := p) (xs := xs) e ds, r => by
    cases (show v = Value.ref p from r)
    obtain ⟨_, its, rv, o, h1, h2, n, h3⟩ := (show ObjOk P w H h p (.tup xs) from ok p _ e)
    obtain ⟨as, ra⟩ := RdDs.reads ok ds rv
    exact ⟨_, .tuple (vs := its.toArray) h1 h2 h3.1 (by simpa using ra)⟩
theorem RdDs.reads (ok : HOk P w H h) : ∀ {xs : List V} {ds : List PyData} {vs : List Value}, RdDs H xs ds → Vals xs vs → ∃ as, ReadsAll h vs ds as
  | _, _, _, .nil, .nil => ⟨_, .nil⟩
  | _, _, _, .cons r rs, .cons q qs => by
    obtain ⟨as, ra⟩ := RdD.reads ok r q
    obtain ⟨bs, rb⟩ := RdDs.reads ok rs qs
    exact ⟨_, .cons ra rb⟩
end
end
section
variable {X : Cx}
def rEqD (neg : Bool) : R2 := fun x y H Q => ∃ dx dy, RdD H x dx ∧ RdD H y dy ∧ dx.canLay0 = true ∧ dy.canLay0 = true ∧ min dx.depth dy.depth ≤ 60 ∧ Q (.bl (if neg then !PyData.eqv dx dy else PyData.eqv dx dy)) H
theorem op_eqD (hu : X.A.units + 64 < cLine) : OpR X (compareOp .Eq) (rEqD false) := by
  intro pins s σ H x y v u Q I rx ry h
  obtain ⟨dx, dy, r1, r2, c1, c2, hd, q⟩ := h
  obtain ⟨as, ra⟩ := r1.reads I.hok rx
  obtain ⟨bs, rb⟩ := r2.reads I.hok ry
  exact PySem.SeqAt.compareEq_reads ra rb c1 c2 (by omega) ⟨.bl _, H, I, rfl, q⟩
theorem op_neD (hu : X.A.units + 64 < cLine) : OpR X (compareOp .NotEq) (rEqD true) := by
  intro pins s σ H x y v u Q I rx ry h
  obtain ⟨dx, dy, r1, r2, c1, c2, hd, q⟩ := h
  obtain ⟨as, ra⟩ := r1.reads I.hok rx
  obtain ⟨bs, rb⟩ := r2.reads I.hok ry
  exact PySem.SeqAt.neOverData X.prog X.w X.A X.xe s v u dx dy as bs _ ra rb c1 c2 (by omega) ⟨.bl _, H, I, rfl, q⟩
end
end L2

set_option Elab.async false
set_option linter.all false
set_option maxRecDepth 100000
namespace L2
open PySem PySem.Spec PyProof.Rows
/-! ### texts -/
def one (c : Nat) : Str := ⟨#[c]⟩
theorem glued_toList (rest : List Str) : ∀ a : Array Nat, (rest.foldl (fun acc p => acc ++ Str.empty.cps ++ p.cps) a).toList = a.toList ++ rest.flatMap (·.cps.toList) := by
  induction rest with
  | nil => intro a; simp
  | cons x r ih =>
    intro a
    rw [List.foldl_cons, ih]
    have e : Str.empty.cps = #[] := rfl
    simp [e]
theorem join_ones (cs : List Nat) : (Txt.join Str.empty (cs.map one)).cps.toList = cs := by
  cases cs with
  | nil => rfl
  | cons c r =>
    show (List.foldl (fun acc p => acc ++ Str.empty.cps ++ p.cps) (#[c] : Array Nat) (r.map one)).toList = c :: r
    rw [glued_toList]
    simp only [List.flatMap_map, one]
    simp
theorem empty_is : Str.ofString "" = Str.empty := by decide +kernel
theorem strsAre_of {ys : List Str} : ∀ {us : List Value}, Vals (ys.map V.str) us → StrsAre us ys := by
  induction ys with
  | nil => intro us r; cases r; exact .nil
  | cons y ys ih =>
    intro us r
    cases r with
    | cons h t =>
      obtain ⟨k, e⟩ := h
      subst e
      exact .cons y k (ih t)
section
variable {X : Cx}
/-- sep.join(list of texts) -/
def rJoin (K : PySem.W.Frag) : V → List V → Hp → VK → Prop := fun x vs H Q => ∃ (z : Str) (p : Addr) (ys : List Str), x = .str z ∧ vs = [.ref p] ∧ SqL K H p (ys.map V.str) ∧ (ys.map (·.length)).sum + ys.length * z.length ≤ 16777216 ∧ Q (.str (Txt.join z ys)) H
theorem mt_join : MtR X "str.join" (rJoin X.K) := by
  intro pins s σ H x vs v us Q I rx rv h
  obtain ⟨z, p, ys, rfl, rfl, hS, hz, q⟩ := h
  obtain ⟨t, e⟩ := (show ∃ t, v = Value.str z t from rx)
  subst e
  obtain ⟨u, rfl, ru⟩ := vals1 rv
  cases (show u = Value.ref p from ru)
  obtain ⟨its, rv', pl, _⟩ := I.list hS
  exact join_list pl.isList (by simpa using strsAre_of rv') hz fun t' k => ⟨.str _, H, I.tok k, ⟨_, rfl⟩, q⟩
end
/-! ### plans as data -/
inductive Deed where
  | put (x : Str) (n : Int)
  | copy (x y : Str)
  | add (x : Str) (n : Int)
  | read (x : Str)
  | tell (x : Str)
inductive End where
  | stop
  | go (p : Nat)
  | tst (less : Bool) (x : Str) (n : Int) (p q : Nat)
abbrev Piece := List Deed × End
def wT (b : Bool) : Str := if b = true then "less" else "is"
def dDeed : Deed → PyData
  | .put x n => .tuple [.str "put", .str x, .int n]
  | .copy x y => .tuple [.str "copy", .str x, .str y]
  | .add x n => .tuple [.str "add", .str x, .int n]
  | .read x => .tuple [.str "read", .str x]
  | .tell x => .tuple [.str "tell", .str x]
def dEnd : End → PyData
  | .stop => .tuple [.str "stop"]
  | .go p => .tuple [.str "go", .int p]
  | .tst b x n p q => .tuple [.str (wT b), .str x, .int n, .int p, .int q]
def dPiece (p : Piece) : PyData := .tuple [.tuple (p.1.map dDeed), dEnd p.2]
def dPlan (ps : List Piece) : PyData := .tuple (ps.map dPiece)
structure NameOk (x : Str) : Prop where
  lo : 1 ≤ x.length
  hi : x.length ≤ 8
  az : ∀ c ∈ x.cps.toList, 97 ≤ c ∧ c ≤ 122
def NumOk (n : Int) : Prop := -(10 ^ 40) < n ∧ n < 10 ^ 40
def DeedOk (xs : List Str) : Deed → Prop
  | .put x n => x ∈ xs ∧ NumOk n
  | .copy x y => x ∈ xs ∧ y ∈ xs
  | .add x n => x ∈ xs ∧ NumOk n
  | .read x => x ∈ xs
  | .tell x => x ∈ xs
def EndOk (xs : List Str) (count : Nat) : End → Prop
  | .stop => True
  | .go p => p < count
  | .tst _ x n p q => x ∈ xs ∧ NumOk n ∧ p < count ∧ q < count
structure PlanOk (xs : List Str) (most : Nat) (ps : List Piece) : Prop where
  deeds : ∀ p ∈ ps, p.1.length ≤ most ∧ ∀ d ∈ p.1, DeedOk xs d
  ends : ∀ p ∈ ps, EndOk xs ps.length p.2
/-! ### data of tuples alone stays -/
mutual
def noList : PyData → Bool
  | .list _ => false
  | .tuple xs => noLists xs
  | _ => true
def noLists : List PyData → Bool
  | [] => true
  | x :: xs => noList x && noLists xs
end
mutual
theorem RdD.tups {H H' : Hp} (k : ∀ p xs, H p = some (.tup xs) → H' p = some (.tup xs)) : ∀ {x : V} {d : PyData}, RdD H x d → noList d = true → RdD H' x d
  | _, _, .non, _ => .non
  | _, _, .bl b, _ => .bl b
  | _, _, .int i, _ => .int i
  | _, _, .str x, _ => .str x
  | _, _, .lst _ _, h => nomatch h
  | _, _, .tup e ds, h => .tup (k _ _ e) (RdDs.tups k ds h)
theorem RdDs.tups {H H' : Hp} (k : ∀ p xs, H p = some (.tup xs) → H' p = some (.tup xs)) : ∀ {xs : List V} {ds : List PyData}, RdDs H xs ds → noLists ds = true → RdDs H' xs ds
  | _, _, .nil, _ => .nil
  | _, _, .cons r rs, h => by
    simp only [noLists, Bool.and_eq_true] at h
    exact .cons (RdD.tups k r h.1) (RdDs.tups k rs h.2)
end
theorem RdD.same {H H' : Hp} {x : V} {d : PyData} (r : RdD H x d) (f : Same H H') (n : noList d = true) : RdD H' x d :=
  r.tups (fun p xs e => f p _ e) n
theorem RdDs.same {H H' : Hp} {xs : List V} {ds : List PyData} (r : RdDs H xs ds) (f : Same H H') (n : noLists ds = true) : RdDs H' xs ds :=
  r.tups (fun p xs e => f p _ e) n
/-- a list is rewritten -/
theorem RdDs.put {H : Hp} {xs ys : List V} {ds : List PyData} {l : Addr} {o : HO} (r : RdDs H xs ds) (hl : H l = some (.lst ys)) (n : noLists ds = true) : RdDs (upd H l o) xs ds :=
  r.tups (fun p zs e => by rw [upd_ne (ne_of e hl (by intro z; cases z))]; exact e) n
theorem RdDs.app {H : Hp} {x : V} {d : PyData} : ∀ {xs : List V} {ds : List PyData}, RdDs H xs ds → RdD H x d → RdDs H (xs ++ [x]) (ds ++ [d])
  | _, _, .nil, q => .cons q .nil
  | _, _, .cons r rs, q => .cons r (RdDs.app rs q)
theorem RdDs.len {H : Hp} : ∀ {xs : List V} {ds : List PyData}, RdDs H xs ds → xs.length = ds.length
  | _, _, .nil => rfl
  | _, _, .cons _ rs => by simp [RdDs.len rs]
/-! ### the promises of the laws' own drawing -/
/-- the list of names at l -/
structure NamesAt (H : Hp) (b l : Addr) (xs : List Str) : Prop where
  at_ : H l = some (.lst (xs.map V.str))
  ne : l ≠ b
  some_ : xs ≠ []
  few : xs.length ≤ 1000
  ok : ∀ x ∈ xs, NameOk x
theorem NamesAt.pos {H : Hp} {b l : Addr} {xs : List Str} (h : NamesAt H b l xs) : 0 < ((xs.map V.str).length : Int) ∧ ((xs.map V.str).length : Int) < 1073741824 := by
  have h1 := h.some_
  have h2 := h.few
  have h3 : 0 < xs.length := by cases xs with | nil => exact absurd rfl h1 | cons _ _ => simp
  rw [List.length_map]
  omega
def spNames : Sp := fun vs H Q _ => ∃ (b : Addr), vs = [.ref b] ∧ Bag H b ∧ ∀ l xs H', NamesAt H' b l xs → xs.length ≤ 4 → Bag H' b → Fix b H H' → Q (.ref l) H'
def spNumber : Sp := fun vs H Q _ => ∃ (b : Addr), vs = [.ref b] ∧ Bag H b ∧ ∀ n H', NumOk n → Bag H' b → Fix b H H' → Q (.int n) H'
def spDeed : Sp := fun vs H Q _ => ∃ (b l : Addr) (xs : List Str), vs = [.ref b, .ref l] ∧ Bag H b ∧ NamesAt H b l xs ∧ ∀ v d H', RdD H' v (dDeed d) → DeedOk xs d → Bag H' b → Fix b H H' → Q v H'
def spEndP : Sp := fun vs H Q _ => ∃ (b l : Addr) (xs : List Str) (c : Nat), vs = [.ref b, .ref l, .int c] ∧ Bag H b ∧ NamesAt H b l xs ∧ 0 < c ∧ c < 1073741824 ∧ ∀ v e H', RdD H' v (dEnd e) → EndOk xs c e → Bag H' b → Fix b H H' → Q v H'
def spPlan : Sp := fun vs H Q _ => ∃ (b : Addr) (c m : Nat), vs = [.ref b, .int c, .int m] ∧ Bag H b ∧ 0 < c ∧ c ≤ 1000 ∧ m ≤ 1000 ∧ ∀ v xs ps H', RdD H' v (dPlan ps) → ps.length = c → PlanOk xs m ps → ((∀ x ∈ xs, NameOk x) ∧ xs.length ≤ 4) → Bag H' b → Fix b H H' → Q v H'
def spCount : Sp := fun vs H Q _ => ∃ (b : Addr) (m : Nat), vs = [.ref b, .int m] ∧ Bag H b ∧ 0 < m ∧ m ≤ 1000 ∧ ∀ (n : Nat) H', 0 < n → n ≤ max m 4 → Bag H' b → Fix b H H' → Q (.int n) H'
def abc : Str := "abcdefghijklmnopqrstuvwxyz"
/-- an item of a list of names -/
theorem names_at {xs : List Str} {r : Int} (h0 : 0 ≤ r) (h1 : r < ((xs.map V.str).length : Int)) : ∃ x, atI (xs.map V.str) r = some (V.str x) ∧ x ∈ xs := by
  obtain ⟨v, hv, hm⟩ := at_in h0 h1
  obtain ⟨x, hx, rfl⟩ := List.mem_map.mp hm
  exact ⟨x, hv, hx⟩
theorem yes_ {σ : L2.St} {H : Hp} {Q : Bool → Hp → Prop} (h : Q true H) : tYes σ H Q := h
theorem gname_ {i : Nat} {v : V} {σ : L2.St} {H : Hp} {Q : L2.St → Hp → Prop} (h : Q (σ.set i (some v)) H) : gName i v σ H Q := h
end L2

set_option Elab.async false
set_option linter.all false
set_option maxRecDepth 100000
namespace L2
open PySem PySem.Spec PyProof.Rows
/-! ### data, taken apart -/
theorem RdD.tup_inv {H : Hp} {v : V} {ds : List PyData} (h : RdD H v (.tuple ds)) : ∃ p xs, v = .ref p ∧ H p = some (.tup xs) ∧ RdDs H xs ds := by
  cases h with
  | tup e r => exact ⟨_, _, rfl, e, r⟩
theorem RdD.int_inv {H : Hp} {v : V} {i : Int} (h : RdD H v (.int i)) : v = .int i := by cases h; rfl
theorem RdD.str_inv {H : Hp} {v : V} {x : Str} (h : RdD H v (.str x)) : v = .str x := by cases h; rfl
theorem RdDs.cons_inv {H : Hp} {xs : List V} {d : PyData} {ds : List PyData} (h : RdDs H xs (d :: ds)) : ∃ x r, xs = x :: r ∧ RdD H x d ∧ RdDs H r ds := by
  cases h with
  | cons a b => exact ⟨_, _, rfl, a, b⟩
theorem RdDs.nil_inv {H : Hp} {xs : List V} (h : RdDs H xs []) : xs = [] := by cases h; rfl
theorem RdDs.get {H : Hp} : ∀ {xs : List V} {ds : List PyData} {i : Nat} {d : PyData}, RdDs H xs ds → ds[i]? = some d → ∃ x, xs[i]? = some x ∧ RdD H x d
  | _, _, _, _, .nil, e => by simp at e
  | _, _, 0, _, .cons r _, e => by
    simp at e
    subst e
    exact ⟨_, rfl, r⟩
  | _, _, i + 1, d, .cons _ t, e => by
    obtain ⟨x, h1, h2⟩ := RdDs.get (i := i) (d := d) t (by simpa using e)
    exact ⟨x, by simpa using h1, h2⟩
theorem RdDs.ints {H : Hp} : ∀ {xs : List V} {ns : List Int}, RdDs H xs (ns.map PyData.int) → xs = ns.map V.int
  | _, [], h => h.nil_inv
  | _, n :: ns, h => by
    obtain ⟨x, r, rfl, h1, h2⟩ := h.cons_inv
    rw [h1.int_inv, RdDs.ints h2]
    rfl
/-- the tuple of a deed, of an end -/
def vDeed : Deed → List V
  | .put x n => [.str "put", .str x, .int n]
  | .copy x y => [.str "copy", .str x, .str y]
  | .add x n => [.str "add", .str x, .int n]
  | .read x => [.str "read", .str x]
  | .tell x => [.str "tell", .str x]
def vEnd : End → List V
  | .stop => [.str "stop"]
  | .go p => [.str "go", .int p]
  | .tst b x n p q => [.str (wT b), .str x, .int n, .int p, .int q]
theorem small1000' {n : Nat} (h : n ≤ 1000000) : n < sizeLine := Nat.lt_of_le_of_lt h (by decide)
theorem iteFb {c : Bool} {A B : Prop} (hc : c = false) (h : B) : if c = true then A else B := by subst hc; exact iteF h
theorem iteTb {c : Bool} {A B : Prop} (hc : c = true) (h : A) : if c = true then A else B := by subst hc; exact iteT h
/-- d.get(k, x), its value told apart -/
def tDGet2v (td ty tx : TE) : TE := fun σ H Q => td σ H fun x H1 => ∃ a, x = .ref a ∧ IsD H1 a ∧ ty σ H1 fun y H2 => tx σ H2 fun z H3 => ∃ o v, DGet H3 a y o ∧ o.getD z = v ∧ Q v H3
/-! ### the run -/
structure RS where
  piece : Nat
  place : Nat
  w : Str → Int
  taken : Nat
  told : List Int
  word : Str
  been : List Nat
def setW (w : Str → Int) (x : Str) (n : Int) : Str → Int := fun y => if y = x then n else w y
def stepD (nums : List Int) (S : RS) : Deed → RS
  | .put x n => { S with w := setW S.w x n, place := S.place + 1 }
  | .copy x y => { S with w := setW S.w x (S.w y), place := S.place + 1 }
  | .add x n => { S with w := setW S.w x (S.w x + n), place := S.place + 1 }
  | .tell x => { S with told := S.told ++ [S.w x], place := S.place + 1 }
  | .read x => match nums[S.taken]? with
    | none => { S with word := "dry" }
    | some n => { S with w := setW S.w x n, taken := S.taken + 1, place := S.place + 1 }
def ansT (b : Bool) (u n : Int) : Bool := if b = true then decide (u < n) else decide (u = n)
def stepE (S : RS) : End → RS
  | .stop => { S with word := "stop" }
  | .go p => { S with piece := p, place := 0, been := S.been ++ [p] }
  | .tst b x n p q => { S with piece := if ansT b (S.w x) n = true then p else q, place := 0, been := S.been ++ [if ansT b (S.w x) n = true then p else q] }
def stepF (ps : List Piece) (nums : List Int) (S : RS) : RS := match ps[S.piece]? with
  | none => S
  | some (ds, e) => match ds[S.place]? with
    | some d => stepD nums S d
    | none => stepE S e
/-- the dict of worths -/
def DW (kvs : List (Key × V)) (w : Str → Int) : Prop := ∀ x : Str, (valV kvs (Sum.inr x : Key)).getD (.int 0) = .int (w x)
theorem DW.put {kvs : List (Key × V)} {w : Str → Int} (h : DW kvs w) (x : Str) (n : Int) : DW (putK kvs (Sum.inr x) (.int n)) (setW w x n) := fun y => by
  rw [valV_put]
  unfold setW
  by_cases e : y = x
  · subst e
    rw [if_pos rfl, if_pos rfl]; rfl
  · rw [if_neg (fun z => e (Sum.inr.inj z)), if_neg e]
    exact h y
/-- the walker's state as it lies: the tuple at st, the dict at d, what was told at tl, where it was at bl -/
structure StAt (H : Hp) (st d tl bl : Addr) (S : RS) (m : Nat) : Prop where
  at_ : H st = some (.tup [.int S.piece, .int S.place, .ref d, .int S.taken, .ref tl, .str S.word, .ref bl])
  dict : ∃ kvs, H d = some (.dK kvs) ∧ DW kvs S.w ∧ kvs.length ≤ m
  told : H tl = some (.lst (S.told.map V.int))
  been : H bl = some (.lst (S.been.map fun k => V.int (k : Nat)))
  ne : tl ≠ bl
  few : S.told.length ≤ m ∧ S.been.length ≤ m + 1
/-- but the three -/
def But (d tl bl : Addr) (H H' : Hp) : Prop := ∀ c o, H c = some o → c ≠ d → c ≠ tl → c ≠ bl → H' c = some o
theorem But.refl (d tl bl : Addr) (H : Hp) : But d tl bl H H := fun _ _ h _ _ _ => h
theorem But.trans {d tl bl : Addr} {H H1 H2 : Hp} (a : But d tl bl H H1) (b : But d tl bl H1 H2) : But d tl bl H H2 := fun c o h n1 n2 n3 => b c o (a c o h n1 n2 n3) n1 n2 n3
theorem But.new {d tl bl p : Addr} {H : Hp} {o : HO} (hp : H p = none) : But d tl bl H (upd H p o) := fun c u h _ _ _ => by rw [upd_ne (ne_of_none h hp)]; exact h
/-- all P lie in the plan -/
def InPlan (ps : List Piece) : Prop := ∀ p ∈ ps, match p.2 with
  | .stop => True
  | .go q => q < ps.length
  | .tst _ _ _ q r => q < ps.length ∧ r < ps.length
def spStep : Sp := fun vs H Q _ => ∃ (pv : V) (st np d tl bl : Addr) (ps : List Piece) (nums : List Int) (S : RS) (m : Nat), vs = [pv, .ref st, .ref np] ∧ RdD H pv (dPlan ps) ∧ InPlan ps ∧ H np = some (.tup (nums.map V.int)) ∧ StAt H st d tl bl S m ∧
  S.piece < ps.length ∧ S.taken ≤ nums.length ∧ m ≤ 10000 ∧ ∀ st' H', StAt H' st' d tl bl (stepF ps nums S) (m + 1) → But d tl bl H H' → Q (.ref st') H'
theorem stepF_in {ps : List Piece} {nums : List Int} {S : RS} (hp : InPlan ps) (h : S.piece < ps.length) (ht : S.taken ≤ nums.length) : (stepF ps nums S).piece < ps.length ∧ (stepF ps nums S).taken ≤ nums.length := by
  unfold stepF
  have hx : ps[S.piece]? = some ps[S.piece] := by simp [h]
  rw [hx]
  generalize hpc : ps[S.piece] = pc
  obtain ⟨ds, e⟩ := pc
  have hm : (ds, e) ∈ ps := by rw [← hpc]; exact List.getElem_mem h
  dsimp only
  cases hd : ds[S.place]? with
  | some dd =>
    cases dd with
    | read x =>
      dsimp only [stepD]
      cases hn : nums[S.taken]? with
      | none => exact ⟨h, ht⟩
      | some n =>
        have : S.taken < nums.length := (List.getElem?_eq_some_iff.mp hn).1
        exact ⟨h, this⟩
    | _ => exact ⟨h, ht⟩
  | none =>
    have hq := hp (ds, e) hm
    cases e with
    | stop => exact ⟨h, ht⟩
    | go q => exact ⟨hq, ht⟩
    | tst b x n q r =>
      dsimp only [stepE]
      refine ⟨?_, ht⟩
      split
      · exact hq.1
      · exact hq.2
end L2

set_option Elab.async false
set_option linter.all false
set_option maxRecDepth 100000
namespace L2
open PySem PySem.Spec PyProof.Rows
/-! ### parts of stretches -/
def vO : Option Int → V
  | none => .non
  | some i => .int i
def LEo : Option Int → Option Int → Prop
  | some a, some b => a ≤ b
  | _, _ => True
def liesB (n : Int) (lo hi : Option Int) : Bool := (match lo with | none => true | some a => decide (a ≤ n)) && (match hi with | none => true | some a => decide (n ≤ a))
abbrev Rs := Option (Option Int × Option Int)
/-- the parts -/
def topF (hi : Option Int) (n : Int) : Int := match hi with | none => n - 1 | some h => if n - 1 < h then n - 1 else h
def botF (lo : Option Int) (n : Int) : Int := match lo with | none => n | some l => if n > l then n else l
def belowF (lo hi : Option Int) (n : Int) : Rs :=
  match lo with | none => some (none, some (topF hi n)) | some l => if topF hi n < l then none else some (some l, some (topF hi n))
def fromF (lo hi : Option Int) (n : Int) : Rs :=
  match hi with | none => some (some (botF lo n), none) | some h => if h < botF lo n then none else some (some (botF lo n), some h)
def atF (lo hi : Option Int) (n : Int) : Rs := if liesB n lo hi = true then some (some n, some n) else none
def besF (lo hi : Option Int) (n : Int) : Rs := if lo = some n then (if hi = some n then none else some (some (n + 1), hi)) else if hi = some n then some (lo, some (n - 1)) else some (lo, hi)
def lessF (lo hi : Option Int) (n : Int) (side : Bool) : Rs := if side = true then belowF lo hi n else fromF lo hi n
def isF (lo hi : Option Int) (n : Int) (side : Bool) : Rs := if side = true then atF lo hi n else besF lo hi n
def partF (w : Str) (lo hi : Option Int) (n : Int) (side : Bool) : Rs := if w = "less" then lessF lo hi n side else isF lo hi n side
def ansF (rt rf : Rs) : Str := match rf with
  | none => "yes"
  | some _ => match rt with
    | none => "no"
    | some _ => "open"
/-- a part as it lies -/
def RV (H : Hp) (v : V) (r : Rs) : Prop := match r with
  | none => v = .non
  | some (a, b) => ∃ p, v = .ref p ∧ H p = some (.tup [vO a, vO b])
theorem RV.same {H H' : Hp} {v : V} {r : Rs} (h : RV H v r) (s : Same H H') : RV H' v r := by
  cases r with
  | none => exact h
  | some ab =>
    obtain ⟨p, e, h⟩ := h
    exact ⟨p, e, s _ _ h⟩
theorem RV.put {H : Hp} {v : V} {r : Rs} {l : Addr} {xs : List V} {o : HO} (h : RV H v r) (hl : H l = some (.lst xs)) : RV (upd H l o) v r := by
  cases r with
  | none => exact h
  | some ab =>
    obtain ⟨p, e, h⟩ := h
    exact ⟨p, e, by rw [upd_ne (ne_of h hl (by intro z; cases z))]; exact h⟩
def dO : Option Int → PyData
  | none => .none
  | some i => .int i
def dR : Rs → PyData
  | none => .none
  | some (a, b) => .tuple [dO a, dO b]
theorem rd_o {H : Hp} (o : Option Int) : RdD H (vO o) (dO o) := by
  cases o with
  | none => exact .non
  | some i => exact .int i
theorem RV.rd {H : Hp} {v : V} {r : Rs} (h : RV H v r) : RdD H v (dR r) := by
  cases r with
  | none => cases (show v = V.non from h); exact .non
  | some ab =>
    obtain ⟨a, b⟩ := ab
    obtain ⟨p, rfl, h⟩ := h
    exact .tup h (.cons (rd_o a) (.cons (rd_o b) .nil))
def spLies : Sp := fun vs H Q _ => ∃ (n : Int) (q : Addr) (lo hi : Option Int), vs = [.int n, .ref q] ∧ H q = some (.tup [vO lo, vO hi]) ∧ Q (.bl (liesB n lo hi)) H
def spP (F : Option Int → Option Int → Int → Rs) : Sp := fun vs H Q _ => ∃ (p : Addr) (n : Int) (lo hi : Option Int), vs = [.ref p, .int n] ∧ H p = some (.tup [vO lo, vO hi]) ∧ ∀ v H', RV H' v (F lo hi n) → Same H H' → Q v H'
def spL (F : Option Int → Option Int → Int → Bool → Rs) : Sp := fun vs H Q _ => ∃ (p : Addr) (n : Int) (side : Bool) (lo hi : Option Int), vs = [.ref p, .int n, .bl side] ∧ H p = some (.tup [vO lo, vO hi]) ∧ ∀ v H', RV H' v (F lo hi n side) → Same H H' → Q v H'
def spPart : Sp := fun vs H Q _ => ∃ (p : Addr) (w : Str) (n : Int) (side : Bool) (lo hi : Option Int), vs = [.ref p, .str w, .int n, .bl side] ∧ H p = some (.tup [vO lo, vO hi]) ∧ ∀ v H', RV H' v (partF w lo hi n side) → Same H H' → Q v H'
def spAns : Sp := fun vs H Q _ => ∃ (p : Addr) (w : Str) (n : Int) (lo hi : Option Int), vs = [.ref p, .str w, .int n] ∧ H p = some (.tup [vO lo, vO hi]) ∧ ∀ H', Same H H' → Q (.str (ansF (partF w lo hi n true) (partF w lo hi n false))) H'
theorem Same.put {H H' : Hp} {l : Addr} {o : HO} (s : Same H H') (n : H l = none) : Same H (upd H' l o) := fun c u e => by rw [upd_ne (ne_of_none e n)]; exact s c u e
end L2

set_option Elab.async false
set_option linter.all false
set_option maxRecDepth 100000
namespace L2
open PySem PySem.Spec PyProof.Rows
/-! ### own classes -/
structure MOwn (P : Program) (w : World) (K : PySem.W.Frag) (mg : Str → Option Value) (base : Heap) (C : Addr) (m : Str) (k : Nat) (ps : List Str) (sp : Sp) : Prop where
  cl : Cls K C
  ex : ∃ f fd, FnOk P w K mg base CX0 k f fd ps sp ∧ Meth K C m f ∧ Binds K fd ps []
structure COwn (P : Program) (w : World) (K : PySem.W.Frag) (mg : Str → Option Value) (base : Heap) (C : Addr) (x : Str) (k : Nat) (ps : List Str) (sp : Sp) : Prop where
  ex : ∃ f fd, FnOk P w K mg base CX0 k f fd ps sp ∧ Mk K C f ∧ mg x = some (.ref C) ∧ Binds K fd ps []
section
variable {X : Cx} {C : Addr} {m x : Str} {k : Nat} {ps : List Str} {sp : Sp} {oe e : Expr} {es : List Expr} {ta : TE} {t : TA} {p pos apos : Pos}
end
/-! ### the fields of a walker's stand -/
def sfl (a0 a1 a2 a3 a4 a5 a6 a7 : V) : List (Str × V) := [("pieces", a0), ("passed", a1), ("place", a2), ("worths", a3), ("numbers", a4), ("taken", a5), ("spoken", a6), ("over", a7)]
section
variable {a0 a1 a2 a3 a4 a5 a6 a7 z : V}
end
structure StT (K : PySem.W.Frag) (C : Addr) : Prop where
  cl : Cls K C
  pieces : NoAttr K C "pieces"
  passed : NoAttr K C "passed"
  place : NoAttr K C "place"
  worths : NoAttr K C "worths"
  numbers : NoAttr K C "numbers"
  taken : NoAttr K C "taken"
  spoken : NoAttr K C "spoken"
  over : NoAttr K C "over"
/-- the stand as it lies: the list of pieces passed at pl, the worths at d, the numbers at nl, what was spoken at sl -/
structure SAt (C : Addr) (H : Hp) (p pl d nl sl : Addr) (plv : V) (nums : List Int) (S : RS) (m : Nat) : Prop where
  ob : ∃ dx, H p = some (.ins C dx (sfl plv (.ref pl) (.int S.place) (.ref d) (.ref nl) (.int S.taken) (.ref sl) (.bl (decide (S.word = "stop")))))
  passed : H pl = some (.lst (S.been.map fun k => V.int (k : Nat)))
  last : ∃ xs, S.been = xs ++ [S.piece]
  dict : ∃ kvs, H d = some (.dK kvs) ∧ DW kvs S.w ∧ kvs.length ≤ m
  nums : H nl = some (.lst (nums.map V.int))
  spoken : H sl = some (.lst (S.told.map V.int))
  ne : pl ≠ nl ∧ pl ≠ sl ∧ nl ≠ sl
  few : S.told.length ≤ m ∧ S.been.length ≤ m + 1
/-- but the four -/
def But4 (p pl d sl : Addr) (H H' : Hp) : Prop := ∀ c o, H c = some o → c ≠ p → c ≠ pl → c ≠ d → c ≠ sl → H' c = some o
theorem But4.refl (p pl d sl : Addr) (H : Hp) : But4 p pl d sl H H := fun _ _ h _ _ _ _ => h
theorem But4.trans {p pl d sl : Addr} {H H1 H2 : Hp} (a : But4 p pl d sl H H1) (b : But4 p pl d sl H1 H2) : But4 p pl d sl H H2 := fun c o h n1 n2 n3 n4 => b c o (a c o h n1 n2 n3 n4) n1 n2 n3 n4
section
variable {C : Addr} {H H' : Hp} {p pl d nl sl : Addr} {plv : V} {nums : List Int} {S : RS} {m : Nat}
theorem SAt.nes (A : SAt C H p pl d nl sl plv nums S m) : p ≠ pl ∧ p ≠ d ∧ p ≠ nl ∧ p ≠ sl ∧ d ≠ pl ∧ d ≠ nl ∧ d ≠ sl := by
  obtain ⟨dx, h1⟩ := A.ob
  obtain ⟨kvs, h2, _⟩ := A.dict
  refine ⟨ne_of h1 A.passed ?_, ne_of h1 h2 ?_, ne_of h1 A.nums ?_, ne_of h1 A.spoken ?_, ne_of h2 A.passed ?_, ne_of h2 A.nums ?_, ne_of h2 A.spoken ?_⟩ <;> (intro z; cases z)
theorem SAt.tup {c : Addr} {xs : List V} (A : SAt C H p pl d nl sl plv nums S m) (b : But4 p pl d sl H H') (h : H c = some (.tup xs)) : H' c = some (.tup xs) := by
  obtain ⟨dx, h1⟩ := A.ob
  obtain ⟨kvs, h2, _⟩ := A.dict
  refine b c _ h (ne_of h h1 ?_) (ne_of h A.passed ?_) (ne_of h h2 ?_) (ne_of h A.spoken ?_) <;> (intro z; cases z)
theorem SAt.rd {x : V} {dd : PyData} (A : SAt C H p pl d nl sl plv nums S m) (b : But4 p pl d sl H H') (r : RdD H x dd) (n : noList dd = true) : RdD H' x dd :=
  r.tups (fun c xs e => A.tup b e) n
theorem SAt.same (A : SAt C H p pl d nl sl plv nums S m) (s : Same H H') : SAt C H' p pl d nl sl plv nums S m := by
  obtain ⟨⟨dx, h1⟩, h2, h3, ⟨kvs, h4, h5⟩, h6, h7, h8, h9⟩ := A
  exact ⟨⟨dx, s _ _ h1⟩, s _ _ h2, h3, ⟨kvs, s _ _ h4, h5⟩, s _ _ h6, s _ _ h7, h8, h9⟩
/-- the object is written, its fields alone -/
theorem SAt.obj {dx : Addr} {S' : RS} {fs : List (Str × V)} (A : SAt C H p pl d nl sl plv nums S m)
    (e : fs = sfl plv (.ref pl) (.int S'.place) (.ref d) (.ref nl) (.int S'.taken) (.ref sl) (.bl (decide (S'.word = "stop"))))
    (e1 : S'.been = S.been) (e2 : S'.piece = S.piece) (e3 : S'.w = S.w) (e4 : S'.told = S.told) : SAt C (upd H p (.ins C dx fs)) p pl d nl sl plv nums S' m := by
  obtain ⟨n1, n2, n3, n4, _⟩ := A.nes
  obtain ⟨kvs, h4, h5⟩ := A.dict
  subst e
  refine ⟨⟨dx, upd_same⟩, by rw [upd_ne n1.symm, e1]; exact A.passed, by rw [e1, e2]; exact A.last, ⟨kvs, by rw [upd_ne n2.symm]; exact h4, by rw [e3]; exact h5⟩, by rw [upd_ne n3.symm]; exact A.nums, by rw [upd_ne n4.symm, e4]; exact A.spoken, A.ne, by rw [e1, e4]; exact A.few⟩
/-- the worths are written -/
theorem SAt.worths {kvs : List (Key × V)} {x : Str} {n : Int} (A : SAt C H p pl d nl sl plv nums S m) (h : H d = some (.dK kvs)) (dw : DW kvs S.w) (hl : kvs.length ≤ m) :
    SAt C (upd H d (.dK (putK kvs (Sum.inr x) (.int n)))) p pl d nl sl plv nums { S with w := setW S.w x n } (m + 1) := by
  obtain ⟨n1, n2, n3, n4, n5, n6, n7⟩ := A.nes
  obtain ⟨dx, h1⟩ := A.ob
  refine ⟨⟨dx, by rw [upd_ne n2]; exact h1⟩, by rw [upd_ne n5.symm]; exact A.passed, A.last, ⟨_, upd_same, dw.put x n, ?_⟩, by rw [upd_ne n6.symm]; exact A.nums, by rw [upd_ne n7.symm]; exact A.spoken, A.ne, ⟨Nat.le_succ_of_le A.few.1, Nat.le_succ_of_le A.few.2⟩⟩
  have := length_putK kvs (Sum.inr x : Key) (V.int n)
  omega
/-- more is spoken -/
theorem SAt.speak {n : Int} (A : SAt C H p pl d nl sl plv nums S m) : SAt C (upd H sl (.lst (S.told.map V.int ++ [.int n]))) p pl d nl sl plv nums { S with told := S.told ++ [n] } (m + 1) := by
  obtain ⟨n1, n2, n3, n4, n5, n6, n7⟩ := A.nes
  obtain ⟨dx, h1⟩ := A.ob
  obtain ⟨kvs, h4, h5, h6⟩ := A.dict
  refine ⟨⟨dx, by rw [upd_ne n4]; exact h1⟩, by rw [upd_ne A.ne.2.1]; exact A.passed, A.last, ⟨kvs, by rw [upd_ne n7]; exact h4, h5, Nat.le_succ_of_le h6⟩, by rw [upd_ne A.ne.2.2]; exact A.nums, by rw [upd_same, List.map_append]; rfl, A.ne, ?_, Nat.le_succ_of_le A.few.2⟩
  have := A.few.1
  show (S.told ++ [n]).length ≤ m + 1
  rw [List.length_append]
  exact Nat.succ_le_succ this
/-- a piece more -/
theorem SAt.come {q : Nat} (A : SAt C H p pl d nl sl plv nums S m) : SAt C (upd H pl (.lst ((S.been.map fun k => V.int (k : Nat)) ++ [.int q]))) p pl d nl sl plv nums { S with piece := q, been := S.been ++ [q] } (m + 1) := by
  obtain ⟨n1, n2, n3, n4, n5, n6, n7⟩ := A.nes
  obtain ⟨dx, h1⟩ := A.ob
  obtain ⟨kvs, h4, h5, h6⟩ := A.dict
  refine ⟨⟨dx, by rw [upd_ne n1]; exact h1⟩, by rw [upd_same, List.map_append]; rfl, ⟨S.been, rfl⟩, ⟨kvs, by rw [upd_ne n5]; exact h4, h5, Nat.le_succ_of_le h6⟩, by rw [upd_ne A.ne.1.symm]; exact A.nums, by rw [upd_ne A.ne.2.1.symm]; exact A.spoken, A.ne, Nat.le_succ_of_le A.few.1, ?_⟩
  have := A.few.2
  show (S.been ++ [q]).length ≤ m + 1 + 1
  rw [List.length_append]
  exact Nat.succ_le_succ this
theorem SAt.mono {m' : Nat} (A : SAt C H p pl d nl sl plv nums S m) (h : m ≤ m') : SAt C H p pl d nl sl plv nums S m' := by
  obtain ⟨h1, h2, h3, ⟨kvs, h4, h5, h6⟩, h7, h8, h9, h10⟩ := A
  exact ⟨h1, h2, h3, ⟨kvs, h4, h5, Nat.le_trans h6 h⟩, h7, h8, h9, Nat.le_trans h10.1 h, Nat.le_trans h10.2 (Nat.succ_le_succ h)⟩
end
/-! ### the promises -/
def spWorth (C : Addr) : Sp := fun vs H Q _ => ∃ (p pl d nl sl : Addr) (plv : V) (nums : List Int) (S : RS) (m : Nat) (x : Str), vs = [.ref p, .str x] ∧ SAt C H p pl d nl sl plv nums S m ∧ Q (.int (S.w x)) H
/-- what comes next: a deed or the end -/
inductive Nx (H : Hp) (ds : List Deed) (e : End) (i : Nat) (v : V) : Prop
  | deed (dd : Deed) (q : Addr) (h : ds[i]? = some dd) (hv : v = .ref q) (hq : H q = some (.tup (vDeed dd)))
  | end_ (q : Addr) (h : ds[i]? = none) (hv : v = .ref q) (hq : H q = some (.tup (vEnd e)))
def spComing (C : Addr) : Sp := fun vs H Q _ => ∃ (p pl d nl sl : Addr) (plv : V) (nums : List Int) (S : RS) (m : Nat) (ps : List Piece) (ds : List Deed) (e : End), vs = [.ref p] ∧ SAt C H p pl d nl sl plv nums S m ∧ RdD H plv (dPlan ps) ∧ ps[S.piece]? = some (ds, e) ∧
  ∀ v, Nx H ds e S.place v → Q v H
def isRead : Deed → Bool
  | .read _ => true
  | _ => false
def lackB (ps : List Piece) (nums : List Int) (S : RS) : Bool := match ps[S.piece]? with
  | none => false
  | some (ds, _) => match ds[S.place]? with
    | some dd => isRead dd && decide (S.taken = nums.length)
    | none => false
def spLacks (C : Addr) : Sp := fun vs H Q _ => ∃ (p pl d nl sl : Addr) (plv : V) (nums : List Int) (S : RS) (m : Nat) (ps : List Piece), vs = [.ref p] ∧ SAt C H p pl d nl sl plv nums S m ∧ RdD H plv (dPlan ps) ∧ S.piece < ps.length ∧ Q (.bl (lackB ps nums S)) H
def spTakeN (C : Addr) : Sp := fun vs H Q _ => ∃ (p pl d nl sl : Addr) (plv : V) (nums : List Int) (S : RS) (m : Nat) (n : Int), vs = [.ref p] ∧ SAt C H p pl d nl sl plv nums S m ∧ nums[S.taken]? = some n ∧
  ∀ H', SAt C H' p pl d nl sl plv nums { S with taken := S.taken + 1 } m → But4 p pl d sl H H' → Q (.int n) H'
def spDoDeed (C : Addr) : Sp := fun vs H Q _ => ∃ (p pl d nl sl q : Addr) (plv : V) (nums : List Int) (S : RS) (m : Nat) (dd : Deed), vs = [.ref p, .ref q] ∧ SAt C H p pl d nl sl plv nums S m ∧ H q = some (.tup (vDeed dd)) ∧ (isRead dd = true → S.taken < nums.length) ∧ m ≤ 10000 ∧
  ∀ H', SAt C H' p pl d nl sl plv nums (stepD nums S dd) (m + 1) → But4 p pl d sl H H' → Q .non H'
def spCome (C : Addr) : Sp := fun vs H Q _ => ∃ (p pl d nl sl : Addr) (plv : V) (nums : List Int) (S : RS) (m n : Nat), vs = [.ref p, .int n] ∧ SAt C H p pl d nl sl plv nums S m ∧ m ≤ 10000 ∧
  ∀ H', SAt C H' p pl d nl sl plv nums { S with piece := n, place := 0, been := S.been ++ [n] } (m + 1) → But4 p pl d sl H H' → Q .non H'
def spDoEnd (C : Addr) : Sp := fun vs H Q _ => ∃ (p pl d nl sl q : Addr) (plv : V) (nums : List Int) (S : RS) (m : Nat) (e : End), vs = [.ref p, .ref q] ∧ SAt C H p pl d nl sl plv nums S m ∧ H q = some (.tup (vEnd e)) ∧ m ≤ 10000 ∧
  ∀ H', SAt C H' p pl d nl sl plv nums (stepE S e) (m + 1) → But4 p pl d sl H H' → Q .non H'
def spDoStep (C : Addr) : Sp := fun vs H Q _ => ∃ (p pl d nl sl : Addr) (plv : V) (nums : List Int) (S : RS) (m : Nat) (ps : List Piece), vs = [.ref p] ∧ SAt C H p pl d nl sl plv nums S m ∧ RdD H plv (dPlan ps) ∧ S.piece < ps.length ∧ S.taken ≤ nums.length ∧ lackB ps nums S = false ∧ m ≤ 10000 ∧
  ∀ H', SAt C H' p pl d nl sl plv nums (stepF ps nums S) (m + 1) → But4 p pl d sl H H' → Q .non H'
/-! ### many steps -/
def onF (ps : List Piece) (nums : List Int) (S : RS) : RS := if S.word = "on" then stepF ps nums S else S
def walkF (ps : List Piece) (nums : List Int) : Nat → RS → RS
  | 0, S => S
  | n + 1, S => onF ps nums (walkF ps nums n S)
theorem walk_on {ps : List Piece} {nums : List Int} {n : Nat} {S : RS} (h : (walkF ps nums n S).word = "on") : walkF ps nums (n + 1) S = stepF ps nums (walkF ps nums n S) := by
  show onF ps nums _ = _
  unfold onF
  rw [if_pos h]
theorem walk_off {ps : List Piece} {nums : List Int} {n : Nat} {S : RS} (h : ¬ (walkF ps nums n S).word = "on") : ∀ k, walkF ps nums (n + k) S = walkF ps nums n S
  | 0 => rfl
  | k + 1 => by
    show onF ps nums (walkF ps nums (n + k) S) = _
    rw [walk_off h k]
    unfold onF
    rw [if_neg h]
/-- a number lacks: the step tells dry and does nothing else -/
theorem lack_dry {ps : List Piece} {nums : List Int} {S : RS} (h : lackB ps nums S = true) : stepF ps nums S = { S with word := "dry" } := by
  unfold lackB at h
  unfold stepF
  cases hx : ps[S.piece]? with
  | none => rw [hx] at h; cases h
  | some pc =>
    obtain ⟨ds, e⟩ := pc
    rw [hx] at h
    dsimp only at h ⊢
    cases hd : ds[S.place]? with
    | none => rw [hd] at h; cases h
    | some dd =>
      rw [hd] at h
      dsimp only at h ⊢
      cases dd with
      | read x =>
        have ht : S.taken = nums.length := of_decide_eq_true (by simpa [isRead] using h)
        have hn : nums[S.taken]? = none := by rw [ht]; simp
        show stepD nums S (.read x) = _
        unfold stepD
        rw [hn]
      | _ => cases h
/-- no number lacks: the word is on, or a stop was done -/
theorem lack_not {ps : List Piece} {nums : List Int} {S : RS} (h : lackB ps nums S = false) (hw : S.word = "on") (ht : S.taken ≤ nums.length) : (stepF ps nums S).word = "on" ∨ (stepF ps nums S).word = "stop" := by
  unfold lackB at h
  unfold stepF
  cases hx : ps[S.piece]? with
  | none => exact .inl hw
  | some pc =>
    obtain ⟨ds, e⟩ := pc
    rw [hx] at h
    dsimp only at h ⊢
    cases hd : ds[S.place]? with
    | none =>
      dsimp only
      cases e with
      | stop => exact .inr rfl
      | go q => exact .inl hw
      | tst b x n q r => exact .inl hw
    | some dd =>
      rw [hd] at h
      dsimp only at h ⊢
      cases dd with
      | read x =>
        have hlt : S.taken < nums.length := by
          have : ¬ S.taken = nums.length := of_decide_eq_false (by simpa [isRead] using h)
          omega
        have hn : nums[S.taken]? = some nums[S.taken] := by simp [hlt]
        show (stepD nums S (.read x)).word = _ ∨ _
        unfold stepD
        rw [hn]
        exact .inl hw
      | put x n => exact .inl hw
      | copy x y => exact .inl hw
      | add x n => exact .inl hw
      | tell x => exact .inl hw
def start0 (pc : Nat) (w : Str → Int) : RS := ⟨pc, 0, w, 0, [], "on", [pc]⟩
/-! ### held: a stop was done, or a number lacks -/
def heldB (ps : List Piece) (nums : List Int) (S : RS) : Bool := decide (S.word = "stop") || lackB ps nums S
def goF (ps : List Piece) (nums : List Int) : Nat → RS → RS
  | 0, S => S
  | n + 1, S => if heldB ps nums (goF ps nums n S) = true then goF ps nums n S else stepF ps nums (goF ps nums n S)
def cntF (ps : List Piece) (nums : List Int) : Nat → RS → Nat
  | 0, _ => 0
  | n + 1, S => if heldB ps nums (goF ps nums n S) = true then cntF ps nums n S else cntF ps nums n S + 1
theorem go_not {ps : List Piece} {nums : List Int} {n : Nat} {S : RS} (h : heldB ps nums (goF ps nums n S) = false) : goF ps nums (n + 1) S = stepF ps nums (goF ps nums n S) ∧ cntF ps nums (n + 1) S = cntF ps nums n S + 1 := by
  have h' : ¬ heldB ps nums (goF ps nums n S) = true := by rw [h]; decide
  exact ⟨if_neg h', if_neg h'⟩
theorem go_held {ps : List Piece} {nums : List Int} {n : Nat} {S : RS} (h : heldB ps nums (goF ps nums n S) = true) : ∀ k, goF ps nums (n + k) S = goF ps nums n S ∧ cntF ps nums (n + k) S = cntF ps nums n S
  | 0 => ⟨rfl, rfl⟩
  | k + 1 => by
    have ih := go_held h k
    have h' : heldB ps nums (goF ps nums (n + k) S) = true := by rw [ih.1]; exact h
    exact ⟨(if_pos h').trans ih.1, (if_pos h').trans ih.2⟩
theorem cnt_le {ps : List Piece} {nums : List Int} {S : RS} : ∀ n, cntF ps nums n S ≤ n
  | 0 => Nat.le_refl _
  | n + 1 => by
    have ih := cnt_le (ps := ps) (nums := nums) (S := S) n
    unfold cntF
    split <;> omega
theorem go_in {ps : List Piece} {nums : List Int} {S : RS} (hp : InPlan ps) (h : S.piece < ps.length) (ht : S.taken ≤ nums.length) : ∀ n, (goF ps nums n S).piece < ps.length ∧ (goF ps nums n S).taken ≤ nums.length
  | 0 => ⟨h, ht⟩
  | n + 1 => by
    have ih := go_in hp h ht n
    unfold goF
    split
    · exact ih
    · exact stepF_in hp ih.1 ih.2
/-- the walk by words, and the one that is held -/
theorem go_walk {ps : List Piece} {nums : List Int} {S : RS} (hin : InPlan ps) (hpc : S.piece < ps.length) (ht : S.taken ≤ nums.length) (hw : S.word = "on") : ∀ n,
    ((walkF ps nums n S).word = "on" ∧ goF ps nums n S = walkF ps nums n S ∧ cntF ps nums n S = n) ∨ ((walkF ps nums n S).word = "stop" ∧ goF ps nums n S = walkF ps nums n S) ∨
    (walkF ps nums n S = { goF ps nums n S with word := "dry" } ∧ (goF ps nums n S).word = "on" ∧ lackB ps nums (goF ps nums n S) = true ∧ cntF ps nums n S < n)
  | 0 => .inl ⟨hw, rfl, rfl⟩
  | n + 1 => by
    have gi := go_in (ps := ps) (nums := nums) (S := S) hin hpc ht n
    rcases go_walk hin hpc ht hw n with ⟨h1, h2, h3⟩ | ⟨h1, h2⟩ | ⟨h1, h2, h3, h4⟩
    · have e1 := walk_on h1
      have ns : decide ((goF ps nums n S).word = "stop") = false := by rw [h2, h1]; decide +kernel
      cases hl : lackB ps nums (goF ps nums n S) with
      | true =>
        have hh : heldB ps nums (goF ps nums n S) = true := by unfold heldB; rw [ns, hl]; rfl
        have e2 := go_held hh 1
        refine .inr (.inr ⟨?_, ?_, ?_, ?_⟩)
        · rw [e1, e2.1, ← h2]
          exact lack_dry hl
        · rw [e2.1, h2]; exact h1
        · rw [e2.1]; exact hl
        · rw [e2.2, h3]; omega
      | false =>
        have hh : heldB ps nums (goF ps nums n S) = false := by unfold heldB; rw [ns, hl]; rfl
        have e2 := go_not hh
        have w2 := lack_not hl (by rw [h2]; exact h1) gi.2
        have e3 : goF ps nums (n + 1) S = walkF ps nums (n + 1) S := by rw [e2.1, e1, h2]
        rcases w2 with w2 | w2
        · exact .inl ⟨by rw [← e3, e2.1]; exact w2, e3, by rw [e2.2, h3]⟩
        · exact .inr (.inl ⟨by rw [← e3, e2.1]; exact w2, e3⟩)
    · have hh : heldB ps nums (goF ps nums n S) = true := by unfold heldB; rw [h2, h1]; rfl
      have e2 := go_held hh 1
      have e1 := walk_off (n := n) (ps := ps) (nums := nums) (S := S) (by rw [h1]; decide +kernel) 1
      exact .inr (.inl ⟨by rw [e1]; exact h1, by rw [e2.1, e1]; exact h2⟩)
    · have hh : heldB ps nums (goF ps nums n S) = true := by unfold heldB; rw [h3]; simp
      have e2 := go_held hh 1
      have e1 := walk_off (n := n) (ps := ps) (nums := nums) (S := S) (by rw [h1]; show ¬ (("dry" : Str) = "on"); decide +kernel) 1
      refine .inr (.inr ⟨?_, ?_, ?_, ?_⟩)
      · rw [e1, e2.1]; exact h1
      · rw [e2.1]; exact h2
      · rw [e2.1]; exact h3
      · rw [e2.2]; omega
def spHeld (C : Addr) : Sp := fun vs H Q _ => ∃ (p pl d nl sl : Addr) (plv : V) (nums : List Int) (S : RS) (m : Nat) (ps : List Piece), vs = [.ref p] ∧ SAt C H p pl d nl sl plv nums S m ∧ RdD H plv (dPlan ps) ∧ S.piece < ps.length ∧ Q (.bl (heldB ps nums S)) H
/-- the stand at the end of the steps, and how many were done -/
def spGoOn (C : Addr) : Sp := fun vs H Q _ => ∃ (p pl d nl sl : Addr) (plv : V) (nums : List Int) (S : RS) (m n : Nat) (ps : List Piece), vs = [.ref p, .int n] ∧ SAt C H p pl d nl sl plv nums S m ∧ RdD H plv (dPlan ps) ∧ InPlan ps ∧ S.piece < ps.length ∧ S.taken ≤ nums.length ∧ m + n ≤ 10000 ∧
  ∀ H', SAt C H' p pl d nl sl plv nums (goF ps nums n S) (m + cntF ps nums n S) → But4 p pl d sl H H' → Q (.int (cntF ps nums n S : Nat)) H'
def spInitS (C : Addr) : Sp := fun vs H Q _ => ∃ (p dx d0 np : Addr) (plv : V) (pc : Nat) (kvs : List (Key × V)) (w : Str → Int) (nums : List Int), vs = [.ref p, plv, .int pc, .ref d0, .ref np] ∧ H p = some (.ins C dx []) ∧ H d0 = some (.dK kvs) ∧ DW kvs w ∧ H np = some (.tup (nums.map V.int)) ∧
  ∀ (pl d nl sl : Addr) (H' : Hp), SAt C H' p pl d nl sl plv nums (start0 pc w) kvs.length → (∀ c o, H c = some o → c ≠ p → H' c = some o) → H pl = none → H d = none → H nl = none → H sl = none → Q .non H'
def dRun (S : RS) : PyData := .tuple [.str S.word, .tuple (S.told.map PyData.int)]
def spRunAt : Sp := fun vs H Q _ => ∃ (d0 np : Addr) (plv : V) (pc n : Nat) (kvs : List (Key × V)) (w : Str → Int) (nums : List Int) (ps : List Piece), vs = [plv, .int pc, .ref d0, .ref np, .int n] ∧ RdD H plv (dPlan ps) ∧ InPlan ps ∧ pc < ps.length ∧ H d0 = some (.dK kvs) ∧ DW kvs w ∧ H np = some (.tup (nums.map V.int)) ∧ kvs.length ≤ 1000 ∧ n ≤ 2000 ∧
  ∀ v H', RdD H' v (dRun (walkF ps nums n (start0 pc w))) → Same H H' → Q v H'
def spRun : Sp := fun vs H Q _ => ∃ (np : Addr) (plv : V) (n : Nat) (nums : List Int) (ps : List Piece), vs = [plv, .ref np, .int n] ∧ RdD H plv (dPlan ps) ∧ InPlan ps ∧ 0 < ps.length ∧ H np = some (.tup (nums.map V.int)) ∧ n ≤ 2000 ∧
  ∀ v H', RdD H' v (dRun (walkF ps nums n (start0 0 fun _ => 0))) → Same H H' → Q v H'
def dSeen (S : RS) : PyData := .tuple (S.been.map fun k => PyData.int (k : Nat))
def spSeen : Sp := fun vs H Q _ => ∃ (np : Addr) (plv : V) (n : Nat) (nums : List Int) (ps : List Piece), vs = [plv, .ref np, .int n] ∧ RdD H plv (dPlan ps) ∧ InPlan ps ∧ 0 < ps.length ∧ H np = some (.tup (nums.map V.int)) ∧ n ≤ 2000 ∧
  ∀ v H', RdD H' v (dSeen (walkF ps nums n (start0 0 fun _ => 0))) → Same H H' → Q v H'
end L2

set_option Elab.async false
set_option linter.all false
set_option maxRecDepth 100000
namespace HT
open PySem PyProof.Rows PySem.Spec
section
variable {prog : Program} {w : World} {A : Around} {E : Value → Shared → Prop} {s : Shared}
end
end HT
namespace L2
open PySem PySem.Spec PyProof.Rows
section
variable {X : Cx}
/-- t[lo:hi] -/
def rSlTA (K : PySem.W.Frag) : V → Option Int → Option Int → Hp → VK → Prop := fun x lo hi H Q => ∃ a xs, x = .ref a ∧ SqT K H a xs ∧
  ((HT.sIx xs.length 0 lo = 0 ∧ HT.sIx xs.length xs.length hi = xs.length) → Q (.ref a) H) ∧ (¬ (HT.sIx xs.length 0 lo = 0 ∧ HT.sIx xs.length xs.length hi = xs.length) → ∀ p, H p = none → Q (.ref p) (upd H p (.tup (cutV xs lo hi))))
end
theorem StAt.mono {H : Hp} {st d tl bl : Addr} {S : RS} {m m' : Nat} (h : StAt H st d tl bl S m) (le : m ≤ m') : StAt H st d tl bl S m' := by
  obtain ⟨h1, ⟨kvs, h2, h3, h4⟩, h5, h6, h7, h8⟩ := h
  exact ⟨h1, ⟨kvs, h2, h3, Nat.le_trans h4 le⟩, h5, h6, h7, Nat.le_trans h8.1 le, Nat.le_trans h8.2 (Nat.succ_le_succ le)⟩
theorem noL_ints : ∀ ns : List Int, noLists (ns.map PyData.int) = true
  | [] => rfl
  | n :: ns => by
    show (true && noLists (ns.map PyData.int)) = true
    rw [noL_ints ns]; rfl
/-- the law's walk -/
def spWalkL : Sp := fun vs H Q _ => ∃ (np : Addr) (plv : V) (n : Nat) (nums : List Int) (ps : List Piece), vs = [plv, .ref np, .int n] ∧ RdD H plv (dPlan ps) ∧ InPlan ps ∧ 0 < ps.length ∧ H np = some (.tup (nums.map V.int)) ∧ n ≤ 2000 ∧
  ∀ st d tl bl H', StAt H' st d tl bl (walkF ps nums n (start0 0 fun _ => 0)) n → Same H H' → Q (.ref st) H'
def spInputL : Sp := fun vs H Q _ => ∃ (b : Addr), vs = [.ref b] ∧ Bag H b ∧ ∀ (t : Addr) (nums : List Int) (H' : Hp), H' t = some (.tup (nums.map V.int)) → Bag H' b → Fix b H H' → Q (.ref t) H'
def spRightL : Sp := fun vs H Q _ => ∃ (np : Addr) (plv : V) (n : Nat) (nums : List Int) (ps : List Piece), vs = [plv, .ref np, .int n] ∧ RdD H plv (dPlan ps) ∧ InPlan ps ∧ 0 < ps.length ∧ H np = some (.tup (nums.map V.int)) ∧ n ≤ 2000 ∧
  ∀ H', Same H H' → Q (.bl true) H'
end L2

set_option Elab.async false
set_option linter.all false
set_option maxRecDepth 100000
namespace L2
open PySem PySem.Spec PyProof.Rows
section
variable {prog : Program} {w : World} {A : Around} {E : Value → Shared → Prop} {s : Shared}
end
section
variable {X : Cx}
end
end L2
namespace L2
open PySem PySem.Spec PyProof.Rows
section
variable {X : Cx}
def rSameD (neg : Bool) : R2 := fun x y H Q => ∃ a b kvs, x = .ref a ∧ y = .ref b ∧ H a = some (.dK kvs) ∧ H b = some (.dK kvs) ∧ (∀ p ∈ kvs, ∃ i, p.2 = V.int i) ∧ Q (.bl (!neg)) H
end
theorem sub_len {α : Type} [DecidableEq α] : ∀ {l m : List α}, l.Nodup → (∀ x ∈ l, x ∈ m) → l.length ≤ m.length
  | [], _, _, _ => Nat.zero_le _
  | x :: l, m, nd, h => by
    rw [List.nodup_cons] at nd
    have hx := h x (List.mem_cons_self ..)
    have h1 := sub_len (l := l) (m := m.erase x) nd.2 fun y hy => (List.mem_erase_of_ne (fun z => nd.1 (by rw [← z]; exact hy))).mpr (h y (List.mem_cons_of_mem _ hy))
    rw [List.length_erase_of_mem hx] at h1
    have h2 : 0 < m.length := List.length_pos_of_mem hx
    show l.length + 1 ≤ m.length
    omega
end L2
namespace L2
open PySem PySem.Spec PyProof.Rows
/-- keys texts out of xs, each once -/
def KOk (xs : List Str) (kvs : List (Key × V)) : Prop := ∃ ks : List Str, kvs.map (·.1) = ks.map Sum.inr ∧ ks.Nodup ∧ ∀ x ∈ ks, x ∈ xs
theorem putK_keys {kvs : List (Key × V)} {k : Key} {v : V} : (putK kvs k v).map (·.1) = kvs.map (·.1) ∧ k ∈ kvs.map (·.1) ∨ (putK kvs k v).map (·.1) = kvs.map (·.1) ++ [k] ∧ ¬ k ∈ kvs.map (·.1) := by
  unfold putK
  by_cases h : (kvs.any fun kv => decide (kv.1 = k)) = true
  · rw [if_pos h]
    refine .inl ⟨?_, ?_⟩
    · rw [List.map_map]
      refine List.map_congr_left fun p _ => ?_
      show (if p.1 = k then (p.1, v) else p).1 = p.1
      split <;> rfl
    · obtain ⟨p, hp, he⟩ := List.any_eq_true.mp h
      exact List.mem_map.mpr ⟨p, hp, of_decide_eq_true he⟩
  · rw [if_neg h]
    refine .inr ⟨by rw [List.map_append]; rfl, fun hm => h ?_⟩
    obtain ⟨p, hp, he⟩ := List.mem_map.mp hm
    exact List.any_eq_true.mpr ⟨p, hp, decide_eq_true he⟩
theorem KOk.put {xs : List Str} {kvs : List (Key × V)} (h : KOk xs kvs) {x : Str} (hx : x ∈ xs) (v : V) : KOk xs (putK kvs (Sum.inr x) v) := by
  obtain ⟨ks, e, nd, hm⟩ := h
  rcases putK_keys (kvs := kvs) (k := (Sum.inr x : Key)) (v := v) with ⟨e1, _⟩ | ⟨e1, hn⟩
  · exact ⟨ks, by rw [e1]; exact e, nd, hm⟩
  · have hx' : ¬ x ∈ ks := fun z => hn (by rw [e]; exact List.mem_map.mpr ⟨x, z, rfl⟩)
    refine ⟨ks ++ [x], by rw [e1, e, List.map_append]; rfl, ?_, fun y hy => ?_⟩
    · rw [List.nodup_append]
      refine ⟨nd, by simp, fun a ha b hb => ?_⟩
      rw [List.mem_singleton] at hb
      subst hb
      exact fun z => hx' (by rw [← z]; exact ha)
    · rcases List.mem_append.mp hy with hy | hy
      · exact hm y hy
      · rw [List.mem_singleton.mp hy]; exact hx
theorem KOk.len {xs : List Str} {kvs : List (Key × V)} (h : KOk xs kvs) : kvs.length ≤ xs.length := by
  obtain ⟨ks, e, nd, hm⟩ := h
  have h1 := sub_len nd hm
  have h2 := congrArg List.length e
  simp only [List.length_map] at h2
  omega
def nameD : Deed → Str
  | .put x _ => x
  | .copy x _ => x
  | .add x _ => x
  | .read x => x
  | .tell x => x
theorem DeedOk.name {xs : List Str} {dd : Deed} (h : DeedOk xs dd) : nameD dd ∈ xs := by
  cases dd with
  | put x n => exact h.1
  | copy x y => exact h.1
  | add x n => exact h.1
  | read x => exact h
  | tell x => exact h
/-- worths off a dict of numbers -/
def wOf (kvs : List (Key × V)) : Str → Int := fun x => match valV kvs (Sum.inr x : Key) with
  | some (.int i) => i
  | _ => 0
def IntsIn (kvs : List (Key × V)) : Prop := ∀ p ∈ kvs, ∃ i, p.2 = V.int i
theorem valV_from {kvs : List (Key × V)} {k : Key} {v : V} (h : valV kvs k = some v) : ∃ p ∈ kvs, p.2 = v := by
  unfold valV at h
  cases e : kvs.find? fun kv => decide (kv.1 = k) with
  | none => rw [e] at h; cases h
  | some p => rw [e] at h; exact ⟨p, List.mem_of_find?_eq_some e, Option.some.inj h⟩
theorem IntsIn.dw {kvs : List (Key × V)} (h : IntsIn kvs) : DW kvs (wOf kvs) := fun x => by
  unfold wOf
  cases e : valV kvs (Sum.inr x : Key) with
  | none => rfl
  | some v =>
    obtain ⟨p, hp, rfl⟩ := valV_from e
    obtain ⟨i, hi⟩ := h p hp
    rw [hi]
    rfl
theorem IntsIn.put {kvs : List (Key × V)} (h : IntsIn kvs) (k : Key) (i : Int) : IntsIn (putK kvs k (.int i)) := fun p hp => by
  unfold putK at hp
  split at hp
  · obtain ⟨q, hq, rfl⟩ := List.mem_map.mp hp
    split
    · exact ⟨i, rfl⟩
    · exact h q hq
  · rcases List.mem_append.mp hp with hp | hp
    · exact h p hp
    · rw [List.mem_singleton.mp hp]; exact ⟨i, rfl⟩
def spNamesIn : Sp := fun vs H Q _ => ∃ (plv : V) (ps : List Piece) (xs : List Str) (m : Nat), vs = [plv] ∧ RdD H plv (dPlan ps) ∧ PlanOk xs m ps ∧ xs.length ≤ 4 ∧
  ∀ (l : Addr) (ss : List Str) (H' : Hp), H' l = some (.lst (ss.map V.str)) → ss.length ≤ 63 → Same H H' → Q (.ref l) H'
theorem Bag.put {H : Hp} {b p : Addr} {o : HO} (h : Bag H b) (n : b ≠ p) : Bag (upd H p o) b := by
  obtain ⟨x, y, e, z⟩ := h
  exact ⟨x, y, by rw [upd_ne n]; exact e, z⟩
end L2
namespace L2
open PySem PySem.Spec PyProof.Rows
end L2

set_option Elab.async false
set_option linter.all false
set_option maxRecDepth 100000
namespace L2
open PySem PySem.Spec PyProof.Rows
section
variable {X : Cx}
def rExtendT (K : PySem.W.Frag) : V → List V → Hp → VK → Prop := fun x vs H Q => ∃ l b xs zs, x = .ref l ∧ vs = [.ref b] ∧ H l = some (.lst xs) ∧ SqT K H b zs ∧ xs.length + zs.length ≤ sizeLine ∧ Q .non (upd H l (.lst (xs ++ zs)))
end
end L2

namespace L2
open PySem PySem.Spec PyProof.Rows
end L2

set_option Elab.async false
set_option linter.all false
set_option maxRecDepth 100000
namespace L2
open PySem PySem.Spec PyProof.Rows
/-! ### the fields of a walker -/
def wfl (a0 a1 : V) : List (Str × V) := [("stand", a0), ("done", a1)]
section
variable {a0 a1 z : V}
end
structure WkT (K : PySem.W.Frag) (D : Addr) : Prop where
  cl : Cls K D
  stand : NoAttr K D "stand"
  done : NoAttr K D "done"
/-- the walker as it lies: its object at wp, the stand at p -/
structure WAt (C D : Addr) (H : Hp) (wp p pl d nl sl : Addr) (plv : V) (nums : List Int) (S : RS) (m : Nat) : Prop where
  ob : ∃ dx, H wp = some (.ins D dx (wfl (.ref p) (.int m)))
  st : SAt C H p pl d nl sl plv nums S m
  ne : wp ≠ p
def But6 (wp p pl d nl sl : Addr) (H H' : Hp) : Prop := ∀ c o, H c = some o → c ≠ wp → c ≠ p → c ≠ pl → c ≠ d → c ≠ nl → c ≠ sl → H' c = some o
theorem But6.refl (wp p pl d nl sl : Addr) (H : Hp) : But6 wp p pl d nl sl H H := fun _ _ h _ _ _ _ _ _ => h
theorem But6.trans {wp p pl d nl sl : Addr} {H H1 H2 : Hp} (a : But6 wp p pl d nl sl H H1) (b : But6 wp p pl d nl sl H1 H2) : But6 wp p pl d nl sl H H2 := fun c o h n1 n2 n3 n4 n5 n6 => b c o (a c o h n1 n2 n3 n4 n5 n6) n1 n2 n3 n4 n5 n6
section
variable {C D : Addr} {H H' : Hp} {wp p pl d nl sl : Addr} {plv : V} {nums : List Int} {S : RS} {m : Nat}
/-- the six stay -/
theorem SAt.keep (A : SAt C H p pl d nl sl plv nums S m) (k : ∀ c o, H c = some o → (c = p ∨ c = pl ∨ c = d ∨ c = nl ∨ c = sl) → H' c = some o) : SAt C H' p pl d nl sl plv nums S m := by
  obtain ⟨⟨dx, h1⟩, h2, h3, ⟨kvs, h4, h5⟩, h6, h7, h8, h9⟩ := A
  exact ⟨⟨dx, k _ _ h1 (.inl rfl)⟩, k _ _ h2 (.inr (.inl rfl)), h3, ⟨kvs, k _ _ h4 (.inr (.inr (.inl rfl))), h5⟩, k _ _ h6 (.inr (.inr (.inr (.inl rfl)))), k _ _ h7 (.inr (.inr (.inr (.inr rfl)))), h8, h9⟩
theorem WAt.keep (A : WAt C D H wp p pl d nl sl plv nums S m) (k : ∀ c o, H c = some o → (c = wp ∨ c = p ∨ c = pl ∨ c = d ∨ c = nl ∨ c = sl) → H' c = some o) : WAt C D H' wp p pl d nl sl plv nums S m := by
  obtain ⟨⟨dx, h1⟩, h2, h3⟩ := A
  exact ⟨⟨dx, k _ _ h1 (.inl rfl)⟩, h2.keep fun c o h z => k c o h (.inr z), h3⟩
theorem WAt.same (A : WAt C D H wp p pl d nl sl plv nums S m) (s : Same H H') : WAt C D H' wp p pl d nl sl plv nums S m := A.keep fun c o h _ => s c o h
/-- wp is none of the stand's -/
theorem WAt.nes (A : WAt C D H wp p pl d nl sl plv nums S m) : wp ≠ pl ∧ wp ≠ d ∧ wp ≠ nl ∧ wp ≠ sl := by
  obtain ⟨dx, h1⟩ := A.ob
  obtain ⟨kvs, h2, _⟩ := A.st.dict
  refine ⟨ne_of h1 A.st.passed ?_, ne_of h1 h2 ?_, ne_of h1 A.st.nums ?_, ne_of h1 A.st.spoken ?_⟩ <;> (intro z; cases z)
/-- numbers are handed in -/
theorem SAt.handed {more : List Int} (A : SAt C H p pl d nl sl plv nums S m) : SAt C (upd H nl (.lst (nums.map V.int ++ more.map V.int))) p pl d nl sl plv (nums ++ more) S m := by
  obtain ⟨n1, n2, n3, n4, n5, n6, n7⟩ := A.nes
  obtain ⟨dx, h1⟩ := A.ob
  obtain ⟨kvs, h4, h5⟩ := A.dict
  exact ⟨⟨dx, by rw [upd_ne n3]; exact h1⟩, by rw [upd_ne A.ne.1]; exact A.passed, A.last, ⟨kvs, by rw [upd_ne n6]; exact h4, h5⟩, by rw [upd_same, List.map_append], by rw [upd_ne A.ne.2.2.symm]; exact A.spoken, A.ne, A.few⟩
/-- what is a tuple stays a tuple -/
theorem WAt.tup {c : Addr} {xs : List V} (A : WAt C D H wp p pl d nl sl plv nums S m) (b : But6 wp p pl d nl sl H H') (h : H c = some (.tup xs)) : H' c = some (.tup xs) := by
  obtain ⟨dx0, h0⟩ := A.ob
  obtain ⟨dx, h1⟩ := A.st.ob
  obtain ⟨kvs, h2, _⟩ := A.st.dict
  refine b c _ h (ne_of h h0 ?_) (ne_of h h1 ?_) (ne_of h A.st.passed ?_) (ne_of h h2 ?_) (ne_of h A.st.nums ?_) (ne_of h A.st.spoken ?_) <;> (intro z; cases z)
theorem WAt.rd {x : V} {dd : PyData} (A : WAt C D H wp p pl d nl sl plv nums S m) (b : But6 wp p pl d nl sl H H') (r : RdD H x dd) (n : noList dd = true) : RdD H' x dd :=
  r.tups (fun c xs e => A.tup b e) n
end
/-- the word of a stand -/
def standF (ps : List Piece) (nums : List Int) (S : RS) : Str := if S.word = "stop" then "stop" else if lackB ps nums S = true then "dry" else "on"
def WordOk (S : RS) : Prop := S.word = "on" ∨ S.word = "stop"
/-! ### the promises of walkers.py -/
section
variable (C D : Addr)
def spWInit : Sp := fun vs H Q _ => ∃ (wp dx : Addr) (plv : V), vs = [.ref wp, plv] ∧ H wp = some (.ins D dx []) ∧
  ∀ (p pl d nl sl : Addr) (H' : Hp), WAt C D H' wp p pl d nl sl plv [] (start0 0 fun _ => 0) 0 → (∀ c o, H c = some o → c ≠ wp → H' c = some o) → H p = none → H pl = none → H d = none → H nl = none → H sl = none → Q .non H'
def spWHand : Sp := fun vs H Q _ => ∃ (wp p pl d nl sl t : Addr) (plv : V) (nums more : List Int) (S : RS) (m : Nat), vs = [.ref wp, .ref t] ∧ WAt C D H wp p pl d nl sl plv nums S m ∧ H t = some (.tup (more.map V.int)) ∧ nums.length + more.length ≤ 100000 ∧
  ∀ H', WAt C D H' wp p pl d nl sl plv (nums ++ more) S m → But6 wp p pl d nl sl H H' → Q .non H'
def spWGo : Sp := fun vs H Q _ => ∃ (wp p pl d nl sl : Addr) (plv : V) (nums : List Int) (S : RS) (m n : Nat) (ps : List Piece), vs = [.ref wp, .int n] ∧ WAt C D H wp p pl d nl sl plv nums S m ∧ RdD H plv (dPlan ps) ∧ InPlan ps ∧ S.piece < ps.length ∧ S.taken ≤ nums.length ∧ m + n ≤ 10000 ∧
  ∀ H', WAt C D H' wp p pl d nl sl plv nums (goF ps nums n S) (m + cntF ps nums n S) → But6 wp p pl d nl sl H H' → Q (.int (cntF ps nums n S : Nat)) H'
def spWWord : Sp := fun vs H Q _ => ∃ (wp p pl d nl sl : Addr) (plv : V) (nums : List Int) (S : RS) (m : Nat) (ps : List Piece), vs = [.ref wp] ∧ WAt C D H wp p pl d nl sl plv nums S m ∧ RdD H plv (dPlan ps) ∧ S.piece < ps.length ∧ Q (.str (standF ps nums S)) H
def spWPiece : Sp := fun vs H Q _ => ∃ (wp p pl d nl sl : Addr) (plv : V) (nums : List Int) (S : RS) (m : Nat), vs = [.ref wp] ∧ WAt C D H wp p pl d nl sl plv nums S m ∧ Q (.int S.piece) H
def spWTold : Sp := fun vs H Q _ => ∃ (wp p pl d nl sl : Addr) (plv : V) (nums : List Int) (S : RS) (m : Nat), vs = [.ref wp] ∧ WAt C D H wp p pl d nl sl plv nums S m ∧ ∀ t, H t = none → Q (.ref t) (upd H t (.tup (S.told.map V.int)))
def spWWorth : Sp := fun vs H Q _ => ∃ (wp p pl d nl sl : Addr) (plv : V) (nums : List Int) (S : RS) (m : Nat) (x : Str), vs = [.ref wp, .str x] ∧ WAt C D H wp p pl d nl sl plv nums S m ∧ Q (.int (S.w x)) H
def spWSteps : Sp := fun vs H Q _ => ∃ (wp p pl d nl sl : Addr) (plv : V) (nums : List Int) (S : RS) (m : Nat), vs = [.ref wp] ∧ WAt C D H wp p pl d nl sl plv nums S m ∧ Q (.int m) H
end
/-! ### the law's side -/
/-- the step, numbers in a list -/
def spStepL : Sp := fun vs H Q _ => ∃ (pv : V) (st np d tl bl : Addr) (ps : List Piece) (nums : List Int) (S : RS) (m : Nat), vs = [pv, .ref st, .ref np] ∧ RdD H pv (dPlan ps) ∧ InPlan ps ∧ H np = some (.lst (nums.map V.int)) ∧ StAt H st d tl bl S m ∧
  S.piece < ps.length ∧ S.taken ≤ nums.length ∧ m ≤ 10000 ∧ ∀ st' H', StAt H' st' d tl bl (stepF ps nums S) (m + 1) → But d tl bl H H' → Q (.ref st') H'
def spStandL : Sp := fun vs H Q _ => ∃ (pv : V) (st np d tl bl : Addr) (ps : List Piece) (nums : List Int) (S : RS) (m : Nat), vs = [pv, .ref st, .ref np] ∧ RdD H pv (dPlan ps) ∧ H np = some (.lst (nums.map V.int)) ∧ StAt H st d tl bl S m ∧ S.piece < ps.length ∧ WordOk S ∧ Q (.str (standF ps nums S)) H
def spGoneL : Sp := fun vs H Q _ => ∃ (pv : V) (st np d tl bl : Addr) (ps : List Piece) (nums : List Int) (S : RS) (m n : Nat), vs = [pv, .ref st, .ref np, .int n] ∧ RdD H pv (dPlan ps) ∧ InPlan ps ∧ H np = some (.lst (nums.map V.int)) ∧ StAt H st d tl bl S m ∧ np ≠ tl ∧ np ≠ bl ∧
  S.piece < ps.length ∧ S.taken ≤ nums.length ∧ WordOk S ∧ m + n ≤ 10000 ∧ ∀ st' r H', H' r = some (.tup [.ref st', .int (cntF ps nums n S : Nat)]) → StAt H' st' d tl bl (goF ps nums n S) (m + cntF ps nums n S) → But d tl bl H H' → Q (.ref r) H'
/-- the law's and the walker's parts apart -/
structure Sep (pl d nl sl d2 tl bl np : Addr) : Prop where
  d : d2 ≠ d
  t : tl ≠ pl ∧ tl ≠ nl ∧ tl ≠ sl
  b : bl ≠ pl ∧ bl ≠ nl ∧ bl ≠ sl
  n : np ≠ pl ∧ np ≠ nl ∧ np ≠ sl ∧ np ≠ tl ∧ np ≠ bl
section
variable {C D : Addr} {H H' : Hp} {wp p pl d nl sl st d2 tl bl np : Addr} {plv : V} {nums nums' : List Int} {S S' : RS} {m m' : Nat}
theorem StAt.keep (A : StAt H st d2 tl bl S m) (k : ∀ c o, H c = some o → (c = st ∨ c = d2 ∨ c = tl ∨ c = bl) → H' c = some o) : StAt H' st d2 tl bl S m := by
  obtain ⟨h1, ⟨kvs, h2, h3⟩, h4, h5, h6, h7⟩ := A
  exact ⟨k _ _ h1 (.inl rfl), ⟨kvs, k _ _ h2 (.inr (.inl rfl)), h3⟩, k _ _ h4 (.inr (.inr (.inl rfl))), k _ _ h5 (.inr (.inr (.inr rfl))), h6, h7⟩
theorem StAt.tup {c : Addr} {xs : List V} (A : StAt H st d2 tl bl S m) (b : But d2 tl bl H H') (h : H c = some (.tup xs)) : H' c = some (.tup xs) := by
  obtain ⟨a1, ⟨kvs2, a2, a3⟩, a4, a5, a6, a7⟩ := A
  refine b _ _ h (ne_of h a2 ?_) (ne_of h a4 ?_) (ne_of h a5 ?_) <;> (intro z; cases z)
theorem StAt.rd {x : V} {dd : PyData} (A : StAt H st d2 tl bl S m) (b : But d2 tl bl H H') (r : RdD H x dd) (n : noList dd = true) : RdD H' x dd :=
  r.tups (fun c xs e => A.tup b e) n
theorem StAt.same (A : StAt H st d2 tl bl S m) (s : Same H H') : StAt H' st d2 tl bl S m := A.keep fun c o h _ => s c o h
/-- the walker did something: the law's state stays -/
theorem StAt.but6 (A : StAt H st d2 tl bl S' m') (W : WAt C D H wp p pl d nl sl plv nums S m) (z : Sep pl d nl sl d2 tl bl np) (b : But6 wp p pl d nl sl H H') : StAt H' st d2 tl bl S' m' := by
  obtain ⟨dx0, h0⟩ := W.ob
  obtain ⟨dx, h1⟩ := W.st.ob
  obtain ⟨kvs, h2, _⟩ := W.st.dict
  obtain ⟨a1, ⟨kvs2, a2, a3⟩, a4, a5, a6, a7⟩ := A
  refine ⟨W.tup b a1, ⟨kvs2, ?_, a3⟩, ?_, ?_, a6, a7⟩
  · refine b _ _ a2 (ne_of a2 h0 ?_) (ne_of a2 h1 ?_) (ne_of a2 W.st.passed ?_) z.d (ne_of a2 W.st.nums ?_) (ne_of a2 W.st.spoken ?_) <;> (intro z; cases z)
  · refine b _ _ a4 (ne_of a4 h0 ?_) (ne_of a4 h1 ?_) z.t.1 (ne_of a4 h2 ?_) z.t.2.1 z.t.2.2 <;> (intro z; cases z)
  · refine b _ _ a5 (ne_of a5 h0 ?_) (ne_of a5 h1 ?_) z.b.1 (ne_of a5 h2 ?_) z.b.2.1 z.b.2.2 <;> (intro z; cases z)
theorem np_but6 (a : H np = some (.lst (nums'.map V.int))) (W : WAt C D H wp p pl d nl sl plv nums S m) (z : Sep pl d nl sl d2 tl bl np) (b : But6 wp p pl d nl sl H H') : H' np = some (.lst (nums'.map V.int)) := by
  obtain ⟨dx0, h0⟩ := W.ob
  obtain ⟨dx, h1⟩ := W.st.ob
  obtain ⟨kvs, h2, _⟩ := W.st.dict
  refine b _ _ a (ne_of a h0 ?_) (ne_of a h1 ?_) z.n.1 (ne_of a h2 ?_) z.n.2.1 z.n.2.2.1 <;> (intro z; cases z)
/-- the law did something: the walker stays -/
theorem WAt.but (W : WAt C D H wp p pl d nl sl plv nums S m) (A : StAt H st d2 tl bl S' m') (z : Sep pl d nl sl d2 tl bl np) (b : But d2 tl bl H H') : WAt C D H' wp p pl d nl sl plv nums S m := by
  obtain ⟨dx0, h0⟩ := W.ob
  obtain ⟨dx, h1⟩ := W.st.ob
  obtain ⟨kvs, h2, h2'⟩ := W.st.dict
  obtain ⟨a1, ⟨kvs2, a2, a3⟩, a4, a5, a6, a7⟩ := A
  refine ⟨⟨dx0, b _ _ h0 (ne_of h0 a2 ?_) (ne_of h0 a4 ?_) (ne_of h0 a5 ?_)⟩, ⟨⟨dx, b _ _ h1 (ne_of h1 a2 ?_) (ne_of h1 a4 ?_) (ne_of h1 a5 ?_)⟩, b _ _ W.st.passed (ne_of W.st.passed a2 ?_) z.t.1.symm z.b.1.symm, W.st.last,
    ⟨kvs, b _ _ h2 z.d.symm (ne_of h2 a4 ?_) (ne_of h2 a5 ?_), h2'⟩, b _ _ W.st.nums (ne_of W.st.nums a2 ?_) z.t.2.1.symm z.b.2.1.symm, b _ _ W.st.spoken (ne_of W.st.spoken a2 ?_) z.t.2.2.symm z.b.2.2.symm, W.st.ne, W.st.few⟩, W.ne⟩ <;> (intro z; cases z)
theorem np_but (a : H np = some (.lst (nums'.map V.int))) (A : StAt H st d2 tl bl S' m') (z : Sep pl d nl sl d2 tl bl np) (b : But d2 tl bl H H') : H' np = some (.lst (nums'.map V.int)) := by
  obtain ⟨a1, ⟨kvs2, a2, a3⟩, a4, a5, a6, a7⟩ := A
  refine b _ _ a (ne_of a a2 ?_) z.n.2.2.2.1 z.n.2.2.2.2 <;> (intro z; cases z)
/-- the law's numbers are written -/
theorem WAt.put_np {o : HO} (W : WAt C D H wp p pl d nl sl plv nums S m) (a : H np = some (.lst (nums'.map V.int))) (z : Sep pl d nl sl d2 tl bl np) : WAt C D (upd H np o) wp p pl d nl sl plv nums S m := by
  obtain ⟨dx0, h0⟩ := W.ob
  obtain ⟨dx, h1⟩ := W.st.ob
  obtain ⟨kvs, h2, h2'⟩ := W.st.dict
  refine W.keep fun c u h e => ?_
  rw [upd_ne ?_]
  · exact h
  · rcases e with rfl | rfl | rfl | rfl | rfl | rfl
    · exact ne_of h0 a (by intro z; cases z)
    · exact ne_of h1 a (by intro z; cases z)
    · exact z.n.1.symm
    · exact ne_of h2 a (by intro z; cases z)
    · exact z.n.2.1.symm
    · exact z.n.2.2.1.symm
theorem StAt.put_np {o : HO} (A : StAt H st d2 tl bl S m) (a : H np = some (.lst (nums'.map V.int))) (z : Sep pl d nl sl d2 tl bl np) : StAt (upd H np o) st d2 tl bl S m := by
  obtain ⟨a1, ⟨kvs2, a2, a3⟩, a4, a5, a6, a7⟩ := A
  exact ⟨by rw [upd_ne (ne_of a1 a (by intro z; cases z))]; exact a1, ⟨kvs2, by rw [upd_ne (ne_of a2 a (by intro z; cases z))]; exact a2, a3⟩, by rw [upd_ne z.n.2.2.2.1.symm]; exact a4, by rw [upd_ne z.n.2.2.2.2.symm]; exact a5, a6, a7⟩
end
section
variable (C D : Addr)
def spTellsL : Sp := fun vs H Q _ => ∃ (wp p pl d nl sl st np d2 tl bl : Addr) (plv : V) (ps : List Piece) (xs : List Str) (k : Nat) (nums : List Int) (S : RS) (m : Nat), vs = [.ref wp, plv, .ref st, .ref np, .int m] ∧ WAt C D H wp p pl d nl sl plv nums S m ∧ StAt H st d2 tl bl S m ∧ H np = some (.lst (nums.map V.int)) ∧ RdD H plv (dPlan ps) ∧ PlanOk xs k ps ∧ xs.length ≤ 4 ∧ S.piece < ps.length ∧ WordOk S ∧ m ≤ 10000 ∧
  ∀ H', Same H H' → Q (.bl true) H'
end
/-! ### both together -/
structure Fr10 (H0 : Hp) (wp p pl d nl sl d2 tl bl np : Addr) : Prop where
  wp : H0 wp = none
  p : H0 p = none
  pl : H0 pl = none
  d : H0 d = none
  nl : H0 nl = none
  sl : H0 sl = none
  d2 : H0 d2 = none
  tl : H0 tl = none
  bl : H0 bl = none
  np : H0 np = none
structure Joint (C D : Addr) (H : Hp) (wp p pl d nl sl st d2 tl bl np : Addr) (plv : V) (nums : List Int) (S : RS) (m : Nat) : Prop where
  w : WAt C D H wp p pl d nl sl plv nums S m
  l : StAt H st d2 tl bl S m
  n : H np = some (.lst (nums.map V.int))
  z : Sep pl d nl sl d2 tl bl np
section
variable {C D : Addr} {H0 H H1 H2 : Hp} {wp p pl d nl sl st st' d2 tl bl np b : Addr} {plv : V} {nums more : List Int} {S S' : RS} {m m' : Nat}
theorem Fr10.but6 (f : Fr10 H0 wp p pl d nl sl d2 tl bl np) (b : But6 wp p pl d nl sl H H1) {c : Addr} {o : HO} (e : H0 c = some o) (h : H c = some o) : H1 c = some o :=
  b c o h (ne_of_none e f.wp) (ne_of_none e f.p) (ne_of_none e f.pl) (ne_of_none e f.d) (ne_of_none e f.nl) (ne_of_none e f.sl)
theorem Fr10.but (f : Fr10 H0 wp p pl d nl sl d2 tl bl np) (b : But d2 tl bl H H1) {c : Addr} {o : HO} (e : H0 c = some o) (h : H c = some o) : H1 c = some o :=
  b c o h (ne_of_none e f.d2) (ne_of_none e f.tl) (ne_of_none e f.bl)
theorem Joint.same (J : Joint C D H wp p pl d nl sl st d2 tl bl np plv nums S m) (s : Same H H1) : Joint C D H1 wp p pl d nl sl st d2 tl bl np plv nums S m :=
  ⟨J.w.same s, J.l.same s, s _ _ J.n, J.z⟩
/-- numbers are handed to both -/
theorem Joint.handed (J : Joint C D H wp p pl d nl sl st d2 tl bl np plv nums S m) (W : WAt C D H1 wp p pl d nl sl plv (nums ++ more) S m) (b : But6 wp p pl d nl sl H H1) :
    H1 np = some (.lst (nums.map V.int)) ∧ Joint C D (upd H1 np (.lst (nums.map V.int ++ more.map V.int))) wp p pl d nl sl st d2 tl bl np plv (nums ++ more) S m := by
  have n1 := np_but6 J.n J.w J.z b
  exact ⟨n1, W.put_np n1 J.z, (J.l.but6 J.w J.z b).put_np n1 J.z, by rw [upd_same, List.map_append], J.z⟩
/-- both went on -/
theorem Joint.went (J : Joint C D H wp p pl d nl sl st d2 tl bl np plv nums S m) (A1 : StAt H1 st' d2 tl bl S' m') (b1 : But d2 tl bl H H1) (W2 : WAt C D H2 wp p pl d nl sl plv nums S' m') (b2 : But6 wp p pl d nl sl H1 H2) :
    Joint C D H2 wp p pl d nl sl st' d2 tl bl np plv nums S' m' := by
  have W1 := J.w.but J.l J.z b1
  have n1 := np_but J.n J.l J.z b1
  exact ⟨W2, A1.but6 W1 J.z b2, np_but6 n1 W1 J.z b2, J.z⟩
end
/-- what is asked of a walker next -/
def spCallL : Sp := fun vs H Q _ => ∃ (b : Addr) (left : Nat), vs = [.ref b, .int left] ∧ Bag H b ∧ left ≤ 600 ∧
  ((∀ t t2 (ns : List Int) H', H' t2 = some (.tup [.str "hand", .ref t]) → H' t = some (.tup (ns.map V.int)) → ns.length ≤ left → Bag H' b → Fix b H H' → Q (.ref t2) H') ∧
   (∀ t2 (n : Nat) H', H' t2 = some (.tup [.str "go", .int n]) → n ≤ 2000 → Bag H' b → Fix b H H' → Q (.ref t2) H'))
end L2

set_option Elab.async false
set_option linter.all false
set_option maxRecDepth 100000
namespace L2
open PySem PySem.Spec PyProof.Rows
section
variable {X : Cx}
/-- t + u of any two tuples -/
def rCatI : R2 := fun x y H Q => ∃ a b xs ys, x = .ref a ∧ y = .ref b ∧ H a = some (.tup xs) ∧ H b = some (.tup ys) ∧ xs.length + ys.length ≤ sizeLine ∧ ∀ t H', H' t = some (.tup (xs ++ ys)) → Same H H' → Q (.ref t) H'
end
/-! ### bit by bit -/
section
variable {ps : List Piece} {nums more : List Int} {S S0 : RS} {m n : Nat}
theorem lack_more (h : lackB ps nums S = false) (ht : S.taken ≤ nums.length) : lackB ps (nums ++ more) S = false ∧ stepF ps (nums ++ more) S = stepF ps nums S := by
  unfold lackB at h ⊢
  unfold stepF
  cases hx : ps[S.piece]? with
  | none => exact ⟨rfl, rfl⟩
  | some pc =>
    obtain ⟨ds, e⟩ := pc
    rw [hx] at h
    dsimp only at h ⊢
    cases hd : ds[S.place]? with
    | none => exact ⟨rfl, rfl⟩
    | some dd =>
      rw [hd] at h
      dsimp only at h ⊢
      cases dd with
      | read x =>
        have hne : ¬ S.taken = nums.length := of_decide_eq_false (by simpa [isRead] using h)
        have hlt : S.taken < nums.length := by omega
        refine ⟨?_, ?_⟩
        · show (true && decide (S.taken = (nums ++ more).length)) = false
          rw [Bool.true_and]
          refine decide_eq_false ?_
          rw [List.length_append]
          omega
        · show stepD (nums ++ more) S (.read x) = stepD nums S (.read x)
          unfold stepD
          rw [List.getElem?_append_left hlt]
      | put x n => exact ⟨rfl, rfl⟩
      | copy x y => exact ⟨rfl, rfl⟩
      | add x n => exact ⟨rfl, rfl⟩
      | tell x => exact ⟨rfl, rfl⟩
theorem held_more (h : heldB ps nums S = false) (ht : S.taken ≤ nums.length) : heldB ps (nums ++ more) S = false ∧ stepF ps (nums ++ more) S = stepF ps nums S := by
  unfold heldB at h ⊢
  rw [Bool.or_eq_false_iff] at h
  have l := lack_more (more := more) h.2 ht
  rw [h.1, l.1]
  exact ⟨rfl, l.2⟩
theorem cnt_full : ∀ {n : Nat}, cntF ps nums (n + 1) S = n + 1 → heldB ps nums (goF ps nums n S) = false ∧ cntF ps nums n S = n := by
  intro n h
  have l := cnt_le (ps := ps) (nums := nums) (S := S) n
  cases hh : heldB ps nums (goF ps nums n S) with
  | true =>
    have := (go_held hh 1).2
    rw [h] at this
    omega
  | false =>
    have := (go_not hh).2
    rw [h] at this
    exact ⟨rfl, by omega⟩
theorem go_more (hin : InPlan ps) (hpc : S.piece < ps.length) (ht : S.taken ≤ nums.length) : ∀ {n : Nat}, cntF ps nums n S = n → goF ps (nums ++ more) n S = goF ps nums n S ∧ cntF ps (nums ++ more) n S = n
  | 0, _ => ⟨rfl, rfl⟩
  | n + 1, h => by
    obtain ⟨h1, h2⟩ := cnt_full h
    have ih := go_more hin hpc ht h2
    have gi := go_in (ps := ps) (nums := nums) (S := S) hin hpc ht n
    have l := held_more (more := more) h1 gi.2
    rw [← ih.1] at l
    have g := go_not l.1
    have g' := go_not h1
    refine ⟨?_, ?_⟩
    · rw [g.1, g'.1, l.2, ih.1]
    · rw [g.2, ih.2]
theorem go_add : ∀ n, goF ps nums (m + n) S = goF ps nums n (goF ps nums m S) ∧ cntF ps nums (m + n) S = cntF ps nums m S + cntF ps nums n (goF ps nums m S)
  | 0 => ⟨rfl, rfl⟩
  | n + 1 => by
    have ih := go_add n
    cases hh : heldB ps nums (goF ps nums (m + n) S) with
    | true =>
      have g := go_held hh 1
      have hh2 := hh
      rw [ih.1] at hh2
      have g2 := go_held hh2 1
      exact ⟨by rw [show m + (n + 1) = m + n + 1 by omega, g.1, g2.1]; exact ih.1, by rw [show m + (n + 1) = m + n + 1 by omega, g.2, g2.2]; exact ih.2⟩
    | false =>
      have g := go_not hh
      have hh2 := hh
      rw [ih.1] at hh2
      have g2 := go_not hh2
      exact ⟨by rw [show m + (n + 1) = m + n + 1 by omega, g.1, g2.1, ih.1], by rw [show m + (n + 1) = m + n + 1 by omega, g.2, g2.2, ih.2]; omega⟩
theorem cnt_not : ∀ {n : Nat}, heldB ps nums (goF ps nums n S) = false → cntF ps nums n S = n
  | 0, _ => rfl
  | n + 1, h => by
    cases hh : heldB ps nums (goF ps nums n S) with
    | true => rw [(go_held hh 1).1, hh] at h; cases h
    | false => rw [(go_not hh).2, cnt_not hh]
theorem go_cnt : ∀ n, goF ps nums (cntF ps nums n S) S = goF ps nums n S ∧ cntF ps nums (cntF ps nums n S) S = cntF ps nums n S
  | 0 => ⟨rfl, rfl⟩
  | n + 1 => by
    cases hh : heldB ps nums (goF ps nums n S) with
    | true =>
      have g := go_held hh 1
      rw [g.1, g.2]
      exact go_cnt n
    | false =>
      have c := cnt_not hh
      have g := go_not hh
      have e : cntF ps nums (n + 1) S = n + 1 := by rw [g.2, c]
      rw [e]
      exact ⟨rfl, e⟩
end
def S00 : RS := start0 0 fun _ => 0
/-- reached in so many steps, by all numbers so far -/
structure Rch (ps : List Piece) (nums : List Int) (m : Nat) (S : RS) : Prop where
  go : goF ps nums m S00 = S
  cnt : cntF ps nums m S00 = m
section
variable {ps : List Piece} {nums more : List Int} {S : RS} {m n : Nat}
theorem Rch.handed (h : Rch ps nums m S) (hin : InPlan ps) (hpc : 0 < ps.length) : Rch ps (nums ++ more) m S := by
  have g := go_more (more := more) (S := S00) hin hpc (Nat.zero_le _) h.cnt
  exact ⟨g.1.trans h.go, g.2⟩
theorem Rch.went (h : Rch ps nums m S) : Rch ps nums (m + cntF ps nums n S) (goF ps nums n S) := by
  have a := go_add (ps := ps) (nums := nums) (m := m) (S := S00) (cntF ps nums n S)
  have c := go_cnt (ps := ps) (nums := nums) (S := S) n
  rw [h.go, h.cnt] at a
  exact ⟨a.1.trans c.1, by rw [a.2, c.2]⟩
/-- what was told is what the run tells -/
theorem Rch.told (h : Rch ps nums m S) (hin : InPlan ps) (hpc : 0 < ps.length) : (walkF ps nums m S00).told = S.told := by
  rcases go_walk (ps := ps) (nums := nums) (S := S00) hin hpc (Nat.zero_le _) rfl m with ⟨g1, g2, g3⟩ | ⟨g1, g2⟩ | ⟨g1, g2, g3, g4⟩
  · rw [← g2, h.go]
  · rw [← g2, h.go]
  · rw [g1, h.go]
end
/-! ### calls -/
inductive Call where
  | hand (ns : List Int)
  | go (n : Nat)
def dCall : Call → PyData
  | .hand ns => .tuple [.str "hand", .tuple (ns.map PyData.int)]
  | .go n => .tuple [.str "go", .int n]
structure WSt where
  S : RS
  nums : List Int
  m : Nat
def callF (ps : List Piece) (x : WSt) : Call → WSt
  | .hand ns => ⟨x.S, x.nums ++ ns, x.m⟩
  | .go n => ⟨goF ps x.nums n x.S, x.nums, x.m + cntF ps x.nums n x.S⟩
def W00 : WSt := ⟨S00, [], 0⟩
def CallOk : Call → Prop
  | .hand ns => ns.length ≤ 9
  | .go n => n ≤ 40
theorem noL_call (c : Call) : noList (dCall c) = true := by
  cases c with
  | hand ns => show (true && (noLists (ns.map PyData.int) && true)) = true; rw [noL_ints]; rfl
  | go n => rfl
theorem noLs_calls : ∀ cs : List Call, noLists (cs.map dCall) = true
  | [] => rfl
  | c :: cs => by show (noList (dCall c) && noLists (cs.map dCall)) = true; rw [noL_call, noLs_calls cs]; rfl
structure WOk (ps : List Piece) (x : WSt) (i : Nat) : Prop where
  r : Rch ps x.nums x.m x.S
  m : x.m ≤ 40 * i
  n : x.nums.length ≤ 9 * i
theorem WOk.zero {ps : List Piece} : WOk ps W00 0 := ⟨⟨rfl, rfl⟩, Nat.le_refl _, Nat.le_refl _⟩
theorem WOk.call {ps : List Piece} {x : WSt} {i : Nat} {c : Call} (h : WOk ps x i) (hin : InPlan ps) (hpc : 0 < ps.length) (hc : CallOk c) : WOk ps (callF ps x c) (i + 1) := by
  obtain ⟨r, m, n⟩ := h
  cases c with
  | hand ns =>
    refine ⟨r.handed hin hpc, by show x.m ≤ _; omega, ?_⟩
    show (x.nums ++ ns).length ≤ _
    have : ns.length ≤ 9 := hc
    rw [List.length_append]
    omega
  | go k =>
    have : k ≤ 40 := hc
    have l := cnt_le (ps := ps) (nums := x.nums) (S := x.S) k
    exact ⟨r.went, by show x.m + cntF ps x.nums k x.S ≤ _; omega, by show x.nums.length ≤ _; omega⟩
theorem WOk.mono {ps : List Piece} {x : WSt} {i j : Nat} (h : WOk ps x i) (l : i ≤ j) : WOk ps x j := ⟨h.r, by have := h.m; omega, by have := h.n; omega⟩
/-! ### walkers side by side -/
structure WA where
  wp : Addr
  p : Addr
  pl : Addr
  d : Addr
  nl : Addr
  sl : Addr
def WAtA (C D : Addr) (H : Hp) (w : WA) (plv : V) (x : WSt) : Prop := WAt C D H w.wp w.p w.pl w.d w.nl w.sl plv x.nums x.S x.m
def ButA (w : WA) (H H' : Hp) : Prop := But6 w.wp w.p w.pl w.d w.nl w.sl H H'
def Out (w : WA) (c : Addr) : Prop := c ≠ w.wp ∧ c ≠ w.p ∧ c ≠ w.pl ∧ c ≠ w.d ∧ c ≠ w.nl ∧ c ≠ w.sl
def FrA (H : Hp) (w : WA) : Prop := H w.wp = none ∧ H w.p = none ∧ H w.pl = none ∧ H w.d = none ∧ H w.nl = none ∧ H w.sl = none
def Apart (x y : WA) : Prop := Out x y.wp ∧ Out x y.p ∧ Out x y.pl ∧ Out x y.d ∧ Out x y.nl ∧ Out x y.sl
section
variable {C D : Addr} {H H' H0 : Hp} {x y : WA} {pv pv' : V} {s s' : WSt} {c : Addr} {o : HO}
theorem WAtA.six (W : WAtA C D H x pv s) : (∃ o, H x.wp = some o) ∧ (∃ o, H x.p = some o) ∧ (∃ o, H x.pl = some o) ∧ (∃ o, H x.d = some o) ∧ (∃ o, H x.nl = some o) ∧ (∃ o, H x.sl = some o) := by
  obtain ⟨⟨d0, h0⟩, ⟨⟨d1, h1⟩, h2, h3, ⟨kvs, h4, _⟩, h5, h6, _⟩, _⟩ := W
  exact ⟨⟨_, h0⟩, ⟨_, h1⟩, ⟨_, h2⟩, ⟨_, h4⟩, ⟨_, h5⟩, ⟨_, h6⟩⟩
theorem WAtA.out (W : WAtA C D H x pv s) (h : H c = none) : Out x c := by
  obtain ⟨⟨_, h0⟩, ⟨_, h1⟩, ⟨_, h2⟩, ⟨_, h3⟩, ⟨_, h4⟩, ⟨_, h5⟩⟩ := W.six
  exact ⟨(ne_of_none h0 h).symm, (ne_of_none h1 h).symm, (ne_of_none h2 h).symm, (ne_of_none h3 h).symm, (ne_of_none h4 h).symm, (ne_of_none h5 h).symm⟩
theorem FrA.out (f : FrA H x) (h : H c = some o) : Out x c := by
  obtain ⟨f1, f2, f3, f4, f5, f6⟩ := f
  exact ⟨ne_of_none h f1, ne_of_none h f2, ne_of_none h f3, ne_of_none h f4, ne_of_none h f5, ne_of_none h f6⟩
theorem WAtA.apart (W : WAtA C D H x pv s) (f : FrA H y) : Apart x y := by
  obtain ⟨f1, f2, f3, f4, f5, f6⟩ := f
  exact ⟨W.out f1, W.out f2, W.out f3, W.out f4, W.out f5, W.out f6⟩
theorem Apart.symm (a : Apart x y) : Apart y x := by
  obtain ⟨⟨a1, a2, a3, a4, a5, a6⟩, ⟨b1, b2, b3, b4, b5, b6⟩, ⟨c1, c2, c3, c4, c5, c6⟩, ⟨d1, d2, d3, d4, d5, d6⟩, ⟨e1, e2, e3, e4, e5, e6⟩, ⟨f1, f2, f3, f4, f5, f6⟩⟩ := a
  exact ⟨⟨a1.symm, b1.symm, c1.symm, d1.symm, e1.symm, f1.symm⟩, ⟨a2.symm, b2.symm, c2.symm, d2.symm, e2.symm, f2.symm⟩, ⟨a3.symm, b3.symm, c3.symm, d3.symm, e3.symm, f3.symm⟩, ⟨a4.symm, b4.symm, c4.symm, d4.symm, e4.symm, f4.symm⟩, ⟨a5.symm, b5.symm, c5.symm, d5.symm, e5.symm, f5.symm⟩, ⟨a6.symm, b6.symm, c6.symm, d6.symm, e6.symm, f6.symm⟩⟩
theorem ButA.at_ (b : ButA x H H') (n : Out x c) (h : H c = some o) : H' c = some o := b c o h n.1 n.2.1 n.2.2.1 n.2.2.2.1 n.2.2.2.2.1 n.2.2.2.2.2
theorem WAtA.other (V : WAtA C D H y pv s) (ap : Apart x y) (b : ButA x H H') : WAtA C D H' y pv s :=
  WAt.keep V fun c o h e => by
    obtain ⟨a1, a2, a3, a4, a5, a6⟩ := ap
    rcases e with rfl | rfl | rfl | rfl | rfl | rfl
    · exact b.at_ a1 h
    · exact b.at_ a2 h
    · exact b.at_ a3 h
    · exact b.at_ a4 h
    · exact b.at_ a5 h
    · exact b.at_ a6 h
theorem WAtA.same (W : WAtA C D H x pv s) (k : Same H H') : WAtA C D H' x pv s := WAt.same W k
theorem WAtA.put (W : WAtA C D H x pv s) (n : Out x c) : WAtA C D (upd H c o) x pv s :=
  WAt.keep W fun a u h e => by
    rw [upd_ne ?_]
    · exact h
    · obtain ⟨n1, n2, n3, n4, n5, n6⟩ := n
      rcases e with rfl | rfl | rfl | rfl | rfl | rfl
      · exact n1.symm
      · exact n2.symm
      · exact n3.symm
      · exact n4.symm
      · exact n5.symm
      · exact n6.symm
theorem WAtA.rd {v : V} {dd : PyData} (W : WAtA C D H x pv s) (b : ButA x H H') (r : RdD H v dd) (n : noList dd = true) : RdD H' v dd := WAt.rd W b r n
theorem WAtA.tup {a : Addr} {xs : List V} (W : WAtA C D H x pv s) (b : ButA x H H') (h : H a = some (.tup xs)) : H' a = some (.tup xs) := WAt.tup W b h
end
/-! ### the promises -/
def dSo (ps : List Piece) (x : WSt) : PyData := .tuple [.str (standF ps x.nums x.S), .int x.S.piece, .tuple (x.S.told.map PyData.int), .int x.m]
def vSo (ps : List Piece) (x : WSt) (t : Addr) : List V := [.str (standF ps x.nums x.S), .int x.S.piece, .ref t, .int x.m]
section
variable (C D : Addr)
def spSo : Sp := fun vs H Q _ => ∃ (w : WA) (plv : V) (ps : List Piece) (x : WSt), vs = [.ref w.wp] ∧ WAtA C D H w plv x ∧ RdD H plv (dPlan ps) ∧ x.S.piece < ps.length ∧
  ∀ r t H', H' r = some (.tup (vSo ps x t)) → H' t = some (.tup (x.S.told.map V.int)) → Same H H' → Q (.ref r) H'
def spCalledL : Sp := fun vs H Q _ => ∃ (w : WA) (plv cv : V) (ps : List Piece) (x : WSt) (c : Call) (i : Nat), vs = [.ref w.wp, cv] ∧ WAtA C D H w plv x ∧ RdD H plv (dPlan ps) ∧ InPlan ps ∧ 0 < ps.length ∧ WOk ps x i ∧ i ≤ 60 ∧ RdD H cv (dCall c) ∧ CallOk c ∧
  ∀ r t H1 H', WAtA C D H1 w plv (callF ps x c) → ButA w H H1 → Same H1 H' → H' r = some (.tup (vSo ps (callF ps x c) t)) → H' t = some (.tup ((callF ps x c).S.told.map V.int)) → Q (.ref r) H'
end
end L2
namespace L2
open PySem PySem.Spec PyProof.Rows
/-! ### three walkers and the law's lists -/
structure TriG (H0 : Hp) (w0 w1 w2 : WA) (wl cl nb : Addr) : Prop where
  p01 : Apart w0 w1
  p02 : Apart w0 w2
  p12 : Apart w1 w2
  ol : Out w0 wl ∧ Out w1 wl ∧ Out w2 wl
  oc : Out w0 cl ∧ Out w1 cl ∧ Out w2 cl
  on : Out w0 nb ∧ Out w1 nb ∧ Out w2 nb
  f : FrA H0 w0 ∧ FrA H0 w1 ∧ FrA H0 w2
  ne : wl ≠ cl ∧ wl ≠ nb ∧ cl ≠ nb
  fl : H0 wl = none ∧ H0 cl = none ∧ H0 nb = none
structure Tri (C D : Addr) (H0 H : Hp) (w0 w1 w2 : WA) (wl cl nb : Addr) (plv ov : V) (x0 x1 x2 : WSt) (n0 n1 : List Int) (vs : List V) (cs : List Call) : Prop where
  a0 : WAtA C D H w0 plv x0
  a1 : WAtA C D H w1 ov x1
  a2 : WAtA C D H w2 plv x2
  l : H wl = some (.lst [.ref w0.wp, .ref w1.wp, .ref w2.wp])
  c : H cl = some (.lst vs)
  r : RdDs H vs (cs.map dCall)
  n : ∃ t0 t1, H nb = some (.lst [.ref t0, .ref t1]) ∧ H t0 = some (.tup (n0.map V.int)) ∧ H t1 = some (.tup (n1.map V.int))
  s : Same H0 H
section
variable {C D : Addr} {H0 H H1 : Hp} {w0 w1 w2 : WA} {wl cl nb : Addr} {plv ov : V} {x0 x1 x2 x' : WSt} {n0 n1 n' : List Int} {vs : List V} {cs : List Call}
theorem RdDs.tups' {H H' : Hp} {xs : List V} {ds : List PyData} (r : RdDs H xs ds) (k : ∀ p ys, H p = some (.tup ys) → H' p = some (.tup ys)) (n : noLists ds = true) : RdDs H' xs ds := RdDs.tups k r n
theorem Tri.same (T : Tri C D H0 H w0 w1 w2 wl cl nb plv ov x0 x1 x2 n0 n1 vs cs) (s : Same H H1) : Tri C D H0 H1 w0 w1 w2 wl cl nb plv ov x0 x1 x2 n0 n1 vs cs := by
  obtain ⟨t0, t1, h1, h2, h3⟩ := T.n
  exact ⟨T.a0.same s, T.a1.same s, T.a2.same s, s _ _ T.l, s _ _ T.c, T.r.same s (noLs_calls cs), ⟨t0, t1, s _ _ h1, s _ _ h2, s _ _ h3⟩, T.s.trans s⟩
/-- a call is kept -/
theorem Tri.app {v : V} {c : Call} (T : Tri C D H0 H w0 w1 w2 wl cl nb plv ov x0 x1 x2 n0 n1 vs cs) (G : TriG H0 w0 w1 w2 wl cl nb) (e : RdD H v (dCall c)) :
    Tri C D H0 (upd H cl (.lst (vs ++ [v]))) w0 w1 w2 wl cl nb plv ov x0 x1 x2 n0 n1 (vs ++ [v]) (cs ++ [c]) := by
  obtain ⟨t0, t1, h1, h2, h3⟩ := T.n
  have k : ∀ p ys, H p = some (.tup ys) → (upd H cl (.lst (vs ++ [v]))) p = some (.tup ys) := fun p ys e => by rw [upd_ne (ne_of e T.c (by intro z; cases z))]; exact e
  refine ⟨T.a0.put G.oc.1, T.a1.put G.oc.2.1, T.a2.put G.oc.2.2, by rw [upd_ne G.ne.1]; exact T.l, upd_same, ?_, ⟨t0, t1, by rw [upd_ne G.ne.2.2.symm]; exact h1, k _ _ h2, k _ _ h3⟩, T.s.put G.fl.2.1⟩
  rw [List.map_append]
  exact (T.r.tups' k (noLs_calls cs)).app (e.tups k (noL_call c))
end
end L2

set_option Elab.async false
set_option linter.all false
set_option maxRecDepth 100000
namespace PySem
section
variable {prog : Program} {w : World} {A : Around} {E : Value → Shared → Prop} {s : Shared}
end
end PySem
namespace PySem
section
variable {prog : Program} {w : World} {K : Type} [DecidableEq K] {knd : KeyKind prog w K} {A : Around} {s : Shared}
/-- the pair at q -/
def PairAt (knd : KeyKind prog w K) (h : Heap) (q : Addr) (p : K × Value) : Prop := ∃ key n sl, h.get? q = some { cls := .type "tuple", dict := none, data := .seq #[key, p.2] n, slots := sl } ∧ knd.is p.1 key = true
end
end PySem

set_option Elab.async false
set_option linter.all false
set_option maxRecDepth 100000
namespace L2
open PySem PySem.Spec PyProof.Rows
theorem vals_get : ∀ {xs : List V} {us : List Value} {j : Nat} {x : V}, Vals xs us → xs[j]? = some x → ∃ u, us[j]? = some u ∧ RelV x u
  | _, _, _, _, .nil, e => by simp at e
  | _, _, 0, _, .cons r _, e => by
    cases (Option.some.inj e)
    exact ⟨_, rfl, r⟩
  | _, _, j + 1, x, .cons _ t, e => by
    obtain ⟨u, h1, h2⟩ := vals_get (j := j) (x := x) t (by simpa using e)
    exact ⟨u, by simpa using h1, h2⟩
section
variable {X : Cx}
theorem all_range (bs : List Bool) : ((List.range bs.length).all fun i => (bs[i]?).getD true) = bs.all id := by
  rw [Bool.eq_iff_iff]
  simp only [List.all_eq_true, List.mem_range]
  constructor
  · intro h b hb
    obtain ⟨i, hi, rfl⟩ := List.getElem_of_mem hb
    have := h i hi
    simpa [hi] using this
  · intro h i hi
    have := h bs[i] (List.getElem_mem hi)
    simpa [hi] using this
/-- all(list of truths) -/
theorem call_allL (hc : X.calm = true) : CallR X (.builtin "all") (fun vs H Q => ∃ (p : Addr) (bs : List Bool), vs = [.ref p] ∧ SqL X.K H p (bs.map V.bl) ∧ Q (.bl (bs.all id)) H) := by
  intro pins s σ H vs us Q I r h
  obtain ⟨p, bs, rfl, hS, q⟩ := h
  obtain ⟨u, rfl, ru⟩ := vals1 r
  cases (show u = Value.ref p from ru)
  obtain ⟨its, rv, pl, hz⟩ := I.list hS
  have hl := pl.isList
  have hlt : p < s.heap.objs.size := by
    obtain ⟨_, e, _⟩ := hl
    exact Heap.lt_size e
  have hsz : its.toArray.size = bs.length := by
    have := rv.length
    simp at this
    simp [this]
  refine call_all_walk (wpAny_pyIter_list hl ?_)
  refine ⟨s.heap.objs.size, [s.heap.objs.size, p], [s.heap.objs.size], its.toArray.size, _, _, fun j => (bs[j]?).getD true, rfl, Walks.list (A := X.A.in1) (I.ok.hd hc) _ p (Nat.ne_of_lt hlt) its.toArray,
    ⟨⟨_, Heap.get?_push_size _ rfl, rfl, rfl⟩, hl.push _⟩, fun j v t Q' E' hP hQ => ?_, fun g tk hk => ?_⟩
  · have hj : its[j]? = some v := by simpa using hP
    have hjl : j < bs.length := by
      have := (List.getElem?_eq_some_iff.mp hj).1
      rw [← rv.length, List.length_map] at this
      exact this
    have hb : bs[j]? = some bs[j] := by simp [hjl]
    obtain ⟨w', hw, rw'⟩ := vals_get (j := j) (x := V.bl bs[j]) rv (by rw [List.getElem?_map, hb]; rfl)
    rw [hj] at hw
    cases hw
    cases (show v = Value.bool bs[j] from rw')
    have hQ' : Q' ((bs[j]?).getD true) t := hQ
    rw [hb] at hQ'
    exact wpAny_truthy_bool hQ'
  · refine ⟨.bl (bs.all id), H, ?_, ?_, q⟩
    · refine I.kept (t' := tk) fun b o e => hk b o (fun hm => ?_) (Heap.get?_push_of_some _ e)
      rw [List.mem_singleton.mp hm] at e
      exact Nat.lt_irrefl _ (Heap.lt_size e)
    · show _ = Value.bool (bs.all id)
      rw [hsz, all_range]
end
end L2

set_option Elab.async false
set_option linter.all false
set_option maxRecDepth 100000
namespace L2
open PySem PySem.Spec PyProof.Rows
/-! ### texts in order -/
def leS (a b : Str) : Prop := a.cps.toList ≤ b.cps.toList
structure Srt (ss : List Str) : Prop where
  pw : ss.Pairwise leS
  nd : ss.Nodup
theorem Srt.filter {l : List Str} (h : Srt l) (p : Str → Bool) : Srt (l.filter p) := ⟨h.pw.filter p, h.nd.filter p⟩
/-! ### tables of stretches -/
abbrev Sx := Option Int × Option Int
def allS : Sx := (none, none)
/-- the tuple that stands for ALL in the text -/
structure AllG (K : PySem.W.Frag) (mg : Str → Option Value) (aA : Addr) : Prop where
  mg_ : mg "ALL" = some (.ref aA)
  at_ : ∃ dc n sl, K.lookup aA = some ⟨.type "tuple", dc, .seq #[.none, .none] n, sl⟩
def SH (H : Hp) (v : V) (s : Sx) : Prop := ∃ q, v = .ref q ∧ H q = some (.tup [vO s.1, vO s.2])
def SV (aA : Addr) (H : Hp) (v : V) (s : Sx) : Prop := SH H v s ∨ (v = .ref aA ∧ s = allS)
def dS (s : Sx) : PyData := .tuple [dO s.1, dO s.2]
theorem SH.rd {H : Hp} {v : V} {s : Sx} (h : SH H v s) : RdD H v (dS s) := by
  obtain ⟨q, rfl, e⟩ := h
  exact .tup e (.cons (rd_o _) (.cons (rd_o _) .nil))
theorem SH.tups {H H' : Hp} {v : V} {s : Sx} (h : SH H v s) (k : ∀ p xs, H p = some (.tup xs) → H' p = some (.tup xs)) : SH H' v s := by
  obtain ⟨q, e, h⟩ := h
  exact ⟨q, e, k _ _ h⟩
theorem SV.tups {aA : Addr} {H H' : Hp} {v : V} {s : Sx} (h : SV aA H v s) (k : ∀ p xs, H p = some (.tup xs) → H' p = some (.tup xs)) : SV aA H' v s := h.elim (fun h => .inl (h.tups k)) .inr
theorem rdo_inv {H : Hp} {v : V} {o : Option Int} (h : RdD H v (dO o)) : v = vO o := by
  cases o with
  | none => cases h; rfl
  | some i => exact h.int_inv
/-- a dict of stretches: what each name's stretch is by it, all numbers where it has none -/
structure Tb (aA : Addr) (H : Hp) (kvs : List (Key × V)) (ks : List Str) (T : Str → Sx) : Prop where
  keys : kvs.map (·.1) = ks.map Sum.inr
  nd : ks.Nodup
  val : ∀ x : Str, (valV kvs (Sum.inr x) = none ∧ T x = allS ∧ ¬ x ∈ ks) ∨ (∃ v, valV kvs (Sum.inr x) = some v ∧ SV aA H v (T x) ∧ x ∈ ks)
def setT (T : Str → Sx) (x : Str) (s : Sx) : Str → Sx := fun y => if y = x then s else T y
theorem Tb.tups {aA : Addr} {H H' : Hp} {kvs : List (Key × V)} {ks : List Str} {T : Str → Sx} (h : Tb aA H kvs ks T) (k : ∀ p xs, H p = some (.tup xs) → H' p = some (.tup xs)) : Tb aA H' kvs ks T :=
  ⟨h.keys, h.nd, fun x => (h.val x).elim .inl fun ⟨v, e, s, m⟩ => .inr ⟨v, e, s.tups k, m⟩⟩
theorem Tb.put {aA : Addr} {H : Hp} {kvs : List (Key × V)} {ks : List Str} {T : Str → Sx} (h : Tb aA H kvs ks T) {v : V} {s : Sx} (x : Str) (hv : SV aA H v s) :
    ∃ ks', Tb aA H (putK kvs (Sum.inr x) v) ks' (setT T x s) ∧ ks'.length ≤ ks.length + 1 ∧ ∀ y, y ∈ ks' ↔ y ∈ ks ∨ y = x := by
  have vals : ∀ (ks' : List Str), (∀ y, y ∈ ks' ↔ y ∈ ks ∨ y = x) → ∀ y : Str, (valV (putK kvs (Sum.inr x) v) (Sum.inr y) = none ∧ setT T x s y = allS ∧ ¬ y ∈ ks') ∨ (∃ u, valV (putK kvs (Sum.inr x) v) (Sum.inr y) = some u ∧ SV aA H u (setT T x s y) ∧ y ∈ ks') := by
    intro ks' hk y
    rw [valV_put]
    unfold setT
    by_cases e : y = x
    · subst e
      rw [if_pos rfl, if_pos rfl]
      exact .inr ⟨v, rfl, hv, (hk y).mpr (.inr rfl)⟩
    · rw [if_neg (fun z => e (Sum.inr.inj z)), if_neg e]
      rcases h.val y with ⟨a, b, c⟩ | ⟨u, a, b, c⟩
      · exact .inl ⟨a, b, fun z => ((hk y).mp z).elim c e⟩
      · exact .inr ⟨u, a, b, (hk y).mpr (.inl c)⟩
  rcases putK_keys (kvs := kvs) (k := (Sum.inr x : Key)) (v := v) with ⟨e1, hm⟩ | ⟨e1, hn⟩
  · have hx : x ∈ ks := by
      rw [h.keys] at hm
      obtain ⟨y, hy, e⟩ := List.mem_map.mp hm
      cases e
      exact hy
    have hk : ∀ y, y ∈ ks ↔ y ∈ ks ∨ y = x := fun y => ⟨.inl, fun z => z.elim id fun e => by rw [e]; exact hx⟩
    exact ⟨ks, ⟨by rw [e1]; exact h.keys, h.nd, vals ks hk⟩, Nat.le_succ _, hk⟩
  · have hx : ¬ x ∈ ks := fun z => hn (by rw [h.keys]; exact List.mem_map.mpr ⟨x, z, rfl⟩)
    have hk : ∀ y, y ∈ ks ++ [x] ↔ y ∈ ks ∨ y = x := fun y => by simp
    refine ⟨ks ++ [x], ⟨by rw [e1, h.keys, List.map_append]; rfl, ?_, vals _ hk⟩, by simp, hk⟩
    rw [List.nodup_append]
    refine ⟨h.nd, by simp, fun a ha b hb => ?_⟩
    rw [List.mem_singleton] at hb
    subst hb
    exact fun z => hx (by rw [← z]; exact ha)
/-- facts as they lie -/
def dF (T : Str → Sx) (x : Str) : PyData := .tuple [.str x, dS (T x)]
def FV (H : Hp) (v : V) (T : Str → Sx) : Prop := ∃ (p : Addr) (xs : List V) (ss : List Str), v = .ref p ∧ H p = some (.tup xs) ∧ Srt ss ∧ (∀ x, x ∈ ss ↔ T x ≠ allS) ∧ RdDs H xs (ss.map (dF T))
def dFacts (T : Str → Sx) (ss : List Str) : PyData := .tuple (ss.map (dF T))
theorem noL_f (T : Str → Sx) : ∀ ss : List Str, noLists (ss.map (dF T)) = true
  | [] => rfl
  | x :: ss => by
    show (noList (dF T x) && noLists (ss.map (dF T))) = true
    rw [noL_f T ss]
    show ((true && ((noList (dO (T x).1) && (noList (dO (T x).2) && true)) && true)) && true) = true
    cases (T x).1 <;> cases (T x).2 <;> rfl
theorem FV.tups {H H' : Hp} {v : V} {T : Str → Sx} (h : FV H v T) (k : ∀ p xs, H p = some (.tup xs) → H' p = some (.tup xs)) : FV H' v T := by
  obtain ⟨p, xs, ss, e, hp, hs, hm, r⟩ := h
  exact ⟨p, xs, ss, e, k _ _ hp, hs, hm, r.tups k (noL_f T ss)⟩
theorem FV.same {H H' : Hp} {v : V} {T : Str → Sx} (h : FV H v T) (s : Same H H') : FV H' v T := h.tups fun p xs e => s _ _ e
/-- the pairs of facts make a dict -/
theorem FV.tb {H : Hp} {xs : List V} {T : Str → Sx} {ss : List Str} (aA : Addr) (hs : Srt ss) (hm : ∀ x, x ∈ ss ↔ T x ≠ allS) (r : RdDs H xs (ss.map (dF T))) :
    ∃ kvs : List (Key × V), xs.length = kvs.length ∧ (∀ (i : Nat) (k : Key) (v : V), kvs[i]? = some (k, v) → ∃ q, xs[i]? = some (.ref q) ∧ H q = some (.tup [kV k, v])) ∧ (kvs.map (·.1)).Nodup ∧ Tb aA H kvs ss T := by
  have go : ∀ (ss : List Str) (xs : List V), RdDs H xs (ss.map (dF T)) → ∃ kvs : List (Key × V), xs.length = kvs.length ∧ (∀ (i : Nat) (k : Key) (v : V), kvs[i]? = some (k, v) → ∃ q, xs[i]? = some (.ref q) ∧ H q = some (.tup [kV k, v])) ∧
      kvs.map (·.1) = ss.map Sum.inr ∧ ∀ x : Str, (valV kvs (Sum.inr x) = none ∧ ¬ x ∈ ss) ∨ (∃ v, valV kvs (Sum.inr x) = some v ∧ SH H v (T x) ∧ x ∈ ss) := by
    intro ss
    induction ss with
    | nil =>
      intro xs r
      have z := RdDs.nil_inv r
      subst z
      exact ⟨[], rfl, fun i k v e => by simp at e, rfl, fun x => .inl ⟨rfl, by simp⟩⟩
    | cons y ss ih =>
      intro xs r
      obtain ⟨x1, t1, rfl, h1, r⟩ := RdDs.cons_inv r
      obtain ⟨kvs, l1, l2, l3, l4⟩ := ih t1 r
      obtain ⟨q, zs, rfl, hq, rz⟩ := RdD.tup_inv h1
      obtain ⟨z1, t2, rfl, g1, rz⟩ := rz.cons_inv
      obtain ⟨z2, t3, rfl, g2, rz⟩ := rz.cons_inv
      have z := rz.nil_inv
      subst z
      obtain ⟨q2, ws, rfl, hq2, rw2⟩ := RdD.tup_inv g2
      obtain ⟨w1, t4, rfl, f1, rw2⟩ := rw2.cons_inv
      obtain ⟨w2, t5, rfl, f2, rw2⟩ := rw2.cons_inv
      have z := rw2.nil_inv
      subst z
      have e1 : w1 = vO (T y).1 := rdo_inv f1
      have e2 : w2 = vO (T y).2 := rdo_inv f2
      subst e1 e2
      rw [g1.str_inv] at hq
      refine ⟨(Sum.inr y, .ref q2) :: kvs, by simp [l1], fun i k v e => ?_, by simp [l3], fun x => ?_⟩
      · cases i with
        | zero => cases (Option.some.inj e); exact ⟨q, rfl, hq⟩
        | succ i =>
          obtain ⟨q', a, b⟩ := l2 i k v (by simpa using e)
          exact ⟨q', by simpa using a, b⟩
      · by_cases e : x = y
        · subst e
          exact .inr ⟨_, valV_pos rfl, ⟨q2, rfl, hq2⟩, List.mem_cons_self ..⟩
        · rw [valV_neg (fun z => e (Sum.inr.inj z).symm)]
          rcases l4 x with ⟨a, b⟩ | ⟨v, a, b, c⟩
          · exact .inl ⟨a, fun z => (List.mem_cons.mp z).elim e b⟩
          · exact .inr ⟨v, a, b, List.mem_cons_of_mem _ c⟩
  obtain ⟨kvs, l1, l2, l3, l4⟩ := go ss xs r
  refine ⟨kvs, l1, l2, ?_, ⟨l3, hs.nd, fun x => ?_⟩⟩
  · rw [l3]
    exact List.Pairwise.map _ (fun a b n z => n (Sum.inr.inj z)) hs.nd
  · rcases l4 x with ⟨a, b⟩ | ⟨v, a, b, c⟩
    · refine .inl ⟨a, ?_, b⟩
      exact Classical.byContradiction fun z => b ((hm x).mpr z)
    · exact .inr ⟨v, a, .inl b, c⟩
/-! ### comparing with ALL -/
section
variable {X : Cx}
end
/-! ### the promises of facts.py -/
def spFactsOf (aA : Addr) : Sp := fun vs H Q _ => ∃ (d : Addr) (kvs : List (Key × V)) (ks : List Str) (T : Str → Sx), vs = [.ref d] ∧ H d = some (.dK kvs) ∧ Tb aA H kvs ks T ∧ ks.length < 64 ∧ ∀ v H', FV H' v T → Same H H' → Q v H'
def mvO (o : Option Int) (n : Int) : Option Int := o.map (· + n)
def mvS (s : Sx) (n : Int) : Sx := (mvO s.1 n, mvO s.2 n)
/-- the stretch of the deed's name behind it -/
def behS (T : Str → Sx) : Deed → Sx
  | .put _ n => (some n, some n)
  | .copy _ y => T y
  | .add x n => mvS (T x) n
  | .read _ => allS
  | .tell x => T x
def behT (T : Str → Sx) (d : Deed) : Str → Sx := setT T (nameD d) (behS T d)
def behTs (T : Str → Sx) : List Deed → (Str → Sx) := fun ds => ds.foldl behT T
def spMoved (K : PySem.W.Frag) : Sp := fun vs H Q _ => ∃ (q : Addr) (s : Sx) (n : Int), vs = [.ref q, .int n] ∧ SqT K H q [vO s.1, vO s.2] ∧ ∀ v H', SH H' v (mvS s n) → Same H H' → Q v H'
def spStBehind (aA : Addr) : Sp := fun vs H Q _ => ∃ (d q : Addr) (kvs : List (Key × V)) (ks : List Str) (T : Str → Sx) (dd : Deed), vs = [.ref d, .ref q] ∧ H d = some (.dK kvs) ∧ Tb aA H kvs ks T ∧ H q = some (.tup (vDeed dd)) ∧ ∀ v H', SV aA H' v (behS T dd) → Same H H' → Q v H'
def spBehind : Sp := fun vs H Q _ => ∃ (fv : V) (p : Addr) (ws : List V) (ds : List Deed) (T : Str → Sx) (m : Nat), vs = [fv, .ref p] ∧ FV H fv T ∧ H p = some (.tup ws) ∧ RdDs H ws (ds.map dDeed) ∧ (∀ ss : List Str, (∀ x ∈ ss, T x ≠ allS) → ss.Nodup → ss.length ≤ m) ∧ m + ds.length < 64 ∧ ∀ v H', FV H' v (behTs T ds) → Same H H' → Q v H'
/-- the facts hold for worths -/
def holdsB (T : Str → Sx) (w : Str → Int) (ss : List Str) : Bool := ss.all fun x => liesB (w x) (T x).1 (T x).2
def spHolds : Sp := fun vs H Q _ => ∃ (fv : V) (d : Addr) (kvs : List (Key × V)) (w : Str → Int) (T : Str → Sx), vs = [fv, .ref d] ∧ FV H fv T ∧ H d = some (.dK kvs) ∧ DW kvs w ∧ (∀ x, T x ≠ allS → liesB (w x) (T x).1 (T x).2 = true) ∧ (∀ ss : List Str, (∀ x ∈ ss, T x ≠ allS) → ss.Nodup → ss.length ≤ 63) ∧ ∀ H', Same H H' → Q (.bl true) H'
end L2
namespace L2
open PySem PySem.Spec PyProof.Rows
theorem bt_all : bootBuiltins "all" = some (.builtin "all") := by decide +kernel
theorem Tb.getD {aA : Addr} {H : Hp} {kvs : List (Key × V)} {ks : List Str} {T : Str → Sx} (h : Tb aA H kvs ks T) (x : Str) : ∃ v, (valV kvs (Sum.inr x)).getD (.ref aA) = v ∧ SV aA H v (T x) := by
  rcases h.val x with ⟨a, b, _⟩ | ⟨v, a, b, _⟩
  · exact ⟨_, by rw [a]; rfl, .inr ⟨rfl, b⟩⟩
  · exact ⟨v, by rw [a]; rfl, b⟩
end L2

set_option Elab.async false
set_option linter.all false
set_option maxRecDepth 100000
namespace L2
open PySem PySem.Spec PyProof.Rows
/-! ### zip of two tuples -/
section
variable {prog : Program} {w : World} {A : Around} {E : Value → Shared → Prop} {s : Shared}
structure ZAp (z p q j k a b : Addr) : Prop where
  pz : p ≠ z
  qz : q ≠ z
  jz : j ≠ z
  kz : k ≠ z
  pq : p ≠ q
  pj : p ≠ j
  pk : p ≠ k
  qj : q ≠ j
  qk : q ≠ k
  jk : j ≠ k
  az : a ≠ z
  aq : a ≠ q
  aj : a ≠ j
  ak : a ≠ k
  bz : b ≠ z
  bq : b ≠ q
  bj : b ≠ j
  bk : b ≠ k
abbrev zg1 (h : Heap) (a : Addr) : Heap := h.push { cls := .type "tuple_iterator", data := .fields #[.ref a, .int 0 0] }
abbrev zg2 (h : Heap) (a b : Addr) : Heap := (zg1 h a).push { cls := .type "tuple_iterator", data := .fields #[.ref b, .int 0 0] }
abbrev zg3 (h : Heap) (a b : Addr) : Heap := (zg2 h a b).push { cls := .type "tuple", data := .seq #[.ref h.objs.size, .ref (zg1 h a).objs.size] }
abbrev zg4 (h : Heap) (a b : Addr) : Heap := (zg3 h a b).push { cls := .type "tuple", data := .seq #[.none, .none] }
abbrev zg5 (h : Heap) (a b : Addr) : Heap := (zg4 h a b).push { cls := .type "zip", data := .fields #[.none, .bool false, .bool false, .ref (zg2 h a b).objs.size, .ref (zg3 h a b).objs.size] }
end
section
variable {X : Cx} {pins : List (Addr × Obj)} {σ : List (Option V)} {H H' : Hp} {s : Shared} {h' : Heap}
/-- pairs of two tuples -/
def Itz (K : PySem.W.Frag) (a b : Addr) : It :=
  ⟨fun i H => ∃ xs ys x y, SqT K H a xs ∧ SqT K H b ys ∧ xs[i]? = some x ∧ ys[i]? = some y,
   fun i H v H' => ∃ t x y, v = .ref t ∧ H t = none ∧ H' = upd H t (.tup [x, y]) ∧ ∀ xs ys, SqT K H a xs → SqT K H b ys → xs[i]? = some x ∧ ys[i]? = some y,
   fun i H => ∃ xs ys, SqT K H a xs ∧ SqT K H b ys ∧ (xs.length ≤ i ∨ ys.length ≤ i)⟩
def iZip (K : PySem.W.Frag) (ta : TA) : TI := fun σ H R => ta σ H fun vs H1 => ∃ a b, vs = [.ref a, .ref b] ∧ (∃ xs, SqT K H1 a xs) ∧ (∃ ys, SqT K H1 b ys) ∧ R (Itz K a b) H1
end
end L2

set_option Elab.async false
set_option linter.all false
set_option maxRecDepth 100000
namespace L2
open PySem PySem.Spec PyProof.Rows
/-! ### a module's dict from texts to tuples -/
structure TabG (K : PySem.W.Frag) (mg : Str → Option Value) (nm : Str) (a : Addr) (D : List (Str × Addr)) : Prop where
  mg_ : mg nm = some (.ref a)
  lk : ∃ es ep, K.lookup a = some ⟨.type "dict", none, .dict es ep, #[]⟩ ∧ KTD.Rows (fun d v => v = Value.ref d) es.toList D
section
variable {prog : Program} {w : World} {A : Around} {E : Value → Shared → Prop} {s : Shared}
end
section
variable {X : Cx}
end
end L2

set_option Elab.async false
set_option linter.all false
set_option maxRecDepth 100000
namespace L2
open PySem PySem.Spec PyProof.Rows
/-! ### parts by their kinds, ways on -/
def pick (w : Str) (xs : List V) (ks : List Str) : List V := ((xs.zip ks).filter fun p => decide (p.2 = w)).map (·.1)
def pickN (w : Str) (xs : List V) (ks : List Str) (i : Nat) : List V := (((xs.zip ks).take i).filter fun p => decide (p.2 = w)).map (·.1)
theorem SqT.same {K : PySem.W.Frag} {H H' : Hp} {a : Addr} {xs : List V} (h : SqT K H a xs) (s : Same H H') : SqT K H' a xs := by
  rcases h with h | h
  · rcases h with h | h
    · exact .inl (.inl (s _ _ h))
    · obtain ⟨b, hb⟩ := h
      exact .inl (.inr ⟨b, s _ _ hb⟩)
  · exact .inr h
def spParts (K : PySem.W.Frag) : Sp := fun vs H Q _ => ∃ (t s : Addr) (v0 : V) (xs : List V) (ks : List Str) (w : Str), vs = [.ref t, .ref s, .str w] ∧ H t = some (.tup (v0 :: xs)) ∧ SqT K H s (ks.map V.str) ∧ xs.length ≤ 1000 ∧
  ∀ l H', H' l = some (.lst (pick w xs ks)) → Same H H' → Q (.ref l) H'
def KTup (K : PySem.W.Frag) (a : Addr) (ks : List Str) : Prop := ∃ (o : Obj) (its : Array Value) (n : Nat), K.lookup a = some o ∧ o.cls = .type "tuple" ∧ o.data = .seq its n ∧ its.size ≤ sizeLine ∧ Vals (ks.map V.str) its.toList
structure EndG (K : PySem.W.Frag) (mg : Str → Option Value) (aE s0 s1 s2 s3 : Addr) : Prop where
  tab : TabG K mg "END_PARTS" aE [("stop", s0), ("go", s1), ("less", s2), ("is", s3)]
  q0 : KTup K s0 []
  q1 : KTup K s1 ["piece"]
  q2 : KTup K s2 ["name", "number", "piece", "piece"]
  q3 : KTup K s3 ["name", "number", "piece", "piece"]
def waysE : End → List Nat
  | .stop => []
  | .go p => [p]
  | .tst _ _ _ p q => [p, q]
def kE : End → List Str
  | .stop => []
  | .go _ => ["piece"]
  | .tst .. => ["name", "number", "piece", "piece"]
def wE : End → Str
  | .stop => "stop"
  | .go _ => "go"
  | .tst b .. => wT b
theorem EndG.at_ {K : PySem.W.Frag} {mg : Str → Option Value} {aE s0 s1 s2 s3 : Addr} (G : EndG K mg aE s0 s1 s2 s3) (e : End) : ∃ s, KTD.datumAt (wE e) [(("stop" : Str), s0), ("go", s1), ("less", s2), ("is", s3)] = some s ∧ KTup K s (kE e) := by
  have hit : ∀ {k : Str} {d : Addr} {D : List (Str × Addr)}, KTD.datumAt k ((k, d) :: D) = some d := fun {k d D} => by
    show (if decide (k = k) = true then some d else KTD.datumAt k D) = some d
    rw [if_pos (decide_eq_true rfl)]
  have miss : ∀ {k x : Str} {d : Addr} {D : List (Str × Addr)} {o : Option Addr}, ¬ k = x → KTD.datumAt k D = o → KTD.datumAt k ((x, d) :: D) = o := fun {k x d D o} h e => by
    show (if decide (k = x) = true then some d else KTD.datumAt k D) = o
    rw [if_neg (by rw [decide_eq_false h]; decide)]
    exact e
  cases e with
  | stop => exact ⟨s0, hit, G.q0⟩
  | go p => exact ⟨s1, miss (show ¬ (("go" : Str) = "stop") by decide +kernel) hit, G.q1⟩
  | tst b x n p q =>
    cases b with
    | true => exact ⟨s2, miss (show ¬ (("less" : Str) = "stop") by decide +kernel) (miss (show ¬ (("less" : Str) = "go") by decide +kernel) hit), G.q2⟩
    | false => exact ⟨s3, miss (show ¬ (("is" : Str) = "stop") by decide +kernel) (miss (show ¬ (("is" : Str) = "go") by decide +kernel) (miss (show ¬ (("is" : Str) = "less") by decide +kernel) hit)), G.q3⟩
def spWays : Sp := fun vs H Q _ => ∃ (ea : Addr) (e : End), vs = [.ref ea] ∧ H ea = some (.tup (vEnd e)) ∧ ∀ t H', H' t = some (.tup ((waysE e).map fun k => V.int (k : Nat))) → Same H H' → Q (.ref t) H'
end L2

set_option Elab.async false
set_option linter.all false
set_option maxRecDepth 100000
namespace LS
open PySem
/-! ### the table of a set: its places rise, where it is plain -/
def Up (xs : Array Nat) : Prop := ∀ (i j : Nat) (a b : Nat), i < j → xs[i]? = some a → xs[j]? = some b → a < b
theorem below_go {xs : Array Nat} {j : Nat} (up : Up xs) : ∀ (fuel lo hi : Nat), hi - lo ≤ fuel → lo ≤ hi → hi ≤ xs.size →
    (∀ i a, i < lo → xs[i]? = some a → a < j) → (∀ i a, hi ≤ i → xs[i]? = some a → j ≤ a) →
    (∀ i a, i < SetTable.below.go xs j fuel lo hi → xs[i]? = some a → a < j) ∧ (∀ i a, SetTable.below.go xs j fuel lo hi ≤ i → xs[i]? = some a → j ≤ a) ∧ SetTable.below.go xs j fuel lo hi ≤ xs.size := by
  intro fuel
  induction fuel with
  | zero =>
    intro lo hi h1 h2 h3 h4 h5
    have e : lo = hi := by omega
    subst e
    unfold SetTable.below.go
    exact ⟨h4, h5, h3⟩
  | succ f ih =>
    intro lo hi h1 h2 h3 h4 h5
    unfold SetTable.below.go
    by_cases hl : lo < hi
    · rw [if_pos hl]
      dsimp only
      have hm : (lo + hi) / 2 < hi := by omega
      have hm2 : lo ≤ (lo + hi) / 2 := by omega
      generalize (lo + hi) / 2 = mid at hm hm2
      have hs : mid < xs.size := by omega
      have hg : xs[mid]? = some xs[mid] := by simp [hs]
      have hd : xs.getD mid j = xs[mid] := by simp [Array.getD, hs]
      rw [hd]
      by_cases hc : xs[mid] < j
      · rw [if_pos hc]
        refine ih (mid + 1) hi (by omega) (by omega) h3 (fun i a hi' he => ?_) h5
        by_cases e : i = mid
        · subst e; rw [hg] at he; cases he; exact hc
        · have := up i mid a _ (by omega) he hg; omega
      · rw [if_neg hc]
        refine ih lo mid (by omega) hm2 (by omega) h4 (fun i a hi' he => ?_)
        by_cases e : i = mid
        · subst e; rw [hg] at he; cases he; omega
        · have := up mid i _ a (by omega) hg he; omega
    · rw [if_neg hl]
      have e : lo = hi := by omega
      subst e
      exact ⟨h4, h5, h3⟩
theorem below_of {xs : Array Nat} {j : Nat} (up : Up xs) :
    (∀ i a, i < SetTable.below xs j → xs[i]? = some a → a < j) ∧ (∀ i a, SetTable.below xs j ≤ i → xs[i]? = some a → j ≤ a) ∧ SetTable.below xs j ≤ xs.size :=
  below_go up xs.size 0 xs.size (by omega) (Nat.zero_le _) (Nat.le_refl _) (fun _ _ h => absurd h (Nat.not_lt_zero _)) (fun i a h e => by
    have : xs[i]? = none := by simp; omega
    rw [this] at e; cases e)
theorem insertAt_get {α : Type} {xs : Array α} {p : Nat} {x : α} (hp : p ≤ xs.size) (i : Nat) :
    (SetTable.insertAt xs p x)[i]? = if i < p then xs[i]? else if i = p then some x else xs[i - 1]? := by
  unfold SetTable.insertAt
  have h1 : (xs.extract 0 p).size = p := by simp; omega
  rw [Array.getElem?_append]
  have h2 : ((xs.extract 0 p).push x).size = p + 1 := by simp; omega
  rw [h2]
  by_cases a : i < p
  · rw [if_pos (by omega), if_pos a, Array.getElem?_push, h1, if_neg (by omega)]
    rw [Array.getElem?_extract]
    simp; omega
  · rw [if_neg a]
    by_cases b : i = p
    · subst b
      rw [if_pos (by omega), if_pos rfl, Array.getElem?_push, h1, if_pos rfl]
    · rw [if_neg (by omega), if_neg b]
      rw [Array.getElem?_extract]
      have : p + (i - (p + 1)) = i - 1 := by omega
      rw [this]
      by_cases c : i - 1 < xs.size
      · simp; omega
      · have : xs[i - 1]? = none := by simp; omega
        rw [this]; simp
theorem Up.insert {xs : Array Nat} {j : Nat} (up : Up xs) (hn : xs[SetTable.below xs j]? ≠ some j) : Up (SetTable.insertAt xs (SetTable.below xs j) j) := by
  obtain ⟨h1, h2, h3⟩ := below_of (j := j) up
  generalize SetTable.below xs j = p at h1 h2 h3 hn
  have h2' : ∀ i a, p ≤ i → xs[i]? = some a → j < a := fun i a hi e => by
    have q := h2 i a hi e
    by_cases z : i = p
    · subst z
      rcases Nat.lt_or_ge j a with c | c
      · exact c
      · have : a = j := by omega
        subst this; exact absurd e hn
    · have hps : p < xs.size := by
        have : i < xs.size := by
          rcases Nat.lt_or_ge i xs.size with c | c
          · exact c
          · have : xs[i]? = none := by simp; omega
            rw [this] at e; cases e
        omega
      have e1 : xs[p]? = some xs[p] := by simp [hps]
      have q1 := h2 p _ (Nat.le_refl _) e1
      have q2 := up p i _ _ (by omega) e1 e
      omega
  intro a b x y hab ha hb
  rw [insertAt_get h3] at ha hb
  by_cases c1 : a < p
  · rw [if_pos c1] at ha
    by_cases d1 : b < p
    · rw [if_pos d1] at hb; exact up a b _ _ hab ha hb
    · rw [if_neg d1] at hb
      by_cases d2 : b = p
      · rw [if_pos d2] at hb; cases hb; exact h1 a _ c1 ha
      · rw [if_neg d2] at hb
        exact Nat.lt_trans (h1 a _ c1 ha) (h2' (b - 1) _ (by omega) hb)
  · rw [if_neg c1] at ha
    by_cases c2 : a = p
    · rw [if_pos c2] at ha; cases ha
      rw [if_neg (by omega), if_neg (by omega)] at hb
      exact h2' (b - 1) _ (by omega) hb
    · rw [if_neg c2] at ha
      rw [if_neg (by omega), if_neg (by omega)] at hb
      exact up (a - 1) (b - 1) _ _ (by omega) ha hb
/-- a plain table's places rise -/
def Rp (t : SetTable) : Prop := t.plain = true → Up t.place
theorem probe_go {t : SetTable} {f : Nat → Int} {h : Int} : ∀ (fuel : Nat) (p : SetTable.Probe) (j : Nat) (d : Option Nat), (∀ x, p.dummy = some x → t.place[SetTable.below t.place x]? ≠ some x) →
    SetTable.probe.go t f h fuel p = some (.empty j d) → t.place[SetTable.below t.place (d.getD j)]? ≠ some (d.getD j) := by
  intro fuel
  induction fuel with
  | zero => intro p j d _ e; unfold SetTable.probe.go at e; cases e
  | succ n ih =>
    intro p j d hd e
    unfold SetTable.probe.go at e
    have adv : ∀ q : SetTable.Probe, (t.advance q).dummy = q.dummy := fun q => by unfold SetTable.advance; split <;> rfl
    cases hs : t.slot p.j with
    | empty =>
      rw [hs] at e
      dsimp only at e
      injection e with e
      injection e with e1 e2
      subst e1; subst e2
      unfold SetTable.slot at hs
      dsimp only at hs
      split at hs
      · cases hs
      · rename_i hne
        cases hdm : p.dummy with
        | none => intro z; exact hne (by rw [show (none : Option Nat).getD p.j = p.j from rfl] at z; simpa using z)
        | some x => exact hd x hdm
    | dummy =>
      rw [hs] at e
      dsimp only at e
      refine ih _ j d (fun x hx => ?_) e
      rw [adv] at hx
      injection hx with hx
      subst hx
      unfold SetTable.slot at hs
      dsimp only at hs
      split at hs
      · cases hs
      · rename_i hne
        intro z; exact hne (by simpa using z)
    | live i =>
      rw [hs] at e
      dsimp only at e
      split at e
      · cases e
      · exact ih _ j d (fun x hx => hd x (by rw [adv] at hx; exact hx)) e
theorem freeSlot_off {t : SetTable} {h : Int} {j : Nat} {b : Bool} (e : t.freeSlot h = some (j, b)) : t.place[SetTable.below t.place j]? ≠ some j := by
  unfold SetTable.freeSlot at e
  split at e
  · rename_i j' d hp
    injection e with e
    injection e with e1 e2
    subst e1
    unfold SetTable.probe at hp
    exact probe_go _ _ _ _ (fun x hx => by cases hx) hp
  · cases e
theorem Rp.standIn (t : SetTable) (n : Nat) : Rp (t.standIn n) := fun h => by cases h
theorem Rp.layNew {t : SetTable} (r : Rp t) (es : Array (Int × Value)) (h : Int) (x : Value) : Rp (layNew t es h x).2.1 ∧ (layNew t es h x).2.1.led = t.led := by
  unfold PySem.layNew
  split
  · rename_i j b e
    dsimp only
    unfold SetTable.orStandIn
    split
    · refine ⟨fun hp => ?_, rfl⟩
      exact (r hp).insert (freeSlot_off e)
    · exact ⟨Rp.standIn _ _, rfl⟩
  · exact ⟨Rp.standIn _ _, rfl⟩
theorem up_range (n : Nat) (f : Nat → Option Nat) : Up (((List.range n).filterMap fun j => (f j).map fun k => (j, k)).map (·.1)).toArray := by
  have hs : List.Pairwise (· < ·) (((List.range n).filterMap fun j => (f j).map fun k => (j, k)).map (·.1)) := by
    have hl : List.Sublist (((List.range n).filterMap fun j => (f j).map fun k => (j, k)).map (·.1)) (List.range n) := by
      generalize List.range n = l
      induction l with
      | nil => exact List.Sublist.refl _
      | cons a l ih =>
        rw [List.filterMap_cons]
        cases e : f a with
        | none => exact ih.cons a
        | some k => exact ih.cons₂ a
    exact List.Pairwise.sublist hl List.pairwise_lt_range
  intro i j a b hij ha hb
  rw [List.getElem?_toArray] at ha hb
  have hi : i < _ := (List.getElem?_eq_some_iff.mp ha).1
  have hj : j < _ := (List.getElem?_eq_some_iff.mp hb).1
  have := List.pairwise_iff_getElem.mp hs i j hi hj hij
  rw [(List.getElem?_eq_some_iff.mp ha).2, (List.getElem?_eq_some_iff.mp hb).2] at this
  exact this
theorem Rp.relayAll (t : SetTable) (es : Array (Int × Value)) (n : Nat) : Rp (relayAll t es n).2.1 ∧ (relayAll t es n).2.1.led = t.led := by
  unfold PySem.relayAll
  split
  · rename_i t' order e
    dsimp only
    split
    · unfold SetTable.relaid SetTable.laid at e
      simp only [bind, Option.bind] at e
      split at e
      · cases e
      · rename_i owner _
        injection e with e
        injection e with e1 _
        subst e1
        exact ⟨fun _ => up_range _ _, rfl⟩
    · exact ⟨Rp.standIn _ _, rfl⟩
  · exact ⟨Rp.standIn _ _, rfl⟩
theorem Up.few {xs : Array Nat} (h : xs.size ≤ 1) : Up xs := fun i j a b hij ha hb => by
  have := (Array.getElem?_eq_some_iff.mp hb).1; omega
end LS

set_option Elab.async false
set_option linter.all false
set_option maxRecDepth 100000
namespace LS
open PySem PySem.Spec PyProof.Rows
section
variable {prog : Program} {w : World} {K : Type} [DecidableEq K] {knd : KeyKind prog w K}
variable {A : Around} {E : Value → Shared → Prop} {s : Shared}
/-- an entry of the set is that of the key -/
def Ent (knd : KeyKind prog w K) (e : Int × Value) (k : K) : Prop := knd.is k e.2 = true ∧ e.1 = knd.hash k ∧ e.2.scannable = true
/-- a set with these keys, each once, in some order -/
structure SAt (knd : KeyKind prog w K) (h : Heap) (a : Addr) (ks : List K) (o : Obj) (es : Array (Int × Value)) (ep : Nat) (t : SetTable) : Prop where
  at_ : h.get? a = some o
  ex : o.ExactSet
  data : o.data = .set es ep t
  ents : ∃ ls : List K, ls.Perm ks ∧ Paired (Ent knd) es.toList ls
  nd : ks.Nodup
  few : es.size < scanBound
  fits : t.fits es.size = true
  led : t.led = !(w.params.followText "set-order")
  up : Rp t
def SetK (knd : KeyKind prog w K) (h : Heap) (a : Addr) (ks : List K) : Prop := ∃ o es ep t, SAt knd h a ks o es ep t
theorem paired_perm {α β : Type} {F : α → β → Prop} : ∀ {l l' : List α}, l.Perm l' → ∀ {m' : List β}, Paired F l' m' → ∃ m, m.Perm m' ∧ Paired F l m := by
  intro l l' p
  induction p with
  | nil => intro m' h; exact ⟨m', .refl _, h⟩
  | cons x p ih =>
    intro m' h
    cases h with
    | cons r t => obtain ⟨m, q, e⟩ := ih t; exact ⟨_, q.cons _, .cons r e⟩
  | swap x y l =>
    intro m' h
    cases h with
    | cons r t => cases t with
      | cons r' t' => exact ⟨_, .swap _ _ _, .cons r' (.cons r t')⟩
  | trans p q ih1 ih2 =>
    intro m' h
    obtain ⟨m1, a1, b1⟩ := ih2 h
    obtain ⟨m2, a2, b2⟩ := ih1 b1
    exact ⟨m2, a2.trans a1, b2⟩
theorem paired_mem {α β : Type} {F : α → β → Prop} : ∀ {l : List α} {m : List β}, Paired F l m → (∀ x ∈ l, ∃ y ∈ m, F x y) ∧ (∀ y ∈ m, ∃ x ∈ l, F x y)
  | _, _, .nil => ⟨(fun _ h => nomatch h), (fun _ h => nomatch h)⟩
  | _, _, .cons r t => by
    obtain ⟨h1, h2⟩ := paired_mem t
    refine ⟨fun x hx => ?_, fun y hy => ?_⟩
    · rcases List.mem_cons.mp hx with rfl | hx
      · exact ⟨_, List.mem_cons_self .., r⟩
      · obtain ⟨y, hy, f⟩ := h1 x hx; exact ⟨y, List.mem_cons_of_mem _ hy, f⟩
    · rcases List.mem_cons.mp hy with rfl | hy
      · exact ⟨_, List.mem_cons_self .., r⟩
      · obtain ⟨x, hx, f⟩ := h2 y hy; exact ⟨x, List.mem_cons_of_mem _ hx, f⟩
theorem paired_snoc {α β : Type} {F : α → β → Prop} {x : α} {y : β} (f : F x y) : ∀ {l : List α} {m : List β}, Paired F l m → Paired F (l ++ [x]) (m ++ [y])
  | _, _, .nil => .cons f .nil
  | _, _, .cons r t => .cons r (paired_snoc f t)
variable {a : Addr} {ks : List K} {o : Obj} {es : Array (Int × Value)} {ep : Nat} {t : SetTable} {h h' : Heap}
theorem SAt.elems (S : SAt knd h a ks o es ep t) : ElemsOf knd es.toList := fun e he => by
  obtain ⟨ls, _, p⟩ := S.ents
  obtain ⟨k, _, f⟩ := (paired_mem p).1 e he
  exact ⟨⟨k, f.1, f.2.1⟩, f.2.2⟩
theorem SAt.len (S : SAt knd h a ks o es ep t) : es.size = ks.length := by
  obtain ⟨ls, q, p⟩ := S.ents
  rw [← Array.length_toList, p.length, q.length_eq]
theorem SAt.mem (S : SAt knd h a ks o es ep t) (k : K) : k ∈ ks ↔ ∃ e ∈ es.toList, knd.is k e.2 = true := by
  obtain ⟨ls, q, p⟩ := S.ents
  rw [← q.mem_iff]
  constructor
  · intro hk
    obtain ⟨e, he, f⟩ := (paired_mem p).2 k hk
    exact ⟨e, he, f.1⟩
  · rintro ⟨e, he, f⟩
    obtain ⟨k', hk', f'⟩ := (paired_mem p).1 e he
    rw [knd.inj e.2 k k' f f'.1]; exact hk'
theorem SAt.keep (S : SAt knd h a ks o es ep t) (k : ∀ o, h.get? a = some o → h'.get? a = some o) : SAt knd h' a ks o es ep t := { S with at_ := k _ S.at_ }
theorem SetK.keep (S : SetK knd h a ks) (k : ∀ o, h.get? a = some o → h'.get? a = some o) : SetK knd h' a ks := let ⟨o, es, ep, t, S⟩ := S; ⟨o, es, ep, t, S.keep k⟩
theorem put_data {o : Obj} {es es' : Array (Int × Value)} {ep : Nat} {t t' : SetTable} (hd : o.data = .set es ep t) : Obj.putSet es' t' o = { o with data := .set es' (ep + 1) t' } := putSet_of es' t' hd
theorem SAt.store {es' : Array (Int × Value)} {t' : SetTable} {ks' : List K} (S : SAt knd h a ks o es ep t) (he : ∃ ls : List K, ls.Perm ks' ∧ Paired (Ent knd) es'.toList ls) (nd : ks'.Nodup) (few : es'.size < scanBound)
    (fits : t'.fits es'.size = true) (led : t'.led = t.led) (up : Rp t') : SAt knd (h.update a (Obj.putSet es' t')) a ks' { o with data := .set es' (ep + 1) t' } es' (ep + 1) t' where
  at_ := by
    have q := Heap.get?_update_self (Obj.putSet es' t') S.at_ (by rw [put_data S.data]; rfl)
    rw [put_data S.data] at q
    exact q
  ex := S.ex
  data := rfl
  ents := he
  nd := nd
  few := few
  fits := fits
  led := led.trans S.led
  up := up
theorem add_tail {g : Bool → Sem Unit} (hg : ∀ (b : Bool) (s₁ : Shared) (Q' : Unit → Shared → Prop), Q' () s₁ → wpAny (model prog w) A (g b) Q' E s₁) {es1 : Array (Int × Value)} {t2 : SetTable} {ks' : List K}
    (S : SAt knd s.heap a ks o es ep t) (he : ∃ ls : List K, ls.Perm ks' ∧ Paired (Ent knd) es1.toList ls) (nd : ks'.Nodup) (few : es1.size < scanBound) (fits : t2.fits es1.size = true) (led : t2.led = t.led) (up : Rp t2) {wd : Bool}
    {R : Option Bool → Shared → Prop} (q : ∀ h', Heap.SameBut a s.heap h' → SetK knd h' a ks' → R (some true) { s with heap := h' }) :
    wpAny (model prog w) A (storeSet a es1 t2 >>= fun _ => if (!wd && t2.tooFull) = true then g (relayAll t2 es1 (SetTable.grown es1.size)).2.2 >>= fun _ =>
      storeSet a (relayAll t2 es1 (SetTable.grown es1.size)).1 (relayAll t2 es1 (SetTable.grown es1.size)).2.1 >>= fun _ => pure (some true) else pure (some true)) R E s := by
  refine wpAny_bind (wpAny_storeSet_of S.at_ S.data ?_ (fits_of_scanBound few))
  have S1 := S.store he nd few fits led up
  have b1 := Heap.SameBut.update s.heap a (Obj.putSet es1 t2)
  by_cases hc : (!wd && t2.tooFull) = true
  · rw [if_pos hc]
    have p1 := relayAll_perm t2 es1 (SetTable.grown es1.size)
    have p2 := relayAll_fits t2 es1 (SetTable.grown es1.size)
    have p3 := Rp.relayAll t2 es1 (SetTable.grown es1.size)
    generalize relayAll t2 es1 (SetTable.grown es1.size) = R3 at p1 p2 p3
    obtain ⟨es3, t3, gv⟩ := R3
    obtain ⟨ls, l1, l2⟩ := he
    obtain ⟨ls3, l3, l4⟩ := paired_perm p1 l2
    have z : es3.size = es1.size := by rw [← Array.length_toList, p1.length_eq, Array.length_toList]
    have few3 : es3.size < scanBound := by rw [z]; exact few
    refine wpAny_bind (hg _ _ _ ?_)
    refine wpAny_bind (wpAny_storeSet_of S1.at_ S1.data ?_ (fits_of_scanBound few3))
    exact wpAny_pure (q _ (b1.trans (Heap.SameBut.update _ a _)) ⟨_, _, _, _, S1.store ⟨ls3, l3.trans l1, l4⟩ nd few3 p2 p3.2 p3.1⟩)
  · rw [if_neg hc]
    exact wpAny_pure (q _ b1 ⟨_, _, _, _, S1⟩)
theorem add_hashed {k : K} {x : Value} {Q : Bool → Shared → Prop} (hk : knd.is k x = true) (hsc : x.scannable = true) (S : SetK knd s.heap a ks) (room : ks.length + 1 < scanBound)
    (q : ∀ h', Heap.SameBut a s.heap h' → SetK knd h' a (if k ∈ ks then ks else ks ++ [k]) → Q (!decide (k ∈ ks)) { s with heap := h' }) :
    wpAny (model prog w) A (setAddHashed a x (knd.hash k)) Q E s := by
  obtain ⟨o, es, ep, t, S⟩ := S
  have few1 : es.size + 1 < scanBound := by rw [S.len]; exact room
  unfold setAddHashed setAddHashedIn
  refine wpAny_holding (wpAny_bind (wpAny_setState_of S.at_ S.data S.fits ?_))
  dsimp only
  rw [byScan_of hsc S.few S.elems]
  simp only [↓reduceIte]
  unfold setAddByScan
  refine wpAny_bind (wpAny_bind (wpAny_rule ?_))
  refine wpAny_bind (wpAny_setScan_of hk S.at_ S.data S.fits S.elems ?_)
  cases hr : List.findIdx? (fun e => knd.is k e.2) es.toList with
  | some j =>
    obtain ⟨hj, hpj, _⟩ := List.findIdx?_eq_some_iff_getElem.mp hr
    have hin : k ∈ ks := (S.mem k).mpr ⟨es.toList[j], List.getElem_mem hj, hpj⟩
    refine wpAny_pure (wpAny_pure ?_)
    have := q s.heap (Heap.SameBut.refl a s.heap) (by rw [if_pos hin]; exact ⟨o, es, ep, t, S⟩)
    rw [decide_eq_true hin] at this
    exact this
  | none =>
    have hin : ¬ k ∈ ks := fun z => by
      obtain ⟨e, he, hp⟩ := (S.mem k).mp z
      have := List.findIdx?_eq_none_iff.mp hr e he
      rw [hp] at this; exact Bool.noConfusion this
    rw [if_neg hin, decide_eq_false hin] at q
    have p1 := layNew_perm t es (knd.hash k) x
    have p2 := layNew_fits t es (knd.hash k) x
    have p3 := S.up.layNew es (knd.hash k) x
    dsimp only
    generalize layNew t es (knd.hash k) x = L at p1 p2 p3 ⊢
    obtain ⟨es1, t1, wd, gv⟩ := L
    dsimp only at p1 p2 p3 ⊢
    rw [Array.toList_push] at p1
    have hE : ∃ ls : List K, ls.Perm (ks ++ [k]) ∧ Paired (Ent knd) es1.toList ls := by
      obtain ⟨ls, l1, l2⟩ := S.ents
      obtain ⟨m, m1, m2⟩ := paired_perm p1 (paired_snoc (F := Ent knd) (x := (knd.hash k, x)) (y := k) ⟨hk, rfl, hsc⟩ l2)
      exact ⟨m, m1.trans (l1.append_right _), m2⟩
    have nd1 : (ks ++ [k]).Nodup := by
      rw [List.nodup_append]
      exact ⟨S.nd, by simp, fun y hy z hz e => hin (by rw [List.mem_singleton] at hz; rw [← hz, ← e]; exact hy)⟩
    have few2 : es1.size < scanBound := by rw [← Array.length_toList, p1.length_eq, List.length_append, Array.length_toList]; simpa using few1
    have gw : ∀ (b : Bool) (s₁ : Shared) (Q' : Unit → Shared → Prop), Q' () s₁ → wpAny (model prog w) A (match b with | true => rule "set.scan.the-table-gave-way" | false => pure ()) Q' E s₁ := fun b s₁ Q' hq => by
      cases b
      · exact wpAny_pure hq
      · exact wpAny_rule hq
    refine wpAny_bind (gw _ _ _ ?_)
    by_cases hp : t1.plain = true
    · rw [if_pos hp]
      refine wpAny_bind ?_
      rw [hashByValue_scannable 8 hsc]
      refine wpAny_pure ?_
      by_cases hv : plainKind x = true
      · rw [if_pos hv]
        exact add_tail gw S hE nd1 few2 p2 p3.2 p3.1 fun h' b Sk => wpAny_pure (q h' b Sk)
      · rw [if_neg hv]
        exact add_tail gw S hE nd1 few2 (SetTable.fits_plain_off p2) p3.2 (fun z => by cases z) fun h' b Sk => wpAny_pure (q h' b Sk)
    · rw [if_neg hp]
      refine wpAny_bind (wpAny_pure ?_)
      rw [if_pos rfl]
      exact add_tail gw S hE nd1 few2 p2 p3.2 p3.1 fun h' b Sk => wpAny_pure (q h' b Sk)
theorem fresh_set {led : Bool} (hl : led = !(w.params.followText "set-order")) (at_ : h.get? a = some { cls := .type "set", dict := none, data := .set #[] 0 (.fresh 0 0 led) }) : SetK knd h a [] :=
  ⟨_, #[], 0, _, at_, ⟨rfl, rfl, rfl⟩, rfl, ⟨[], .refl _, .nil⟩, List.nodup_nil, by decide, by rfl, hl, fun _ => Up.few (Nat.zero_le _)⟩
end
end LS

set_option Elab.async false
set_option linter.all false
set_option maxRecDepth 100000
namespace LS
open PySem PySem.Spec PyProof.Rows
section
variable {prog : Program} {w : World} {A : Around} {E : Value → Shared → Prop} {s : Shared}
end
section
variable {prog : Program} {w : World} {K : Type} [DecidableEq K] {knd : KeyKind prog w K}
variable {A : Around} {E : Value → Shared → Prop} {s : Shared} {a : Addr} {ks : List K} {o : Obj} {es : Array (Int × Value)} {ep : Nat} {t : SetTable}
/-! ### the iterator -/
end
end LS

set_option Elab.async false
set_option linter.all false
set_option maxRecDepth 100000
namespace LS
open PySem PySem.Spec PyProof.Rows
def IsSit (h : Heap) (I : Addr) (first : Value) (i : Nat) (a : Addr) (n ep : Nat) : Prop :=
  ∃ oI, h.get? I = some oI ∧ oI.cls = .type "set_iterator" ∧ oI.data = .fields #[first, .int i 0, .ref a, .int n 0, .int ep 0]
theorem IsSit.type {s : Shared} {I : Addr} {first : Value} {i : Nat} {a : Addr} {n ep : Nat} (h : IsSit s.heap I first i a n ep) : s.TypeIs (.ref I) "set_iterator" := let ⟨o, e, c, _⟩ := h; ⟨o, e, c⟩
theorem IsSit.keep {h h' : Heap} {I : Addr} {first : Value} {i : Nat} {a : Addr} {n ep : Nat} (x : IsSit h I first i a n ep) (k : ∀ o, h.get? I = some o → h'.get? I = some o) : IsSit h' I first i a n ep :=
  let ⟨o, e, c⟩ := x; ⟨o, k _ e, c⟩
section
variable {prog : Program} {w : World} {K : Type} [DecidableEq K] {knd : KeyKind prog w K}
variable {A : Around} {E : Value → Shared → Prop} {s : Shared} {a I : Addr} {ks : List K} {o : Obj} {es : Array (Int × Value)} {ep : Nat} {t : SetTable}
def slotP (t : SetTable) : Nat → Nat
  | 0 => 0
  | i + 1 => t.place.getD i 0 + 1
theorem mem2 {b x y : Addr} (h : b ∈ [x, y]) : b = x ∨ b = y := by simpa using h
/-! ### the set itself is walked -/
theorem SAt.typeIs (S : SAt knd s.heap a ks o es ep t) : s.TypeIs (.ref a) "set" := ⟨o, S.at_, S.ex.1⟩
/-- what a walk gives: the values of the entries, in some order -/
def Comes (es : Array (Int × Value)) (P : Nat → Value → Prop) : Prop := ∃ l : List (Int × Value), l.Perm es.toList ∧ P = fun i v => ∃ e, l[i]? = some e ∧ e.2 = v
end
end LS

set_option Elab.async false
set_option linter.all false
set_option maxRecDepth 100000
namespace LS
open PySem PySem.Spec PyProof.Rows PySem.Calls PySem.W
section
variable {prog : Program} {w : World} {K : Type} [DecidableEq K] {knd : KeyKind prog w K}
variable {A : Around} {E : Value → Shared → Prop} {s : Shared} {a : Addr} {ks : List K} {o : Obj} {es : Array (Int × Value)} {ep : Nat} {t : SetTable}
end
end LS

set_option Elab.async false
set_option linter.all false
set_option maxRecDepth 100000
namespace L2
open PySem PySem.Spec PyProof.Rows LS
def strsK (m : List Key) : List Str := m.filterMap fun k => match k with | .inr x => some x | .inl _ => none
def intsK (m : List Key) : List Int := m.filterMap fun k => match k with | .inl x => some x | .inr _ => none
section
variable {prog : Program} {w : World} {A : Around} {E : Value → Shared → Prop} {s : Shared} {a : Addr} {ks : List Key} {o : Obj} {es : Array (Int × Value)} {ep : Nat} {t : SetTable}
end
/-! ### the set as it is tracked -/
def setO (P : Program) (w : World) (a : Addr) (ks : List Key) : HO := .ext fun h => SetK (mixKind P w) h a ks
section
variable {X : Cx} {pins : List (Addr × Obj)} {σ : List (Option V)} {H : Hp} {s : Shared}
end
end L2

set_option Elab.async false
set_option linter.all false
set_option maxRecDepth 100000
namespace LS
open PySem PySem.Spec PyProof.Rows L2
/-! each once, as they come -/
section
variable {K : Type} [DecidableEq K]
def putIn (acc : List K) (k : K) : List K := if k ∈ acc then acc else acc ++ [k]
def onceK (ms : List K) : List K := ms.foldl putIn []
theorem putIn_len (acc : List K) (k : K) : (putIn acc k).length ≤ acc.length + 1 := by unfold putIn; split <;> simp
theorem fold_len : ∀ (ms acc : List K), (ms.foldl putIn acc).length ≤ acc.length + ms.length
  | [], acc => by simp
  | k :: ms, acc => by
    rw [List.foldl_cons]
    have := fold_len ms (putIn acc k)
    have := putIn_len acc k
    simp only [List.length_cons]; omega
end
section
variable {prog : Program} {w : World} {A : Around} {E : Value → Shared → Prop} {s : Shared}
theorem key_scan {k : Key} {v : Value} (h : (mixKind prog w).is k v = true) : v.scannable = true := by
  rcases keyIs_shape (show keyIs k v = true from h) with ⟨j, t, _, rfl⟩ | ⟨x, t, _, rfl⟩ <;> rfl
theorem add_key {a : Addr} {ks : List Key} {k : Key} {v : Value} {Q : Bool → Shared → Prop} (hk : (mixKind prog w).is k v = true) (S : SetK (mixKind prog w) s.heap a ks) (room : ks.length + 1 < scanBound)
    (q : ∀ h', Heap.SameBut a s.heap h' → SetK (mixKind prog w) h' a (putIn ks k) → ∀ c : Bool, Q c { s with heap := h', toks := s.toks + 1 }) : wpAny (model prog w) A (setAdd a v) Q E s := by
  unfold setAdd
  refine wpAny_holding ?_
  refine wpAny_bind ((mixKind prog w).pyHash hk ?_)
  exact add_hashed (s := { s with toks := s.toks + 1 }) hk (key_scan hk) S room fun h' b S' => q h' b S' _
theorem fill_loop {I L : Addr} {fp wr : List Addr} {G : Array GenState → Array GenState → Prop} {n : Nat} {P : Nat → Value → Prop} {St : Nat → Shared → Prop} {R : Result → Shared → Prop} (W : WalksS prog w A.in1 I fp wr G n P St) (hLf : L ∉ fp)
    (ms : List Key) (hl : ms.length = n) (hm : ∀ i v, P i v → ∃ k, ms[i]? = some k ∧ (mixKind prog w).is k v = true) (hb : n + 1 < scanBound) :
    ∀ (k i : Nat) (s : Shared), n - i = k → i ≤ n → St i s → SetK (mixKind prog w) s.heap L (onceK (ms.take i)) →
      (∀ s', Moved (L :: wr) G s s' → SetK (mixKind prog w) s'.heap L (onceK ms) → R (.ok (.ret .none)) s') →
      codeAny (model prog w) A (.builtin "set.update.loop" ⟨[.ref L, .ref I], []⟩) R s := by
  have hLw : L ∉ wr := fun h => hLf (W.sub _ h)
  intro k
  induction k with
  | zero =>
    intro i s hk hi st S q
    have e : i = n := by omega
    subst e
    refine codeAny_builtin PyProof.Rows.F.entry_set_update_loop ?_
    rw [Around.under_plainId PyProof.Rows.F.plain_set_update_loop _]
    show wpAny _ A.in1 (pyNext (.ref I) >>= _) _ _ s
    refine wpAny_bind (W.done s _ _ st fun s' mv => ?_)
    refine wpAny_pure (q s' (mv.mono fun b hb => List.mem_cons_of_mem _ hb) ?_)
    rw [List.take_of_length_le (by omega)] at S
    exact S.keep fun o e => mv.heap L _ hLw e
  | succ k ih =>
    intro i s hk hi st S q
    have hlt : i < n := by omega
    refine codeAny_builtin PyProof.Rows.F.entry_set_update_loop ?_
    rw [Around.under_plainId PyProof.Rows.F.plain_set_update_loop _]
    show wpAny _ A.in1 (pyNext (.ref I) >>= _) _ _ s
    refine wpAny_bind (W.item i s _ _ hlt st fun v s' hP st' mv => ?_)
    obtain ⟨key, hkey, his⟩ := hm i v hP
    have S' : SetK (mixKind prog w) s'.heap L (onceK (ms.take i)) := S.keep fun o e => mv.heap L _ hLw e
    refine wpAny_bind (wpAny_holding (add_key his S' ?_ fun h' sb S2 _ => ?_))
    · have h1 := fold_len (ms.take i) []
      have h2 : (ms.take i).length ≤ i := by rw [List.length_take]; omega
      have h3 : (onceK (ms.take i)).length ≤ 0 + (ms.take i).length := h1
      omega
    · have e1 : putIn (onceK (ms.take i)) key = onceK (ms.take (i + 1)) := by
        unfold onceK
        rw [List.take_add_one, hkey, List.foldl_append]; rfl
      rw [e1] at S2
      refine wpAny_pure ⟨plainId_quiet PyProof.Rows.F.plain_set_update_loop _, ih (i + 1) _ (by omega) hlt (W.frame _ s' _ _ st' (Nat.le_succ _) fun b hb o e => ?_) S2 fun s'' mv2 S3 => ?_⟩
      · rw [sb.2 b (fun h : b = L => hLf (by rw [← h]; exact hb))]; exact e
      · refine q s'' (Moved.trans W.gtrans ((mv.mono fun b hb => List.mem_cons_of_mem _ hb).then_heap (Nat.le_succ _) fun b o hb e => ?_) mv2) S3
        rw [sb.2 b (fun h : b = L => hb (by rw [h]; exact List.mem_cons_self))]; exact e
end
end LS

set_option Elab.async false
set_option linter.all false
set_option maxRecDepth 100000
namespace LS
open PySem PySem.Spec PyProof.Rows L2
theorem paired_get {α β : Type} {F : α → β → Prop} : ∀ {l : List α} {m : List β}, Paired F l m → ∀ {i : Nat} {x : α}, l[i]? = some x → ∃ y, m[i]? = some y ∧ F x y
  | _, _, .nil, i, x, e => by simp at e
  | _, _, .cons r _, 0, x, e => by simp at e; subst e; exact ⟨_, rfl, r⟩
  | _, _, .cons _ t, i + 1, x, e => by simpa using paired_get t (i := i) (x := x) (by simpa using e)
/-- an empty set, as this world makes it -/
def freshO (w : World) : Obj := { cls := .type "set", dict := none, data := .set #[] 0 (.fresh 0 0 (!(w.params.followText "set-order"))) }
section
variable {prog : Program} {w : World} {A : Around} {E : Value → Shared → Prop} {s : Shared}
theorem new_exact (rest : List Value) (hc : checkBuiltinCall "set.__new__" ⟨.type "set" :: rest, []⟩ = pure ()) {Q : Value → Shared → Prop} (q : Q (.ref s.heap.objs.size) { s with heap := s.heap.push (freshO w) }) :
    codeAny (model prog w) A (.call (.builtin "set.__new__") ⟨.type "set" :: rest, []⟩) (wants Q E) s := by
  refine codeAny_of_tree ?_
  show wpAny _ A.in1 (checkBuiltinCall "set.__new__" ⟨.type "set" :: rest, []⟩ >>= fun _ => again (.builtin "set.__new__" ⟨.type "set" :: rest, []⟩)) _ _ s
  refine wpAny_bind (wpAny_of_eq hc (wpAny_pure ⟨plainId_quiet PySem.F.plain_set_new _, codeAny_builtin PySem.F.entry_set_new ?_⟩))
  rw [Around.under_plainId PySem.F.plain_set_new _]
  unfold Builtin.«set.__new__» Builtin.Frozenset.newClass
  have hsub := sub_set_self
  obtain ⟨hp, g, d, tk, os⟩ := s
  dsimp only
  wp_walk
  refine wpAny_askSetting (wpAny_pure ?_)
  dsimp only
  simp only [newObj]
  refine wpAny_bind (wpAny_alloc (wpAny_pure ?_))
  exact wpAny_pure q
/-- set(..): the new object, then what __init__ makes of it -/
theorem call_any {rest : List Value} {Q : Value → Shared → Prop} (hct : checkTypeCall "set" ⟨rest, []⟩ = pure ()) (hcn : checkBuiltinCall "set.__new__" ⟨.type "set" :: rest, []⟩ = pure ())
    (hci : ∀ (M : Model) (A : Around) (E : Value → Shared → Prop) (s' : Shared) (Q' : Unit → Shared → Prop), s'.TypeIs (.ref s.heap.objs.size) "set" → Q' () s' → wpAny M A (checkBuiltinCall "set.__init__" ⟨.ref s.heap.objs.size :: rest, []⟩) Q' E s')
    (init : ∀ (R : Result → Shared → Prop), (∀ h' tk, (∀ b o, s.heap.get? b = some o → h'.get? b = some o) → Q (.ref s.heap.objs.size) { s with heap := h', toks := tk } → R (.ok (.ret .none)) { s with heap := h', toks := tk }) →
      wpAny (model prog w) A.in1.in1 (Builtin.«set.__init__» ⟨.ref s.heap.objs.size :: rest, []⟩) (fun fin s' => match fin with | .done f => R (.ok f) s' | .again c' => c'.quiet = true ∧ codeAny (model prog w) A.in1 c' R s') (fun e s' => R (.error e) s')
        { s with heap := s.heap.push (freshO w) }) :
    wpAny (model prog w) A (call (.type "set") rest) Q E s := by
  obtain ⟨c, tl, hmro⟩ := PySem.F.called_set.mro
  have hmade := PySem.F.called_set.made
  have hsub := PySem.F.called_set.sub
  refine wpAny_call (codeAny_of_tree ?_)
  show wpAny _ _ (callAny (.type "set") _) _ _ _
  refine wpAny_pure ⟨Code.quiet_builtin _ (by decide +kernel), codeAny_builtin PySem.F.entry_type_call ?_⟩
  rw [Around.under_plain (weight_type_call_type "set" rest []) rfl]
  have h1 := PySem.F.called_set.notType
  have h2 := PySem.F.called_set.canCreate
  repeat (any_goals (first | assumption | wp_step))
  refine codeAny_mono (new_exact (w := w) rest hcn (E := E) (Q := fun obj s₁ => obj = .ref s.heap.objs.size ∧ s₁ = { s with heap := s.heap.push (freshO w) }) ⟨rfl, rfl⟩) fun r s₁ hr => ?_
  cases r with
  | error e => exact hr
  | ok fl =>
    cases fl with
    | ret obj =>
      obtain ⟨rfl, rfl⟩ := hr
      have hS : (s.heap.push (freshO w)).get? s.heap.objs.size = some (freshO w) := Heap.get?_push_size _ rfl
      have hT : Shared.TypeIs { s with heap := s.heap.push (freshO w) } (.ref s.heap.objs.size) "set" := ⟨_, hS, rfl⟩
      have hli := PySem.F.called_set.init.lookup
      have hbi := PySem.F.called_set.init.bind (.ref s.heap.objs.size)
      repeat (any_goals (first | assumption | wp_step))
      refine codeAny_mono (codeAny_call_builtin (R := wants (fun r s₂ => r = .none ∧ Q (.ref s.heap.objs.size) s₂) E) PySem.F.called_set.init.plain PySem.F.entry_set_init (hci _ _ _ _ _ hT (init _ fun h' tk _ q => ⟨rfl, q⟩))) fun r₂ s₂ hr₂ => ?_
      cases r₂ with
      | error e => exact hr₂
      | ok fl₂ =>
        cases fl₂ with
        | ret r =>
          obtain ⟨rfl, hq⟩ := hr₂
          repeat (any_goals (first | assumption | wp_step))
        | _ => exact hr₂.elim
    | _ => exact hr.elim
theorem set_list {l : Addr} {items : Array Value} {ms : List Key} {Q : Value → Shared → Prop} (hh : A.handled = none) (hl : s.heap.IsList l items) (hm : Paired (fun v k => (mixKind prog w).is k v = true) items.toList ms) (hb : items.size + 1 < scanBound)
    (q : ∀ h' tk, SetK (mixKind prog w) h' s.heap.objs.size (onceK ms) → (∀ b o, s.heap.get? b = some o → h'.get? b = some o) → Q (.ref s.heap.objs.size) { s with heap := h', toks := tk }) : wpAny (model prog w) A (call (.type "set") [.ref l]) Q E s := by
  refine call_any (PySem.F.typeCall_set_1 _) (PySem.F.newCall_set_1 _) (fun M A E s' Q' hT q' => check_set_init_1 hT q') fun R fin => ?_
  have hS : (s.heap.push (freshO w)).get? s.heap.objs.size = some (freshO w) := Heap.get?_push_size _ rfl
  have hT : Shared.TypeIs { s with heap := s.heap.push (freshO w) } (.ref s.heap.objs.size) "set" := ⟨_, hS, rfl⟩
  have hz : (s.heap.push (freshO w)).objs.size = s.heap.objs.size + 1 := Heap.size_push _ _
  obtain ⟨ol, hol, hcl, nl, hdl⟩ := id hl
  obtain ⟨ocls, odict, odata, oslots⟩ := ol
  simp only at hcl hdl
  subst hcl
  subst hdl
  have hol' : (s.heap.push (freshO w)).get? l = some { cls := .type "list", dict := odict, data := .seq items nl, slots := oslots } := Heap.get?_push_of_some _ hol
  have hsls := PySem.F.sub_list_set
  have hslf := PySem.F.sub_list_frozenset
  have hne : (Value.type "list" == Value.type "dict") = false := by decide
  have hl1 : (s.heap.push (freshO w)).IsList l items := ⟨_, hol', rfl, nl, rfl⟩
  have hlS : l < s.heap.objs.size := Heap.lt_size hol
  unfold freshO at hS hT hz hol' hl1 ⊢
  unfold Builtin.«set.__init__» noKeywords Builtin.Frozenset.updateFrom
  generalize hPI : pyIter = PI
  wp_walk
  subst hPI
  refine wpAny_pyIter_list hl1 ?_
  refine wpAny_bind (wpAny_runValue ?_)
  have hh3 : A.in1.in1.in1.handled = none := by simp [hh]
  refine fill_loop (L := s.heap.objs.size) ((Walks.list hh3 _ l ?_ items).toS) ?_ ms ?_ (fun i v hv => ?_) hb (items.size - 0) 0 _ (by omega) (Nat.zero_le _) ⟨⟨_, Heap.get?_push_size _ rfl, rfl, rfl⟩, (hl1.push _)⟩ ?_ fun s' mv S' => ?_
  · rw [hz]; exact Nat.ne_of_lt (Nat.lt_succ_of_lt hlS)
  · rw [hz]
    intro hmem
    rcases mem2 hmem with e | e
    · exact absurd e (Nat.ne_of_lt (Nat.lt_succ_self _))
    · exact absurd e (Nat.ne_of_gt hlS)
  · rw [← hm.length, Array.length_toList]
  · have hv' : items.toList[i]? = some v := by rw [Array.getElem?_toList]; exact hv
    exact paired_get hm hv'
  · exact fresh_set rfl (Heap.get?_push_of_some _ hS)
  · obtain ⟨h', g', d', tk', os'⟩ := s'
    have eg : g' = s.gens := mv.gens
    have ed : d' = s.drawn := mv.drawn
    have eo : os' = s.os := mv.os
    subst eg; subst ed; subst eo
    have kp : ∀ b o, s.heap.get? b = some o → h'.get? b = some o := fun b o e => mv.heap b o (fun hm => by
      rcases mem2 hm with e' | e'
      · exact absurd e' (Nat.ne_of_lt (Heap.lt_size e))
      · rw [hz] at e'; exact absurd e' (Nat.ne_of_lt (Nat.lt_succ_of_lt (Heap.lt_size e)))) (Heap.get?_push_of_some _ (Heap.get?_push_of_some _ e))
    show wpAny _ _ _ _ _ _
    refine wpAny_pure ?_
    exact wpAny_pure (fin h' tk' kp (q h' tk' S' kp))
end
end LS

set_option Elab.async false
set_option linter.all false
set_option maxRecDepth 100000
namespace L2
open PySem PySem.Spec PyProof.Rows LS
section
variable {X : Cx}
theorem Inv.tk1 {pins : List (Addr × Obj)} {σ : List (Option V)} {H : Hp} {s : Shared} {n : Nat} (I : Inv X pins σ H s) : Inv X pins σ H { s with toks := n } := ⟨I.ok, I.os, I.bare, I.base, I.loc, I.cell, I.free, I.freeC, I.pin, I.hok, I.len⟩
def rInS (P : Program) (w : World) (neg : Bool) : R2 := fun x y H Q => ∃ a ks k, y = .ref a ∧ H a = some (setO P w a ks) ∧ x = kV k ∧ ∀ b : Bool, (b = true ↔ k ∈ ks) → Q (.bl (if neg then !b else b)) H
def tBMS (P : Program) (w : World) (r : V → List V → Hp → VK → Prop) (to : TE) (t : TA) : TE := fun σ H Q => to σ H fun x H1 => (∃ a ks, x = .ref a ∧ H1 a = some (setO P w a ks)) ∧ t σ H1 fun xs H2 => r x xs H2 Q
variable {o e : Expr} {es : List Expr} {to : TE} {t : TA} {name : Str} {apos cpos : Pos} {id : String} {r : V → List V → Hp → VK → Prop}
def rAddS (P : Program) (w : World) : V → List V → Hp → VK → Prop := fun x vs H Q => ∃ a ks k, x = .ref a ∧ vs = [kV k] ∧ H a = some (setO P w a ks) ∧ ks.length + 1 < scanBound ∧ Q .non (upd H a (setO P w a (putIn ks k)))
end
end L2

set_option Elab.async false
set_option linter.all false
set_option maxRecDepth 100000
namespace L2
open PySem PySem.Spec PyProof.Rows LS
/-! ### the names in a plan -/
structure DeedG (K : PySem.W.Frag) (mg : Str → Option Value) (aD d0 d1 d2 d3 d4 : Addr) : Prop where
  tab : TabG K mg "DEED_PARTS" aD [("put", d0), ("copy", d1), ("add", d2), ("read", d3), ("tell", d4)]
  q0 : KTup K d0 ["name", "number"]
  q1 : KTup K d1 ["name", "name"]
  q2 : KTup K d2 ["name", "number"]
  q3 : KTup K d3 ["name"]
  q4 : KTup K d4 ["name"]
def dNames : Deed → List Str
  | .put x _ => [x]
  | .copy x y => [x, y]
  | .add x _ => [x]
  | .read x => [x]
  | .tell x => [x]
def eNames : End → List Str
  | .tst _ x _ _ _ => [x]
  | _ => []
def pNames (p : Piece) : List Str := p.1.flatMap dNames ++ eNames p.2
def allNames (ps : List Piece) : List Str := ps.flatMap pNames
def kD : Deed → List Str
  | .put .. => ["name", "number"]
  | .copy .. => ["name", "name"]
  | .add .. => ["name", "number"]
  | .read .. => ["name"]
  | .tell .. => ["name"]
def wD : Deed → Str
  | .put .. => "put"
  | .copy .. => "copy"
  | .add .. => "add"
  | .read .. => "read"
  | .tell .. => "tell"
theorem tab_hit {k : Str} {d : Addr} {D : List (Str × Addr)} : KTD.datumAt k ((k, d) :: D) = some d := by
  show (if decide (k = k) = true then some d else KTD.datumAt k D) = some d
  rw [if_pos (decide_eq_true rfl)]
theorem tab_miss {k x : Str} {d : Addr} {D : List (Str × Addr)} {o : Option Addr} (h : ¬ k = x) (e : KTD.datumAt k D = o) : KTD.datumAt k ((x, d) :: D) = o := by
  show (if decide (k = x) = true then some d else KTD.datumAt k D) = o
  rw [if_neg (by rw [decide_eq_false h]; decide)]
  exact e
theorem DeedG.at_ {K : PySem.W.Frag} {mg : Str → Option Value} {aD d0 d1 d2 d3 d4 : Addr} (G : DeedG K mg aD d0 d1 d2 d3 d4) (d : Deed) :
    ∃ s, KTD.datumAt (wD d) [(("put" : Str), d0), ("copy", d1), ("add", d2), ("read", d3), ("tell", d4)] = some s ∧ KTup K s (kD d) := by
  cases d with
  | put x n => exact ⟨d0, tab_hit, G.q0⟩
  | copy x y => exact ⟨d1, tab_miss (show ¬ (("copy" : Str) = "put") by decide +kernel) tab_hit, G.q1⟩
  | add x n => exact ⟨d2, tab_miss (show ¬ (("add" : Str) = "put") by decide +kernel) (tab_miss (show ¬ (("add" : Str) = "copy") by decide +kernel) tab_hit), G.q2⟩
  | read x => exact ⟨d3, tab_miss (show ¬ (("read" : Str) = "put") by decide +kernel) (tab_miss (show ¬ (("read" : Str) = "copy") by decide +kernel) (tab_miss (show ¬ (("read" : Str) = "add") by decide +kernel) tab_hit)), G.q3⟩
  | tell x => exact ⟨d4, tab_miss (show ¬ (("tell" : Str) = "put") by decide +kernel) (tab_miss (show ¬ (("tell" : Str) = "copy") by decide +kernel) (tab_miss (show ¬ (("tell" : Str) = "add") by decide +kernel) (tab_miss (show ¬ (("tell" : Str) = "read") by decide +kernel) tab_hit))), G.q4⟩
def spNamesOf : Sp := fun vs H Q _ => ∃ (plv : V) (ps : List Piece) (xs : List Str) (m : Nat), vs = [plv] ∧ RdD H plv (dPlan ps) ∧ PlanOk xs m ps ∧ xs.length < 64 ∧ (allNames ps).length ≤ 4000 ∧
  ∀ (t : Addr) (ss : List Str) (H' : Hp), H' t = some (.tup (ss.map V.str)) → ss.Perm (onceK (allNames ps)) → sortedS ss = true → ss.length < 64 → Same H H' → Q (.ref t) H'
end L2

set_option Elab.async false
set_option linter.all false
set_option maxRecDepth 100000
namespace L2
open PySem PySem.Spec PyProof.Rows
/-! ### a part of a tuple of numbers -/
/-! ### two walkers of one plan -/
structure DuoG (H0 : Hp) (w0 w1 : WA) : Prop where
  ap : Apart w0 w1
  f0 : FrA H0 w0
  f1 : FrA H0 w1
structure Duo (C D : Addr) (H0 H : Hp) (w0 w1 : WA) (plv : V) (x0 x1 : WSt) : Prop where
  a0 : WAtA C D H w0 plv x0
  a1 : WAtA C D H w1 plv x1
  s : Same H0 H
section
variable {C D : Addr} {H0 H H1 : Hp} {w0 w1 : WA} {plv : V} {x0 x1 x' : WSt}
theorem Duo.same (T : Duo C D H0 H w0 w1 plv x0 x1) (s : Same H H1) : Duo C D H0 H1 w0 w1 plv x0 x1 := ⟨T.a0.same s, T.a1.same s, T.s.trans s⟩
end
def spInputB : Sp := fun vs H Q _ => ∃ (b : Addr), vs = [.ref b] ∧ Bag H b ∧ ∀ (t : Addr) (nums : List Int) (H' : Hp), H' t = some (.tup (nums.map V.int)) → nums.length ≤ 200 → Bag H' b → Fix b H H' → Q (.ref t) H'
def dWpt (ps : List Piece) (x : WSt) : PyData := .tuple [.str (standF ps x.nums x.S), .int x.S.piece, .tuple (x.S.told.map PyData.int)]
end L2

set_option Elab.async false
set_option linter.all false
set_option maxRecDepth 100000
namespace L2
open PySem PySem.Spec PyProof.Rows LS
section
variable {X : Cx}
/-- min of a list of ints -/
def rMinL (K : PySem.W.Frag) : List V → Hp → VK → Prop := fun vs H Q => ∃ (p : Addr) (ns : List Int), vs = [.ref p] ∧ SqL K H p (ns.map V.int) ∧ 0 < ns.length ∧ ∀ M, M ∈ ns → (∀ a, a ∈ ns → M ≤ a) → Q (.int M) H
/-- the place of a number in a list of numbers -/
def rIndex : V → List V → Hp → VK → Prop := fun x vs H Q => ∃ (l : Addr) (ns : List Int) (a : Int), x = .ref l ∧ vs = [.int a] ∧ H l = some (.lst (ns.map V.int)) ∧ a ∈ ns ∧ Q (.int (ns.idxOf a : Nat)) H
end
/-! ### a row of things, told once each -/
def rofl (a0 a1 : V) : List (Str × V) := [("members", a0), ("places", a1)]
section
variable {a0 a1 z : V}
end
structure RowT (K : PySem.W.Frag) (C : Addr) : Prop where
  cl : Cls K C
  members : NoAttr K C "members"
  places : NoAttr K C "places"
abbrev vN (ms : List Nat) : List V := ms.map fun k => V.int (k : Nat)
structure RAt (C : Addr) (H : Hp) (r m d : Addr) (ms : List Nat) : Prop where
  ob : ∃ dx, H r = some (.ins C dx (rofl (.ref m) (.ref d)))
  mem : H m = some (.lst (vN ms))
  plc : ∃ kvs, H d = some (.dK kvs) ∧ kvs.length ≤ ms.length ∧ ∀ k : Nat, valV kvs (Sum.inl (k : Int) : Key) = if k ∈ ms then some (.int (ms.idxOf k : Nat)) else none
def But2 (m d : Addr) (H H' : Hp) : Prop := ∀ c o, H c = some o → c ≠ m → c ≠ d → H' c = some o
theorem But2.refl {m d : Addr} {H : Hp} : But2 m d H H := fun _ _ h _ _ => h
theorem But2.trans {m d : Addr} {H H1 H2 : Hp} (a : But2 m d H H1) (b : But2 m d H1 H2) : But2 m d H H2 := fun c o h n1 n2 => b c o (a c o h n1 n2) n1 n2
section
variable {C r m d : Addr} {H H' : Hp} {ms : List Nat}
theorem RAt.nes (A : RAt C H r m d ms) : r ≠ m ∧ r ≠ d ∧ d ≠ m := by
  obtain ⟨dx, h1⟩ := A.ob
  obtain ⟨kvs, h2, _⟩ := A.plc
  refine ⟨ne_of h1 A.mem ?_, ne_of h1 h2 ?_, ne_of h2 A.mem ?_⟩ <;> (intro z; cases z)
theorem RAt.same (A : RAt C H r m d ms) (s : Same H H') : RAt C H' r m d ms := by
  obtain ⟨⟨dx, h1⟩, h2, kvs, h3, h4⟩ := A
  exact ⟨⟨dx, s _ _ h1⟩, s _ _ h2, kvs, s _ _ h3, h4⟩
theorem RAt.keep (A : RAt C H r m d ms) (k : ∀ c o, H c = some o → (c = r ∨ c = m ∨ c = d) → H' c = some o) : RAt C H' r m d ms := by
  obtain ⟨⟨dx, h1⟩, h2, kvs, h3, h4⟩ := A
  exact ⟨⟨dx, k _ _ h1 (.inl rfl)⟩, k _ _ h2 (.inr (.inl rfl)), kvs, k _ _ h3 (.inr (.inr rfl)), h4⟩
theorem RAt.tup {c : Addr} {xs : List V} (A : RAt C H r m d ms) (b : But2 m d H H') (h : H c = some (.tup xs)) : H' c = some (.tup xs) := by
  obtain ⟨kvs, h2, _⟩ := A.plc
  refine b c _ h (ne_of h A.mem ?_) (ne_of h h2 ?_) <;> (intro z; cases z)
end
section
variable (C : Addr)
def spRowInit : Sp := fun vs H Q _ => ∃ (r dx : Addr) (k : Nat), vs = [.ref r, .int (k : Nat)] ∧ H r = some (.ins C dx []) ∧
  ∀ (m d : Addr) (H' : Hp), RAt C H' r m d [k] → (∀ c o, H c = some o → c ≠ r → H' c = some o) → H m = none → H d = none → Q .non H'
def spPlaceOf : Sp := fun vs H Q _ => ∃ (r m d : Addr) (k : Nat) (ms : List Nat), vs = [.ref r, .int (k : Nat)] ∧ RAt C H r m d ms ∧ ms.length ≤ 1000 ∧
  ∀ H', RAt C H' r m d (LS.putIn ms k) → But2 m d H H' → Q (.int ((LS.putIn ms k).idxOf k : Nat)) H'
end
/-! ### ways followed through what is idle -/
def idleB : Piece → Bool
  | ([], .go _) => true
  | _ => false
def minN (l : List Nat) : Nat := l.min?.getD 0
def folN (ps : List Piece) : Nat → Nat → List Nat → Nat
  | 0, at_, _ => at_
  | f + 1, at_, passed => match ps[at_]? with
    | some ([], .go n) => if at_ ∈ passed then minN (passed.drop (passed.idxOf at_)) else folN ps f n (passed ++ [at_])
    | _ => at_
def folF (ps : List Piece) (at_ : Nat) : Nat := folN ps (ps.length + 1) at_ []
/-! ### a plan with other pieces in the stead of its own -/
def headE : End → List V
  | .stop => [.str "stop"]
  | .go _ => [.str "go"]
  | .tst b x n _ _ => [.str (wT b), .str x, .int n]
def newE : End → List Nat → End
  | .go _, [a] => .go a
  | .tst b x n _ _, [a, c] => .tst b x n a c
  | e, _ => e
def putAll (ms : List Nat) (ks : List Nat) : List Nat := ks.foldl LS.putIn ms
def outP (pc : Piece) (ks ms : List Nat) : Piece := (pc.1, newE pc.2 (ks.map ms.idxOf))
def loopR (ps : List Piece) (st : Nat → Nat) : Nat → List Nat → List Piece → List Nat × List Piece
  | 0, ms, outs => (ms, outs)
  | f + 1, ms, outs => match ms[outs.length]? with
    | none => (ms, outs)
    | some k => match ps[k]? with
      | none => (ms, outs)
      | some pc => loopR ps st f (putAll ms ((waysE pc.2).map st)) (outs ++ [outP pc ((waysE pc.2).map st) (putAll ms ((waysE pc.2).map st))])
def stF (ss : List Nat) (k : Nat) : Nat := ss.getD k 0
def dNat (k : Nat) : PyData := .int (k : Nat)
def dShort (p : List Nat × List Piece) : PyData := .tuple [.tuple (p.2.map dPiece), .tuple (p.1.map dNat)]
def spWithout : Sp := fun vs H Q _ => ∃ (ea : Addr) (e : End), vs = [.ref ea] ∧ H ea = some (.tup (vEnd e)) ∧ ∀ t H', H' t = some (.tup (headE e)) → Same H H' → Q (.ref t) H'
def spSteads : Sp := fun vs H Q _ => ∃ (plv : V) (l : Addr) (ps : List Piece) (ss : List Nat), vs = [plv, .ref l] ∧ RdD H plv (dPlan ps) ∧ InPlan ps ∧ H l = some (.lst (vN ss)) ∧ ss.length = ps.length ∧ 0 < ps.length ∧ ps.length ≤ 1000 ∧ (∀ k ∈ ss, k < ps.length) ∧
  ∀ v H', RdD H' v (dShort (loopR ps (stF ss) ps.length [stF ss 0] [])) → Same H H' → Q v H'
def spIdle : Sp := fun vs H Q _ => ∃ (pc da ea : Addr) (ws : List V) (ds : List Deed) (e : End), vs = [.ref pc] ∧ H pc = some (.tup [.ref da, .ref ea]) ∧ H da = some (.tup ws) ∧ RdDs H ws (ds.map dDeed) ∧ H ea = some (.tup (vEnd e)) ∧ Q (.bl (idleB (ds, e))) H
def spFollowed : Sp := fun vs H Q _ => ∃ (plv : V) (ps : List Piece) (k : Nat), vs = [plv, .int (k : Nat)] ∧ RdD H plv (dPlan ps) ∧ InPlan ps ∧ k < ps.length ∧ ps.length ≤ 1000 ∧ ∀ H', Same H H' → Q (.int (folF ps k : Nat)) H'
def folsF (ps : List Piece) : List Nat := (List.range ps.length).map (folF ps)
def shortF (ps : List Piece) : List Nat × List Piece := loopR ps (stF (folsF ps)) ps.length [stF (folsF ps) 0] []
def spShort : Sp := fun vs H Q _ => ∃ (plv : V) (ps : List Piece), vs = [plv] ∧ RdD H plv (dPlan ps) ∧ InPlan ps ∧ 0 < ps.length ∧ ps.length ≤ 1000 ∧ ∀ v H', RdD H' v (dShort (shortF ps)) → Same H H' → Q v H'
def spLWays : Sp := fun vs H Q _ => ∃ (ea : Addr) (e : End), vs = [.ref ea] ∧ H ea = some (.tup (vEnd e)) ∧ ∀ l H', H' l = some (.lst (vN (waysE e))) → Same H H' → Q (.ref l) H'
def spIdlePlan : Sp := fun vs H Q _ => ∃ (b : Addr) (c : Nat), vs = [.ref b, .int c] ∧ Bag H b ∧ 0 < c ∧ c ≤ 1000 ∧ ∀ v xs ps H', RdD H' v (dPlan ps) → ps.length = c → PlanOk xs 2 ps → ((∀ x ∈ xs, NameOk x) ∧ xs.length ≤ 4) → Bag H' b → Fix b H H' → Q v H'
/-! ### a plan can be laid -/
def LayD (ps : List Piece) : Prop := ∀ p ∈ ps, (PyData.tuple (p.1.map dDeed)).canLay0 = true ∧ (dEnd p.2).canLay0 = true
def spLFollowed : Sp := fun vs H Q _ => ∃ (plv : V) (ps : List Piece) (k : Nat), vs = [plv, .int (k : Nat)] ∧ RdD H plv (dPlan ps) ∧ InPlan ps ∧ LayD ps ∧ k < ps.length ∧ ps.length ≤ 1000 ∧ ∀ H', Same H H' → Q (.int (folF ps k : Nat)) H'
end L2

set_option Elab.async false
set_option linter.all false
set_option maxRecDepth 100000
namespace L2
open PySem PySem.Spec PyProof.Rows
section
variable {X : Cx} {tg : Expr}
/-- int(text) -/
theorem call_intS : CallR X (.type "int") (fun vs H Q => ∃ (x : Str) (n : Int), vs = [.str x] ∧ PySem.intText? x = some n ∧ x.length ≤ 640 ∧ Q (.int n) H) := by
  intro pins s σ H xs us Q I r h
  obtain ⟨x, n, rfl, hn, hl, q⟩ := h
  obtain ⟨u, rfl, t, rfl⟩ := vals1 r
  exact PySem.W.KIN.call_text hn hl ⟨.int n, H, I.tk1, ⟨_, rfl⟩, q⟩
theorem mt_startswith : MtR X "str.startswith" (fun x vs H Q => ∃ a b : Str, x = .str a ∧ vs = [.str b] ∧ Q (.bl (Txt.startswith a b)) H) := by
  intro pins s σ H x vs v us Q I rx rv h
  obtain ⟨a, b, rfl, rfl, q⟩ := h
  obtain ⟨t, rfl⟩ := (show ∃ t, v = Value.str a t from rx)
  obtain ⟨u, rfl, t', rfl⟩ := vals1 rv
  exact SC.startswith ⟨.bl _, H, I, rfl, q⟩
theorem op_le_str : OpR X (compareOp .LtE) (fun x y H Q => ∃ i j, x = .str i ∧ y = .str j ∧ Q (.bl (!decide (j.cps.toList < i.cps.toList))) H) := by
  intro pins s σ H x y v u Q I rx ry h
  obtain ⟨i, j, rfl, rfl, q⟩ := h
  obtain ⟨t, rfl⟩ := rx
  obtain ⟨t', rfl⟩ := ry
  exact P.le_str (fin_bl I q rfl)
def rSlS : V → Option Int → Option Int → Hp → VK → Prop := fun x lo hi H Q => ∃ a : Str, x = .str a ∧ a.length ≤ 1000000 ∧ Q (.str (Txt.slice a lo hi)) H
theorem sl_str : SlR X rSlS := by
  intro pins s σ H x v vl vu lo hi sl Q I rx hs pl pu h
  obtain ⟨a, rfl, ha, q⟩ := h
  obtain ⟨t, rfl⟩ := (show ∃ t, v = Value.str a t from rx)
  refine ⟨"str", _, F.slot_str_getitem.lookup, typeIs_str _ _ _, ?_⟩
  have hz : ∀ l u, (Txt.slice a l u).length ≤ sizeLine := fun l u => Nat.le_trans (Txt.slice_le a _ _) (Nat.le_of_lt (small1000' ha))
  cases pl with
  | none => cases pu with
    | none => exact wpAny_getItem_str_slice (l := none) (u := none) (st := none) hs rfl (post_val_or_str ⟨hz _ _, fun t' k => ⟨.str _, H, I.tok k, ⟨_, rfl⟩, q⟩⟩)
    | int j uj => exact wpAny_getItem_str_slice (l := none) (u := some (j, uj)) (st := none) hs rfl (post_val_or_str ⟨hz _ _, fun t' k => ⟨.str _, H, I.tok k, ⟨_, rfl⟩, q⟩⟩)
  | int i ui => cases pu with
    | none => exact wpAny_getItem_str_slice (l := some (i, ui)) (u := none) (st := none) hs rfl (post_val_or_str ⟨hz _ _, fun t' k => ⟨.str _, H, I.tok k, ⟨_, rfl⟩, q⟩⟩)
    | int j uj => exact wpAny_getItem_str_slice (l := some (i, ui)) (u := some (j, uj)) (st := none) hs rfl (post_val_or_str ⟨hz _ _, fun t' k => ⟨.str _, H, I.tok k, ⟨_, rfl⟩, q⟩⟩)
/-- the signs of a text, one by one -/
def Its (x : Str) : It := ⟨fun i _ => i < x.cps.size, fun i H v H' => H' = H ∧ ∃ c, x.cps[i]? = some c ∧ v = .str ⟨#[c]⟩, fun i _ => i = x.cps.size⟩
theorem turn_str {P : Program} {w : World} {K : PySem.W.Frag} {tg : Expr} {ty : String} (it : Addr) (x : Str) (t : Tok) (hn : ["enumerate", "zip", "dict_itemiterator", "dict_reverseitemiterator", "odict_iterator", "itertools.zip_longest", "itertools.pairwise"].contains ty = false)
    (W : ∀ A : Around, A.handled = none → Walks P w A it [it] [it] x.cps.size (SignAt x) (fun i h => h.IsStrIter it ty x t i))
    (S : ∀ (A : Around) (i : Nat) (s : Shared) (Q : Value → Shared → Prop) (E : Value → Shared → Prop), s.heap.IsStrIter it ty x t i → Q (.ref it) s → wpAny (model P w) A (pyIter (.ref it)) Q E s) : Turn P w K tg (Its x) [it] it (fun i h => h.IsStrIter it ty x t i) where
  mem := by simp
  obj := fun i h st b hb => by
    have e : b = it := by simpa using hb
    subst e
    obtain ⟨o, e, c, d⟩ := st
    exact ⟨o, e, fun v z => by rw [d] at z; cases z⟩
  keep := fun i h h' st k => by
    obtain ⟨o, e, r⟩ := st
    exact ⟨o, k it (by simp) o e, r⟩
  item := by
    intro X hP hw hK hc i pins s σ H E I hf st hg
    subst hP hw hK
    obtain ⟨f0, f1, f2, f3, f4, f5⟩ := hf it (by simp)
    refine (W X.A (I.ok.hd hc)).item i s _ _ hg st fun v h' tk hv st' kk => ?_
    obtain ⟨c, u, hc', rfl⟩ := hv
    have I1 : Inv X pins σ H { s with heap := h', toks := tk } := I.turned (fun b o hb e => kk b o (by simpa using hb) e) f0 f1 f3 f4 f5
    obtain ⟨o, e, c1, d⟩ := id st'
    exact ⟨_, rfl, go_of (s := { s with heap := h', toks := tk }) e c1 d hn ⟨.str ⟨#[c]⟩, H, I1, ⟨u, rfl⟩, ⟨rfl, c, hc', rfl⟩, st', fun b hb => (hf b hb).1⟩⟩
  done := by
    intro X hP hw hK hc i pins s σ H E I hf st hg
    subst hP hw hK
    obtain ⟨f0, f1, f2, f3, f4, f5⟩ := hf it (by simp)
    cases (show i = x.cps.size from hg)
    exact (W X.A (I.ok.hd hc)).done s _ _ st fun h' tk kk => ⟨rfl, I.turned (fun b o hb e => kk b o (by simpa using hb) e) f0 f1 f3 f4 f5⟩
  self := fun A i s Q E st h => S A i s Q E st h
def iStr (tl : TE) : TI := fun σ H R => tl σ H fun v H1 => ∃ x : Str, v = .str x ∧ R (Its x) H1
theorem pi_str {l : Expr} {tl : TE} (hl : PE X l tl) : PI X tg l (iStr tl) := by
  intro pins s σ H R I h
  refine thn (hl pins s σ H _ I h) fun v s1 ⟨x, H1, I1, r1, q1⟩ => ?_
  obtain ⟨z, rfl, q⟩ := q1
  obtain ⟨t, rfl⟩ := (show ∃ t, v = Value.str z t from r1)
  cases ha : z.cps.all (· < 128)
  · refine wpAny_pyIter_wide ha ?_
    refine ⟨s1.heap.objs.size, [s1.heap.objs.size], _, _, H1, rfl, I1.kept (t' := s1.toks) fun b o e => Heap.get?_push_of_some _ e, turn_str _ z t (ty := "str_iterator") (by decide) (fun A hA => Walks.strWide hA _ z t) (fun _ _ _ _ _ st h => wpAny_pyIter_striter_wide st h), ⟨_, Heap.get?_push_size _ rfl, rfl, rfl⟩, fun b hb => ?_, q⟩
    have e : b = s1.heap.objs.size := by simpa using hb
    subst e
    exact I1.fpOk (Nat.le_refl _) (I1.hok.fresh (Nat.le_refl _))
  · refine wpAny_pyIter_ascii ha ?_
    refine ⟨s1.heap.objs.size, [s1.heap.objs.size], _, _, H1, rfl, I1.kept (t' := s1.toks) fun b o e => Heap.get?_push_of_some _ e, turn_str _ z t (ty := "str_ascii_iterator") (by decide) (fun A hA => Walks.strAscii hA _ z t) (fun _ _ _ _ _ st h => wpAny_pyIter_striter_ascii st h), ⟨_, Heap.get?_push_size _ rfl, rfl, rfl⟩, fun b hb => ?_, q⟩
    have e : b = s1.heap.objs.size := by simpa using hb
    subst e
    exact I1.fpOk (Nat.le_refl _) (I1.hok.fresh (Nat.le_refl _))
theorem lc_str {acc : Addr} {x : Str} {n : Nat} {js : List Nat} {g : TG} {ct : TT} {te : TE} {σ : St} {H1 : Hp} {Q : VK} (Pv : Nat → List V → St → Hp → Prop) (h0 : Pv 0 [] (blk n js σ) (upd H1 acc (.lst [])))
    (hl : ∀ i ys τ H, i ≤ x.cps.size → Pv i ys τ H → H acc = some (.lst ys) ∧ ys.length < sizeLine)
    (hs : ∀ i c ys τ H, x.cps[i]? = some c → Pv i ys τ H → g (.str ⟨#[c]⟩) τ H fun τ1 H4 => ct τ1 H4 fun b H5 => if b = true then te τ1 H5 fun y H6 => H6 acc = some (.lst ys) ∧ Pv (i + 1) (ys ++ [y]) τ1 (upd H6 acc (.lst (ys ++ [y]))) else Pv (i + 1) ys τ1 H5)
    (hd : ∀ ys τ H, Pv x.cps.size ys τ H → Q (.ref acc) H) :
    LcG (Its x) n js g ct te acc σ H1 Q := by
  refine ⟨fun i m ys τ H => m = x.cps.size - i ∧ i ≤ x.cps.size ∧ Pv i ys τ H, ⟨x.cps.size, by simp, Nat.zero_le _, h0⟩, ?_⟩
  rintro i m ys τ H ⟨rfl, hi, p⟩
  obtain ⟨q2, q3⟩ := hl i ys τ H hi p
  refine ⟨q2, q3, ?_⟩
  by_cases hlt : i < x.cps.size
  · refine .inr ⟨hlt, Pv (i + 1), fun ys' τ' H' p' => ⟨x.cps.size - (i + 1), by omega, rfl, hlt, p'⟩, fun v H' y => ?_⟩
    obtain ⟨e, c, hc, rfl⟩ := y
    subst e
    exact hs i c ys τ _ hc p
  · have e : i = x.cps.size := by omega
    subst e
    exact .inl ⟨rfl, hd ys τ H p⟩
end
/-! ### signs -/
open PySem.Builtin.Str PySem.Builtin PySem.StrLaws PySem.NumText
def sg (x : Str) : List Nat := x.cps.toList
theorem sg_ext {x y : Str} (h : sg x = sg y) : x = y := by
  obtain ⟨a⟩ := x
  obtain ⟨b⟩ := y
  exact congrArg Str.mk (Array.toList_inj.mp h)
theorem sg_len (x : Str) : (sg x).length = x.length := Array.length_toList
theorem slice_is (x : Str) (l u : Option Int) : Txt.slice x l u = sliceText x l u := rfl
theorem sg_from {x : Str} {i : Nat} (h : i ≤ x.length) : sg (Txt.slice x (some (i : Int)) none) = (sg x).drop i := by
  have hl := sg_len x
  rw [slice_is, sliceText_from ⟨by omega, by show (i : Int) ≤ ((sg x).length : Nat); omega⟩]
  show ((sg x).drop (i : Int).toNat).take _ = _
  rw [Int.toNat_natCast]
  refine List.take_of_length_le ?_
  rw [List.length_drop]
  show _ ≤ (((sg x).length : Int) - (i : Int)).toNat
  omega
theorem sg_to {x : Str} {j : Nat} (h : j ≤ x.length) : sg (Txt.slice x none (some (j : Int))) = (sg x).take j := by
  have hl := sg_len x
  rw [slice_is, sliceText_to ⟨by omega, by show (j : Int) ≤ ((sg x).length : Nat); omega⟩]
  show ((sg x).drop 0).take ((j : Int) - 0).toNat = _
  rw [List.drop_zero, Int.sub_zero, Int.toNat_natCast]
theorem sg_app (x y : Str) : sg (x ++ y) = sg x ++ sg y := by
  show (x.cps ++ y.cps).toList = _
  rw [Array.toList_append]
  rfl
/-- at most m signs, each a code point -/
structure TxB (m : Nat) (x : Str) : Prop where
  few : x.length ≤ m
  ok : ∀ c ∈ sg x, c < 0x110000
theorem TxB.mono {m k : Nat} {x : Str} (h : TxB m x) (hk : m ≤ k) : TxB k x := ⟨Nat.le_trans h.few hk, h.ok⟩
theorem TxB.app {m k : Nat} {x y : Str} (h : TxB m x) (h' : TxB k y) : TxB (m + k) (x ++ y) := by
  refine ⟨?_, fun c hc => ?_⟩
  · have := sg_len (x ++ y)
    rw [sg_app, List.length_append, sg_len, sg_len] at this
    have := h.few
    have := h'.few
    omega
  · rw [sg_app] at hc
    rcases List.mem_append.mp hc with hc | hc
    · exact h.ok c hc
    · exact h'.ok c hc
theorem TxB.slice {m : Nat} {x : Str} (h : TxB m x) (l u : Option Int) : TxB m (Txt.slice x l u) := by
  refine ⟨Nat.le_trans (Txt.slice_le x l u) h.few, fun c hc => ?_⟩
  unfold Txt.slice at hc
  split at hc
  · exact h.ok c hc
  · obtain ⟨i, _, hi⟩ := List.mem_filterMap.mp (show c ∈ (strSliceIndices l u 1 x.length).filterMap (x.cps[·]?) from hc)
    exact h.ok c (Array.mem_toList_iff.mpr (Array.mem_of_getElem? hi))
theorem TxB.one {c : Nat} (h : c < 0x110000) : TxB 1 ⟨#[c]⟩ := ⟨Nat.le_refl 1, fun d hd => by rw [List.mem_singleton.mp (show d ∈ [c] from hd)]; exact h⟩
theorem TxB.lay {m : Nat} {x : Str} (h : TxB m x) : PyData.canLay0 (.str x) = true := by
  show (x.cps.all fun c => decide (c < 0x110000)) = true
  rw [← Array.all_toList, List.all_eq_true]
  exact fun c hc => decide_eq_true (h.ok c hc)
/-! ### a number's text -/
def digB (c : Nat) : Bool := decide (48 ≤ c) && decide (c ≤ 57)
def figs : List Nat → List Nat
  | 45 :: r => r
  | l => l
def goodB (x : Str) : Bool := decide (1 ≤ (figs (sg x)).length) && (decide ((figs (sg x)).length ≤ 40) && ((figs (sg x)).all digB && !(decide ((figs (sg x)).head? = some 48) && decide (x ≠ "0"))))
def rdF (x : Str) : Option Int := if goodB x = true then PySem.intText? x else none
theorem starts_is (x : Str) : Txt.startswith x "-" = decide ((sg x).head? = some 45) := by
  obtain ⟨⟨cs⟩⟩ := x
  cases cs with
  | nil => rfl
  | cons c r =>
    show (decide (0 + 1 ≤ (c :: r).length) && ((c :: r).toArray.extract 0 (0 + 1) == #[45])) = _
    have e : (c :: r).toArray.extract 0 (0 + 1) = #[c] := by simp
    rw [e]
    show (decide (0 + 1 ≤ r.length + 1) && (#[c] == #[45])) = decide (some c = some 45)
    rw [decide_eq_true (by omega : 0 + 1 ≤ r.length + 1), Bool.true_and]
    by_cases h : c = 45
    · subst h; rfl
    · rw [decide_eq_false (fun z => h (Option.some.inj z))]
      simp [h]
theorem figs_neg {l : List Nat} (h : l.head? = some 45) : l = 45 :: figs l := by
  cases l with
  | nil => cases h
  | cons c r => cases h; rfl
theorem figs_pos {l : List Nat} (h : ¬ l.head? = some 45) : figs l = l := by
  cases l with
  | nil => rfl
  | cons c r =>
    unfold figs
    split
    · next e => injection e with e1 e2; subst e1; exact absurd rfl h
    · rfl
theorem good_reads {x : Str} (hl : x.length ≤ 640) (h : goodB x = true) : ∃ n, PySem.intText? x = some n := by
  unfold goodB at h
  rw [Bool.and_eq_true, Bool.and_eq_true, Bool.and_eq_true] at h
  obtain ⟨h1, h2, h3, h4⟩ := h
  have hd : ∀ c ∈ figs (sg x), 48 ≤ c ∧ c ≤ 57 := fun c hc => by
    have := List.all_eq_true.mp h3 c hc
    unfold digB at this
    rw [Bool.and_eq_true] at this
    exact ⟨of_decide_eq_true this.1, of_decide_eq_true this.2⟩
  have hne : figs (sg x) ≠ [] := fun z => by rw [z] at h1; cases h1
  by_cases hm : (sg x).head? = some 45
  · exact ⟨_, intText_neg (figs_neg hm) hd hne (by omega)⟩
  · rw [figs_pos hm] at hd hne
    exact ⟨_, intText_digits hd hne (by omega)⟩
def spRead : Sp := fun vs H Q _ => ∃ x : Str, vs = [.str x] ∧ TxB 600 x ∧ ∀ H', Same H H' → Q (vO (rdF x)) H'
def spText : Sp := fun vs H Q _ => ∃ b : Addr, vs = [.ref b] ∧ Bag H b ∧ ∀ (x : Str) H', TxB 100 x → 0 < x.length → Bag H' b → Fix b H H' → Q (.str x) H'
def spSpoilt : Sp := fun vs H Q _ => ∃ (b : Addr) (x : Str), vs = [.ref b, .str x] ∧ Bag H b ∧ TxB 100 x ∧ 0 < x.length ∧ ∀ (y : Str) H', TxB 600 y → Bag H' b → Fix b H H' → Q (.str y) H'
theorem le_0 (c : Nat) : (!decide ((⟨#[c]⟩ : Str).cps.toList < ("0" : Str).cps.toList)) = decide (48 ≤ c) := by
  have e : ("0" : Str).cps.toList = [48] := by decide +kernel
  rw [e]
  show (!decide ([c] < [48])) = _
  by_cases h : 48 ≤ c
  · rw [decide_eq_true h, decide_eq_false (fun z => by rw [List.cons_lt_cons_iff] at z; rcases z with z | ⟨_, z⟩; omega; cases z)]; rfl
  · rw [decide_eq_false h, decide_eq_true (List.cons_lt_cons_iff.mpr (.inl (by omega)))]; rfl
theorem le_9 (c : Nat) : (!decide (("9" : Str).cps.toList < (⟨#[c]⟩ : Str).cps.toList)) = decide (c ≤ 57) := by
  have e : ("9" : Str).cps.toList = [57] := by decide +kernel
  rw [e]
  show (!decide ([57] < [c])) = _
  by_cases h : c ≤ 57
  · rw [decide_eq_true h, decide_eq_false (fun z => by rw [List.cons_lt_cons_iff] at z; rcases z with z | ⟨_, z⟩; omega; cases z)]; rfl
  · rw [decide_eq_false h, decide_eq_true (List.cons_lt_cons_iff.mpr (.inl (by omega)))]; rfl
theorem good_is {x f : Str} (hf : sg f = figs (sg x)) : goodB x = (decide (1 ≤ f.length) && (decide (f.length ≤ 40) && ((sg f).all digB && !(decide ((sg f).head? = some 48) && decide (x ≠ "0"))))) := by
  unfold goodB
  rw [← hf, sg_len]
theorem in_digits (c : Nat) : (!(Builtin.Str.occurrences ("0123456789" : Str) ⟨#[c]⟩ 0 ("0123456789" : Str).length 1).isEmpty) = digB c := by
  rw [PySem.StrLaws.found_one]
  have e : ("0123456789" : Str).cps.toList = [48, 49, 50, 51, 52, 53, 54, 55, 56, 57] := by decide +kernel
  rw [e]
  unfold digB
  by_cases h : 48 ≤ c ∧ c ≤ 57
  · rw [decide_eq_true h.1, decide_eq_true h.2]
    refine decide_eq_true ?_
    obtain ⟨h1, h2⟩ := h
    simp
    omega
  · have : ¬ c ∈ [48, 49, 50, 51, 52, 53, 54, 55, 56, 57] := fun z => h (by simp at z; omega)
    rw [decide_eq_false this]
    by_cases h1 : 48 ≤ c
    · rw [decide_eq_true h1, decide_eq_false (fun z => h ⟨h1, z⟩)]; rfl
    · rw [decide_eq_false h1]; rfl
theorem fig_at {f : Str} (h : 1 ≤ f.length) : ∃ c, (sg f).head? = some c ∧ atI f.cps.toList 0 = some c := by
  have hl := sg_len f
  cases e : sg f with
  | nil => rw [e] at hl; simp at hl; omega
  | cons c r => exact ⟨c, rfl, atI_nat (j := 0) (by show (sg f)[0]? = some c; rw [e]; rfl)⟩
theorem str_zero (c : Nat) : decide (V.str ⟨#[c]⟩ = V.str "0") = decide (c = 48) := by
  have e : ("0" : Str) = ⟨#[48]⟩ := by decide +kernel
  rw [e]
  by_cases h : c = 48
  · subst h; rw [decide_eq_true rfl, decide_eq_true rfl]
  · rw [decide_eq_false h, decide_eq_false (fun z => h (by injection z with z; injection z with z; injection z with z; injection z))]
theorem slice1_is (x : Str) : decide (V.str (Txt.slice x none (some 1)) = V.str "-") = decide ((sg x).head? = some 45) := by
  have e : sg ("-" : Str) = [45] := by decide +kernel
  have hl := sg_len x
  cases hx : sg x with
  | nil =>
    have : x = ⟨#[]⟩ := sg_ext hx
    subst this
    decide +kernel
  | cons c r =>
    rw [hx] at hl
    have h1 : sg (Txt.slice x none (some 1)) = (sg x).take 1 := sg_to (x := x) (j := 1) (by simp at hl; omega)
    rw [hx] at h1
    show _ = decide (some c = some 45)
    by_cases h : c = 45
    · subst h
      rw [decide_eq_true (congrArg V.str (sg_ext (h1.trans e.symm))), decide_eq_true rfl]
    · rw [decide_eq_false (fun z => h (by
        have h2 := congrArg sg (V.str.inj z)
        rw [show sg (Txt.slice x none (some 1)) = [c] from h1, e] at h2
        injection h2)), decide_eq_false (fun z => h (Option.some.inj z))]
theorem rd_signs {H : Hp} : ∀ l : List Nat, RdDs H (l.map fun c => V.str ⟨#[c]⟩) (l.map fun c => PyData.str ⟨#[c]⟩)
  | [] => .nil
  | _ :: l => .cons (.str _) (rd_signs l)
theorem lay_lst : ∀ ds : List PyData, (∀ d ∈ ds, d.canLay0 = true) → (PyData.list ds).canLay0 = true
  | [], _ => rfl
  | d :: ds, h => by
    have ih := lay_lst ds fun x hx => h x (List.mem_cons_of_mem _ hx)
    show (d.canLay0 && (PyData.list ds).canLay0) = true
    rw [h d (List.mem_cons_self ..), ih]
    rfl
theorem eqv_nilL (l : List Nat) : PyData.eqv (.list (l.map fun c => PyData.str ⟨#[c]⟩)) (.list []) = l.isEmpty := by cases l <;> rfl
theorem filter_nil (l : List Nat) : (l.filter fun c => !digB c).isEmpty = l.all digB := by
  induction l with
  | nil => rfl
  | cons c l ih =>
    cases h : digB c with
    | true => rw [List.filter_cons_of_neg (by simp [h]), List.all_cons, h, Bool.true_and]; exact ih
    | false => rw [List.filter_cons_of_pos (by simp [h]), List.all_cons, h, Bool.false_and]; rfl
theorem rd_1 : rdF "" = none := by decide +kernel
theorem rd_2 : rdF "-" = none := by decide +kernel
theorem rd_3 : rdF "0" = some 0 := by
  unfold rdF
  rw [if_pos (by decide +kernel)]
  have e : ("0" : Str).cps.toList = [48] := by decide +kernel
  rw [PySem.intText_digits (x := "0") (by rw [e]; intro c hc; rw [List.mem_singleton.mp hc]; exact ⟨by decide, by decide⟩) (by rw [e]; simp) (by decide +kernel), e]
  rfl
theorem rd_4 : rdF "-0" = none := by decide +kernel
theorem rd_5 : rdF "00" = none := by decide +kernel
theorem rd_6 : rdF "-7" = some (-7) := by
  unfold rdF
  rw [if_pos (by decide +kernel)]
  have e : ("-7" : Str).cps.toList = 45 :: [55] := by decide +kernel
  rw [PySem.intText_neg (x := "-7") e (by intro c hc; rw [List.mem_singleton.mp hc]; exact ⟨by decide, by decide⟩) (by simp) (by decide +kernel)]
  rfl
theorem pick_tx {m : Nat} {zs : List Str} (hz : ∀ z ∈ zs, TxB m z) {r : Int} (h0 : 0 ≤ r) (h1 : r < ((zs.map V.str).length : Int)) : ∃ y, atI (zs.map V.str) r = some (V.str y) ∧ TxB m y := by
  obtain ⟨y, hy, hm⟩ := names_at h0 h1
  exact ⟨y, hy, hz y hm⟩
theorem sign_at {x : Str} {m : Nat} (hx : TxB m x) {r : Int} (h0 : 0 ≤ r) (h1 : r < (x.length : Int)) : ∃ c, atI x.cps.toList r = some c ∧ c < 0x110000 ∧ c ∈ sg x := by
  obtain ⟨j, rfl⟩ : ∃ j : Nat, r = j := ⟨r.toNat, by omega⟩
  have hl := sg_len x
  have hj : j < (sg x).length := by omega
  exact ⟨(sg x)[j], atI_nat (by show (sg x)[j]? = _; rw [List.getElem?_eq_getElem hj]), hx.ok _ (List.getElem_mem _), List.getElem_mem _⟩
end L2

set_option Elab.async false
set_option linter.all false
set_option maxRecDepth 100000
namespace My
open PySem PySem.Spec PyProof.Rows L2
def top (i : Nat) : Stmt := PySem.Challenge.pw_ledpast_k20_numbers_as_texts.main.body.getD i (.Pass ⟨0, 0, 0, 0⟩)
structure Bl (mg : Str → Option Value) : Prop where
  len : mg "len" = none
  int : mg "int" = none
  all : mg "all" = none
  range : mg "range" = none
  min : mg "min" = none
  isinstance : mg "isinstance" = none
  bool : mg "bool" = none
abbrev s_read_number : Stmt := top 2
theorem sc_read_number : FnScope ["text", "figures"] ["text"] (defScope s_read_number) := ⟨rfl, rfl, rfl, by decide +kernel, rfl, by decide +kernel, by decide +kernel⟩
abbrev s_law_bag : Stmt := top 4
theorem sc_law_bag : FnScope ["script", "k", "cell"] ["script", "k"] (defScope s_law_bag) := ⟨rfl, rfl, rfl, by decide +kernel, rfl, by decide +kernel, by decide +kernel⟩
abbrev s_law_take : Stmt := top 5
theorem sc_law_take : FnScope ["bag", "many", "found"] ["bag", "many"] (defScope s_law_take) := ⟨rfl, rfl, rfl, by decide +kernel, rfl, by decide +kernel, by decide +kernel⟩
abbrev s_law_due : Stmt := top 6
theorem sc_law_due : FnScope ["text", "figures"] ["text"] (defScope s_law_due) := ⟨rfl, rfl, rfl, by decide +kernel, rfl, by decide +kernel, by decide +kernel⟩
abbrev s_law_text : Stmt := top 7
theorem sc_law_text : FnScope ["bag", "many", "figures"] ["bag"] (defScope s_law_text) := ⟨rfl, rfl, rfl, by decide +kernel, rfl, by decide +kernel, by decide +kernel⟩
abbrev s_law_spoilt : Stmt := top 8
theorem sc_law_spoilt : FnScope ["bag", "text", "signs", "at", "sign", "some"] ["bag", "text"] (defScope s_law_spoilt) := ⟨rfl, rfl, rfl, by decide +kernel, rfl, by decide +kernel, by decide +kernel⟩
abbrev s_law : Stmt := top 9
theorem sc_law : FnScope ["script", "k", "bag", "text", "due", "found"] ["script"] (defScope s_law) := ⟨rfl, rfl, rfl, by decide +kernel, rfl, by decide +kernel, by decide +kernel⟩

end My

set_option Elab.async false
set_option linter.all false
set_option maxRecDepth 100000
namespace My
open PySem PySem.Spec PyProof.Rows L2
section
variable {P : Program} {w : World} {K : PySem.W.Frag} {mg : Str → Option Value} {base : Heap}
set_option maxHeartbeats 4000000 in
theorem ok_read_number {f : Addr} {fd : FuncData} (F : Fun K "read_number" "read_number" s_read_number f fd) (Z : Bl mg) {tk_MOST_FIGURES : Tok} (G_MOST_FIGURES : mg "MOST_FIGURES" = some (.int 40 tk_MOST_FIGURES))  : FnOk P w K mg base CX0 1 f fd ["text"] spRead := by
  refine F.ok (k := 0) sc_read_number (fun vs H Q E h => ?_) (fun cdv A outer s H vs Q E hr h => ?_)
  · obtain ⟨x, rfl, _⟩ := h
    rfl
  · obtain ⟨x, rfl, hx, q⟩ := h
    refine ⟨_, (pss_cons (ps_cut (ps_set (i := 1) sc_read_number.nd rfl (Or.inl rfl) (pe_ifExp (pt_val (pe_bm PySem.F.plainAttrs_str PySem.F.slot_str_startswith PySem.F.type_str_startswith mt_startswith (pv 0) (pa_cons pe_str pa_nil))) (pe_slice sl_str (pv 0) (po_some pe_int) po_none) (pv 0))))
      (pss_cons (ps_if (pt_not (pt_chain op_le op_le pe_int (pe_callB call_len_str rfl Z.len bt_len (pa_cons (pv 1) pa_nil)) (pe_glob (v := .int 40) rfl G_MOST_FIGURES ⟨_, rfl⟩)))
      (pss_one (ps_ret pe_non))
      pss_nil)
      (pss_cons (ps_if (pt_not (pt_val (pe_callB (call_allL rfl) rfl Z.all bt_all (pa_cons (pe_lcomp ["sign"] [] [] rfl (pi_str (pv 1)) rfl (by decide +kernel) (by decide +kernel) (by decide +kernel) True.intro (fun _ _ _ _ => (pg_name (i := 0) (show ((["sign"] : List Str) ++ ([] : List Str)).Nodup by decide +kernel) rfl (Or.inl rfl) (hf := Or.inr rfl))) (fun _ _ _ _ => pts_nil) (fun _ _ _ _ => (pe_chain op_le_str op_le_str pe_str (pv 0) pe_str))) pa_nil))))
      (pss_one (ps_ret pe_non))
      pss_nil)
      (pss_cons (ps_if (PW.pt (pw_and (pt_cmpR op_eq (pe_ix ix_str (pv 1) pe_int (fun _ _ => rfl)) pe_str (nomark _)) (pw_and1 (pt_cmpR op_ne (pv 0) pe_str (nomark _)))))
      (pss_one (ps_ret pe_non))
      pss_nil)
      (pss_one (ps_ret (pe_callTy call_intS rfl Z.int bt_int (pa_cons (pv 0) pa_nil)))))))), ?_⟩

    have hfew := hx.few
    refine ⟨fun σ' H' => ∃ f : Str, σ' = [some (.str x), some (.str f)] ∧ sg f = figs (sg x) ∧ f.length ≤ x.length ∧ H' = H, ?_, ?_⟩
    · refine ⟨_, rfl, rfl, x, "-", rfl, rfl, _, rfl, ?_⟩
      rw [starts_is]
      by_cases hm : (sg x).head? = some 45
      · refine iteTb (decide_eq_true hm) ?_
        have h1 : 1 ≤ x.length := by
          have := congrArg List.length (figs_neg hm)
          rw [sg_len, List.length_cons] at this
          omega
        refine ⟨_, rfl, _, rfl, x, rfl, (by omega), ?_⟩
        refine ⟨_, rfl, ?_, Txt.slice_le x _ _, rfl⟩
        have h2 := sg_from (i := 1) h1
        rw [figs_neg hm] at h2
        exact h2
      · refine iteFb (decide_eq_false hm) ?_
        exact ⟨_, rfl, x, rfl, (figs_pos hm).symm, Nat.le_refl _, rfl⟩
    rintro σ' H' ⟨f, rfl, hf, hfl, rfl⟩
    have hg := good_is hf
    have qn : goodB x = false → ∀ H1, Same H' H1 → Q .non H1 := fun h H1 s1 => by
      have := q H1 s1
      unfold rdF at this
      rw [h] at this
      exact this
    refine ⟨_, rfl, f, rfl, Nat.le_of_lt (small1000' (by omega)), _, _, rfl, rfl, _, rfl, ?_⟩
    refine ite2 (fun h1 => ?_) (fun h1 => ?_)
    rotate_left
    · refine ⟨_, rfl, iteT ?_⟩
      refine qn ?_ _ (Same.refl _)
      rw [hg, decide_eq_false (fun z : 1 ≤ f.length => h1 (decide_eq_true (by omega)))]
      rfl
    have h1 : 1 ≤ f.length := by have := of_decide_eq_true h1; omega
    refine ⟨_, _, rfl, rfl, _, rfl, ?_⟩
    by_cases h2 : f.length ≤ 40
    rotate_left
    · refine iteTb (by rw [decide_eq_false (by omega)]; rfl) ?_
      refine qn ?_ _ (Same.refl _)
      rw [hg, decide_eq_true h1, decide_eq_false h2]
      rfl
    refine iteFb (by rw [decide_eq_true (by omega)]; rfl) ?_
    -- all
    refine ⟨_, rfl, f, rfl, fun acc na => ?_⟩
    refine lc_str (x := f) (fun i ys τ H1 => ∃ c : Option V, τ = [c] ∧ ys = (((sg f).take i).map digB).map V.bl ∧ H1 acc = some (.lst ys) ∧ Same H' H1) ?_ ?_ ?_ ?_
    · exact ⟨none, rfl, rfl, upd_same, Same.new na⟩
    · rintro i ys τ H1 hi ⟨c, rfl, rfl, ha, s1⟩
      refine ⟨ha, small1000 ?_⟩
      rw [List.length_map, List.length_map, List.length_take, sg_len]
      omega
    · rintro i c ys τ H1 hi ⟨c', rfl, rfl, ha, s1⟩
      refine gname_ ?_
      refine yes_ ?_
      refine iteT ?_
      have hci : (sg f)[i]? = some c := by rw [← hi]; exact Array.getElem?_toList
      have fin : ∀ b : Bool, b = digB c → H1 acc = some (.lst ((((sg f).take i).map digB).map V.bl)) ∧ ∃ c1 : Option V, [some (V.str ⟨#[c]⟩)] = [c1] ∧ ((((sg f).take i).map digB).map V.bl ++ [V.bl b]) = (((sg f).take (i + 1)).map digB).map V.bl ∧ (upd H1 acc (.lst ((((sg f).take i).map digB).map V.bl ++ [V.bl b]))) acc = some (.lst ((((sg f).take i).map digB).map V.bl ++ [V.bl b])) ∧ Same H' (upd H1 acc (.lst ((((sg f).take i).map digB).map V.bl ++ [V.bl b]))) := fun b hb => by
        refine ⟨ha, _, rfl, ?_, upd_same, s1.put na⟩
        rw [List.take_add_one, hci, hb, List.map_append, List.map_append]
        rfl
      refine ⟨_, rfl, _, _, rfl, rfl, _, rfl, ?_⟩
      rw [le_0]
      refine ite2 (fun h => ?_) (fun h => ?_)
      · refine ⟨_, _, rfl, rfl, ?_⟩
        rw [le_9]
        exact fin _ (by unfold digB; rw [h]; rfl)
      · exact fin _ (by unfold digB; rw [Bool.eq_false_iff.mpr h]; rfl)
    rintro ys τ H1 ⟨c, rfl, rfl, ha, s1⟩
    rw [show (sg f).take f.cps.size = sg f from List.take_of_length_le (by rw [sg_len]; exact Nat.le_refl _)] at ha
    refine ⟨acc, _, rfl, SqL.of ha, _, rfl, ?_⟩
    rw [show ((sg f).map digB).all id = (sg f).all digB by rw [List.all_map]; rfl]
    cases hall : (sg f).all digB with
    | false =>
      refine iteT ?_
      refine qn ?_ _ s1
      rw [hg, hall, decide_eq_true h1, decide_eq_true h2]
      rfl
    | true =>
      refine iteF ?_
      obtain ⟨c, hc, hat⟩ := fig_at h1
      refine ⟨_, rfl, f, 0, c, rfl, rfl, Nat.le_of_lt (small1000' (by omega)), hat, rfl, _, rfl, ?_⟩
      rw [str_zero]
      rw [hc] at hg
      have yes : goodB x = true → ∃ n, PySem.intText? x = some n ∧ Q (.int n) H1 := fun h => by
        obtain ⟨n, hn⟩ := good_reads (by omega) h
        refine ⟨n, hn, ?_⟩
        have := q H1 s1
        unfold rdF at this
        rw [if_pos h, hn] at this
        exact this
      by_cases h48 : c = 48
      · refine iteTb (decide_eq_true h48) ?_
        refine ⟨_, rfl, rfl, _, rfl, ?_⟩
        by_cases hz : x = "0"
        · refine iteFb (by rw [decide_eq_true (congrArg V.str hz)]; rfl) ?_
          obtain ⟨n, hn, qq⟩ := yes (by rw [hg, hall, decide_eq_true h1, decide_eq_true h2, decide_eq_false (fun z : x ≠ "0" => z hz)]; simp)
          exact ⟨_, rfl, x, n, rfl, hn, (by omega), qq⟩
        · refine iteTb (by rw [decide_eq_false (fun z => hz (V.str.inj z))]; rfl) ?_
          refine qn ?_ _ s1
          rw [hg, hall, decide_eq_true h1, decide_eq_true h2, h48, decide_eq_true (hz : x ≠ "0"), decide_eq_true rfl]
          rfl
      · refine iteFb (decide_eq_false h48) (iteF ?_)
        obtain ⟨n, hn, qq⟩ := yes (by rw [hg, hall, decide_eq_true h1, decide_eq_true h2, decide_eq_false (fun z : some c = some 48 => h48 (Option.some.inj z))]; rfl)
        exact ⟨_, rfl, x, n, rfl, hn, (by omega), qq⟩
end
end My

set_option Elab.async false
set_option linter.all false
set_option maxRecDepth 100000
namespace My
open PySem PySem.Spec PyProof.Rows L2
section
variable {P : Program} {w : World} {K : PySem.W.Frag} {mg : Str → Option Value} {base : Heap}
set_option maxHeartbeats 4000000 in
theorem ok_law_bag {f : Addr} {fd : FuncData} (F : Fun K "_law_bag" "_law_bag" s_law_bag f fd) (Z : Bl mg)  : FnOk P w K mg base CX0 1 f fd ["script", "k"] (spBag K) := by
  refine F.ok (k := 0) sc_law_bag (fun vs H Q E h => ?_) (fun cdv A outer s H vs Q E hr h => ?_)
  · obtain ⟨a, ns, k, rfl, _⟩ := h
    rfl
  · obtain ⟨a, ns, k, rfl, hS, hk, q⟩ := h
    refine ⟨_, (pss_cons (ps_set (i := 2) sc_law_bag.nd rfl (Or.inl rfl) pe_int)
      (pss_cons (ps_if (pt_cmpR op_lt (pv 1) (pe_callB call_len_seq rfl Z.len bt_len (pa_cons (pv 0) pa_nil)) (nomark _))
      (pss_one (ps_set (i := 2) sc_law_bag.nd rfl (Or.inl rfl) (pe_op op_mod (pe_ix ix_list (pv 0) (pv 1) (fun _ _ => rfl)) (pe_op op_mulB (pe_op op_pow pe_int pe_int) (pe_op op_pow pe_int pe_int)))))
      pss_nil)
      (pss_cons (ps_if (pt_cmpR op_lt (pv 2) (pe_op op_pow pe_int pe_int) (nomark _))
      (pss_one (ps_ret (pe_lst (pa_cons pe_int (pa_cons (pe_op op_add pe_int (pe_op op_mod (pe_op op_add (pe_op op_mul (pv 2) pe_int) (pe_op op_mul pe_int (pv 1))) pe_int)) pa_nil)))))
      pss_nil)
      (pss_one (ps_ret (pe_lst (pa_cons (pv 2) (pa_cons (pe_op op_add pe_int (pe_op op_mod (pe_op op_add (pv 2) (pv 1)) pe_int)) pa_nil)))))))), ?_⟩

    refine ⟨_, rfl, _, rfl, _, _, rfl, .inl hS, _, _, rfl, rfl, _, rfl, ?_⟩
    refine ite2 (fun hc => ?_) (fun hc => ?_)
    · have hl : k < ((ns.map V.int).length : Nat) := of_decide_eq_true hc
      obtain ⟨v, hv, hm⟩ := at_in hk hl
      obtain ⟨z, _, rfl⟩ := List.mem_map.mp hm
      refine ⟨_, rfl, _, rfl, _, _, _, _, rfl, rfl, hS, hv, 10, 60, rfl, rfl, ⟨by decide, by decide, by decide⟩, 10, 60, rfl, rfl, ⟨by decide, by decide, by decide⟩, _, _, rfl, rfl, (by unfold IntMulOk; decide +kernel), _, _, rfl, rfl, (show (0 : Int) < 10 ^ (60 : Int).toNat * 10 ^ (60 : Int).toNat by decide +kernel), ?_⟩
      refine ⟨_, rfl, 10, 18, rfl, rfl, ⟨by decide, by decide, by decide⟩, _, _, rfl, rfl, _, rfl, ?_⟩
      refine ite2 (fun hd => ?_) (fun hd => ?_)
      · refine ⟨_, rfl, _, _, rfl, rfl, .inr ⟨by decide, by decide⟩, _, rfl, _, _, rfl, rfl, .inl ⟨by decide, by decide⟩, _, _, rfl, rfl, _, _, rfl, rfl, (show (0 : Int) < 2147483646 by decide), _, _, rfl, rfl, ln2, fun p hp => ?_⟩
        exact q p _ hp ⟨_, _, upd_same, by omega, by omega⟩ (Same.new hp)
      · refine ⟨_, rfl, _, rfl, _, rfl, _, _, rfl, rfl, _, _, rfl, rfl, (show (0 : Int) < 2147483646 by decide), _, _, rfl, rfl, ln2, fun p hp => ?_⟩
        exact q p _ hp ⟨_, _, upd_same, by omega, by omega⟩ (Same.new hp)
    · refine ⟨_, rfl, 10, 18, rfl, rfl, ⟨by decide, by decide, by decide⟩, _, _, rfl, rfl, _, rfl, ?_⟩
      refine ite2 (fun hd => ?_) (fun hd => ?_)
      · refine ⟨_, rfl, _, _, rfl, rfl, .inr ⟨by decide, by decide⟩, _, rfl, _, _, rfl, rfl, .inl ⟨by decide, by decide⟩, _, _, rfl, rfl, _, _, rfl, rfl, (show (0 : Int) < 2147483646 by decide), _, _, rfl, rfl, ln2, fun p hp => ?_⟩
        exact q p _ hp ⟨_, _, upd_same, by omega, by omega⟩ (Same.new hp)
      · refine ⟨_, rfl, _, rfl, _, rfl, _, _, rfl, rfl, _, _, rfl, rfl, (show (0 : Int) < 2147483646 by decide), _, _, rfl, rfl, ln2, fun p hp => ?_⟩
        exact q p _ hp ⟨_, _, upd_same, by omega, by omega⟩ (Same.new hp)
end
end My

set_option Elab.async false
set_option linter.all false
set_option maxRecDepth 100000
namespace My
open PySem PySem.Spec PyProof.Rows L2
section
variable {P : Program} {w : World} {K : PySem.W.Frag} {mg : Str → Option Value} {base : Heap}
set_option maxHeartbeats 4000000 in
theorem ok_law_take {f : Addr} {fd : FuncData} (F : Fun K "_law_take" "_law_take" s_law_take f fd) (Z : Bl mg)  : FnOk P w K mg base CX0 1 f fd ["bag", "many"] spTake := by
  refine F.ok (k := 0) sc_law_take (fun vs H Q E h => ?_) (fun cdv A outer s H vs Q E hr h => ?_)
  · obtain ⟨b, m, rfl, _⟩ := h
    rfl
  · obtain ⟨b, m, rfl, ⟨x, y, hb, h0, h1⟩, hm, q⟩ := h
    refine ⟨_, (pss_cons (ps_if (pt_cmpR op_gt (pe_ix ix_list (pv 0) pe_int (fun _ _ => rfl)) pe_int (nomark _))
      (pss_cons (ps_set (i := 2) sc_law_take.nd rfl (Or.inl rfl) (pe_op op_mod (pe_ix ix_list (pv 0) pe_int (fun _ _ => rfl)) (pv 1)))
      (pss_cons (ps_asg (pe_op op_fdivB (pe_ix ix_list (pv 0) pe_int (fun _ _ => rfl)) (pv 1)) (pg_sub (pv 0) pe_int set_list))
      (pss_one (ps_ret (pv 2)))))
      pss_nil)
      (pss_cons (ps_asg (pe_op op_mod (pe_op op_mul (pe_ix ix_list (pv 0) pe_int (fun _ _ => rfl)) pe_int) pe_int) (pg_sub (pv 0) pe_int set_list))
      (pss_one (ps_ret (pe_op op_mod (pe_op op_fdiv (pe_op op_mod (pe_op op_mul (pe_ix ix_list (pv 0) pe_int (fun _ _ => rfl)) (pe_ix ix_list (pv 0) pe_int (fun _ _ => rfl))) pe_int) pe_int) (pv 1)))))), ?_⟩

    refine ⟨_, rfl, b, _, 0, _, rfl, rfl, SqL.of hb, at0, _, _, rfl, rfl, _, rfl, ?_⟩
    refine ite2 (fun hc => ?_) (fun hc => ?_)
    · refine ⟨_, rfl, b, _, 0, _, rfl, rfl, SqL.of hb, at0, _, rfl, _, _, rfl, rfl, hm.1, ?_⟩
      refine ⟨_, rfl, b, _, 0, _, rfl, rfl, SqL.of hb, at0, _, rfl, _, _, rfl, rfl, hm, _, rfl, b, _, 0, 0, rfl, rfl, hb, rfl, ?_⟩
      refine ⟨_, rfl, ?_⟩
      exact q _ _ (Int.emod_nonneg _ (by have := hm.1; omega)) (Int.emod_lt_of_pos _ hm.1) ⟨_, _, upd_same, h0, h1⟩ Fix.upd_b
    · refine ⟨_, rfl, b, _, 1, _, rfl, rfl, SqL.of hb, at1, _, _, rfl, rfl, .inr ⟨by decide, by decide⟩, _, _, rfl, rfl, (show (0 : Int) < 2147483647 by decide), _, rfl, b, _, 1, 1, rfl, rfl, hb, rfl, ?_⟩
      refine ⟨_, rfl, b, _, 1, _, rfl, rfl, SqL.of upd_same, at1, _, rfl, b, _, 1, _, rfl, rfl, SqL.of upd_same, at1, _, _, rfl, rfl, .inl ⟨by omega, by omega⟩, _, _, rfl, rfl, (show (0 : Int) < 2147483629 by decide), _, _, rfl, rfl, ⟨by decide, by decide⟩, _, rfl, _, _, rfl, rfl, hm.1, ?_⟩
      exact q _ _ (Int.emod_nonneg _ (by have := hm.1; omega)) (Int.emod_lt_of_pos _ hm.1) ⟨_, _, upd_same, by omega, by omega⟩ Fix.upd_b
end
end My

set_option Elab.async false
set_option linter.all false
set_option maxRecDepth 100000
namespace My
open PySem PySem.Spec PyProof.Rows L2
section
variable {P : Program} {w : World} {K : PySem.W.Frag} {mg : Str → Option Value} {base : Heap}
set_option maxHeartbeats 4000000 in
theorem ok_law_due {f : Addr} {fd : FuncData} (F : Fun K "_law_due" "_law_due" s_law_due f fd) (Z : Bl mg)  : FnOk P w K mg base CX0 1 f fd ["text"] spRead := by
  refine F.ok (k := 0) sc_law_due (fun vs H Q E h => ?_) (fun cdv A outer s H vs Q E hr h => ?_)
  · obtain ⟨x, rfl, _⟩ := h
    rfl
  · obtain ⟨x, rfl, hx, q⟩ := h
    refine ⟨_, (pss_cons (ps_set (i := 1) sc_law_due.nd rfl (Or.inl rfl) (pv 0))
      (pss_cons (ps_cut (ps_if (pt_cmpR op_eq (pe_slice sl_str (pv 0) po_none (po_some pe_int)) pe_str (nomark _))
      (pss_one (ps_set (i := 1) sc_law_due.nd rfl (Or.inl rfl) (pe_slice sl_str (pv 0) (po_some pe_int) po_none)))
      pss_nil))
      (pss_cons (ps_if (PW.pt (pw_or (pt_cmpR op_lt (pe_callB call_len_str rfl Z.len bt_len (pa_cons (pv 1) pa_nil)) pe_int (nomark _)) (pw_or (pt_cmpR op_gt (pe_callB call_len_str rfl Z.len bt_len (pa_cons (pv 1) pa_nil)) pe_int (nomark _)) (pw_or1 (pt_cmpR (op_neD hr.units) (pe_lcomp ["sign"] [] [] rfl (pi_str (pv 1)) rfl (by decide +kernel) (by decide +kernel) (by decide +kernel) True.intro (fun _ _ _ _ => (pg_name (i := 0) (show ((["sign"] : List Str) ++ ([] : List Str)).Nodup by decide +kernel) rfl (Or.inl rfl) (hf := Or.inr rfl))) (fun _ _ _ _ => (pts_one (pt_cmpR op_notIn_str (pv 0) pe_str (by with_unfolding_all rfl)))) (fun _ _ _ _ => (pv 0))) (pe_lst pa_nil) (nomark _))))))
      (pss_one (ps_ret pe_non))
      pss_nil)
      (pss_cons (ps_if (PW.pt (pw_and (pt_cmpR op_eq (pe_ix ix_str (pv 1) pe_int (fun _ _ => rfl)) pe_str (nomark _)) (pw_and1 (pt_cmpR op_ne (pv 0) pe_str (nomark _)))))
      (pss_one (ps_ret pe_non))
      pss_nil)
      (pss_one (ps_ret (pe_callTy call_intS rfl Z.int bt_int (pa_cons (pv 0) pa_nil)))))))), ?_⟩

    have hfew := hx.few
    refine ⟨_, rfl, ?_⟩
    refine ⟨fun σ' H' => ∃ f : Str, σ' = [some (.str x), some (.str f)] ∧ sg f = figs (sg x) ∧ TxB 600 f ∧ f.length ≤ x.length ∧ H' = H, ?_, ?_⟩
    · refine ⟨_, rfl, _, rfl, x, rfl, (by omega), rfl, _, rfl, ?_⟩
      rw [slice1_is]
      by_cases hm : (sg x).head? = some 45
      · refine iteTb (decide_eq_true hm) ?_
        have h1 : 1 ≤ x.length := by
          have := congrArg List.length (figs_neg hm)
          rw [sg_len, List.length_cons] at this
          omega
        refine ⟨_, rfl, _, rfl, x, rfl, (by omega), ?_⟩
        refine ⟨_, rfl, ?_, hx.slice _ _, Txt.slice_le x _ _, rfl⟩
        have h2 := sg_from (i := 1) h1
        rw [figs_neg hm] at h2
        exact h2
      · refine iteFb (decide_eq_false hm) ?_
        exact ⟨x, rfl, (figs_pos hm).symm, hx, Nat.le_refl _, rfl⟩
    rintro σ' H' ⟨f, rfl, hf, hft, hfl, rfl⟩
    have hg := good_is hf
    have qn : goodB x = false → ∀ H1, Same H' H1 → Q .non H1 := fun h H1 s1 => by
      have := q H1 s1
      unfold rdF at this
      rw [h] at this
      exact this
    refine ⟨_, rfl, f, rfl, Nat.le_of_lt (small1000' (by omega)), _, _, rfl, rfl, _, rfl, ?_⟩
    refine ite2 (fun h1 => ?_) (fun h1 => ?_)
    · refine iteT ?_
      refine qn ?_ _ (Same.refl _)
      have := of_decide_eq_true h1
      rw [hg, decide_eq_false (by omega)]
      rfl
    have h1 : 1 ≤ f.length := by
      by_cases z : 1 ≤ f.length
      · exact z
      · exact absurd (decide_eq_true (by omega)) h1
    refine ⟨_, rfl, f, rfl, Nat.le_of_lt (small1000' (by omega)), _, _, rfl, rfl, _, rfl, ?_⟩
    refine ite2 (fun h2 => ?_) (fun h2 => ?_)
    · refine iteT ?_
      refine qn ?_ _ (Same.refl _)
      have := of_decide_eq_true h2
      rw [hg, decide_eq_true h1, decide_eq_false (by omega)]
      rfl
    have h2 : f.length ≤ 40 := by
      by_cases z : f.length ≤ 40
      · exact z
      · exact absurd (decide_eq_true (by omega)) h2
    refine ⟨_, rfl, f, rfl, fun acc na => ?_⟩
    refine lc_str (x := f) (fun i ys τ H1 => ∃ c : Option V, τ = [c] ∧ ys = (((sg f).take i).filter fun c => !digB c).map (fun c => V.str ⟨#[c]⟩) ∧ H1 acc = some (.lst ys) ∧ Same H' H1) ?_ ?_ ?_ ?_
    · exact ⟨none, rfl, rfl, upd_same, Same.new na⟩
    · rintro i ys τ H1 hi ⟨c, rfl, rfl, ha, s1⟩
      refine ⟨ha, small1000 ?_⟩
      rw [List.length_map]
      refine Nat.le_trans (List.length_filter_le ..) ?_
      rw [List.length_take, sg_len]
      omega
    · rintro i c ys τ H1 hi ⟨c', rfl, rfl, ha, s1⟩
      have hci : (sg f)[i]? = some c := by rw [← hi]; exact Array.getElem?_toList
      refine gname_ ?_
      refine ⟨_, rfl, _, _, rfl, rfl, _, rfl, ?_⟩
      rw [in_digits]
      cases hd : digB c with
      | true =>
        refine iteF ?_
        refine ⟨_, rfl, ?_, ha, s1⟩
        rw [List.take_add_one, hci, List.filter_append]
        show _ = (_ ++ [c].filter _).map _
        rw [List.filter_cons_of_neg (by simp [hd]), List.filter_nil, List.append_nil]
      | false =>
        refine iteT ?_
        refine ⟨_, rfl, ha, _, rfl, ?_, upd_same, s1.put na⟩
        rw [List.take_add_one, hci, List.filter_append]
        show _ = (_ ++ [c].filter _).map _
        rw [List.filter_cons_of_pos (by simp [hd]), List.filter_nil, List.map_append]
        rfl
    rintro ys τ H1' ⟨c, rfl, rfl, ha, s1'⟩
    rw [show (sg f).take f.cps.size = sg f from List.take_of_length_le (by rw [sg_len]; exact Nat.le_refl _)] at ha
    refine ⟨(by show 0 ≤ sizeLine; decide), fun l2 n2 => ?_⟩
    have s1 := s1'.trans (Same.new (o := .lst []) n2)
    have ha1 := Same.new (o := .lst []) n2 _ _ ha
    have hl2 : (upd H1' l2 (.lst [])) l2 = some (.lst []) := upd_same
    generalize (upd H1' l2 (.lst [])) = H1 at s1 ha1 hl2
    have lay : (PyData.list (((sg f).filter fun c => !digB c).map fun c => PyData.str ⟨#[c]⟩)).canLay0 = true := lay_lst _ fun d hd => by
      obtain ⟨c, hc, rfl⟩ := List.mem_map.mp hd
      exact (TxB.one (hft.ok c (List.mem_filter.mp hc).1)).lay
    refine ⟨_, .list [], .lst ha1 (rd_signs _), .lst hl2 .nil, lay, rfl, (by have : (PyData.list []).depth ≤ 1 := Nat.le_refl 1; omega), _, rfl, ?_⟩
    rw [eqv_nilL, filter_nil]
    cases hall : (sg f).all digB with
    | false =>
      refine iteT ?_
      refine qn ?_ _ s1
      rw [hg, hall, decide_eq_true h1, decide_eq_true h2]
      rfl
    | true =>
      refine iteF ?_
      obtain ⟨c, hc, hat⟩ := fig_at h1
      refine ⟨_, rfl, f, 0, c, rfl, rfl, Nat.le_of_lt (small1000' (by omega)), hat, rfl, _, rfl, ?_⟩
      rw [str_zero]
      rw [hc] at hg
      have yes : goodB x = true → ∃ n, PySem.intText? x = some n ∧ Q (.int n) H1 := fun h => by
        obtain ⟨n, hn⟩ := good_reads (by omega) h
        refine ⟨n, hn, ?_⟩
        have := q H1 s1
        unfold rdF at this
        rw [if_pos h, hn] at this
        exact this
      by_cases h48 : c = 48
      · refine iteTb (decide_eq_true h48) ?_
        refine ⟨_, rfl, rfl, _, rfl, ?_⟩
        by_cases hz : x = "0"
        · refine iteFb (by rw [decide_eq_true (congrArg V.str hz)]; rfl) ?_
          obtain ⟨n, hn, qq⟩ := yes (by rw [hg, hall, decide_eq_true h1, decide_eq_true h2, decide_eq_false (fun z : x ≠ "0" => z hz)]; simp)
          exact ⟨_, rfl, x, n, rfl, hn, (by omega), qq⟩
        · refine iteTb (by rw [decide_eq_false (fun z => hz (V.str.inj z))]; rfl) ?_
          refine qn ?_ _ s1
          rw [hg, hall, decide_eq_true h1, decide_eq_true h2, h48, decide_eq_true (hz : x ≠ "0"), decide_eq_true rfl]
          rfl
      · refine iteFb (decide_eq_false h48) (iteF ?_)
        obtain ⟨n, hn, qq⟩ := yes (by rw [hg, hall, decide_eq_true h1, decide_eq_true h2, decide_eq_false (fun z : some c = some 48 => h48 (Option.some.inj z))]; rfl)
        exact ⟨_, rfl, x, n, rfl, hn, (by omega), qq⟩
end
end My

set_option Elab.async false
set_option linter.all false
set_option maxRecDepth 100000
namespace My
open PySem PySem.Spec PyProof.Rows L2
section
variable {P : Program} {w : World} {K : PySem.W.Frag} {mg : Str → Option Value} {base : Heap}
set_option maxHeartbeats 4000000 in
theorem ok_law_text {f : Addr} {fd : FuncData} (F : Fun K "_law_text" "_law_text" s_law_text f fd) (Z : Bl mg) (O_law_take : Own P w K mg base "_law_take" 1 ["bag", "many"] spTake) : FnOk P w K mg base CX0 2 f fd ["bag"] spText := by
  refine F.ok (k := 1) sc_law_text (fun vs H Q E h => ?_) (fun cdv A outer s H vs Q E hr h => ?_)
  · obtain ⟨b, rfl, _⟩ := h
    rfl
  · obtain ⟨b, rfl, hB, q⟩ := h
    refine ⟨_, (pss_cons (ps_set (i := 1) sc_law_text.nd rfl (Or.inl rfl) (pe_ix ix_list (pe_lst (pa_cons (pe_op op_add pe_int (pe_own O_law_take (hr.mono (by decide)) rfl (pa_cons (pv 0) (pa_cons pe_int pa_nil)))) (pa_cons (pe_op op_add pe_int (pe_own O_law_take (hr.mono (by decide)) rfl (pa_cons (pv 0) (pa_cons pe_int pa_nil)))) pa_nil))) (pe_callTy call_int1 rfl Z.int bt_int (pa_cons (pe_cmpR op_eq (pe_own O_law_take (hr.mono (by decide)) rfl (pa_cons (pv 0) (pa_cons pe_int pa_nil))) pe_int (nomark _)) pa_nil)) (fun _ _ => rfl)))
      (pss_cons (ps_set (i := 2) sc_law_text.nd rfl (Or.inl rfl) (pe_bm PySem.F.plainAttrs_str PySem.F.slot_str_join PySem.F.type_str_join mt_join pe_str (pa_cons (pe_lcomp ["k"] ["bag"] [0] rfl (pi_range1 rfl Z.range (pa_cons (pv 1) pa_nil)) rfl (by decide +kernel) (by decide +kernel) (by decide +kernel) ⟨⟨rfl, .inl rfl, rfl⟩, True.intro⟩ (fun _ _ _ _ => (pg_name (i := 0) (show ((["k"] : List Str) ++ (["bag"] : List Str)).Nodup by decide +kernel) rfl (Or.inl rfl) (hf := Or.inr rfl))) (fun _ _ _ _ => pts_nil) (fun _ _ _ _ => (pe_ix ix_str pe_str (pe_own O_law_take (hr.mono (by decide)) rfl (pa_cons (pv 1) (pa_cons pe_int pa_nil))) (fun _ _ => rfl)))) pa_nil)))
      (pss_cons (ps_cut (ps_if (PW.pt (pw_and (pt_cmpR op_gt (pe_own O_law_take (hr.mono (by decide)) rfl (pa_cons (pv 0) (pa_cons pe_int pa_nil))) pe_int (nomark _)) (pw_and1 (pt_cmpR op_eq (pe_ix ix_str (pv 2) pe_int (fun _ _ => rfl)) pe_str (nomark _)))))
      (pss_one (ps_set (i := 2) sc_law_text.nd rfl (Or.inl rfl) (pe_op op_add_str pe_str (pe_slice sl_str (pv 2) (po_some pe_int) po_none))))
      pss_nil))
      (pss_one (ps_ret (pe_op op_add_str (pe_ix ix_list (pe_lst (pa_cons pe_str (pa_cons pe_str (pa_cons pe_str pa_nil)))) (pe_own O_law_take (hr.mono (by decide)) rfl (pa_cons (pv 0) (pa_cons pe_int pa_nil))) (fun _ _ => rfl)) (pv 2))))))), ?_⟩

    refine ⟨_, rfl, b, 4, rfl, hB, ⟨by decide, by decide⟩, fun r1 H1 r10 r11 B1 X1 => ⟨_, _, rfl, rfl, ?_⟩⟩
    refine ⟨_, rfl, b, 5, rfl, B1, ⟨by decide, by decide⟩, fun r2 H2 r20 r21 B2 X2 => ⟨_, _, rfl, rfl, ?_⟩⟩
    refine ⟨ln2, fun l0 n0 => ?_⟩
    refine ⟨_, rfl, b, 3, rfl, B2.new n0, ⟨by decide, by decide⟩, fun z H3 z0 z1 B3 X3 => ?_⟩
    have h0 : H3 l0 = some (.lst [.int (1 + r1), .int (38 + r2)]) := X3 l0 _ upd_same (B2.ne_new n0)
    refine ⟨rfl, .inr ⟨_, rfl, ?_⟩⟩
    have pk : ∃ m : Nat, atI [V.int (1 + r1), V.int (38 + r2)] (if decide (V.int z = V.int 0) = true then 1 else 0) = some (V.int m) ∧ 1 ≤ m ∧ m ≤ 42 := by
      cases decide (V.int z = V.int 0)
      · obtain ⟨k, rfl⟩ : ∃ k : Nat, r1 = k := ⟨r1.toNat, by omega⟩
        exact ⟨1 + k, at0, by omega, by omega⟩
      · obtain ⟨k, rfl⟩ : ∃ k : Nat, r2 = k := ⟨r2.toNat, by omega⟩
        exact ⟨38 + k, at1, by omega, by omega⟩
    obtain ⟨m, hm, m1, m42⟩ := pk
    refine ⟨l0, _, _, _, rfl, rfl, SqL.of h0, hm, ?_⟩
    have F3 : Fix b H H3 := ((X1.trans X2).trans (Fix.new n0)).trans X3
    clear hm h0 X3 X2 X1 B1 B2
    -- figures
    refine ⟨rfl, _, rfl, _, rfl, (by omega), (by omega), fun acc na => ?_⟩
    have hab : acc ≠ b := B3.ne_new na
    refine lc_range (lo := 0) (fun i ys τ H' => ∃ (v : Option V) (cs : List Nat), τ = [v, some (.ref b)] ∧ ys = (cs.map one).map V.str ∧ cs.length = i ∧ (∀ c ∈ cs, c < 0x110000) ∧ H' acc = some (.lst ys) ∧ Bag H' b ∧ Fix b H3 H') ?_ ?_ ?_ ?_
    · exact ⟨none, [], rfl, rfl, rfl, (fun _ h => nomatch h), upd_same, B3.new na, Fix.new na⟩
    · rintro i ys τ H' hi ⟨v, cs, rfl, rfl, hl, _, ha, _⟩
      refine ⟨ha, ?_⟩
      rw [List.length_map, List.length_map]
      exact small1000 (by omega)
    · rintro i ys τ H' hi ⟨v, cs, rfl, rfl, hl, hc, ha, B', X'⟩
      refine gname_ ?_
      refine yes_ ?_
      refine iteT ?_
      refine ⟨_, rfl, b, 10, rfl, B', ⟨by decide, by decide⟩, fun r H4 r0 r1 B4 X4 => ?_⟩
      have h10 : ("0123456789" : Str).length = 10 := by decide +kernel
      obtain ⟨c, hat, c1, _⟩ := sign_at (x := "0123456789") (m := 10) ⟨by decide +kernel, by decide +kernel⟩ r0 (by rw [h10]; exact r1)
      have ha4 := X4 acc _ ha hab
      refine ⟨_, r, c, rfl, rfl, (by decide +kernel), hat, ha4, _, cs ++ [c], rfl, ?_, ?_, ?_, upd_same, B4.put hab.symm, ?_⟩
      · rw [List.map_append, List.map_append]; rfl
      · rw [List.length_append, hl]; rfl
      · intro d hd
        rcases List.mem_append.mp hd with hd | hd
        · exact hc d hd
        · rw [List.mem_singleton.mp hd]; exact c1
      · intro d o hd nd
        rw [upd_ne (ne_of_none hd na)]
        exact (X'.trans X4) d o hd nd
    rintro ys τ H4 ⟨v, cs, rfl, rfl, hl, hc, ha, B4, X4⟩
    have hl' : cs.length = m := by omega
    have hjl : ((cs.map one).map (·.length)).sum + (cs.map one).length * (Str.ofString "").length ≤ 16777216 := by
      have e1 : (Str.ofString "").length = 0 := by decide +kernel
      have e2 : ∀ l : List Nat, ((l.map one).map (·.length)).sum = l.length := by
        intro l
        induction l with
        | nil => rfl
        | cons a l ih => simp only [List.map_cons, List.sum_cons, ih, List.length_cons]; show 1 + l.length = _; omega
      rw [e1, e2]
      omega
    refine ⟨_, acc, _, rfl, rfl, SqL.of ha, hjl, ?_⟩
    have ej : sg (Txt.join (Str.ofString "") (cs.map one)) = cs := by rw [empty_is]; exact L2.join_ones cs
    have hf0 : TxB 42 (Txt.join (Str.ofString "") (cs.map one)) := by
      refine ⟨?_, fun c h => hc c (by rw [ej] at h; exact h)⟩
      rw [← sg_len, ej]; omega
    have hf1 : 0 < (Txt.join (Str.ofString "") (cs.map one)).length := by rw [← sg_len, ej]; omega
    generalize Txt.join (Str.ofString "") (cs.map one) = f0 at hf0 hf1
    refine ⟨fun σ' H' => ∃ f : Str, σ' = [some (.ref b), some (.int m), some (.str f)] ∧ TxB 43 f ∧ 0 < f.length ∧ Bag H' b ∧ Fix b H H', ?_, ?_⟩
    · refine ⟨_, rfl, b, 3, rfl, B4, ⟨by decide, by decide⟩, fun r H5 r0 r1 B5 X5 => ⟨_, _, rfl, rfl, _, rfl, ?_⟩⟩
      have F5 : Fix b H H5 := (F3.trans X4).trans X5
      refine ite2 (fun h => ?_) (fun h => ?_)
      · obtain ⟨c, hcc, hat⟩ := fig_at (f := f0) hf1
        refine ⟨_, rfl, f0, 0, c, rfl, rfl, Nat.le_of_lt (small1000' (by have := hf0.few; omega)), hat, rfl, _, rfl, ?_⟩
        refine ite2 (fun h => ?_) (fun h => ?_)
        · have h7 : TxB 1 ("7" : Str) := ⟨by decide +kernel, by decide +kernel⟩
          have hs := hf0.slice (some 1) none
          refine ⟨_, rfl, _, rfl, f0, rfl, (by have := hf0.few; omega), _, _, rfl, rfl, Nat.le_of_lt (small1000' (by have := h7.few; have := hs.few; omega)), ?_⟩
          have hap := h7.app hs
          refine ⟨_, rfl, hap.mono (by decide), ?_, B5, F5⟩
          rw [← sg_len, sg_app, List.length_append]
          have : (sg ("7" : Str)).length = 1 := by decide +kernel
          omega
        · exact ⟨f0, rfl, hf0.mono (by decide), hf1, B5, F5⟩
      · exact iteF ⟨f0, rfl, hf0.mono (by decide), hf1, B5, F5⟩
    rintro σ' H5 ⟨f, rfl, hf, hfp, B5, F5⟩
    refine ⟨ln3, fun l1 n1 => ?_⟩
    refine ⟨_, rfl, b, 3, rfl, B5.new n1, ⟨by decide, by decide⟩, fun r H6 r0 r1 B6 X6 => ?_⟩
    have h1 : H6 l1 = some (.lst ([("" : Str), "-", ""].map V.str)) := X6 l1 _ upd_same (B5.ne_new n1)
    obtain ⟨y, hy, hyt⟩ := pick_tx (m := 1) (zs := [("" : Str), "-", ""]) (fun z hz => by
      rcases List.mem_cons.mp hz with rfl | hz
      · exact ⟨by decide +kernel, by decide +kernel⟩
      rcases List.mem_cons.mp hz with rfl | hz
      · exact ⟨by decide +kernel, by decide +kernel⟩
      rw [List.mem_singleton.mp hz]
      exact ⟨by decide +kernel, by decide +kernel⟩) r0 (by show r < 3; omega)
    refine ⟨l1, _, r, _, rfl, rfl, SqL.of h1, hy, _, rfl, y, f, rfl, rfl, Nat.le_of_lt (small1000' (by have := hf.few; have := hyt.few; omega)), ?_⟩
    refine q _ _ ((hyt.app hf).mono (by decide)) ?_ B6 ((F5.trans (Fix.new n1)).trans X6)
    rw [← sg_len, sg_app, List.length_append, sg_len, sg_len]
    omega
end
end My

set_option Elab.async false
set_option linter.all false
set_option maxRecDepth 100000
namespace My
open PySem PySem.Spec PyProof.Rows L2
section
variable {P : Program} {w : World} {K : PySem.W.Frag} {mg : Str → Option Value} {base : Heap}
set_option maxHeartbeats 4000000 in
theorem ok_law_spoilt {f : Addr} {fd : FuncData} (F : Fun K "_law_spoilt" "_law_spoilt" s_law_spoilt f fd) (Z : Bl mg) (O_law_take : Own P w K mg base "_law_take" 1 ["bag", "many"] spTake) : FnOk P w K mg base CX0 2 f fd ["bag", "text"] spSpoilt := by
  refine F.ok (k := 1) sc_law_spoilt (fun vs H Q E h => ?_) (fun cdv A outer s H vs Q E hr h => ?_)
  · obtain ⟨b, x, rfl, _⟩ := h
    rfl
  · obtain ⟨b, x, rfl, hB, hx, hx0, q⟩ := h
    refine ⟨_, (pss_cons (ps_set (i := 2) sc_law_spoilt.nd rfl (Or.inl rfl) pe_str)
      (pss_cons (ps_set (i := 2) sc_law_spoilt.nd rfl (Or.inl rfl) (pe_op op_add_str (pv 2) pe_str))
      (pss_cons (ps_set (i := 3) sc_law_spoilt.nd rfl (Or.inl rfl) (pe_own O_law_take (hr.mono (by decide)) rfl (pa_cons (pv 0) (pa_cons (pe_callB call_len_str rfl Z.len bt_len (pa_cons (pv 1) pa_nil)) pa_nil))))
      (pss_cons (ps_set (i := 4) sc_law_spoilt.nd rfl (Or.inl rfl) (pe_ix ix_str (pv 2) (pe_own O_law_take (hr.mono (by decide)) rfl (pa_cons (pv 0) (pa_cons (pe_callB call_len_str rfl Z.len bt_len (pa_cons (pv 2) pa_nil)) pa_nil))) (fun _ _ => rfl)))
      (pss_cons (ps_set (i := 5) sc_law_spoilt.nd rfl (Or.inl rfl) (pe_lst (pa_cons (pe_op op_add_str (pe_slice sl_str (pv 1) po_none (po_some (pv 3))) (pe_slice sl_str (pv 1) (po_some (pe_op op_add (pv 3) pe_int)) po_none)) (pa_cons (pe_op op_add_str (pe_slice sl_str (pv 1) po_none (po_some (pe_op op_add (pv 3) pe_int))) (pe_slice sl_str (pv 1) (po_some (pv 3)) po_none)) (pa_cons (pe_op op_add_str (pe_op op_add_str (pe_slice sl_str (pv 1) po_none (po_some (pv 3))) (pv 4)) (pe_slice sl_str (pv 1) (po_some (pv 3)) po_none)) (pa_cons (pe_op op_add_str (pv 1) (pv 4)) pa_nil))))))
      (pss_one (ps_ret (pe_ix ix_list (pe_op op_cat (pv 5) (pe_lst (pa_cons (pe_op op_add_str (pe_op op_add_str (pe_slice sl_str (pv 1) po_none (po_some (pv 3))) (pv 4)) (pe_slice sl_str (pv 1) (po_some (pe_op op_add (pv 3) pe_int)) po_none)) (pa_cons (pv 1) (pa_cons (pv 1) pa_nil))))) (pe_own O_law_take (hr.mono (by decide)) rfl (pa_cons (pv 0) (pa_cons pe_int pa_nil))) (fun _ _ => rfl))))))))), ?_⟩

    have hxf := hx.few
    have le : ∀ {y z : Str} {m k : Nat}, TxB m y → TxB k z → m + k ≤ 1000 → y.length + z.length ≤ sizeLine := fun h1 h2 h3 => Nat.le_of_lt (small1000 (by have := h1.few; have := h2.few; omega))
    refine ⟨_, rfl, _, _, rfl, rfl, (by decide +kernel), ?_⟩
    have hS : TxB 100 ((" !&()*+,-./0123456789:;<=>?@ABCDEFGHIJKLMNOPQRSTUVWXYZ[]^_" : Str) ++ ("abcdefghijklmnopqrstuvwxyz{|}~\n\"#$`'\\" : Str)) := ⟨by decide +kernel, by decide +kernel⟩
    have hS0 : 0 < ((" !&()*+,-./0123456789:;<=>?@ABCDEFGHIJKLMNOPQRSTUVWXYZ[]^_" : Str) ++ ("abcdefghijklmnopqrstuvwxyz{|}~\n\"#$`'\\" : Str)).length := by decide +kernel
    generalize ((" !&()*+,-./0123456789:;<=>?@ABCDEFGHIJKLMNOPQRSTUVWXYZ[]^_" : Str) ++ ("abcdefghijklmnopqrstuvwxyz{|}~\n\"#$`'\\" : Str)) = S at hS hS0
    have hSf := hS.few
    refine ⟨_, rfl, _, rfl, x, rfl, Nat.le_of_lt (small1000 (by omega)), b, _, rfl, hB, ⟨by omega, smallM (by omega) (by omega)⟩, fun at_ H1 a0 a1 B1 X1 => ?_⟩
    refine ⟨_, rfl, _, rfl, _, rfl, S, rfl, Nat.le_of_lt (small1000 (by omega)), b, _, rfl, B1, ⟨by omega, smallM (by omega) (by omega)⟩, fun r H2 r0 r1 B2 X2 => ?_⟩
    obtain ⟨c, hat, hc, _⟩ := sign_at hS r0 r1
    refine ⟨S, r, c, rfl, rfl, Nat.le_of_lt (small1000 (by omega)), hat, ?_⟩
    have hs := TxB.one hc
    generalize (⟨#[c]⟩ : Str) = sgn at hs
    have sl := fun l u => hx.slice l u
    have lx : x.length ≤ 1000000 := by omega
    have p2 : ∀ l u l' u', TxB 600 (Txt.slice x l u ++ Txt.slice x l' u') := fun l u l' u' => ((sl l u).app (sl l' u')).mono (by decide)
    have p3 : ∀ l u l' u', TxB 600 (Txt.slice x l u ++ sgn ++ Txt.slice x l' u') := fun l u l' u' => (((sl l u).app hs).app (sl l' u')).mono (by decide)
    have px := hx.app hs
    -- some
    refine ⟨_, rfl, _, rfl, _, rfl, x, rfl, lx, _, rfl, _, rfl, _, _, rfl, rfl, _, rfl, x, rfl, lx, _, _, rfl, rfl, le (sl _ _) (sl _ _) (by decide), ?_⟩
    refine ⟨_, rfl, _, rfl, _, _, rfl, rfl, _, rfl, x, rfl, lx, _, rfl, _, rfl, _, rfl, x, rfl, lx, _, _, rfl, rfl, le (sl _ _) (sl _ _) (by decide), ?_⟩
    refine ⟨_, rfl, _, rfl, _, rfl, x, rfl, lx, _, rfl, _, _, rfl, rfl, le (sl _ _) hs (by decide), _, rfl, _, rfl, _, rfl, x, rfl, lx, _, _, rfl, rfl, le ((sl _ _).app hs) (sl _ _) (by decide), ?_⟩
    refine ⟨_, rfl, _, rfl, _, _, rfl, rfl, le hx hs (by decide), ?_⟩
    refine ⟨ln4, fun l1 n1 => ?_⟩
    -- the choice
    refine ⟨_, rfl, _, rfl, _, rfl, _, rfl, x, rfl, lx, _, rfl, _, _, rfl, rfl, le (sl _ _) hs (by decide), _, rfl, _, rfl, _, _, rfl, rfl, _, rfl, x, rfl, lx, _, _, rfl, rfl, le ((sl _ _).app hs) (sl _ _) (by decide), ?_⟩
    refine ⟨_, rfl, _, rfl, ln3, fun l2 n2 => ?_⟩
    refine ⟨l1, l2, _, _, rfl, rfl, Same.new n2 _ _ upd_same, upd_same, (by show 7 ≤ sizeLine; decide), fun l3 n3 => ?_⟩
    refine ⟨_, rfl, b, 7, rfl, ((B2.new n1).new n2).new n3, ⟨by decide, by decide⟩, fun r H6 r0' r1' B6 X6 => ?_⟩
    have h3 : H6 l3 = some (.lst ([Txt.slice x none (some at_) ++ Txt.slice x (some (at_ + 1)) none, Txt.slice x none (some (at_ + 1)) ++ Txt.slice x (some at_) none, Txt.slice x none (some at_) ++ sgn ++ Txt.slice x (some at_) none, x ++ sgn, Txt.slice x none (some at_) ++ sgn ++ Txt.slice x (some (at_ + 1)) none, x, x].map V.str)) := X6 l3 _ upd_same (((B2.new n1).new n2).ne_new n3)
    obtain ⟨y, hy, hyt⟩ := pick_tx (m := 600) (zs := [Txt.slice x none (some at_) ++ Txt.slice x (some (at_ + 1)) none, Txt.slice x none (some (at_ + 1)) ++ Txt.slice x (some at_) none, Txt.slice x none (some at_) ++ sgn ++ Txt.slice x (some at_) none, x ++ sgn, Txt.slice x none (some at_) ++ sgn ++ Txt.slice x (some (at_ + 1)) none, x, x]) (fun z hz => by
      rcases List.mem_cons.mp hz with rfl | hz
      · exact p2 _ _ _ _
      rcases List.mem_cons.mp hz with rfl | hz
      · exact p2 _ _ _ _
      rcases List.mem_cons.mp hz with rfl | hz
      · exact p3 _ _ _ _
      rcases List.mem_cons.mp hz with rfl | hz
      · exact px.mono (by decide)
      rcases List.mem_cons.mp hz with rfl | hz
      · exact p3 _ _ _ _
      rcases List.mem_cons.mp hz with rfl | hz
      · exact hx.mono (by decide)
      rw [List.mem_singleton.mp hz]
      exact hx.mono (by decide)) r0' (by show r < 7; omega)
    exact ⟨l3, _, r, _, rfl, rfl, SqL.of h3, hy, q y H6 hyt B6 ((X1.trans X2).trans ((((Fix.new n1).trans (Fix.new n2)).trans (Fix.new n3)).trans X6))⟩
end
end My

set_option Elab.async false
set_option linter.all false
set_option maxRecDepth 100000
namespace My
open PySem PySem.Spec PyProof.Rows L2
section
variable {P : Program} {w : World} {K : PySem.W.Frag} {mg : Str → Option Value} {base : Heap}
set_option maxHeartbeats 4000000 in
theorem ok_law {f : Addr} {fd : FuncData} (F : Fun K "law" "law" s_law f fd) (Z : Bl mg) (O_law_bag : Own P w K mg base "_law_bag" 1 ["script", "k"] (spBag K)) (O_law_text : Own P w K mg base "_law_text" 2 ["bag"] spText) (O_law_spoilt : Own P w K mg base "_law_spoilt" 2 ["bag", "text"] spSpoilt) (O_law_due : Own P w K mg base "_law_due" 1 ["text"] spRead) (O_read_number : Own P w K mg base "read_number" 1 ["text"] spRead) : FnOk P w K mg base CX0 3 f fd ["script"] (spLaw K) := by
  refine F.ok (k := 2) sc_law (fun vs H Q E h => ?_) (fun cdv A outer s H vs Q E hr h => ?_)
  · obtain ⟨a, ns, rfl, _⟩ := h
    rfl
  · obtain ⟨a, ns, rfl, hS, hlen, q⟩ := h
    refine ⟨_, (pss_cons (ps_for PassesOwn.never rfl (pi_range1 rfl Z.range (pa_cons (pe_op op_add pe_int (pe_callB (call_min2 rfl) rfl Z.min bt_min (pa_cons (pe_callB call_len_seq rfl Z.len bt_len (pa_cons (pv 0) pa_nil)) (pa_cons pe_int pa_nil)))) pa_nil)) (pg_name (i := 1) sc_law.nd rfl (Or.inl rfl))
      (pss_cons (ps_set (i := 2) sc_law.nd rfl (Or.inl rfl) (pe_own O_law_bag (hr.mono (by decide)) rfl (pa_cons (pv 0) (pa_cons (pv 1) pa_nil))))
      (pss_cons (ps_set (i := 3) sc_law.nd rfl (Or.inl rfl) (pe_own O_law_spoilt (hr.mono (by decide)) rfl (pa_cons (pv 2) (pa_cons (pe_own O_law_text (hr.mono (by decide)) rfl (pa_cons (pv 2) pa_nil)) pa_nil))))
      (pss_cons (ps_set (i := 4) sc_law.nd rfl (Or.inl rfl) (pe_own O_law_due (hr.mono (by decide)) rfl (pa_cons (pv 3) pa_nil)))
      (pss_cons (ps_set (i := 5) sc_law.nd rfl (Or.inl rfl) (pe_own O_read_number (hr.mono (by decide)) rfl (pa_cons (pv 3) pa_nil)))
      (pss_one (ps_if (pt_cmp (pc_isN (pv 4)))
      (pss_one (ps_if (pt_cmp (pc_notN (pv 5)))
      (pss_one (ps_ret pe_bl))
      pss_nil))
      (pss_one (ps_if (PW.pt (pw_or (pt_not (pt_val (pe_callB call_isi rfl Z.isinstance bt_isinstance (pa_cons (pv 5) (pa_cons (pe_bltn (v := .ty "int") rfl Z.int bt_int rfl) pa_nil))))) (pw_or (pt_val (pe_callB call_isi rfl Z.isinstance bt_isinstance (pa_cons (pv 5) (pa_cons (pe_bltn (v := .ty "bool") rfl Z.bool bt_bool rfl) pa_nil)))) (pw_or1 (pt_cmpR op_ne (pv 5) (pv 4) (nomark _))))))
      (pss_one (ps_ret pe_bl))
      pss_nil)))))))))
      (pss_one (ps_ret (pe_cmpR (op_eqD hr.units) (pe_lcomp ["text"] [] [] rfl (pi_list (pe_lst (pa_cons pe_str (pa_cons pe_str (pa_cons pe_str (pa_cons pe_str (pa_cons pe_str (pa_cons pe_str pa_nil)))))))) rfl (by decide +kernel) (by decide +kernel) (by decide +kernel) True.intro (fun _ _ _ _ => (pg_name (i := 0) (show ((["text"] : List Str) ++ ([] : List Str)).Nodup by decide +kernel) rfl (Or.inl rfl) (hf := Or.inr rfl))) (fun _ _ _ _ => pts_nil) (fun _ _ _ _ => (pe_own O_read_number (hr.mono (by decide)) rfl (pa_cons (pv 0) pa_nil)))) (pe_lst (pa_cons pe_non (pa_cons pe_non (pa_cons pe_int (pa_cons pe_non (pa_cons pe_non (pa_cons (pe_un un_neg pe_int) pa_nil))))))) (nomark _))))), ?_⟩

    refine ⟨_, rfl, a, _, rfl, .inl hS, _, _, rfl, _, _, rfl, rfl, _, rfl, (by split <;> (try rw [List.length_map]) <;> omega), (by split <;> (try rw [List.length_map]) <;> omega), for_range (lo := 0) (fun i σ H' => ∃ (u1 u2 u3 u4 u5 : Option V), σ = [some (.ref a), u1, u2, u3, u4, u5] ∧ Same H H') ?_ ?_ ?_⟩
    · exact ⟨_, _, _, _, _, rfl, Same.refl H⟩
    · rintro i σ H7 hi ⟨u1, u2, u3, u4, u5, rfl, s7⟩
      refine ⟨_, rfl, _, rfl, a, ns, _, rfl, s7.seq hS, (by omega), fun b H8 nb8 B8 s8 => ?_⟩
      refine ⟨_, rfl, _, rfl, b, rfl, B8, fun x H9 hx hx0 B9 X9 => ⟨b, x, rfl, B9, hx, hx0, fun y H10 hy B10 X10 => ?_⟩⟩
      have s10 : Same H7 H10 := Same.of_fix s8 nb8 (X9.trans X10)
      refine ⟨_, rfl, y, rfl, hy, fun H11 s11 => ?_⟩
      refine ⟨_, rfl, y, rfl, hy, fun H12 s12 => ?_⟩
      have s712 := s7.trans (s10.trans (s11.trans s12))
      refine ⟨_, rfl, _, rfl, ?_⟩
      cases rdF y with
      | none => exact iteT ⟨_, rfl, _, rfl, iteF ⟨_, _, _, _, _, rfl, s712⟩⟩
      | some n =>
        refine iteF ?_
        refine ⟨_, rfl, _, "int", _, true, rfl, .int n, rfl, _, rfl, iteF ?_⟩
        refine ⟨_, rfl, _, "bool", _, false, rfl, .int n, rfl, _, rfl, iteF ?_⟩
        refine ⟨_, rfl, _, rfl, rfl, _, rfl, ?_⟩
        refine iteFb (by rw [decide_eq_true rfl]; rfl) ?_
        exact ⟨_, _, _, _, _, rfl, s712⟩
    · rintro σ H7 ⟨u1, u2, u3, u4, u5, rfl, s7⟩
      refine ⟨ln6, fun l0 n0 => ?_⟩
      have h0 : (upd H7 l0 (.lst [.str "", .str "-", .str "0", .str "-0", .str "00", .str "-7"])) l0 = some (.lst ([("" : Str), "-", "0", "-0", "00", "-7"].map V.str)) := upd_same
      refine ⟨l0, rfl, ⟨_, SqL.of h0⟩, fun acc na => ?_⟩
      generalize (upd H7 l0 (.lst [.str "", .str "-", .str "0", .str "-0", .str "00", .str "-7"])) = H8 at h0 na
      refine lc_list (K := K) (a := l0) (xs := [("" : Str), "-", "0", "-0", "00", "-7"].map V.str) (fun i ys τ H' => ∃ c : Option V, τ = [c] ∧ ys = ([("" : Str), "-", "0", "-0", "00", "-7"].take i).map (fun t => vO (rdF t)) ∧ H' acc = some (.lst ys) ∧ Same H8 H') ?_ ?_ ?_ ?_
      · exact ⟨none, rfl, rfl, upd_same, Same.new na⟩
      · rintro i ys τ H9 hi ⟨c, rfl, rfl, ha, s9⟩
        refine ⟨SqL.of (s9 _ _ h0), ha, small1000 ?_⟩
        rw [List.length_map, List.length_take]
        exact Nat.le_trans (Nat.min_le_right _ _) (by show 6 ≤ 1000; decide)
      · rintro i v ys τ H9 hi ⟨c, rfl, rfl, ha, s9⟩
        obtain ⟨t, ht, rfl⟩ : ∃ t, [("" : Str), "-", "0", "-0", "00", "-7"][i]? = some t ∧ v = V.str t := by
          rw [List.getElem?_map] at hi
          cases e : [("" : Str), "-", "0", "-0", "00", "-7"][i]? with
          | none => rw [e] at hi; cases hi
          | some k => rw [e] at hi; exact ⟨k, rfl, (Option.some.inj hi).symm⟩
        have hT : TxB 600 t := by
          have hm := List.mem_of_getElem? ht
          have : ∀ z ∈ [("" : Str), "-", "0", "-0", "00", "-7"], z.length ≤ 600 ∧ ∀ c ∈ sg z, c < 0x110000 := by decide +kernel
          exact ⟨(this t hm).1, (this t hm).2⟩
        refine gname_ ?_
        refine yes_ ?_
        refine iteT ?_
        refine ⟨_, rfl, t, rfl, hT, fun H10 s10 => ?_⟩
        refine ⟨s10 _ _ ha, _, rfl, ?_, upd_same, (s9.trans s10).put na⟩
        rw [List.take_add_one, ht, List.map_append]
        rfl
      rintro ys τ H9 ⟨c, rfl, rfl, ha, s9⟩
      have ha : H9 acc = some (.lst [vO (rdF ""), vO (rdF "-"), vO (rdF "0"), vO (rdF "-0"), vO (rdF "00"), vO (rdF "-7")]) := ha
      rw [rd_1, rd_2, rd_3, rd_4, rd_5, rd_6] at ha
      refine ⟨_, rfl, ln6, fun l2 n2 => ?_⟩
      have ha2 := Same.new (o := .lst [.non, .non, .int 0, .non, .non, .int (-7)]) n2 _ _ ha
      refine ⟨.list [.none, .none, .int 0, .none, .none, .int (-7)], .list [.none, .none, .int 0, .none, .none, .int (-7)], .lst ha2 (.cons .non (.cons .non (.cons (.int _) (.cons .non (.cons .non (.cons (.int _) .nil)))))), .lst upd_same (.cons .non (.cons .non (.cons (.int _) (.cons .non (.cons .non (.cons (.int _) .nil)))))), rfl, rfl, (by have : (PyData.list [.none, .none, .int 0, .none, .none, .int (-7)]).depth ≤ 1 := Nat.le_refl 1; omega), ?_⟩
      rw [PySem.SeqAt.eqv_refl _ rfl]
      exact q _
end
end My

set_option Elab.async false
set_option linter.all false
set_option maxRecDepth 100000
namespace My
open PySem PySem.Spec PyProof.Rows L2
set_option maxHeartbeats 4000000 in
theorem all_mk {l : PySem.W.OpenLaw} {w : World} {K : PySem.W.Frag} {h : Heap} {mg : Str → Option Value} {fa : Addr} (X : K.In h) (G : h.Ns mainGlobals mg) (hfa : mg "law" = some (.ref fa))
    {f0 : Addr} {od0 an0 : Option Addr} {sl0 : Array (Option Value)} {oc0 kV0 dc0 pm0 cd0 ct0 : Value}
    {f1 : Addr} {od1 an1 : Option Addr} {sl1 : Array (Option Value)} {oc1 kV1 dc1 pm1 cd1 ct1 : Value}
    {f2 : Addr} {od2 an2 : Option Addr} {sl2 : Array (Option Value)} {oc2 kV2 dc2 pm2 cd2 ct2 : Value}
    {f3 : Addr} {od3 an3 : Option Addr} {sl3 : Array (Option Value)} {oc3 kV3 dc3 pm3 cd3 ct3 : Value}
    {f4 : Addr} {od4 an4 : Option Addr} {sl4 : Array (Option Value)} {oc4 kV4 dc4 pm4 cd4 ct4 : Value}
    {f5 : Addr} {od5 an5 : Option Addr} {sl5 : Array (Option Value)} {oc5 kV5 dc5 pm5 cd5 ct5 : Value}
    {f6 : Addr} {od6 an6 : Option Addr} {sl6 : Array (Option Value)} {oc6 kV6 dc6 pm6 cd6 ct6 : Value}
    {tk_MOST_FIGURES : Tok}
    (a0 : PySem.W.nsIn K mainGlobals "read_number" = some (some (.ref f0))) (l0 : K.lookup f0 = some ⟨oc0, od0, .func (PySem.W.fnOf "read_number" "read_number" (defArgs s_read_number) (defBody s_read_number) (defScope s_read_number) .none kV0 dc0 pm0 an0 cd0 ct0), sl0⟩) (c0 : PySem.W.codeIn K cd0 "read_number" = true) (k0 : PySem.W.keepIn K (.ref f0) = true)
    (a1 : PySem.W.nsIn K mainGlobals "_law_bag" = some (some (.ref f1))) (l1 : K.lookup f1 = some ⟨oc1, od1, .func (PySem.W.fnOf "_law_bag" "_law_bag" (defArgs s_law_bag) (defBody s_law_bag) (defScope s_law_bag) .none kV1 dc1 pm1 an1 cd1 ct1), sl1⟩) (c1 : PySem.W.codeIn K cd1 "_law_bag" = true) (k1 : PySem.W.keepIn K (.ref f1) = true)
    (a2 : PySem.W.nsIn K mainGlobals "_law_take" = some (some (.ref f2))) (l2 : K.lookup f2 = some ⟨oc2, od2, .func (PySem.W.fnOf "_law_take" "_law_take" (defArgs s_law_take) (defBody s_law_take) (defScope s_law_take) .none kV2 dc2 pm2 an2 cd2 ct2), sl2⟩) (c2 : PySem.W.codeIn K cd2 "_law_take" = true) (k2 : PySem.W.keepIn K (.ref f2) = true)
    (a3 : PySem.W.nsIn K mainGlobals "_law_due" = some (some (.ref f3))) (l3 : K.lookup f3 = some ⟨oc3, od3, .func (PySem.W.fnOf "_law_due" "_law_due" (defArgs s_law_due) (defBody s_law_due) (defScope s_law_due) .none kV3 dc3 pm3 an3 cd3 ct3), sl3⟩) (c3 : PySem.W.codeIn K cd3 "_law_due" = true) (k3 : PySem.W.keepIn K (.ref f3) = true)
    (a4 : PySem.W.nsIn K mainGlobals "_law_text" = some (some (.ref f4))) (l4 : K.lookup f4 = some ⟨oc4, od4, .func (PySem.W.fnOf "_law_text" "_law_text" (defArgs s_law_text) (defBody s_law_text) (defScope s_law_text) .none kV4 dc4 pm4 an4 cd4 ct4), sl4⟩) (c4 : PySem.W.codeIn K cd4 "_law_text" = true) (k4 : PySem.W.keepIn K (.ref f4) = true)
    (a5 : PySem.W.nsIn K mainGlobals "_law_spoilt" = some (some (.ref f5))) (l5 : K.lookup f5 = some ⟨oc5, od5, .func (PySem.W.fnOf "_law_spoilt" "_law_spoilt" (defArgs s_law_spoilt) (defBody s_law_spoilt) (defScope s_law_spoilt) .none kV5 dc5 pm5 an5 cd5 ct5), sl5⟩) (c5 : PySem.W.codeIn K cd5 "_law_spoilt" = true) (k5 : PySem.W.keepIn K (.ref f5) = true)
    (a6 : PySem.W.nsIn K mainGlobals "law" = some (some (.ref f6))) (l6 : K.lookup f6 = some ⟨oc6, od6, .func (PySem.W.fnOf "law" "law" (defArgs s_law) (defBody s_law) (defScope s_law) .none kV6 dc6 pm6 an6 cd6 ct6), sl6⟩) (c6 : PySem.W.codeIn K cd6 "law" = true) (k6 : PySem.W.keepIn K (.ref f6) = true)
    (z_len : PySem.W.nsIn K mainGlobals "len" = some none)
    (z_int : PySem.W.nsIn K mainGlobals "int" = some none)
    (z_all : PySem.W.nsIn K mainGlobals "all" = some none)
    (z_range : PySem.W.nsIn K mainGlobals "range" = some none)
    (z_min : PySem.W.nsIn K mainGlobals "min" = some none)
    (z_isinstance : PySem.W.nsIn K mainGlobals "isinstance" = some none)
    (z_bool : PySem.W.nsIn K mainGlobals "bool" = some none)
    (g_MOST_FIGURES : PySem.W.nsIn K mainGlobals "MOST_FIGURES" = some (some (.int 40 tk_MOST_FIGURES))) :
    ∃ fd : FuncData, (∀ (s : Shared) (v : Value), BindsTo s fd ⟨[v], []⟩ [("script", v)]) ∧ ∀ base : Heap, K.In base → base.Ns mainGlobals mg → FnOk l.prog w K mg base CX0 3 fa fd ["script"] (spLaw K) := by
  have e := hfa.symm.trans (PySem.W.mg_of X G a6)
  cases e
  have Z : Bl mg := ⟨PySem.W.mg_none_of X G z_len, PySem.W.mg_none_of X G z_int, PySem.W.mg_none_of X G z_all, PySem.W.mg_none_of X G z_range, PySem.W.mg_none_of X G z_min, PySem.W.mg_none_of X G z_isinstance, PySem.W.mg_none_of X G z_bool⟩
  have G_MOST_FIGURES : mg "MOST_FIGURES" = some (.int 40 tk_MOST_FIGURES) := PySem.W.mg_of X G g_MOST_FIGURES
  have F0 := fun_mk (st := s_read_number) l0 c0 k0
  have b0 := F0.binds (ps := ["text"]) fun _ _ _ _ _ _ us hl => match us, hl with | [_], _ => rfl
  have F1 := fun_mk (st := s_law_bag) l1 c1 k1
  have b1 := F1.binds (ps := ["script", "k"]) fun _ _ _ _ _ _ us hl => match us, hl with | [_, _], _ => rfl
  have F2 := fun_mk (st := s_law_take) l2 c2 k2
  have b2 := F2.binds (ps := ["bag", "many"]) fun _ _ _ _ _ _ us hl => match us, hl with | [_, _], _ => rfl
  have F3 := fun_mk (st := s_law_due) l3 c3 k3
  have b3 := F3.binds (ps := ["text"]) fun _ _ _ _ _ _ us hl => match us, hl with | [_], _ => rfl
  have F4 := fun_mk (st := s_law_text) l4 c4 k4
  have b4 := F4.binds (ps := ["bag"]) fun _ _ _ _ _ _ us hl => match us, hl with | [_], _ => rfl
  have F5 := fun_mk (st := s_law_spoilt) l5 c5 k5
  have b5 := F5.binds (ps := ["bag", "text"]) fun _ _ _ _ _ _ us hl => match us, hl with | [_, _], _ => rfl
  have F6 := fun_mk (st := s_law) l6 c6 k6
  refine ⟨PySem.W.fnOf "law" "law" (defArgs s_law) (defBody s_law) (defScope s_law) .none kV6 dc6 pm6 an6 cd6 ct6, fun s v => .of_eq rfl, fun base _ _ => ?_⟩
  have O_read_number : Own l.prog w K mg base "read_number" 1 ["text"] spRead := ⟨⟨_, _, ok_read_number F0 Z G_MOST_FIGURES , PySem.W.mg_of X G a0, k0, b0⟩⟩
  have O_law_bag : Own l.prog w K mg base "_law_bag" 1 ["script", "k"] (spBag K) := ⟨⟨_, _, ok_law_bag F1 Z , PySem.W.mg_of X G a1, k1, b1⟩⟩
  have O_law_take : Own l.prog w K mg base "_law_take" 1 ["bag", "many"] spTake := ⟨⟨_, _, ok_law_take F2 Z , PySem.W.mg_of X G a2, k2, b2⟩⟩
  have O_law_due : Own l.prog w K mg base "_law_due" 1 ["text"] spRead := ⟨⟨_, _, ok_law_due F3 Z , PySem.W.mg_of X G a3, k3, b3⟩⟩
  have O_law_text : Own l.prog w K mg base "_law_text" 2 ["bag"] spText := ⟨⟨_, _, ok_law_text F4 Z O_law_take, PySem.W.mg_of X G a4, k4, b4⟩⟩
  have O_law_spoilt : Own l.prog w K mg base "_law_spoilt" 2 ["bag", "text"] spSpoilt := ⟨⟨_, _, ok_law_spoilt F5 Z O_law_take, PySem.W.mg_of X G a5, k5, b5⟩⟩
  exact ok_law F6 Z O_law_bag O_law_text O_law_spoilt O_law_due O_read_number
theorem walk {l : PySem.W.OpenLaw} {q : Program} {loose : List Str} {XP : (Str → Option Value) → Heap → Prop} {YP : World → Heap → Prop} {d : DefRec} {K : Params → PySem.W.Frag} (hn : l.most = some 63) (hdf : d.params.defaults = [])
    (hY : ∀ (w : World) (h : Heap), YP w h → (K w.params).In h)
    (F : ∀ (w : World) (mg : Str → Option Value) (fa : Addr) (h : Heap), (K w.params).In h → h.Ns mainGlobals mg → mg d.name = some (.ref fa) →
      ∃ fd : FuncData, (∀ (s : Shared) (u : Value), BindsTo s fd ⟨[u], []⟩ [("script", u)]) ∧ ∀ base : Heap, (K w.params).In base → base.Ns mainGlobals mg → FnOk l.prog w (K w.params) mg base CX0 3 fa fd ["script"] (spLaw (K w.params))) :
    PySem.W.WalkO q loose XP YP l.row.toRowW d [] (fun f vs => PySem.call f vs) :=
  L2.walk_of (n := 63) (k := 3) (x := "script") (CX := fun _ => CX0) (sp := fun w => spLaw (K w.params)) hn (by decide) hdf ⟨rfl, by decide, by decide⟩ hY F (fun _ _ a ns hl _ hS => ⟨a, ns, rfl, hS, hl, fun _ => rfl⟩) fun _ _ _ _ _ z => z
end My
open PySem PySem.W PyProof.Rows
set_option maxRecDepth 100000 in
set_option maxHeartbeats 0 in
theorem PySem.Challenge.cw_ledpast_k20_numbers_as_texts_holds : PySem.Challenge.rw_ledpast_k20_numbers_as_texts.Holds := by
  w_on; o_law; k_head; (case hw => w_witness2)
  k_fill
  refine My.walk (l := PySem.Challenge.rw_ledpast_k20_numbers_as_texts) rfl rfl (fun w h Y => PySem.W.kIn_of Y) ?F
  case F =>
    intro w mg fa h KX G hmg
    refine' My.all_mk KX G hmg ?a0 ?l0 ?c0 ?k0 ?a1 ?l1 ?c1 ?k1 ?a2 ?l2 ?c2 ?k2 ?a3 ?l3 ?c3 ?k3 ?a4 ?l4 ?c4 ?k4 ?a5 ?l5 ?c5 ?k5 ?a6 ?l6 ?c6 ?k6 ?z_len ?z_int ?z_all ?z_range ?z_min ?z_isinstance ?z_bool ?g_MOST_FIGURES
    (case g_MOST_FIGURES => k_is)
    (case a0 => k_is)
    (case l0 => k_is)
    (case c0 => k_is)
    (case k0 => k_is)
    (case a1 => k_is)
    (case l1 => k_is)
    (case c1 => k_is)
    (case k1 => k_is)
    (case a2 => k_is)
    (case l2 => k_is)
    (case c2 => k_is)
    (case k2 => k_is)
    (case a3 => k_is)
    (case l3 => k_is)
    (case c3 => k_is)
    (case k3 => k_is)
    (case a4 => k_is)
    (case l4 => k_is)
    (case c4 => k_is)
    (case k4 => k_is)
    (case a5 => k_is)
    (case l5 => k_is)
    (case c5 => k_is)
    (case k5 => k_is)
    (case a6 => k_is)
    (case l6 => k_is)
    (case c6 => k_is)
    (case k6 => k_is)
    (case z_len => k_is)
    (case z_int => k_is)
    (case z_all => k_is)
    (case z_range => k_is)
    (case z_min => k_is)
    (case z_isinstance => k_is)
    (case z_bool => k_is)
