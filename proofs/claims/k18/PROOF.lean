import PyProof.Rows.All
import Wide.All
import OpenK.AllK
import Wide.FinOn
import Lean
import PyProof.EqAt
import PyProof.EqKinds
import PyProof.TupleCall
import PyProof.NeData
import PySem.Challenge.RW_ledpast_k18_short_by_hand
-- CHANGE: your row's module here, as the last of these rows
set_option Elab.async false
set_option linter.all false
set_option maxRecDepth 100000
/-! THE HAND LAYER, for ints, bools, texts, own classes, LISTS and tuples (index, slices, in, append, pop ..), calls, loops. Paste it whole ahead of your own text; what your proof does not reach may be deleted. -/
namespace L2
open PySem PySem.Spec PyProof.Rows

/-- a key: an int or a str -/
abbrev Key := Sum Int Str
def keyIs : Key → Value → Bool
  | .inl k, v => Value.isInt k v
  | .inr x, v => Value.isStrOf x v
def keyH (w : World) : Key → Int
  | .inl k => hashInt k
  | .inr x => hashStr w x
theorem keyIs_shape : ∀ {k : Key} {v : Value}, keyIs k v = true → (∃ i t, k = Sum.inl i ∧ v = Value.int i t) ∨ (∃ x t, k = Sum.inr x ∧ v = Value.str x t)
  | .inl i, v, h => by
    obtain ⟨t, e⟩ := Value.isInt_shape (k := i) (v := v) h
    exact .inl ⟨i, t, rfl, e⟩
  | .inr x, v, h => by
    obtain ⟨t, e⟩ := Value.isStrOf_shape (x := x) (v := v) h
    exact .inr ⟨x, t, rfl, e⟩
theorem keyIs_int (i : Int) (t : Tok) : keyIs (.inl i) (.int i t) = true := by simp [keyIs, Value.isInt]
theorem keyIs_str (x : Str) (t : Tok) : keyIs (.inr x) (.str x t) = true := by simp [keyIs, Value.isStrOf]
theorem key_ll (a b : Int) : decide ((Sum.inl a : Key) = Sum.inl b) = (a == b) := by
  by_cases e : a = b
  · subst e; simp
  · have h : ¬ (Sum.inl a : Key) = Sum.inl b := fun q => e (Sum.inl.inj q)
    rw [decide_eq_false h]
    exact (beq_eq_false_iff_ne.mpr e).symm
theorem key_rr (a b : Str) : decide ((Sum.inr a : Key) = Sum.inr b) = decide (a = b) := by
  by_cases e : a = b
  · subst e; simp
  · have h : ¬ (Sum.inr a : Key) = Sum.inr b := fun q => e (Sum.inr.inj q)
    rw [decide_eq_false h, decide_eq_false e]
theorem key_lr (a : Int) (b : Str) : decide ((Sum.inl a : Key) = Sum.inr b) = false := decide_eq_false (fun q => nomatch q)
theorem key_rl (a : Str) (b : Int) : decide ((Sum.inr a : Key) = Sum.inl b) = false := decide_eq_false (fun q => nomatch q)

def mixKind (prog : Program) (w : World) : PySem.KeyKind prog w Key where
  is := keyIs
  hash := keyH w
  inj := fun v a b ha hb => by
    rcases keyIs_shape ha with ⟨i, t, rfl, rfl⟩ | ⟨x, t, rfl, rfl⟩
    · rcases keyIs_shape hb with ⟨j, u, rfl, e⟩ | ⟨y, u, rfl, e⟩
      · injection e with e1 _; rw [e1]
      · exact nomatch e
    · rcases keyIs_shape hb with ⟨j, u, rfl, e⟩ | ⟨y, u, rfl, e⟩
      · exact nomatch e
      · injection e with e1 _; rw [e1]
  byValue := fun k v h => by
    rcases keyIs_shape h with ⟨i, t, rfl, rfl⟩ | ⟨x, t, rfl, rfl⟩ <;> rfl
  pyHash := fun hv h => by
    rcases keyIs_shape hv with ⟨i, t, rfl, rfl⟩ | ⟨x, t, rfl, rfl⟩
    · exact wpAny_pyHash_int h
    · exact wpAny_pyHash_str h
  eqBool := fun hu hv h => by
    rcases keyIs_shape hu with ⟨i, t, rfl, rfl⟩ | ⟨x, t, rfl, rfl⟩
    · rcases keyIs_shape hv with ⟨j, u, rfl, rfl⟩ | ⟨y, u, rfl, rfl⟩
      · rw [key_ll] at h; exact wpAny_eqBool_int h
      · rw [key_lr] at h; exact SeqAt.EqAt.int_str i t y u _ _ _ _ h
    · rcases keyIs_shape hv with ⟨j, u, rfl, rfl⟩ | ⟨y, u, rfl, rfl⟩
      · rw [key_rl] at h; exact SeqAt.EqAt.str_int x t j u _ _ _ _ h
      · rw [key_rr] at h; exact wpAny_eqBool_str h
  «strs» := fun k x t v h => by
    rcases keyIs_shape h with ⟨i, u, rfl, e⟩ | ⟨y, u, rfl, e⟩
    · exact nomatch e
    · injection e with e1 _
      subst e1
      cases v <;> rfl

theorem mixKind_int (prog : Program) (w : World) (i : Int) (t : Tok) : (mixKind prog w).is (.inl i) (.int i t) = true := keyIs_int i t
theorem mixKind_str (prog : Program) (w : World) (x : Str) (t : Tok) : (mixKind prog w).is (.inr x) (.str x t) = true := keyIs_str x t
end L2

namespace L2
open PySem PySem.Spec PyProof.Rows

/-- a value, without the heap -/
inductive V where
  | non | bl (b : Bool) | int (i : Int) | str (x : Str) | byt (b : Array UInt8) | flt (b : UInt64) | ref (a : Addr) | ty (n : String)
  deriving DecidableEq

def RelV : V → Value → Prop
  | .non, u => u = Value.none
  | .bl b, u => u = Value.bool b
  | .int i, u => ∃ t, u = Value.int i t
  | .str x, u => ∃ t, u = Value.str x t
  | .byt b, u => ∃ t, u = Value.bytes b t
  | .flt b, u => ∃ t, u = Value.float b t
  | .ref a, u => u = Value.ref a
  | .ty n, u => u = Value.type n

abbrev Vals : List V → List Value → Prop := Paired RelV
theorem Vals.length {xs : List V} {us : List Value} (r : Vals xs us) : xs.length = us.length := Paired.length r
theorem Vals.get : ∀ {xs : List V} {us : List Value} {i : Nat} {x : V}, Vals xs us → xs[i]? = some x → ∃ u, us[i]? = some u ∧ RelV x u
  | _, _, _, _, .nil, e => by simp at e
  | _, _, 0, _, .cons r _, e => by simp at e; subst e; exact ⟨_, rfl, r⟩
  | _, _, i + 1, x, .cons _ t, e => by
    obtain ⟨u, h1, h2⟩ := Vals.get (i := i) (x := x) t (by simpa using e)
    exact ⟨u, by simpa using h1, h2⟩
theorem Vals.set {x : V} {u : Value} (r : RelV x u) : ∀ {xs : List V} {us : List Value} (i : Nat), Vals xs us → Vals (xs.set i x) (us.set i u)
  | _, _, _, .nil => .nil
  | _, _, 0, .cons _ t => .cons r t
  | _, _, i + 1, .cons q t => .cons q (Vals.set r i t)
theorem Vals.append : ∀ {xs ys : List V} {us ws : List Value}, Vals xs us → Vals ys ws → Vals (xs ++ ys) (us ++ ws)
  | _, _, _, _, .nil, s => s
  | _, _, _, _, .cons r t, s => .cons r (Vals.append t s)
theorem Vals.take : ∀ {xs : List V} {us : List Value} (n : Nat), Vals xs us → Vals (xs.take n) (us.take n)
  | _, _, 0, _ => .nil
  | _, _, _ + 1, .nil => .nil
  | _, _, n + 1, .cons r t => .cons r (Vals.take n t)
theorem Vals.drop : ∀ {xs : List V} {us : List Value} (n : Nat), Vals xs us → Vals (xs.drop n) (us.drop n)
  | _, _, 0, r => r
  | _, _, _ + 1, .nil => .nil
  | _, _, n + 1, .cons _ t => Vals.drop n t
theorem Vals.none_of : ∀ {xs : List V} {us : List Value} {i : Nat}, Vals xs us → xs[i]? = none → us[i]? = none := fun {xs us i} r e => by
  have h1 := r.length
  have h2 : xs.length ≤ i := List.getElem?_eq_none_iff.mp e
  exact List.getElem?_eq_none_iff.mpr (by omega)

def RelO : Option V → Option Value → Prop
  | some v, some u => RelV v u
  | none, none => True
  | _, _ => False
def KV {κ : Type} : List (κ × V) → List (κ × Value) → Prop := Paired fun (p : κ × V) (q : κ × Value) => p.1 = q.1 ∧ RelV p.2 q.2

/-- a key of a dict (00_mix): an int or a text -/
def kV : Key → V
  | .inl i => .int i
  | .inr x => .str x

/-- what stands at a tracked address -/
inductive HO where
  /-- a list -/
  | lst (xs : List V)
  /-- a tuple (never changes) -/
  | tup (xs : List V)
  /-- a dict whose keys are ints and texts; one whose keys are tuples of ints and texts (the empty one is both) -/
  | dK (kvs : List (Key × V)) | dT (kvs : List (List Key × V))
  /-- a set of ints: its members, its size -/
  | set (S : Int → Bool) (n : Nat)
  /-- an instance of the class at C, its dict at dx, its attributes -/
  | ins (C dx : Addr) (fs : List (Str × V))
  /-- the dict of the instance at x -/
  | own (x : Addr)
  /-- the dict of an exception -/
  | xd (fs : List (Str × V))
  /-- a bound method, f of x -/
  | met (f x : Addr)
  /-- a range object lo, lo + 1, .. below hi -/
  | rng (lo hi : Int)
  /-- a thing that is known to the object (the script; a dict while a loop walks it): read, never written while it is so -/
  | frz (o : Obj) (u : HO)
  /-- a code object's table -/
  | tbl (ps : Array Value)
  /-- any other thing, by what is true of its one object (a def of one's own: SetO a S n := HO.ext fun h => ..) -/
  | ext (φ : Heap → Prop)

abbrev Hp := Addr → Option HO
def upd (H : Hp) (a : Addr) (o : HO) : Hp := fun b => if b = a then some o else H b
theorem upd_same {H : Hp} {a : Addr} {o : HO} : upd H a o a = some o := by unfold upd; rw [if_pos rfl]
theorem upd_ne {H : Hp} {a b : Addr} {o : HO} (h : b ≠ a) : upd H a o b = H b := by unfold upd; rw [if_neg h]
/-- two objects of different content stand apart -/
theorem ne_of {H : Hp} {a b : Addr} {o u : HO} (h : H a = some o) (h' : H b = some u) (d : o ≠ u) : a ≠ b := by
  intro e; subst e; rw [h] at h'; exact d (Option.some.inj h')
theorem ne_of_none {H : Hp} {a b : Addr} {o : HO} (h : H a = some o) (h' : H b = none) : a ≠ b := by
  intro e; subst e; rw [h] at h'; cases h'

section
variable (P : Program) (w : World)
def ObjOk (H : Hp) (h : Heap) (a : Addr) : HO → Prop
  | .lst xs => xs.length ≤ sizeLine ∧ ∃ (its : List Value) (n : Nat), Vals xs its ∧ h.get? a = some { cls := .type "list", data := .seq its.toArray n }
  | .tup xs => xs.length ≤ sizeLine ∧ ∃ its : List Value, Vals xs its ∧ ∃ o, h.get? a = some o ∧ o.cls = .type "tuple" ∧ ∃ n, o.data = .seq its.toArray n ∧ o.dict = none
  | .dK kvs => kvs.length ≤ sizeLine ∧ (a == sysModules) = false ∧ ∃ vs, KV kvs vs ∧ h.DictOf (mixKind P w) a vs
  | .dT kvs => kvs.length ≤ sizeLine ∧ (a == sysModules) = false ∧ ∃ xs : List (List Key × Addr × Value),
      Paired (fun (p : List Key × V) (q : List Key × Addr × Value) => p.1 = q.1 ∧ H q.2.1 = some (.tup (p.1.map kV)) ∧ RelV p.2 q.2.2) kvs xs ∧
      ∃ o es ep, h.get? a = some o ∧ o.ExactDict ∧ o.data = .dict es ep ∧ es.toList = xs.map (entryOfKey (tupleKind (mixKind P w))) ∧ (xs.map (·.1)).Nodup
  | .set S n => h.SetOf (intKind P w) a S n
  | .ins C dx fs => H dx = some (.own a) ∧ fs.length ≤ 1000 ∧ dx ≠ a ∧ h.get? a = some (PySem.W.instObj C dx) ∧
      ∃ mA, h.Ns1 dx mA ∧ (∀ f, RelO (fs.lookup f) (mA f)) ∧ PySem.Within mA (fs.map (·.1))
  | .own _ => ∃ o, h.get? a = some o
  | .xd fs => ∃ mA, h.Ns1 a mA ∧ ∀ f, RelO (fs.lookup f) (mA f)
  | .rng lo hi => ∃ t u v, h.get? a = some { cls := .type "range", data := .fields #[.int lo t, .int hi u, .int 1 v] }
  | .frz o u => h.get? a = some o ∧ ObjOk H h a u
  | .tbl ps => h.get? a = some { cls := .none, data := .fields ps }
  | .met f x => h.get? a = some (PySem.W.methodObj (.ref f) (.ref x))
  | .ext φ => φ h ∧ (∃ o, h.get? a = some o) ∧ ∀ h1 h2 : Heap, φ h1 → (∀ o, h1.get? a = some o → h2.get? a = some o) → φ h2
/-- the abstract heap is held -/
def HOk (H : Hp) (h : Heap) : Prop := ∀ a o, H a = some o → ObjOk P w H h a o
end

section
variable {P : Program} {w : World} {H H' : Hp} {h h' : Heap} {a : Addr} {o : HO}
theorem ObjOk.lt (x : ObjOk P w H h a o) : a < h.objs.size := by
  cases o with
  | lst xs => obtain ⟨_, _, _, _, e⟩ := x; exact Heap.lt_size e
  | tup xs => obtain ⟨_, _, _, p⟩ := x; exact (let ⟨o, e, _⟩ := p; Heap.lt_size e)
  | dK kvs => obtain ⟨_, _, _, _, o, _, _, e, _⟩ := x; exact Heap.lt_size e
  | dT kvs => obtain ⟨_, _, _, _, o, _, _, e, _⟩ := x; exact Heap.lt_size e
  | set S n => obtain ⟨o, _, _, _, e, _⟩ := x; exact Heap.lt_size e
  | ins C dx fs => obtain ⟨_, _, _, e, _⟩ := x; exact Heap.lt_size e
  | own y => obtain ⟨_, e⟩ := x; exact Heap.lt_size e
  | xd fs => obtain ⟨_, ⟨_, _, _, e, _⟩, _⟩ := x; exact Heap.lt_size e
  | rng lo hi => obtain ⟨_, _, _, e⟩ := x; exact Heap.lt_size e
  | frz ob u => obtain ⟨e, _⟩ := x; exact Heap.lt_size e
  | tbl ps => exact Heap.lt_size (show h.get? a = some _ from x)
  | met f y => exact Heap.lt_size (show h.get? a = some _ from x)
  | ext φ => obtain ⟨_, ⟨_, e⟩, _⟩ := x; exact Heap.lt_size e
theorem Paired.mapP {α β : Type} {F G : α → β → Prop} : ∀ {l₁ : List α} {l₂ : List β}, Paired F l₁ l₂ → (∀ a b, F a b → G a b) → Paired G l₁ l₂
  | _, _, .nil, _ => .nil
  | _, _, .cons r t, f => .cons (f _ _ r) (Paired.mapP t f)
/-- what an object's description leans on: its own object, its own dict, the tuples -/
theorem ObjOk.stay (x : ObjOk P w H h a o) (k : ∀ b u, (b = a ∨ H b = some (.own a)) → h.get? b = some u → h'.get? b = some u)
    (ho : ∀ b, H b = some (.own a) → H' b = some (.own a)) (ht : ∀ b xs, H b = some (.tup xs) → H' b = some (.tup xs)) : ObjOk P w H' h' a o := by
  induction o with
  | lst xs => obtain ⟨z, its, n, r, e⟩ := x; exact ⟨z, its, n, r, k _ _ (.inl rfl) e⟩
  | tup xs => obtain ⟨z, its, r, ob, e, c⟩ := x; exact ⟨z, its, r, ob, k _ _ (.inl rfl) e, c⟩
  | dK kvs => obtain ⟨z, y, vs, r, ob, es, ep, e, c⟩ := x; exact ⟨z, y, vs, r, ob, es, ep, k _ _ (.inl rfl) e, c⟩
  | dT kvs =>
    obtain ⟨z, y, xs, r, ob, es, ep, e, c⟩ := x
    exact ⟨z, y, xs, Paired.mapP r fun p q z => ⟨z.1, ht _ _ z.2.1, z.2.2⟩, ob, es, ep, k _ _ (.inl rfl) e, c⟩
  | set S n => obtain ⟨ob, es, ep, t, e, c⟩ := x; exact ⟨ob, es, ep, t, k _ _ (.inl rfl) e, c⟩
  | ins C dx fs =>
    obtain ⟨d, z, ne, e, mA, ⟨od, es, ep, e2, c⟩, r⟩ := x
    exact ⟨ho _ d, z, ne, k _ _ (.inl rfl) e, mA, ⟨od, es, ep, k _ _ (.inr d) e2, c⟩, r⟩
  | own y => obtain ⟨ob, e⟩ := x; exact ⟨ob, k _ _ (.inl rfl) e⟩
  | xd fs => obtain ⟨mA, ⟨od, es, ep, e, c⟩, r⟩ := x; exact ⟨mA, ⟨od, es, ep, k _ _ (.inl rfl) e, c⟩, r⟩
  | rng lo hi => obtain ⟨t, u, v, e⟩ := x; exact ⟨t, u, v, k _ _ (.inl rfl) e⟩
  | frz ob u ih => obtain ⟨e, q⟩ := x; exact ⟨k _ _ (.inl rfl) e, ih q⟩
  | tbl ps =>
    have e : h.get? a = some { cls := .none, data := .fields ps } := x
    show h'.get? a = some { cls := .none, data := .fields ps }
    exact k a _ (.inl rfl) e
  | met f y =>
    have e : h.get? a = some (PySem.W.methodObj (.ref f) (.ref y)) := x
    show h'.get? a = some (PySem.W.methodObj (.ref f) (.ref y))
    exact k a _ (.inl rfl) e
  | ext φ => obtain ⟨p, ⟨o, e⟩, st⟩ := x; exact ⟨st _ _ p fun o q => k _ _ (.inl rfl) q, ⟨o, k _ _ (.inl rfl) e⟩, st⟩
theorem HOk.lt (x : HOk P w H h) (e : H a = some o) : a < h.objs.size := (x a o e).lt
theorem HOk.fresh (x : HOk P w H h) (e : h.objs.size ≤ a) : H a = none := by
  cases q : H a with
  | none => rfl
  | some u => exact absurd (Nat.lt_of_lt_of_le (x.lt q) e) (Nat.lt_irrefl _)
/-- every object of the heap is kept -/
theorem HOk.kept (x : HOk P w H h) (k : ∀ b u, h.get? b = some u → h'.get? b = some u) : HOk P w H h' := fun a o e =>
  (x a o e).stay (fun b u _ q => k b u q) (fun _ q => q) fun _ _ q => q
/-- a new object is laid and tracked -/
theorem HOk.laid (x : HOk P w H h) (k : ∀ b u, h.get? b = some u → h'.get? b = some u) (hp : h.objs.size ≤ a) (new : ObjOk P w (upd H a o) h' a o) : HOk P w (upd H a o) h' := fun b u e => by
  have hn := x.fresh hp
  by_cases hb : b = a
  · subst hb; rw [upd_same] at e; cases e; exact new
  · rw [upd_ne hb] at e
    exact (x b u e).stay (fun c v _ q => k c v q) (fun c q => by rw [upd_ne (ne_of_none q hn)]; exact q) fun c xs q => by rw [upd_ne (ne_of_none q hn)]; exact q
end

/-- what may be read as u: it is u, or a known u -/
def Rd (H : Hp) (a : Addr) (u : HO) : Prop := H a = some u ∨ ∃ o, H a = some (.frz o u)
theorem Rd.of {H : Hp} {a : Addr} {u : HO} (h : H a = some u) : Rd H a u := .inl h
theorem Rd.ok {P : Program} {w : World} {H : Hp} {h : Heap} {a : Addr} {u : HO} (r : Rd H a u) (x : HOk P w H h) : ObjOk P w H h a u := by
  rcases r with r | ⟨o, r⟩
  · exact x a u r
  · obtain ⟨_, q⟩ := x a _ r
    exact q
/-- what may be written -/
def Mut : Option HO → Prop
  | some (.lst _) => True
  | some (.dK _) => True
  | some (.dT _) => True
  | some (.set _ _) => True
  | some (.ins _ _ _) => True
  | some (.ext _) => True
  | _ => False
section
variable {P : Program} {w : World} {H : Hp} {h h' : Heap} {x e : Addr} {o' : HO}
/-- the object at e is changed: x itself, or the dict of the instance x -/
theorem HOk.write (ok : HOk P w H h) (mu : Mut (H x)) (he : e = x ∨ H e = some (.own x)) (k : ∀ b u, b ≠ e → h.get? b = some u → h'.get? b = some u) (heo : ∃ u, h'.get? e = some u)
    (new : ObjOk P w (upd H x o') h' x o') : HOk P w (upd H x o') h' := fun b u q => by
  have nown : ∀ c y, H c = some (.own y) → c ≠ x := fun c y r z => by subst z; rw [r] at mu; exact mu
  have ntup : ∀ c xs, H c = some (.tup xs) → c ≠ x := fun c xs r z => by subst z; rw [r] at mu; exact mu
  by_cases hb : b = x
  · subst hb; rw [upd_same] at q; cases q; exact new
  · rw [upd_ne hb] at q
    by_cases hbe : b = e
    · have q' : H b = some (.own x) := by
        rcases he with z | z
        · exact absurd (hbe.trans z) hb
        · rw [hbe]; exact z
      rw [q] at q'; cases q'
      obtain ⟨v, hv⟩ := heo
      exact ⟨v, by rw [hbe]; exact hv⟩
    · refine (ok b u q).stay (fun c v hc r => k c v ?_ r) (fun c r => by rw [upd_ne (nown c b r)]; exact r) fun c xs r => by rw [upd_ne (ntup c xs r)]; exact r
      rcases hc with rfl | hc
      · exact hbe
      · rintro rfl
        rcases he with z | z
        · exact nown c b hc z
        · rw [hc] at z; cases z; exact hb rfl
end

/-! ### kept unless tracked; of the frames at fs (the callers') the slots may change (an exception that passes writes there); of the records at ex (iterators) nothing is said -/
structure Un (fs ex : List Addr) (H H' : Hp) (h h' : Heap) : Prop where
  keep : ∀ b o, h.get? b = some o → H b = none → b ∉ fs → b ∉ ex → h'.get? b = some o
  slot : ∀ b o, h.get? b = some o → H b = none → b ∈ fs → b ∉ ex → ∃ sl, h'.get? b = some { o with slots := sl }
  free : ∀ b o, h.get? b = some o → H b = none → b ∉ ex → H' b = none
  there : ∀ b o, h.get? b = some o → b ∉ ex → ∃ o', h'.get? b = some o'
  tups : ∀ b xs, H b = some (.tup xs) → H' b = some (.tup xs)
  frzs : ∀ b o u, H b = some (.frz o u) → H' b = some (.frz o u)
  tbls : ∀ b ps, H b = some (.tbl ps) → ∃ more, H' b = some (.tbl (ps ++ more))
section
variable {fs fs' ex ex' : List Addr} {H H1 H2 : Hp} {h h1 h2 h' : Heap} {a x e : Addr} {o : HO}
theorem Un.any (u : Un fs ex H H1 h h1) {b : Addr} {ob : Obj} (q : h.get? b = some ob) (n : H b = none) (hx : b ∉ ex) : ∃ sl, h1.get? b = some { ob with slots := sl } := by
  by_cases hb : b ∈ fs
  · exact u.slot b ob q n hb hx
  · exact ⟨ob.slots, u.keep b ob q n hb hx⟩
theorem Un.trans (a : Un fs ex H H1 h h1) (b : Un fs ex H1 H2 h1 h2) : Un fs ex H H2 h h2 where
  keep := fun c ob q n hc hx => b.keep c ob (a.keep c ob q n hc hx) (a.free c ob q n hx) hc hx
  slot := fun c ob q n hc hx => by
    obtain ⟨sl, e1⟩ := a.slot c ob q n hc hx
    obtain ⟨sl', e2⟩ := b.slot c _ e1 (a.free c ob q n hx) hc hx
    exact ⟨sl', e2⟩
  free := fun c ob q n hx => by
    obtain ⟨o', e1⟩ := a.there c ob q hx
    exact b.free c o' e1 (a.free c ob q n hx) hx
  there := fun c ob q hx => by
    obtain ⟨o', e1⟩ := a.there c ob q hx
    exact b.there c o' e1 hx
  tups := fun c xs q => b.tups c xs (a.tups c xs q)
  frzs := fun c ob xs q => b.frzs c ob xs (a.frzs c ob xs q)
  tbls := fun c ps q => by
    obtain ⟨m1, e1⟩ := a.tbls c ps q
    obtain ⟨m2, e2⟩ := b.tbls c _ e1
    exact ⟨m1 ++ m2, by rw [e2, Array.append_assoc]⟩
theorem Un.kept (k : ∀ b u, h.get? b = some u → h'.get? b = some u) : Un fs ex H H h h' :=
  ⟨fun b ob q _ _ _ => k b ob q, fun b ob q _ _ _ => ⟨ob.slots, k b ob q⟩, fun _ _ _ n _ => n, fun b ob q _ => ⟨ob, k b ob q⟩, fun _ _ q => q, fun _ _ _ q => q, fun _ ps q => ⟨#[], by rw [q]; simp⟩⟩
theorem Un.refl : Un fs ex H H h h := Un.kept fun _ _ q => q
theorem Un.laid (k : ∀ b u, h.get? b = some u → h'.get? b = some u) (hp : h.objs.size ≤ a) (hn : H a = none) : Un fs ex H (upd H a o) h h' where
  keep := fun b u q _ _ _ => k b u q
  slot := fun b u q _ _ _ => ⟨u.slots, k b u q⟩
  free := fun b u q n _ => by rw [upd_ne (Nat.ne_of_lt (Nat.lt_of_lt_of_le (Heap.lt_size q) hp))]; exact n
  there := fun b u q _ => ⟨u, k b u q⟩
  tups := fun b xs q => by rw [upd_ne (ne_of_none q hn)]; exact q
  frzs := fun b u xs q => by rw [upd_ne (ne_of_none q hn)]; exact q
  tbls := fun b ps q => ⟨#[], by rw [upd_ne (ne_of_none q hn), q]; simp⟩
theorem Un.write (mu : Mut (H x)) (he : e = x ∨ H e = some (.own x)) (k : ∀ b u, b ≠ e → h.get? b = some u → h'.get? b = some u) (heo : ∃ u, h'.get? e = some u) : Un fs ex H (upd H x o) h h' := by
  have hx : ∀ b, H b = none → b ≠ x := fun b n z => by subst z; rw [n] at mu; exact mu
  have hb : ∀ b, H b = none → b ≠ e := fun b n z => by
    subst z
    rcases he with r | r
    · exact hx b n r
    · rw [n] at r; cases r
  have hm : ∀ b u, H b = some u → ¬ Mut (some u) → b ≠ x := fun b u q nm z => by subst z; rw [q] at mu; exact nm mu
  refine ⟨fun b u q n _ _ => k b u (hb b n) q, fun b u q n _ _ => ⟨u.slots, k b u (hb b n) q⟩, fun b u q n _ => by rw [upd_ne (hx b n)]; exact n, fun b u q _ => ?_,
    fun b xs q => by rw [upd_ne (hm b _ q fun z => z)]; exact q, fun b u xs q => by rw [upd_ne (hm b _ q fun z => z)]; exact q, fun b ps q => ⟨#[], by rw [upd_ne (hm b _ q fun z => z), q]; simp⟩⟩
  by_cases hbe : b = e
  · subst hbe; exact heo
  · exact ⟨u, k b u hbe q⟩
theorem Un.mono (u : Un fs ex H H1 h h1) (hs : ∀ b ∈ fs, b ∈ fs') (hx : ∀ b ∈ ex, b ∈ ex') : Un fs' ex' H H1 h h1 :=
  ⟨fun b ob q n hb he => u.keep b ob q n (fun z => hb (hs b z)) fun z => he (hx b z), fun _ _ q n _ he => u.any q n fun z => he (hx _ z), fun b ob q n he => u.free b ob q n fun z => he (hx b z), fun b ob q he => u.there b ob q fun z => he (hx b z), u.tups, u.frzs, u.tbls⟩
end

/-! ### the heap without what is tracked -/
def trk (h : Heap) (H : Hp) : List Addr := (List.range h.objs.size).filter fun a => (H a).isSome
def hidT (h : Heap) (H : Hp) : Heap := PySem.W.hideAll h (trk h H)
theorem hidT_size (h : Heap) (H : Hp) : (hidT h H).objs.size = h.objs.size := PySem.W.hideAll_size _ _
theorem hidT_get {h : Heap} {H : Hp} {b : Addr} {o : Obj} (e : h.get? b = some o) (n : H b = none) : (hidT h H).get? b = some o :=
  PySem.W.hideAll_get _ e fun hm => by
    have q : (H b).isSome = true := (List.mem_filter.mp hm).2
    rw [n] at q; simp at q
theorem of_hidT {h : Heap} {H : Hp} {b : Addr} {o : Obj} (e : (hidT h H).get? b = some o) : h.get? b = some o ∧ H b = none := by
  have e' : h.get? b = some o := PySem.W.of_hideAll (trk h H) e
  refine ⟨e', ?_⟩
  cases q : H b with
  | none => rfl
  | some x =>
    have hm : b ∈ trk h H := List.mem_filter.mpr ⟨List.mem_range.mpr (Heap.lt_size e'), by simp [q]⟩
    have z : (hidT h H).get? b = none := PySem.W.hideAll_none (trk h H) hm
    rw [z] at e; cases e

/-! ### OpenK's ledger, filled with every new object but one -/
def allNews (g h : Heap) (L : Addr) : List (Addr × Obj) := (List.range h.objs.size).filterMap fun a => if a = L ∨ (g.get? a).isSome = true then none else (h.get? a).map fun o => (a, o)
def rest (g h : Heap) (L d : Addr) : List (Addr × Obj) := (allNews g h L).filter fun p => decide (p.1 ≠ d)
end L2

namespace L2
open PySem PySem.Spec PyProof.Rows

/-- the module's facts, over the base: the heap at the law's entry without what is tracked there -/
structure Mod (K : PySem.W.Frag) (mg : Str → Option Value) (base : Heap) : Prop where
  kin : K.In base
  glob : base.Ns mainGlobals mg
  blt : ∃ mb, base.Ns builtinsNs mb ∧ ∀ x : Str, x ≠ "__name__" → mb x = bootBuiltins x
  nolimit : base.NoLimit

/-- the context: a def's body (or a comprehension's block) running. base: fixed through the whole law; s₀, H₀: the entry; outer: the frames whose slots others may change (a def's callers); stack: all frames that run;
   ex: iterators that were made ahead of the entry and are walked here (a comprehension's); fn: the names whose cells were made at the entry (a def: all; a comprehension's block: its own); calm: not within an except suite; pn: pins that every state bears; xe: what is wanted of an exception that leaves the code -/
structure Cx where
  prog : Program
  w : World
  K : PySem.W.Frag
  mg : Str → Option Value
  base : Heap
  A : Around
  N : List Str
  s₀ : Shared
  H₀ : Hp
  env : Env
  outer : List Env
  stack : List Env
  ex : List Addr
  fn : Str → Bool
  calm : Bool
  pn : List (Addr × Obj)
  xe : Value → Shared → Prop
/-- the callers' frames -/
def frs (l : List Env) : List Addr := l.filterMap (·.frame)
abbrev Cx.fs (X : Cx) : List Addr := frs X.outer

def Vis (sc : Scope) (x : Str) : Prop := sc.names.lookup x = some .local ∨ sc.names.lookup x = some .cell ∨ sc.names.lookup x = some .free
def Loc (sc : Scope) (x : Str) : Prop := sc.names.lookup x = some .local ∨ sc.names.lookup x = some .cell
def Look (env : Env) (h : Heap) (m : Str → Option Value) (x : Str) (u : Value) : Prop :=
  (env.kindOf x = some .local ∧ m x = some u) ∨ ((env.kindOf x = some .cell ∨ env.kindOf x = some .free) ∧ ∃ c, env.cells.lookup x = some c ∧ h.IsCell c (some u))

structure Cx.Ok (X : Cx) : Prop where
  mod : Mod X.K X.mg X.base
  kind : X.env.scope.kind = .function
  glob : X.env.globals = mainGlobals
  blt : X.env.builtins = builtinsNs
  above : X.s₀.heap.objs.size ≤ X.env.locals
  inj : ∀ x y c, X.env.cells.lookup x = some c → X.env.cells.lookup y = some c → x = y
  has : ∀ x, (X.env.kindOf x = some .cell ∨ X.env.kindOf x = some .free) → ∃ c, X.env.cells.lookup x = some c
  cab : ∀ x c, X.fn x = true → X.env.cells.lookup x = some c → X.s₀.heap.objs.size ≤ c
  hd : X.calm = true → X.A.handled = none
  frames : X.A.frames = some X.stack
  stk : X.stack = X.outer ∨ (X.stack = X.env :: X.outer ∧ X.env.frame = some X.env.locals)
  exf : ∀ b ∈ X.ex, b ≠ X.env.locals ∧ ∀ x c, X.env.cells.lookup x = some c → c ≠ b
  bs : ∀ b o, X.base.get? b = some o → X.s₀.heap.get? b = some o ∧ X.H₀ b = none
  bsz : X.base.objs.size ≤ X.s₀.heap.objs.size
  noex : ∀ b o, X.base.get? b = some o → b ∉ X.ex
  exfs : ∀ b ∈ X.ex, b ∉ X.fs
  funs : X.s₀.heap.FunFrames X.base X.outer
  frf : ∀ b ∈ X.fs, X.H₀ b = none

structure Inv (X : Cx) (pins : List (Addr × Obj)) (σ : List (Option V)) (H : Hp) (s : Shared) : Prop where
  ok : X.Ok
  os : s.os = X.s₀.os
  bare : AllBare s.gens
  base : Un X.fs X.ex X.H₀ H X.s₀.heap s.heap
  loc : ∃ m, s.heap.Ns X.env.locals m ∧ ∀ (i : Nat) (x : Str) (v : V), X.N[i]? = some x → σ[i]? = some (some v) → Vis X.env.scope x → ∃ u, RelV v u ∧ Look X.env s.heap m x u
  cell : ∀ x c, X.env.cells.lookup x = some c → ∃ v, s.heap.IsCell c v
  free : H X.env.locals = none
  freeC : ∀ x c, X.env.cells.lookup x = some c → H c = none
  pin : ∀ p ∈ X.pn ++ pins, s.heap.get? p.1 = some p.2 ∧ H p.1 = none ∧ p.1 ≠ X.env.locals ∧ p.1 ∉ X.fs ∧ ∀ v, p.2.data ≠ .cell v
  hok : HOk X.prog X.w H s.heap
  len : σ.length = X.N.length

section
variable {X : Cx} {pins : List (Addr × Obj)} {σ : List (Option V)} {H H' : Hp} {s : Shared} {h' : Heap}

theorem Cx.Ok.nofr (ok : X.Ok) {b : Addr} {o : Obj} (e : X.base.get? b = some o) : b ∉ X.fs := fun hb => by
  have := (ok.funs.mem hb).1
  rw [e] at this; cases this
theorem Inv.bs (I : Inv X pins σ H s) : ∀ b o, X.base.get? b = some o → s.heap.get? b = some o ∧ H b = none := fun b o e =>
  ⟨I.base.keep b o (I.ok.bs b o e).1 (I.ok.bs b o e).2 (I.ok.nofr e) (I.ok.noex b o e), I.base.free b o (I.ok.bs b o e).1 (I.ok.bs b o e).2 (I.ok.noex b o e)⟩
theorem Inv.bk (I : Inv X pins σ H s) : ∀ b o, X.base.get? b = some o → s.heap.get? b = some o := fun b o e => (I.bs b o e).1
theorem Inv.mod (I : Inv X pins σ H s) : Mod X.K X.mg X.base := I.ok.mod
theorem Inv.kIn (I : Inv X pins σ H s) : X.K.In s.heap := I.ok.mod.kin.keeps I.bk
theorem Inv.nolimit (I : Inv X pins σ H s) : s.heap.NoLimit := I.ok.mod.nolimit.keeps I.bk
/-- the frame over the base: for OpenK's rules (K.In X.base is I.mod.kin) -/
theorem Inv.fr (I : Inv X pins σ H s) : ∃ m, Fr X.base X.env.locals s.heap m :=
  let ⟨m, hn, _⟩ := I.loc
  ⟨m, hn, I.bk, Nat.le_trans I.ok.bsz I.ok.above⟩
theorem Inv.lt (I : Inv X pins σ H s) : X.env.locals < s.heap.objs.size := let ⟨_, hn, _⟩ := I.loc; hn.lt
theorem Inv.sz (I : Inv X pins σ H s) : X.s₀.heap.objs.size ≤ s.heap.objs.size := Nat.le_trans I.ok.above (Nat.le_of_lt I.lt)
theorem Inv.nofs (I : Inv X pins σ H s) {a : Addr} (h : s.heap.objs.size ≤ a) : a ∉ X.fs := fun hb => by
  obtain ⟨_, o, ho, _⟩ := I.ok.funs.mem hb
  exact absurd (Nat.lt_of_lt_of_le (Heap.lt_size ho) (Nat.le_trans I.sz h)) (Nat.lt_irrefl _)
theorem Inv.cne (I : Inv X pins σ H s) : ∀ x c, X.env.cells.lookup x = some c → c ≠ X.env.locals := fun x c e z => by
  obtain ⟨v, o, ho, hd⟩ := I.cell x c e
  obtain ⟨m, ⟨o', es, ep, ho', hd', _⟩, _⟩ := I.loc
  rw [z, ho'] at ho; cases ho; rw [hd'] at hd; cases hd
theorem Inv.funs (I : Inv X pins σ H s) : s.heap.FunFrames X.base X.outer := by
  have all : ∀ (l : List Env), (∀ b ∈ frs l, b ∈ X.fs) → X.s₀.heap.FunFrames X.base l → s.heap.FunFrames X.base l := by
    intro l
    induction l with
    | nil => intro _ _; trivial
    | cons env r ih =>
      intro hs hl
      obtain ⟨hk, ⟨L, o, hf, hn, ho, hd⟩, hr⟩ := hl
      have hL : L ∈ X.fs := hs L (by unfold frs; rw [List.filterMap_cons, hf]; exact List.mem_cons_self)
      obtain ⟨sl, e⟩ := I.base.slot L o ho (I.ok.frf L hL) hL fun z => I.ok.exfs L z hL
      exact ⟨hk, ⟨L, _, hf, hn, e, hd⟩, ih (fun b hb => hs b (by unfold frs; rw [List.filterMap_cons, hf]; exact List.mem_cons_of_mem _ hb)) hr⟩
  exact all X.outer (fun _ hb => hb) I.ok.funs

/-- the frames that run, for a call -/
theorem Inv.stack (I : Inv X pins σ H s) : s.heap.FunFrames X.base X.stack := by
  rcases I.ok.stk with e | ⟨e, hf⟩
  · rw [e]; exact I.funs
  · rw [e]
    obtain ⟨m, hn, _⟩ := I.loc
    refine .cons (by rw [I.ok.kind]; decide) hf hn ?_ I.funs
    exact Heap.get?_none_of_le (Nat.le_trans I.ok.bsz I.ok.above)
theorem Inv.stkSub (I : Inv X pins σ H s) : ∀ b ∈ frs X.stack, b ∈ X.env.locals :: X.fs := fun b hb => by
  rcases I.ok.stk with e | ⟨e, hf⟩
  · rw [e] at hb; exact List.mem_cons_of_mem _ hb
  · rw [e] at hb
    unfold frs at hb
    rw [List.filterMap_cons, hf] at hb
    exact hb
theorem Inv.stkFree (I : Inv X pins σ H s) : ∀ b ∈ frs X.stack, H b = none := fun b hb => by
  rcases List.mem_cons.mp (I.stkSub b hb) with e | hb
  · rw [e]; exact I.free
  · obtain ⟨_, o, ho, _⟩ := I.ok.funs.mem hb
    exact I.base.free b o ho (I.ok.frf b hb) fun z => I.ok.exfs b z hb

/-- THE STEP: the untracked objects but the frame and the records at ch are kept (the callers' frames up to slots), the frame's map is kept, the new abstract heap is held -/
theorem Inv.step {g' : Array GenState} {t' : Nat} {d' : Drawn} {ch : List Addr} (I : Inv X pins σ H s)
    (hch : ∀ b ∈ ch, (b ∈ X.ex ∨ X.s₀.heap.objs.size ≤ b) ∧ b ≠ X.env.locals ∧ (∀ x c, X.env.cells.lookup x = some c → c ≠ b) ∧ ∀ p ∈ X.pn ++ pins, p.1 ≠ b)
    (keep : ∀ b o, b ≠ X.env.locals → b ∉ X.fs → b ∉ ch → s.heap.get? b = some o → H b = none → h'.get? b = some o)
    (slot : ∀ b o, b ≠ X.env.locals → b ∈ X.fs → b ∉ ch → s.heap.get? b = some o → H b = none → ∃ sl, h'.get? b = some { o with slots := sl }) (free : ∀ b o, b ∉ ch → s.heap.get? b = some o → H b = none → H' b = none)
    (there : ∀ b o, b ∉ ch → s.heap.get? b = some o → ∃ o', h'.get? b = some o')
    (tups : ∀ b xs, H b = some (.tup xs) → H' b = some (.tup xs)) (frzs : ∀ b o u, H b = some (.frz o u) → H' b = some (.frz o u)) (tbls : ∀ b ps, H b = some (.tbl ps) → ∃ more, H' b = some (.tbl (ps ++ more)))
    (ns : ∀ m, s.heap.Ns X.env.locals m → h'.Ns X.env.locals m) (hok : HOk X.prog X.w H' h') (hg : AllBare g') :
    Inv X pins σ H' { s with heap := h', gens := g', drawn := d', toks := t' } := by
  have neL : ∀ b o, X.s₀.heap.get? b = some o → b ≠ X.env.locals := fun b o e => Nat.ne_of_lt (Nat.lt_of_lt_of_le (Heap.lt_size e) I.ok.above)
  have neC : ∀ b o, X.s₀.heap.get? b = some o → b ∉ X.ex → b ∉ ch := fun b o e hx hb => by
    rcases (hch b hb).1 with z | z
    · exact hx z
    · exact absurd (Nat.lt_of_lt_of_le (Heap.lt_size e) z) (Nat.lt_irrefl _)
  have cellK : ∀ x c, X.env.cells.lookup x = some c → ∀ v, s.heap.IsCell c v → h'.IsCell c v := fun x c e v ⟨o, ho, hd⟩ => by
    have nch : c ∉ ch := fun z => (hch c z).2.2.1 x c e rfl
    by_cases hc : c ∈ X.fs
    · obtain ⟨sl, q⟩ := slot c o (I.cne x c e) hc nch ho (I.freeC x c e)
      exact ⟨_, q, hd⟩
    · exact ⟨o, keep c o (I.cne x c e) hc nch ho (I.freeC x c e), hd⟩
  refine ⟨I.ok, I.os, hg, ⟨fun b o e n hb hx => ?_, fun b o e n hb hx => ?_, fun b o e n hx => ?_, fun b o e hx => ?_, fun b xs e => tups b xs (I.base.tups b xs e), fun b o xs e => frzs b o xs (I.base.frzs b o xs e), fun b ps e => ?_⟩, ?_, fun x c e => ?_, ?_, fun x c e => ?_, fun p hp => ?_, hok, I.len⟩
  · exact keep b o (neL b o e) hb (neC b o e hx) (I.base.keep b o e n hb hx) (I.base.free b o e n hx)
  · obtain ⟨sl, e1⟩ := I.base.slot b o e n hb hx
    obtain ⟨sl', e2⟩ := slot b _ (neL b o e) hb (neC b o e hx) e1 (I.base.free b o e n hx)
    exact ⟨sl', e2⟩
  · obtain ⟨o', e1⟩ := I.base.there b o e hx
    exact free b o' (neC b o e hx) e1 (I.base.free b o e n hx)
  · obtain ⟨o', e1⟩ := I.base.there b o e hx
    exact there b o' (neC b o e hx) e1
  · obtain ⟨m1, e1⟩ := I.base.tbls b ps e
    obtain ⟨m2, e2⟩ := tbls b _ e1
    exact ⟨m1 ++ m2, by rw [e2, Array.append_assoc]⟩
  · obtain ⟨m, hn, hl⟩ := I.loc
    refine ⟨m, ns m hn, fun i x v e1 e2 e3 => ?_⟩
    obtain ⟨u, r, l⟩ := hl i x v e1 e2 e3
    refine ⟨u, r, ?_⟩
    rcases l with l | ⟨k, c, e, z⟩
    · exact .inl l
    · exact .inr ⟨k, c, e, cellK x c e _ z⟩
  · obtain ⟨v, z⟩ := I.cell x c e
    exact ⟨v, cellK x c e v z⟩
  · obtain ⟨m, ⟨o, _, _, ho, _⟩, _⟩ := I.loc
    exact free _ o (fun z => (hch _ z).2.1 rfl) ho I.free
  · obtain ⟨v, o, ho, hd⟩ := I.cell x c e
    exact free c o (fun z => (hch c z).2.2.1 x c e rfl) ho (I.freeC x c e)
  · obtain ⟨e, n, ne, nf, d⟩ := I.pin p hp
    have nch : p.1 ∉ ch := fun z => (hch p.1 z).2.2.2 p hp rfl
    exact ⟨keep p.1 p.2 ne nf nch e n, free p.1 p.2 nch e n, ne, nf, d⟩
/-- .. where the frame's own object is kept too -/
theorem Inv.un {t' : Nat} (I : Inv X pins σ H s) (u : Un X.fs [] H H' s.heap h') (hok : HOk X.prog X.w H' h') : Inv X pins σ H' { s with heap := h', toks := t' } := by
  obtain ⟨m, ⟨o, es, ep, ho, r⟩, _⟩ := id I.loc
  obtain ⟨sl, hL⟩ := u.any ho I.free (by simp)
  exact I.step (g' := s.gens) (d' := s.drawn) (ch := []) (fun _ z => nomatch z) (fun b o _ hb _ e n => u.keep b o e n hb (by simp)) (fun b o _ hb _ e n => u.slot b o e n hb (by simp)) (fun b o _ e n => u.free b o e n (by simp)) (fun b o _ e => u.there b o e (by simp)) u.tups u.frzs u.tbls (fun m' hm => by
    obtain ⟨o', es', ep', ho', r'⟩ := hm
    rw [ho] at ho'; cases ho'
    exact ⟨_, es', ep', hL, r'⟩) hok I.bare
/-- behind a call (or a comprehension's block): the slots of this frame may have changed too, the records at ch may have turned -/
theorem Inv.call {g' : Array GenState} {t' : Nat} {d' : Drawn} {ch : List Addr} (I : Inv X pins σ H s) (u : Un (frs X.stack) ch H H' s.heap h') (hok : HOk X.prog X.w H' h') (hg : AllBare g')
    (hch : ∀ b ∈ ch, (b ∈ X.ex ∨ X.s₀.heap.objs.size ≤ b) ∧ b ≠ X.env.locals ∧ (∀ x c, X.env.cells.lookup x = some c → c ≠ b) ∧ ∀ p ∈ X.pn ++ pins, p.1 ≠ b) :
    Inv X pins σ H' { s with heap := h', gens := g', drawn := d', toks := t' } := by
  obtain ⟨m, ⟨o, es, ep, ho, r⟩, _⟩ := id I.loc
  obtain ⟨sl, hL⟩ := u.any ho I.free fun z => (hch _ z).2.1 rfl
  exact I.step (ch := ch) hch (fun b o hL hb hc e n => u.keep b o e n (fun z => (List.mem_cons.mp (I.stkSub b z)).elim hL hb) hc) (fun b o _ _ hc e n => u.any e n hc) (fun b o hc e n => u.free b o e n hc) (fun b o hc e => u.there b o e hc) u.tups u.frzs u.tbls (fun m' hm => by
    obtain ⟨o', es', ep', ho', r'⟩ := hm
    rw [ho] at ho'; cases ho'
    exact ⟨_, es', ep', hL, r'⟩) hok hg
/-- an untracked record of ours (an iterator) has turned -/
theorem Inv.turned {t' : Nat} {it : Addr} (I : Inv X pins σ H s) (k : ∀ b o, b ≠ it → s.heap.get? b = some o → h'.get? b = some o) (hn : H it = none) (hL : it ≠ X.env.locals)
    (h1 : it ∈ X.ex ∨ X.s₀.heap.objs.size ≤ it) (h2 : ∀ x c, X.env.cells.lookup x = some c → c ≠ it) (h3 : ∀ p ∈ X.pn ++ pins, p.1 ≠ it) : Inv X pins σ H { s with heap := h', toks := t' } := by
  have nit : ∀ b u, H b = some u → b ≠ it := fun b u e z => by rw [z, hn] at e; cases e
  refine I.step (g' := s.gens) (d' := s.drawn) (ch := [it]) (fun b hb => ?_) (fun b o _ _ hc e _ => k b o (fun z => hc (by simp [z])) e) (fun b o _ _ hc e _ => ⟨o.slots, k b o (fun z => hc (by simp [z])) e⟩) (fun _ _ _ _ n => n)
    (fun b o hc e => ⟨o, k b o (fun z => hc (by simp [z])) e⟩) (fun _ _ e => e) (fun _ _ _ e => e) (fun b ps e => ⟨#[], by rw [e]; simp⟩) (fun m hm => ?_) (fun b u e => ?_) I.bare
  · have e : b = it := by simpa using hb
    subst e
    exact ⟨h1, hL, h2, h3⟩
  · obtain ⟨o, es, ep, ho, r⟩ := hm
    exact ⟨o, es, ep, k _ o (Ne.symm hL) ho, r⟩
  · refine (I.hok b u e).stay (fun c v hc q => k c v ?_ q) (fun _ q => q) fun _ _ q => q
    rcases hc with z | z
    · rw [z]; exact nit b u e
    · exact nit c _ z
theorem Inv.tok (I : Inv X pins σ H s) (t : Nat) : Inv X pins σ H { s with toks := t } := I.un (h' := s.heap) (t' := t) Un.refl I.hok
/-- all objects kept -/
theorem Inv.kept {t' : Nat} (I : Inv X pins σ H s) (k : ∀ b u, s.heap.get? b = some u → h'.get? b = some u) : Inv X pins σ H { s with heap := h', toks := t' } := I.un (Un.kept k) (I.hok.kept k)
/-- a new object laid and tracked -/
theorem Inv.laid {a : Addr} {o : HO} {t' : Nat} (I : Inv X pins σ H s) (k : ∀ b u, s.heap.get? b = some u → h'.get? b = some u) (hp : s.heap.objs.size ≤ a) (new : ObjOk X.prog X.w (upd H a o) h' a o) :
    Inv X pins σ (upd H a o) { s with heap := h', toks := t' } := I.un (Un.laid k hp (I.hok.fresh hp)) (I.hok.laid k hp new)
/-- an object written -/
theorem Inv.write {x e : Addr} {o : HO} {t' : Nat} (I : Inv X pins σ H s) (mu : Mut (H x)) (he : e = x ∨ H e = some (.own x)) (k : ∀ b u, b ≠ e → s.heap.get? b = some u → h'.get? b = some u) (heo : ∃ u, h'.get? e = some u)
    (new : ObjOk X.prog X.w (upd H x o) h' x o) : Inv X pins σ (upd H x o) { s with heap := h', toks := t' } := I.un (Un.write mu he k heo) (I.hok.write mu he k heo new)
theorem Inv.pins_of {pins' : List (Addr × Obj)} (I : Inv X pins σ H s) (h : ∀ p ∈ pins', s.heap.get? p.1 = some p.2 ∧ H p.1 = none ∧ p.1 ≠ X.env.locals ∧ p.1 ∉ X.fs ∧ ∀ v, p.2.data ≠ .cell v) : Inv X pins' σ H s :=
  ⟨I.ok, I.os, I.bare, I.base, I.loc, I.cell, I.free, I.freeC, fun p hp => (List.mem_append.mp hp).elim (fun z => I.pin p (List.mem_append_left _ z)) (h p), I.hok, I.len⟩

theorem nodup_ix {N : List Str} (hN : N.Nodup) {i j : Nat} {x : Str} (a : N[i]? = some x) (b : N[j]? = some x) : i = j := by
  obtain ⟨h1, e1⟩ := List.getElem?_eq_some_iff.mp a
  obtain ⟨h2, e2⟩ := List.getElem?_eq_some_iff.mp b
  exact (List.getElem_inj hN).mp (e1.trans e2.symm)

/-- a name is stored; what changed -/
theorem store_ok2 {M : Model} {A : Around} {E : Value → Shared → Prop} {i : Nat} {x : Str} {v : V} {u : Value} {Q : Unit → Shared → Prop} (I : Inv X pins σ H s) (hN : X.N.Nodup) (hi : X.N[i]? = some x) (hx : Loc X.env.scope x) (r : RelV v u)
    (h : ∀ s', Inv X pins (σ.set i (some v)) H s' → (∃ a, Heap.SameBut a s.heap s'.heap ∧ (a = X.env.locals ∨ X.env.cells.lookup x = some a)) → Q () s') (hf : X.fn x = true ∨ X.env.scope.names.lookup x = some .local := by first | exact .inl rfl | exact .inr rfl | assumption) : wpAny M A (storeName X.env x u) Q E s := by
  obtain ⟨m, hn, hl⟩ := id I.loc
  have hcls : (X.env.scope.kind == .class || (X.env.scope.kind == .module && X.env.locals != X.env.globals)) = false := by rw [I.ok.kind]; rfl
  have hiσ : i < σ.length := by rw [I.len]; exact (List.getElem?_eq_some_iff.mp hi).1
  have cne := I.cne
  have tracked : ∀ {a : Addr} {h' : Heap}, (∃ o, s.heap.get? a = some o ∧ H a = none) → Heap.SameBut a s.heap h' → HOk X.prog X.w H h' := fun {a h'} ha hs b ob e => by
    obtain ⟨_, _, hfree⟩ := ha
    refine (I.hok b ob e).stay (fun c w' hc q => (hs.2 c ?_).trans q) (fun _ q => q) fun _ _ q => q
    rintro rfl
    rcases hc with rfl | hc
    · rw [hfree] at e; cases e
    · rw [hfree] at hc; cases hc
  rcases hx with hk | hk
  · refine wpAny_storeName_local hk hn (fun h' hn' hs => ?_) hcls
    obtain ⟨oL, _, _, hoL, _⟩ := id hn
    refine h _ ⟨I.ok, I.os, I.bare, ⟨fun b o e n hb hx => ?_, fun b o e n hb hx => ?_, I.base.free, fun b o e hx => ?_, I.base.tups, I.base.frzs, I.base.tbls⟩, ⟨_, hn', fun j y v' e1 e2 e3 => ?_⟩, fun y c e => ?_, I.free, I.freeC, fun p hp => ?_, tracked ⟨oL, hoL, I.free⟩ hs, by simpa using I.len⟩ ⟨_, hs, .inl rfl⟩
    · exact (hs.2 b (Nat.ne_of_lt (Nat.lt_of_lt_of_le (Heap.lt_size e) I.ok.above))).trans (I.base.keep b o e n hb hx)
    · obtain ⟨sl, e1⟩ := I.base.slot b o e n hb hx
      exact ⟨sl, (hs.2 b (Nat.ne_of_lt (Nat.lt_of_lt_of_le (Heap.lt_size e) I.ok.above))).trans e1⟩
    · obtain ⟨o', e1⟩ := I.base.there b o e hx
      exact ⟨o', (hs.2 b (Nat.ne_of_lt (Nat.lt_of_lt_of_le (Heap.lt_size e) I.ok.above))).trans e1⟩
    · by_cases hj : j = i
      · subst hj
        rw [hi] at e1; cases e1
        rw [List.getElem?_set_self hiσ] at e2
        cases e2
        exact ⟨u, r, .inl ⟨hk, by simp⟩⟩
      · rw [List.getElem?_set_ne (Ne.symm hj)] at e2
        obtain ⟨u', r', q⟩ := hl j y v' e1 e2 e3
        refine ⟨u', r', ?_⟩
        rcases q with ⟨k, e⟩ | ⟨k, c, e, z⟩
        · refine .inl ⟨k, ?_⟩
          have : y ≠ x := fun e => hj (nodup_ix hN e1 (e ▸ hi))
          simp [this, e]
        · exact .inr ⟨k, c, e, z.sameBut hs (cne y c e)⟩
    · obtain ⟨w', z⟩ := I.cell y c e
      exact ⟨w', z.sameBut hs (cne y c e)⟩
    · obtain ⟨e, n, ne, nf, d⟩ := I.pin p hp
      exact ⟨(hs.2 p.1 ne).trans e, n, ne, nf, d⟩
  · have hfn : X.fn x = true := by
      rcases hf with z | z
      · exact z
      · rw [z] at hk; cases hk
    obtain ⟨c, hc⟩ := I.ok.has x (.inl hk)
    obtain ⟨w', z⟩ := I.cell x c hc
    refine wpAny_storeName_cell I.ok.kind hk hc z (fun h' hc' hs => ?_)
    obtain ⟨oc, hoc, hocd⟩ := id z
    refine h { s with heap := h' } ⟨I.ok, I.os, I.bare, ⟨fun b o e n hb hx => ?_, fun b o e n hb hx => ?_, I.base.free, fun b o e hx => ?_, I.base.tups, I.base.frzs, I.base.tbls⟩, ⟨m, hn.sameBut hs (Ne.symm (cne x c hc)), fun j y v' e1 e2 e3 => ?_⟩, fun y c' e => ?_, I.free, I.freeC, fun p hp => ?_, tracked ⟨oc, hoc, I.freeC x c hc⟩ hs, by simpa using I.len⟩ ⟨c, hs, .inr hc⟩
    · exact (hs.2 b (Nat.ne_of_lt (Nat.lt_of_lt_of_le (Heap.lt_size e) (I.ok.cab x c hfn hc)))).trans (I.base.keep b o e n hb hx)
    · obtain ⟨sl, e1⟩ := I.base.slot b o e n hb hx
      exact ⟨sl, (hs.2 b (Nat.ne_of_lt (Nat.lt_of_lt_of_le (Heap.lt_size e) (I.ok.cab x c hfn hc)))).trans e1⟩
    · obtain ⟨o', e1⟩ := I.base.there b o e hx
      exact ⟨o', (hs.2 b (Nat.ne_of_lt (Nat.lt_of_lt_of_le (Heap.lt_size e) (I.ok.cab x c hfn hc)))).trans e1⟩
    · by_cases hj : j = i
      · subst hj
        rw [hi] at e1; cases e1
        rw [List.getElem?_set_self hiσ] at e2
        cases e2
        exact ⟨u, r, .inr ⟨.inl hk, c, hc, hc'⟩⟩
      · rw [List.getElem?_set_ne (Ne.symm hj)] at e2
        obtain ⟨u', r', q⟩ := hl j y v' e1 e2 e3
        refine ⟨u', r', ?_⟩
        rcases q with q | ⟨k, c', e, z'⟩
        · exact .inl q
        · refine .inr ⟨k, c', e, z'.sameBut hs ?_⟩
          rintro rfl
          exact hj (nodup_ix hN e1 (I.ok.inj _ _ _ e hc ▸ hi))
    · by_cases hcc : c' = c
      · subst hcc; exact ⟨_, hc'⟩
      · obtain ⟨w2, z2⟩ := I.cell y c' e
        exact ⟨w2, z2.sameBut hs hcc⟩
    · obtain ⟨e, n, ne, nf, d⟩ := I.pin p hp
      refine ⟨(hs.2 p.1 ?_).trans e, n, ne, nf, d⟩
      intro q
      rw [q, hoc] at e
      have q' : oc = p.2 := Option.some.inj e
      exact d w' (by rw [← q']; exact hocd)
theorem store_ok {M : Model} {A : Around} {E : Value → Shared → Prop} {i : Nat} {x : Str} {v : V} {u : Value} {Q : Unit → Shared → Prop} (I : Inv X pins σ H s) (hN : X.N.Nodup) (hi : X.N[i]? = some x) (hx : Loc X.env.scope x) (r : RelV v u)
    (h : ∀ s', Inv X pins (σ.set i (some v)) H s' → Q () s') (hf : X.fn x = true ∨ X.env.scope.names.lookup x = some .local := by first | exact .inl rfl | exact .inr rfl | assumption) : wpAny M A (storeName X.env x u) Q E s :=
  store_ok2 I hN hi hx r (fun s' I' _ => h s' I') hf
/-- behind a call or a block, the state as it is -/
theorem Inv.call' {s' : Shared} {ch : List Addr} (I : Inv X pins σ H s) (ho : s'.os = s.os) (u : Un (frs X.stack) ch H H' s.heap s'.heap) (hok : HOk X.prog X.w H' s'.heap) (hg : AllBare s'.gens)
    (hch : ∀ b ∈ ch, (b ∈ X.ex ∨ X.s₀.heap.objs.size ≤ b) ∧ b ≠ X.env.locals ∧ (∀ x c, X.env.cells.lookup x = some c → c ≠ b) ∧ ∀ p ∈ X.pn ++ pins, p.1 ≠ b) : Inv X pins σ H' s' := by
  obtain ⟨h', g', d', t', o'⟩ := s'
  have e : o' = s.os := ho
  subst e
  exact I.call (g' := g') (t' := t') (d' := d') u hok hg hch
end

/-! ### the judgements -/
/-- an exception: its class, its own dict's address (where it has one), the abstract heap behind it -/
abbrev XK := Value → Option Addr → Hp → Prop
abbrev St := List (Option V)
abbrev VK := V → Hp → Prop
/-- an expression's reading; a test's; an argument list's -/
abbrev TE := St → Hp → VK → Prop
abbrev TT := St → Hp → (Bool → Hp → Prop) → Prop
abbrev TA := St → Hp → (List V → Hp → Prop) → Prop
/-- what is wanted behind a statement -/
structure Ends where
  nx : St → Hp → Prop
  rt : VK
  bk : St → Hp → Prop := fun _ _ => False
  ct : St → Hp → Prop := fun _ _ => False
abbrev TS := Ends → St → Hp → Prop

def EP (X : Cx) (pins : List (Addr × Obj)) (σ : St) (Q : VK) (u : Value) (s' : Shared) : Prop := ∃ v H', Inv X pins σ H' s' ∧ RelV v u ∧ Q v H'
def TP (X : Cx) (pins : List (Addr × Obj)) (σ : St) (Q : Bool → Hp → Prop) (b : Bool) (s' : Shared) : Prop := ∃ H', Inv X pins σ H' s' ∧ Q b H'
def AP (X : Cx) (pins : List (Addr × Obj)) (σ : St) (Q : List V → Hp → Prop) (us : List Value) (s' : Shared) : Prop := ∃ vs H', Inv X pins σ H' s' ∧ Vals vs us ∧ Q vs H'
def SP (X : Cx) (pins : List (Addr × Obj)) (D : Ends) (f : Flow) (s' : Shared) : Prop :=
  match f with
  | .next => ∃ σ' H', Inv X pins σ' H' s' ∧ D.nx σ' H'
  | .brk => ∃ σ' H', Inv X pins σ' H' s' ∧ D.bk σ' H'
  | .cont => ∃ σ' H', Inv X pins σ' H' s' ∧ D.ct σ' H'
  | .ret u => ∃ v σ' H', Inv X pins σ' H' s' ∧ RelV v u ∧ D.rt v H'

def PE (X : Cx) (e : Expr) (t : TE) : Prop :=
  ∀ (pins : List (Addr × Obj)) (s : Shared) (σ : St) (H : Hp) (Q : VK), Inv X pins σ H s → t σ H Q → wpAny (model X.prog X.w) X.A (eval e X.env) (EP X pins σ Q) X.xe s
def PT (X : Cx) (e : Expr) (t : TT) : Prop :=
  ∀ (pins : List (Addr × Obj)) (s : Shared) (σ : St) (H : Hp) (Q : Bool → Hp → Prop), Inv X pins σ H s → t σ H Q → wpAny (model X.prog X.w) X.A (isTrue e X.env (eval e X.env)) (TP X pins σ Q) X.xe s
/-- a test whatever its 'whole' is (and, or) -/
def PW (X : Cx) (e : Expr) (t : TT) : Prop :=
  ∀ (whole : Sem Value) (pins : List (Addr × Obj)) (s : Shared) (σ : St) (H : Hp) (Q : Bool → Hp → Prop), Inv X pins σ H s → t σ H Q → wpAny (model X.prog X.w) X.A (isTrue e X.env whole) (TP X pins σ Q) X.xe s
theorem PW.pt {X : Cx} {e : Expr} {t : TT} (h : PW X e t) : PT X e t := h _
/-- an argument list (no star), from the left -/
def PA (X : Cx) (es : List Expr) (t : TA) : Prop :=
  ∀ (pos : Pos) (pins : List (Addr × Obj)) (s : Shared) (σ : St) (H : Hp) (Q : List V → Hp → Prop), Inv X pins σ H s → t σ H Q → wpAny (model X.prog X.w) X.A (spliced (backTo pos (starEach es X.env))) (AP X pins σ Q) X.xe s
def PS (X : Cx) (st : Stmt) (t : TS) : Prop :=
  ∀ (pins : List (Addr × Obj)) (s : Shared) (σ : St) (H : Hp) (D : Ends), Inv X pins σ H s → t D σ H → wpAny (model X.prog X.w) X.A (exec st X.env) (SP X pins D) X.xe s
def PSs (X : Cx) (st : List Stmt) (t : TS) : Prop :=
  ∀ (pins : List (Addr × Obj)) (s : Shared) (σ : St) (H : Hp) (D : Ends), Inv X pins σ H s → t D σ H → wpAny (model X.prog X.w) X.A (execs st X.env) (SP X pins D) X.xe s
/-- weaken the end -/
theorem thn {α : Type} {t : Sem α} {Q Q' : α → Shared → Prop} {M : Model} {A : Around} {E : Value → Shared → Prop} {s : Shared} (h : wpAny M A t Q E s) (hQ : ∀ a s, Q a s → Q' a s) : wpAny M A t Q' E s := wpAny_mono h hQ fun _ _ x => x
end L2

namespace L2
open PySem PySem.Spec PyProof.Rows
section
variable {X : Cx}

/-! ### names and constants -/
def tVar (i : Nat) : TE := fun σ H Q => ∃ v, σ[i]? = some (some v) ∧ Q v H
def tC (v : V) : TE := fun _ H Q => Q v H
theorem pe_var {i : Nat} {x : Str} {pos : Pos} (hN : X.N[i]? = some x) (hv : Vis X.env.scope x) (hd : (x == ("__debug__" : Str)) = false := by decide) (hcd : (x == ("__classdict__" : Str)) = false := by decide) : PE X (.Name x pos) (tVar i) := by
  intro pins s σ H Q I h
  obtain ⟨v, e, h⟩ := h
  obtain ⟨m, hn, hl⟩ := I.loc
  obtain ⟨u, r, l⟩ := hl i x v hN e hv
  have fin : EP X pins σ Q u s := ⟨v, H, I, r, h⟩
  rcases l with ⟨hk, hm⟩ | ⟨hk, c, hc, hcell⟩
  · exact wpAny_Name (wpAny_loadName_local I.ok.kind hk hn hm fin) hd
  · rcases hk with hk | hk
    · exact wpAny_Name (wpAny_loadName_cell I.ok.kind hk hc hcell fin) hd
    · exact wpAny_Name (wpAny_loadName_free I.ok.kind hk hc hcell fin hcd) hd
theorem pe_int {i j pos} : PE X (.Constant (.int i) j pos) (tC (.int i)) := fun _ _ _ H _ I h => wpAny_Constant_int ⟨.int i, H, I.tok _, ⟨_, rfl⟩, h⟩
theorem pe_str {x j pos} : PE X (.Constant (.str x) j pos) (tC (.str x)) := fun _ _ _ H _ I h => Calls.Constant_str ⟨.str x, H, I.tok _, ⟨_, rfl⟩, h⟩

/-- a global name of the def -/
def Gl (X : Cx) (x : Str) : Prop := X.env.kindOf x = some .globalImplicit
theorem ld_glob {E : Value → Shared → Prop} {pins : List (Addr × Obj)} {s : Shared} {σ : St} {H : Hp} {x : Str} {u : Value} {pos : Pos} {Q : Value → Shared → Prop} (I : Inv X pins σ H s) (hg : Gl X x) (hm : X.mg x = some u) (h : Q u s)
    (hd : (x == ("__debug__" : Str)) = false := by decide) : wpAny (model X.prog X.w) X.A (eval (.Name x pos) X.env) Q E s :=
  Calls.Name_function_global I.ok.kind hg (Calls.loadGlobal_global (by rw [I.ok.glob]; exact I.mod.glob.keeps I.bk) hm h) hd
theorem ld_blt {E : Value → Shared → Prop} {pins : List (Addr × Obj)} {s : Shared} {σ : St} {H : Hp} {x : Str} {u : Value} {pos : Pos} {Q : Value → Shared → Prop} (I : Inv X pins σ H s) (hg : Gl X x) (hm : X.mg x = none) (hv : bootBuiltins x = some u) (h : Q u s)
    (hn : x ≠ "__name__" := by decide) (hd : (x == ("__debug__" : Str)) = false := by decide) : wpAny (model X.prog X.w) X.A (eval (.Name x pos) X.env) Q E s := by
  obtain ⟨mb, h1, h2⟩ := I.mod.blt
  exact Calls.Name_function_global I.ok.kind hg (Calls.loadGlobal_builtin (by rw [I.ok.glob]; exact I.mod.glob.keeps I.bk) hm (by rw [I.ok.blt]; exact h1.keeps I.bk) ((h2 x hn).trans hv) h) hd
/-- a module's constant, a class, a function, as a value -/
theorem pe_glob {x : Str} {v : V} {u : Value} {pos : Pos} (hg : Gl X x) (hm : X.mg x = some u) (r : RelV v u) (hd : (x == ("__debug__" : Str)) = false := by decide) : PE X (.Name x pos) (tC v) :=
  fun _ _ _ H _ I h => ld_glob I hg hm ⟨v, H, I, r, h⟩ hd
/-! ### arithmetic -/
/-- two ints -/
def t2I (ta tb : TE) (k : Int → Int → Hp → Prop) : St → Hp → Prop := fun σ H => ta σ H fun x H1 => tb σ H1 fun y H2 => ∃ i j, x = .int i ∧ y = .int j ∧ k i j H2
def tAdd (ta tb : TE) : TE := fun σ H Q => t2I ta tb (fun i j H2 => Q (.int (i + j)) H2) σ H
def tSub (ta tb : TE) : TE := fun σ H Q => t2I ta tb (fun i j H2 => Q (.int (i - j)) H2) σ H
/-- the left factor below 2^64 -/
def tMul (ta tb : TE) : TE := fun σ H Q => t2I ta tb (fun i j H2 => (-(2 ^ 64) < i ∧ i < 2 ^ 64) ∧ Q (.int (i * j)) H2) σ H
variable {a b : Expr} {ta tb : TE} {pos : Pos}
/-! ### comparisons -/
def PC (X : Cx) (op : CmpOp) (a b : Expr) (t : TE) : Prop :=
  ∀ (pins : List (Addr × Obj)) (s : Shared) (σ : St) (H : Hp) (Q : VK), Inv X pins σ H s → t σ H Q →
    wpAny (model X.prog X.w) X.A (eval a X.env) (fun v s₁ => wpAny (model X.prog X.w) X.A (eval b X.env) (fun u s₂ => wpAny (model X.prog X.w) X.A (compareOp op v u) (EP X pins σ Q) X.xe s₂) X.xe s₁) X.xe s
theorem nobehind (b : Expr) {op : CmpOp} (h : op ≠ .In) (h2 : op ≠ .NotIn) : behindInMarks op b = false := by
  have e1 : (op == CmpOp.In) = false := by cases op <;> first | rfl | exact absurd rfl h
  have e2 : (op == CmpOp.NotIn) = false := by cases op <;> first | rfl | exact absurd rfl h2
  cases b <;> simp [behindInMarks, e1, e2]
def tCmp (p : Int → Int → Bool) (ta tb : TE) : TE := fun σ H Q => t2I ta tb (fun i j H2 => Q (.bl (p i j)) H2) σ H
abbrev tLt : TE → TE → TE := tCmp fun i j => decide (i < j)
abbrev tLe : TE → TE → TE := tCmp fun i j => decide (i ≤ j)
abbrev tGt : TE → TE → TE := tCmp fun i j => decide (j < i)
abbrev tGe : TE → TE → TE := tCmp fun i j => decide (j ≤ i)
abbrev tEqI : TE → TE → TE := tCmp fun i j => decide (i = j)
abbrev tNeI : TE → TE → TE := tCmp fun i j => !decide (i = j)
/-- is None -/
def tIsN (ta : TE) : TE := fun σ H Q => ta σ H fun x H1 => Q (.bl (decide (x = .non))) H1
def tNotN (ta : TE) : TE := fun σ H Q => ta σ H fun x H1 => Q (.bl (!decide (x = .non))) H1
/-- a comparison as a value, as a test -/
def tB (t : TE) : TT := fun σ H Q => t σ H fun x H1 => ∃ c, x = .bl c ∧ Q c H1
theorem pt_cmp {op : CmpOp} {t : TE} (h : PC X op a b t) (h1 : behindInMarks op b = false := by first | exact nobehind _ (by decide) (by decide) | rfl) : PT X (.Compare a [op] [b] pos) (tB t) := by
  intro pins s σ H Q I hw
  refine wpAny_isTrue_Compare1 (thn (h pins s σ H _ I hw) fun v s1 h1 => thn h1 fun u s2 h2 => thn h2 fun c s3 ⟨x, H1, I1, r1, q1⟩ => ?_) h1
  obtain ⟨d, rfl, q⟩ := q1
  cases r1
  exact wpAny_truthy_bool ⟨H1, I1, q⟩
/-- an expression whose value is a bool, as a test -/
theorem pt_val {e : Expr} {t : TE} (h : PE X e t) (he : ∀ whole, isTrue e X.env whole = (do let v ← whole; standAt e.pos; holding [v] (truthy v)) := by intro _; rfl) : PT X e (tB t) := by
  intro pins s σ H Q I hw
  refine isTrue_plain (thn (h pins s σ H _ I hw) fun v s1 ⟨x, H1, I1, r1, q1⟩ => ?_) (he _)
  obtain ⟨d, rfl, q⟩ := q1
  cases r1
  exact wpAny_truthy_bool ⟨H1, I1, q⟩

/-! ### and, or, not -/
variable {tA tB' : TT} {rest : List Expr}
def tAnd (t u : TT) : TT := fun σ H Q => t σ H fun c H1 => if c = true then u σ H1 Q else Q false H1
def tOr (t u : TT) : TT := fun σ H Q => t σ H fun c H1 => if c = true then Q true H1 else u σ H1 Q
def tNot (t : TT) : TT := fun σ H Q => t σ H fun c H1 => Q (!c) H1
theorem pw_and1 (ha : PT X a tA) : PW X (.BoolOp .And [a] pos) tA := by
  intro wh pins s σ H Q I h
  refine isTrue_and (thn (ha pins s σ H Q I h) fun c s1 e => ?_)
  cases c with
  | true => exact isTrue_and_nil e
  | false => exact e
theorem pw_or1 (ha : PT X a tA) : PW X (.BoolOp .Or [a] pos) tA := by
  intro wh pins s σ H Q I h
  refine isTrue_or (thn (ha pins s σ H Q I h) fun c s1 e => ?_)
  cases c with
  | false => exact isTrue_or_nil e
  | true => exact e
theorem pw_and (ha : PT X a tA) (hb : PW X (.BoolOp .And (b :: rest) pos) tB') : PW X (.BoolOp .And (a :: b :: rest) pos) (tAnd tA tB') := by
  intro wh pins s σ H Q I h
  refine isTrue_and (thn (ha pins s σ H _ I h) fun c s1 ⟨H1, I1, q1⟩ => ?_)
  cases c with
  | true => exact hb wh pins s1 σ H1 Q I1 q1
  | false => exact ⟨H1, I1, q1⟩
theorem pw_or (ha : PT X a tA) (hb : PW X (.BoolOp .Or (b :: rest) pos) tB') : PW X (.BoolOp .Or (a :: b :: rest) pos) (tOr tA tB') := by
  intro wh pins s σ H Q I h
  refine isTrue_or (thn (ha pins s σ H _ I h) fun c s1 ⟨H1, I1, q1⟩ => ?_)
  cases c with
  | true => exact ⟨H1, I1, q1⟩
  | false => exact hb wh pins s1 σ H1 Q I1 q1
/-- .. as values (bools) -/
def tAndV (ta tb : TE) : TE := fun σ H Q => ta σ H fun x H1 => ∃ c, x = .bl c ∧ if c = true then tb σ H1 Q else Q (.bl false) H1
def tOrV (ta tb : TE) : TE := fun σ H Q => ta σ H fun x H1 => ∃ c, x = .bl c ∧ if c = true then Q (.bl true) H1 else tb σ H1 Q
def tNotV (ta : TE) : TE := fun σ H Q => ta σ H fun x H1 => ∃ c, x = .bl c ∧ Q (.bl (!c)) H1
theorem pe_one {op} {t : TE} (h : PE X a t) : PE X (.BoolOp op [a] pos) t := fun pins s σ H Q I hw => BoolOp_one (h pins s σ H Q I hw)
theorem pe_and (ha : PE X a ta) (hb : PE X (.BoolOp .And (b :: rest) pos) tb) : PE X (.BoolOp .And (a :: b :: rest) pos) (tAndV ta tb) := by
  intro pins s σ H Q I h
  refine BoolOp_and (thn (ha pins s σ H _ I h) fun v s1 ⟨x, H1, I1, r1, q1⟩ => ?_)
  obtain ⟨c, rfl, q1⟩ := q1
  cases r1
  refine wpAny_truthy_bool ?_
  cases c with
  | true => exact hb pins s1 σ H1 Q I1 q1
  | false => exact ⟨.bl false, H1, I1, rfl, q1⟩
/-- a if t else b -/
def tIf (t : TT) (ta tb : TE) : TE := fun σ H Q => t σ H fun c H1 => if c = true then ta σ H1 Q else tb σ H1 Q
end
end L2

namespace L2
open PySem PySem.Spec PyProof.Rows

/-! ### a list, a tuple that is read: tracked, frozen, or an object of the module -/
def SqL (K : PySem.W.Frag) (H : Hp) (a : Addr) (xs : List V) : Prop :=
  Rd H a (.lst xs) ∨
    ∃ (o : Obj) (its : Array Value) (n : Nat), K.lookup a = some o ∧ o.cls = .type "list" ∧ o.dict = none ∧ o.data = .seq its n ∧ its.size ≤ sizeLine ∧ Vals xs its.toList
def SqT (K : PySem.W.Frag) (H : Hp) (a : Addr) (xs : List V) : Prop :=
  Rd H a (.tup xs) ∨
    ∃ (o : Obj) (its : Array Value) (n : Nat), K.lookup a = some o ∧ o.cls = .type "tuple" ∧ o.data = .seq its n ∧ its.size ≤ sizeLine ∧ Vals xs its.toList
def absV : Value → Option V
  | .none => some .non
  | .bool b => some (.bl b)
  | .int i _ => some (.int i)
  | .str x _ => some (.str x)
  | .bytes b _ => some (.byt b)
  | .float b _ => some (.flt b)
  | .ref a => some (.ref a)
  | .type n => some (.ty n)
  | _ => none
theorem RelV.abs {x : V} {u : Value} (r : RelV x u) : absV u = some x := by
  cases x with
  | non => cases r; rfl
  | bl _ => cases r; rfl
  | int _ => obtain ⟨t, rfl⟩ := r; rfl
  | str _ => obtain ⟨t, rfl⟩ := r; rfl
  | byt _ => obtain ⟨t, rfl⟩ := r; rfl
  | flt _ => obtain ⟨t, rfl⟩ := r; rfl
  | ref _ => cases r; rfl
  | ty _ => cases r; rfl
theorem RelV.inj {x y : V} {u : Value} (r : RelV x u) (q : RelV y u) : x = y := Option.some.inj (r.abs.symm.trans q.abs)
theorem Vals.inj : ∀ {xs ys : List V} {us : List Value}, Vals xs us → Vals ys us → xs = ys
  | _, _, _, .nil, .nil => rfl
  | _, _, _, .cons r t, .cons r' t' => by rw [r.inj r', Vals.inj t t']
section
variable {X : Cx} {pins : List (Addr × Obj)} {σ : St} {H : Hp} {s : Shared} {a : Addr} {xs ys : List V}
theorem SqL.of {K : PySem.W.Frag} (h : H a = some (.lst xs)) : SqL K H a xs := .inl (.inl h)
theorem SqT.of {K : PySem.W.Frag} (h : H a = some (.tup xs)) : SqT K H a xs := .inl (.inl h)
theorem Inv.list (I : Inv X pins σ H s) (h : SqL X.K H a xs) : ∃ its : List Value, Vals xs its ∧ PlainL s.heap a its.toArray ∧ xs.length ≤ sizeLine := by
  rcases h with h | ⟨o, its, n, hk, hc, hd, hs, hz, r⟩
  · obtain ⟨z, its, n, r, e⟩ := h.ok I.hok
    exact ⟨its, r, ⟨_, n, e, rfl, rfl, rfl⟩, z⟩
  · refine ⟨its.toList, r, ⟨o, n, I.kIn a o hk, hc, hd, by simpa using hs⟩, ?_⟩
    have e := r.length
    simp only [Array.length_toList] at e
    omega
theorem Inv.tuple (I : Inv X pins σ H s) (h : SqT X.K H a xs) : ∃ its : List Value, Vals xs its ∧ IsTup s.heap a its.toArray ∧ xs.length ≤ sizeLine := by
  rcases h with h | ⟨o, its, n, hk, hc, hs, hz, r⟩
  · obtain ⟨z, its, r, o, e, c, n, d, _⟩ := h.ok I.hok
    exact ⟨its, r, ⟨o, e, c, n, d⟩, z⟩
  · refine ⟨its.toList, r, ⟨o, I.kIn a o hk, hc, n, by simpa using hs⟩, ?_⟩
    have e := r.length
    simp only [Array.length_toList] at e
    omega
theorem Inv.list_inj (I : Inv X pins σ H s) (h : SqL X.K H a xs) (h' : SqL X.K H a ys) : xs = ys := by
  obtain ⟨its, r, ⟨o, n, e, _, _, d⟩, _⟩ := I.list h
  obtain ⟨its', r', ⟨o', n', e', _, _, d'⟩, _⟩ := I.list h'
  rw [e] at e'; cases e'
  rw [d] at d'
  injection d' with d1 _
  have : its = its' := by simpa using congrArg Array.toList d1
  subst this
  exact r.inj r'
theorem Inv.tuple_inj (I : Inv X pins σ H s) (h : SqT X.K H a xs) (h' : SqT X.K H a ys) : xs = ys := by
  obtain ⟨its, r, ⟨o, e, _, n, d⟩, _⟩ := I.tuple h
  obtain ⟨its', r', ⟨o', e', _, n', d'⟩, _⟩ := I.tuple h'
  rw [e] at e'; cases e'
  rw [d] at d'
  injection d' with d1 _
  have : its = its' := by simpa using congrArg Array.toList d1
  subst this
  exact r.inj r'
end

/-! ### another wish about exceptions -/
abbrev Cx.wish (X : Cx) (E : Value → Shared → Prop) : Cx := { X with xe := E }
/-- no exception leaves -/
abbrev Cx.nox (X : Cx) : Cx := X.wish fun _ _ => False
theorem Cx.Ok.wish {X : Cx} (ok : X.Ok) (E : Value → Shared → Prop) : (X.wish E).Ok :=
  ⟨ok.mod, ok.kind, ok.glob, ok.blt, ok.above, ok.inj, ok.has, ok.cab, ok.hd, ok.frames, ok.stk, ok.exf, ok.bs, ok.bsz, ok.noex, ok.exfs, ok.funs, ok.frf⟩
theorem Cx.Ok.unwish {X : Cx} {E : Value → Shared → Prop} (ok : (X.wish E).Ok) : X.Ok :=
  ⟨ok.mod, ok.kind, ok.glob, ok.blt, ok.above, ok.inj, ok.has, ok.cab, ok.hd, ok.frames, ok.stk, ok.exf, ok.bs, ok.bsz, ok.noex, ok.exfs, ok.funs, ok.frf⟩
section
variable {X : Cx} {pins : List (Addr × Obj)} {σ : St} {H : Hp} {s : Shared} {E : Value → Shared → Prop}
theorem Inv.wish (I : Inv X pins σ H s) (E : Value → Shared → Prop) : Inv (X.wish E) pins σ H s := ⟨I.ok.wish E, I.os, I.bare, I.base, I.loc, I.cell, I.free, I.freeC, I.pin, I.hok, I.len⟩
theorem Inv.unwish (I : Inv (X.wish E) pins σ H s) : Inv X pins σ H s := ⟨I.ok.unwish, I.os, I.bare, I.base, I.loc, I.cell, I.free, I.freeC, I.pin, I.hok, I.len⟩
theorem SP.unwish {D : Ends} {f : Flow} {s' : Shared} (h : SP (X.wish E) pins D f s') : SP X pins D f s' := by
  cases f with
  | next => obtain ⟨σ', H', I, q⟩ := h; exact ⟨σ', H', I.unwish, q⟩
  | brk => obtain ⟨σ', H', I, q⟩ := h; exact ⟨σ', H', I.unwish, q⟩
  | cont => obtain ⟨σ', H', I, q⟩ := h; exact ⟨σ', H', I.unwish, q⟩
  | ret u => obtain ⟨v, σ', H', I, r, q⟩ := h; exact ⟨v, σ', H', I.unwish, r, q⟩
theorem PE.nox {e : Expr} {t : TE} (h : PE X.nox e t) : PE X e t := fun pins s σ H Q I hw =>
  wpAny_mono (h pins s σ H Q (I.wish _) hw) (fun _ _ ⟨v, H', I', r, q⟩ => ⟨v, H', I'.unwish, r, q⟩) fun _ _ z => False.elim z
theorem PT.nox {e : Expr} {t : TT} (h : PT X.nox e t) : PT X e t := fun pins s σ H Q I hw =>
  wpAny_mono (h pins s σ H Q (I.wish _) hw) (fun _ _ ⟨H', I', q⟩ => ⟨H', I'.unwish, q⟩) fun _ _ z => False.elim z
theorem PSs.nox {st : List Stmt} {t : TS} (h : PSs X.nox st t) : PSs X st t := fun pins s σ H D I hw =>
  wpAny_mono (h pins s σ H D (I.wish _) hw) (fun _ _ q => q.unwish) fun _ _ z => False.elim z
end

/-! ### blocks and small statements -/
section
variable {X : Cx} {st : Stmt} {rest : List Stmt} {t u : TS} {e : Expr} {te : TE} {pos : Pos}
def tNext : TS := fun D σ H => D.nx σ H
def tSeq (t u : TS) : TS := fun D σ H => t { D with nx := u D } σ H
theorem pss_nil : PSs X [] tNext := fun _ _ σ H _ I h => wpAny_execs_nil ⟨σ, H, I, h⟩
theorem pss_cons (h1 : PS X st t) (h2 : PSs X rest u) : PSs X (st :: rest) (tSeq t u) := by
  intro pins s σ H D I h
  refine wpAny_execs_cons (thn (h1 pins s σ H { D with nx := u D } I h) fun f s1 q => ?_)
  cases f with
  | next =>
    obtain ⟨σ', H', I', q⟩ := q
    exact h2 pins s1 σ' H' D I' q
  | ret v => exact q
  | brk => exact q
  | cont => exact q
theorem pss_one (h1 : PS X st t) : PSs X [st] t := by
  intro pins s σ H D I h
  refine wpAny_execs_cons (thn (h1 pins s σ H D I h) fun f s1 q => ?_)
  cases f with
  | next => exact wpAny_execs_nil q
  | ret v => exact q
  | brk => exact q
  | cont => exact q
def tBreak : TS := fun D σ H => D.bk σ H
def tCont : TS := fun D σ H => D.ct σ H
/-- in a def's body nothing is shown -/
theorem Inv.quiet {pins : List (Addr × Obj)} {σ : St} {H : Hp} {s : Shared} (I : Inv X pins σ H s) : interactive X.env = false := by simp [interactive, I.ok.kind]
/-- an expression whose value is dropped -/
def tDrop (te : TE) : TS := fun D σ H => te σ H fun _ H1 => D.nx σ H1
theorem ps_expr (he : PE X e te) (hs : swapsWith e none pos.line X.env = pure false := by rfl) : PS X (.Expr e pos) (tDrop te) := by
  intro pins s σ H D I h
  exact wpAny_Expr_any (thn (he pins s σ H _ I h) fun v s1 ⟨x, H1, I1, r1, q1⟩ => ⟨σ, H1, I1, q1⟩) I.quiet hs
def tRet (te : TE) : TS := fun D σ H => te σ H D.rt
theorem ps_ret (he : PE X e te) : PS X (.Return (some e) pos) (tRet te) := by
  intro pins s σ H D I h
  exact wpAny_Return_some (thn (he pins s σ H _ I h) fun v s1 ⟨x, H1, I1, r1, q1⟩ => ⟨x, σ, H1, I1, r1, q1⟩)
def tRetN : TS := fun D _ H => D.rt .non H
def tIfS (c : TT) (t u : TS) : TS := fun D σ H => c σ H fun b H1 => if b = true then t D σ H1 else u D σ H1
theorem ps_if {c : Expr} {a b : List Stmt} {tc : TT} (hc : PT X c tc) (ha : PSs X a t) (hb : PSs X b u) : PS X (.If c a b pos) (tIfS tc t u) := by
  intro pins s σ H D I h
  refine wpAny_If (thn (hc pins s σ H _ I h) fun d s1 ⟨H1, I1, q1⟩ => ?_)
  cases d with
  | true => exact ha pins s1 σ H1 D I1 q1
  | false => exact hb pins s1 σ H1 D I1 q1
/-- code that the proof never comes to -/
def tNever : TS := fun _ _ _ => False
end

/-! ### targets -/
abbrev TG := V → St → Hp → (St → Hp → Prop) → Prop
abbrev TGs := List V → St → Hp → (St → Hp → Prop) → Prop
def PG (X : Cx) (target : Expr) (t : TG) : Prop :=
  ∀ (pins : List (Addr × Obj)) (s : Shared) (σ : St) (H : Hp) (v : V) (u : Value) (Q : St → Hp → Prop), Inv X pins σ H s → RelV v u → t v σ H Q →
    wpAny (model X.prog X.w) X.A (assign target X.env u) (fun _ s' => ∃ σ' H', Inv X pins σ' H' s' ∧ Q σ' H') X.xe s
/-- several targets, one after another -/
def PGs (X : Cx) (ts : List Expr) (t : TGs) : Prop :=
  ∀ (pins : List (Addr × Obj)) (s : Shared) (σ : St) (H : Hp) (vs : List V) (us : List Value) (Q : St → Hp → Prop), Inv X pins σ H s → Vals vs us → t vs σ H Q →
    wpAny (model X.prog X.w) X.A (assignInOrder ((assignEach ts X.env).map (·.2)) us) (fun _ s' => ∃ σ' H', Inv X pins σ' H' s' ∧ Q σ' H') X.xe s
/-- o[i] = v, by values -/
abbrev TSet := V → V → V → Hp → (Hp → Prop) → Prop
def PSet (X : Cx) (t : TSet) : Prop :=
  ∀ (pins : List (Addr × Obj)) (s : Shared) (σ : St) (H : Hp) (o i v : V) (ov iv u : Value) (Q : Hp → Prop), Inv X pins σ H s → RelV o ov → RelV i iv → RelV v u → t o i v H Q →
    wpAny (model X.prog X.w) X.A (setItem ov iv u) (fun _ s' => ∃ H', Inv X pins σ H' s' ∧ Q H') X.xe s
/-- a op= b, by values -/
abbrev TIp := V → V → Hp → VK → Prop
def PIp (X : Cx) (op : Operator) (t : TIp) : Prop :=
  ∀ (pins : List (Addr × Obj)) (s : Shared) (σ : St) (H : Hp) (x y : V) (v u : Value) (Q : VK), Inv X pins σ H s → RelV x v → RelV y u → t x y H Q →
    wpAny (model X.prog X.w) X.A (inplaceOp op v u) (EP X pins σ Q) X.xe s
section
variable {X : Cx} {pos : Pos}
def gName (i : Nat) : TG := fun v σ H Q => Q (σ.set i (some v)) H
theorem pg_name {i : Nat} {x : Str} (hN : X.N.Nodup) (hi : X.N[i]? = some x) (hx : Loc X.env.scope x) (hf : X.fn x = true ∨ X.env.scope.names.lookup x = some .local := by first | exact .inl rfl | exact .inr rfl | assumption) : PG X (.Name x pos) (gName i) := by
  intro pins s σ H v u Q I r h
  exact wpAny_assign_Name (store_ok I hN hi hx r (fun s' I' => ⟨_, H, I', h⟩) hf)
def gNil : TGs := fun vs σ H Q => vs = [] ∧ Q σ H
def gCons (t : TG) (u : TGs) : TGs := fun vs σ H Q => ∃ v r, vs = v :: r ∧ t v σ H fun σ' H' => u r σ' H' Q
theorem pgs_nil : PGs X [] gNil := by
  intro pins s σ H vs us Q I r h
  obtain ⟨e, h⟩ := h
  subst e
  cases r
  exact assignInOrder_nil ⟨σ, H, I, h⟩
theorem pgs_cons {e : Expr} {es : List Expr} {t : TG} {u : TGs} (h1 : PG X e t) (h2 : PGs X es u)
    (hs : (assignEach (e :: es) X.env).map (·.2) = assign e X.env :: (assignEach es X.env).map (·.2) := by rfl) : PGs X (e :: es) (gCons t u) := by
  intro pins s σ H vs us Q I r h
  obtain ⟨v, vr, e1, h⟩ := h
  subst e1
  cases r with
  | cons r rr =>
    rw [hs]
    refine assignInOrder_cons (thn (h1 pins s σ H _ _ _ I r h) fun _ s1 ⟨σ1, H1, I1, q1⟩ => ?_)
    exact h2 pins s1 σ1 H1 _ _ Q I1 rr q1
/-- (a, b, ..) = a tuple of that length -/
def gTup (K : PySem.W.Frag) (n : Nat) (t : TGs) : TG := fun v σ H Q => ∃ a xs, v = .ref a ∧ SqT K H a xs ∧ xs.length = n ∧ t xs σ H Q
theorem pg_tup {es : List Expr} {k : Nat} {t : TGs} {n : Nat} (hc : X.calm = true) (h : PGs X es t)
    (hn : (assignEach es X.env).length = n := by rfl) (hst : (assignEach es X.env).findIdx? (·.1) = none := by rfl) : PG X (.Tuple es k pos) (gTup X.K n t) := by
  intro pins s σ H v u Q I r hw
  obtain ⟨a, xs, e1, hq, hl, hw⟩ := hw
  subst e1
  cases r
  obtain ⟨its, rv, ht, hz⟩ := I.tuple hq
  refine assign_Tuple_tuple (I.ok.hd hc) ht (by simp [hn, ← hl, rv.length]) hst fun h' hx => ?_
  have I1 : Inv X pins σ H { s with heap := h' } := I.kept (t' := s.toks) fun b o e => hx b o (Nat.ne_of_lt (Heap.lt_size e)) e
  exact h pins _ σ H xs _ Q I1 (by simpa using rv) hw
/-- o[i] = .. -/
def gSub (to ti : TE) (t : TSet) : TG := fun v σ H Q => to σ H fun o H1 => ti σ H1 fun i H2 => t o i v H2 fun H3 => Q σ H3
theorem pg_sub {o i : Expr} {to ti : TE} {t : TSet} (ho : PE X o to) (hi : PE X i ti) (hs : PSet X t)
    (ha : ∀ v, assign (.Subscript o i pos) X.env v = (do
      let ov ← holding [v] (eval o X.env)
      let iv ← holding [v, ov] (eval i X.env)
      standAt pos
      holding [v, ov, iv] (setItem ov iv v)
      release [v, ov, iv] []) := by intro _; rfl) : PG X (.Subscript o i pos) (gSub to ti t) := by
  intro pins s σ H v u Q I r h
  rw [ha]
  refine wpAny_bind (wpAny_holding (thn (ho pins s σ H _ I h) fun ov s1 ⟨x, H1, I1, r1, q1⟩ => ?_))
  refine wpAny_bind (wpAny_holding (thn (hi pins s1 σ H1 _ I1 q1) fun iv s2 ⟨y, H2, I2, r2, q2⟩ => ?_))
  refine wpAny_bind (wpAny_standAt (wpAny_bind (wpAny_holding (thn (hs pins s2 σ H2 x y v ov iv u _ I2 r1 r2 r q2) fun _ s3 ⟨H3, I3, q3⟩ => ?_))))
  exact wpAny_release ⟨σ, H3, I3, q3⟩
/-- target = value -/
def tAsg (te : TE) (g : TG) : TS := fun D σ H => te σ H fun x H1 => g x σ H1 D.nx
theorem ps_asg {tg e : Expr} {te : TE} {g : TG} (he : PE X e te) (hg : PG X tg g) (hs : swapsWithSole [tg] e pos.line X.env = pure false := by rfl) (hw : swappedStores [tg] e X.env = pure none := by rfl)
    (h1 : (assignEach [tg] X.env).map (·.2) = [assign tg X.env] := by rfl) : PS X (.Assign [tg] e pos) (tAsg te g) := by
  intro pins s σ H D I h
  refine wpAny_Assign_stores (thn (he pins s σ H _ I h) fun v s1 ⟨x, H1, I1, r1, q1⟩ => ?_) hs hw
  rw [h1]
  exact thn (hg pins s1 σ H1 x v _ I1 r1 q1) fun _ s2 q => q
/-- name = value -/
theorem ps_set {i : Nat} {x : Str} {e : Expr} {te : TE} {pos' : Pos} (hN : X.N.Nodup) (hi : X.N[i]? = some x) (hx : Loc X.env.scope x) (he : PE X e te) (hs : swapsWith e (some (.Name x pos')) pos.line X.env = pure false := by rfl) (hf : X.fn x = true ∨ X.env.scope.names.lookup x = some .local := by first | exact .inl rfl | exact .inr rfl | assumption) :
    PS X (.Assign [.Name x pos'] e pos) (tAsg te (gName i)) := by
  intro pins s σ H D I h
  refine wpAny_Assign_Name (thn (he pins s σ H _ I h) fun v s1 ⟨y, H1, I1, r1, q1⟩ => ?_) hs
  exact store_ok I1 hN hi hx r1 (fun s2 I2 => ⟨_, H1, I2, q1⟩) hf
/-- a, b = x, y with plain local names: stored from the right; the pair itself is not tracked (the opening rows as in PyProof/Rows/TupAssign.lean:23) -/
def tPar (i j : Nat) (ta : TA) : TS := fun D σ H => ta σ H fun vs H1 => ∃ v w, vs = [v, w] ∧ D.nx ((σ.set i (some v)).set j (some w)) H1
/-- name op= e -/
def tAug (i : Nat) (te : TE) (ti : TIp) : TS := fun D σ H => ∃ x, σ[i]? = some (some x) ∧ te σ H fun y H1 => ti x y H1 fun z H2 => D.nx (σ.set i (some z)) H2
/-- o[i] op= e -/
def tAugS (to ti te : TE) (tget : V → V → Hp → VK → Prop) (tip : TIp) (tset : TSet) : TS := fun D σ H => to σ H fun o H1 => ti σ H1 fun i H2 => tget o i H2 fun x H3 => te σ H3 fun y H4 => tip x y H4 fun z H5 => tset o i z H5 fun H6 => D.nx σ H6
/-- o[i], by values -/
def PGet (X : Cx) (t : V → V → Hp → VK → Prop) : Prop :=
  ∀ (pins : List (Addr × Obj)) (s : Shared) (σ : St) (H : Hp) (o i : V) (ov iv : Value) (Q : VK), Inv X pins σ H s → RelV o ov → RelV i iv → t o i H Q →
    wpAny (model X.prog X.w) X.A (getItem ov iv) (EP X pins σ Q) X.xe s
/-- ints -/
def ipI (f : Int → Int → Int) : TIp := fun x y H Q => ∃ i j, x = .int i ∧ y = .int j ∧ Q (.int (f i j)) H
end

/-! ### while -/
section
variable {X : Cx} {pos : Pos}
/-- the invariant W with its measure -/
def tWhile (c : TT) (tb : TS) : TS := fun D σ H => ∃ W : Nat → St → Hp → Prop, (∃ m, W m σ H) ∧ ∀ m σ H, W m σ H →
  c σ H fun b H1 => if b = true then ∃ N : St → Hp → Prop, (∀ σ' H', N σ' H' → ∃ m', m' < m ∧ W m' σ' H') ∧ tb { D with nx := N, ct := N, bk := D.nx } σ H1 else D.nx σ H1
theorem ps_while {c : Expr} {body : List Stmt} {tc : TT} {tb : TS} (hp : PassesOwn (model X.prog X.w) X.A X.env X.xe) (hc : PT X c tc) (hb : PSs X body tb) : PS X (.While c body [] pos) (tWhile tc tb) := by
  intro pins s σ H D I h
  obtain ⟨W, ⟨m0, w0⟩, turn⟩ := h
  refine wpAny_While (codeAny_whileLoop (fun n s' => ∃ σ' H', Inv X pins σ' H' s' ∧ W n σ' H') ?_ m0 ⟨σ, H, I, w0⟩)
  rintro n s1 ⟨σ1, H1, I1, w1⟩
  refine wpAny_passesOwn hp (thn (hc pins s1 σ1 H1 _ I1 (turn n σ1 H1 w1)) fun b s2 ⟨H2, I2, q2⟩ => ?_)
  cases b with
  | true =>
    obtain ⟨N, hN, q2⟩ := q2
    rw [if_pos rfl]
    refine wpAny_passesOwn hp (thn (hb pins s2 σ1 H2 _ I2 q2) fun f s3 q3 => ?_)
    cases f with
    | next =>
      obtain ⟨σ3, H3, I3, n3⟩ := q3
      obtain ⟨m', hm, w3⟩ := hN σ3 H3 n3
      exact ⟨m', hm, σ3, H3, I3, w3⟩
    | cont =>
      obtain ⟨σ3, H3, I3, n3⟩ := q3
      obtain ⟨m', hm, w3⟩ := hN σ3 H3 n3
      exact ⟨m', hm, σ3, H3, I3, w3⟩
    | brk => exact q3
    | ret v => exact q3
  | false =>
    rw [if_neg Bool.false_ne_true]
    exact wpAny_execs_nil ⟨σ1, H2, I2, q2⟩
end

/-! ### what a loop or a comprehension walks -/
/-- at turn i: it yields x (the heap may grow), or it stops -/
structure It where
  go : Nat → Hp → Prop
  yld : Nat → Hp → V → Hp → Prop
  stop : Nat → Hp → Prop
/-- the iterator's own objects may turn: they are not the frame's, not pinned, younger than the entry (or a comprehension's own) -/
def FpOk (X : Cx) (pins : List (Addr × Obj)) (H : Hp) (b : Addr) : Prop :=
  H b = none ∧ b ≠ X.env.locals ∧ b ∉ X.fs ∧ (b ∈ X.ex ∨ X.s₀.heap.objs.size ≤ b) ∧ (∀ x c, X.env.cells.lookup x = some c → c ≠ b) ∧ ∀ p ∈ X.pn ++ pins, p.1 ≠ b
theorem Inv.fpOk {X : Cx} {pins : List (Addr × Obj)} {σ : St} {H H' : Hp} {s : Shared} {b : Addr} (I : Inv X pins σ H s) (hb : s.heap.objs.size ≤ b) (hn : H' b = none) : FpOk X pins H' b := by
  refine ⟨hn, Nat.ne_of_gt (Nat.lt_of_lt_of_le I.lt hb), I.nofs hb, .inr (Nat.le_trans I.sz hb), fun x c e z => ?_, fun p hp z => ?_⟩
  · obtain ⟨v, q⟩ := I.cell x c e
    exact absurd (Nat.lt_of_lt_of_le q.lt (by rw [z]; exact hb)) (Nat.lt_irrefl _)
  · exact absurd (Nat.lt_of_lt_of_le (Heap.lt_size (I.pin p hp).1) (by rw [z]; exact hb)) (Nat.lt_irrefl _)
structure Turn (P : Program) (w : World) (K : PySem.W.Frag) (tg : Expr) (J : It) (fp : List Addr) (it : Addr) (tn : Nat → Heap → Prop) : Prop where
  mem : it ∈ fp
  obj : ∀ i h, tn i h → ∀ b ∈ fp, ∃ o, h.get? b = some o ∧ ∀ v, o.data ≠ .cell v
  keep : ∀ i h h', tn i h → (∀ b ∈ fp, ∀ o, h.get? b = some o → h'.get? b = some o) → tn i h'
  item : ∀ (X : Cx), X.prog = P → X.w = w → X.K = K → X.calm = true → ∀ (i : Nat) (pins : List (Addr × Obj)) (s : Shared) (σ : St) (H : Hp) (E : Value → Shared → Prop), Inv X pins σ H s → (∀ b ∈ fp, FpOk X pins H b) → tn i s.heap → J.go i H →
    wpAny (model P w) X.A (pyNext (.ref it)) (fun r s1 => ∃ u, r = some u ∧
      wpAny (model P w) X.A (letOwnedTupleGo tg (.ref it) u) (fun _ s2 => ∃ x H', Inv X pins σ H' s2 ∧ RelV x u ∧ J.yld i H x H' ∧ tn (i + 1) s2.heap ∧ ∀ b ∈ fp, H' b = none) E s1) E s
  done : ∀ (X : Cx), X.prog = P → X.w = w → X.K = K → X.calm = true → ∀ (i : Nat) (pins : List (Addr × Obj)) (s : Shared) (σ : St) (H : Hp) (E : Value → Shared → Prop), Inv X pins σ H s → (∀ b ∈ fp, FpOk X pins H b) → tn i s.heap → J.stop i H →
    wpAny (model P w) X.A (pyNext (.ref it)) (fun r s1 => r = none ∧ Inv X pins σ H s1) E s
  self : ∀ (A : Around) (i : Nat) (s : Shared) (Q : Value → Shared → Prop) (E : Value → Shared → Prop), tn i s.heap → Q (.ref it) s → wpAny (model P w) A (pyIter (.ref it)) Q E s
abbrev TI := St → Hp → (It → Hp → Prop) → Prop
/-- an iterator has come -/
def PIE (X : Cx) (pins : List (Addr × Obj)) (σ : St) (tg : Expr) (R : It → Hp → Prop) (itv : Value) (s2 : Shared) : Prop :=
  ∃ (it : Addr) (fp : List Addr) (tn : Nat → Heap → Prop) (J : It) (H' : Hp), itv = .ref it ∧ Inv X pins σ H' s2 ∧ Turn X.prog X.w X.K tg J fp it tn ∧ tn 0 s2.heap ∧ (∀ b ∈ fp, FpOk X pins H' b) ∧ R J H'
def PI (X : Cx) (tg iter : Expr) (wi : TI) : Prop :=
  ∀ (pins : List (Addr × Obj)) (s : Shared) (σ : St) (H : Hp) (R : It → Hp → Prop), Inv X pins σ H s → wi σ H R →
    wpAny (model X.prog X.w) X.A (eval iter X.env) (fun v s1 => wpAny (model X.prog X.w) X.A (pyIter v) (PIE X pins σ tg R) X.xe s1) X.xe s

/-- the step ahead of the store is nothing for an iterator that keeps no tuple -/
theorem go_of {M : Model} {A : Around} {E : Value → Shared → Prop} {s : Shared} {tg : Expr} {it : Addr} {u : Value} {o : Obj} {n : String} {vs : Array Value} {Q : Unit → Shared → Prop} (ho : s.heap.get? it = some o) (hc : o.cls = .type n) (hd : o.data = .fields vs)
    (hn : ["enumerate", "zip", "dict_itemiterator", "dict_reverseitemiterator", "odict_iterator", "itertools.zip_longest", "itertools.pairwise"].contains n = false) (hQ : Q () s) : wpAny M A (letOwnedTupleGo tg (.ref it) u) Q E s := by
  unfold letOwnedTupleGo
  cases tg <;> first
    | exact wpAny_pure hQ
    | (cases u <;> first
        | exact wpAny_pure hQ
        | (refine wpAny_bind (wpAny_load ho ?_)
           rw [hc, hd]
           show wpAny M A (if (["enumerate", "zip", "dict_itemiterator", "dict_reverseitemiterator", "odict_iterator", "itertools.zip_longest", "itertools.pairwise"].contains n && vs[0]? == some (rawInt _)) = true then _ else _) Q E s
           rw [if_neg (by intro h; rw [hn, Bool.false_and] at h; cases h)]
           exact wpAny_pure hQ))

/-- the list at a, as it stands at each turn (a loop may append to it) -/
def Itl (K : PySem.W.Frag) (a : Addr) : It :=
  ⟨fun i H => ∃ xs x, SqL K H a xs ∧ xs[i]? = some x, fun i H x H' => H' = H ∧ ∀ xs, SqL K H a xs → xs[i]? = some x, fun i H => ∃ xs, SqL K H a xs ∧ xs.length ≤ i⟩
def Itt (K : PySem.W.Frag) (a : Addr) : It :=
  ⟨fun i H => ∃ xs x, SqT K H a xs ∧ xs[i]? = some x, fun i H x H' => H' = H ∧ ∀ xs, SqT K H a xs → xs[i]? = some x, fun i H => ∃ xs, SqT K H a xs ∧ xs.length ≤ i⟩
/-- lo, lo + 1, .. (n of them) -/
def Itr (lo : Int) (n : Nat) : It := ⟨fun i _ => i < n, fun i H x H' => H' = H ∧ x = .int (lo + i), fun i _ => n ≤ i⟩
theorem turn_list {P : Program} {w : World} {K : PySem.W.Frag} {tg : Expr} (a it : Addr) : Turn P w K tg (Itl K a) [it] it (fun i h => h.IsListIter it a i) where
  mem := by simp
  obj := fun i h st b hb => by
    have e : b = it := by simpa using hb
    subst e
    obtain ⟨o, e, c, d⟩ := st
    exact ⟨o, e, fun v z => by rw [d] at z; cases z⟩
  keep := fun i h h' st k => st.at fun o e => k it (by simp) o e
  item := by
    intro X hP hw hK hc i pins s σ H E I hf st hg
    subst hP hw hK
    obtain ⟨xs, x, hq, hx⟩ := hg
    obtain ⟨its, rv, p, hz⟩ := I.list hq
    obtain ⟨u, hu, ru⟩ := rv.get hx
    obtain ⟨f0, f1, f2, f3, f4, f5⟩ := hf it (by simp)
    refine wpAny_pyNext_list_item st p.isList (x := u) (by simpa using hu) fun h' st' sb => ?_
    have I1 : Inv X pins σ H { s with heap := h' } := I.turned (t' := s.toks) (fun b o hb e => (sb.2 b hb).trans e) f0 f1 f3 f4 f5
    obtain ⟨o, e, c, d⟩ := id st'
    exact ⟨u, rfl, go_of (s := { s with heap := h' }) e c d (by decide) ⟨x, H, I1, ru, ⟨rfl, fun ys hy => by rw [I.list_inj hy hq]; exact hx⟩, st', fun b hb => (hf b hb).1⟩⟩
  done := by
    intro X hP hw hK hc i pins s σ H E I hf st hg
    subst hP hw hK
    obtain ⟨xs, hq, hx⟩ := hg
    obtain ⟨its, rv, p, hz⟩ := I.list hq
    obtain ⟨f0, f1, f2, f3, f4, f5⟩ := hf it (by simp)
    have hl := rv.length
    exact wpAny_pyNext_list_end (I.ok.hd hc) st p.isList (by simp; omega) fun h' eb => ⟨rfl, I.turned (t' := s.toks) (fun b o hb e => eb b o hb e) f0 f1 f3 f4 f5⟩
  self := fun _ _ _ _ _ st h => wpAny_pyIter_listiter st h
theorem turn_tuple {P : Program} {w : World} {K : PySem.W.Frag} {tg : Expr} (a it : Addr) : Turn P w K tg (Itt K a) [it] it (fun i h => h.IsTupleIter it a i) where
  mem := by simp
  obj := fun i h st b hb => by
    have e : b = it := by simpa using hb
    subst e
    obtain ⟨o, e, c, d⟩ := st
    exact ⟨o, e, fun v z => by rw [d] at z; cases z⟩
  keep := fun i h h' st k => st.at fun o e => k it (by simp) o e
  item := by
    intro X hP hw hK hc i pins s σ H E I hf st hg
    subst hP hw hK
    obtain ⟨xs, x, hq, hx⟩ := hg
    obtain ⟨its, rv, p, hz⟩ := I.tuple hq
    obtain ⟨u, hu, ru⟩ := rv.get hx
    obtain ⟨f0, f1, f2, f3, f4, f5⟩ := hf it (by simp)
    refine wpAny_pyNext_tuple_item st (show s.heap.IsTuple a its.toArray from p) (x := u) (by simpa using hu) fun h' st' sb => ?_
    have I1 : Inv X pins σ H { s with heap := h' } := I.turned (t' := s.toks) (fun b o hb e => (sb.2 b hb).trans e) f0 f1 f3 f4 f5
    obtain ⟨o, e, c, d⟩ := id st'
    exact ⟨u, rfl, go_of (s := { s with heap := h' }) e c d (by decide) ⟨x, H, I1, ru, ⟨rfl, fun ys hy => by rw [I.tuple_inj hy hq]; exact hx⟩, st', fun b hb => (hf b hb).1⟩⟩
  done := by
    intro X hP hw hK hc i pins s σ H E I hf st hg
    subst hP hw hK
    obtain ⟨xs, hq, hx⟩ := hg
    obtain ⟨its, rv, p, hz⟩ := I.tuple hq
    obtain ⟨f0, f1, f2, f3, f4, f5⟩ := hf it (by simp)
    have hl := rv.length
    exact wpAny_pyNext_tuple_end (I.ok.hd hc) st (show s.heap.IsTuple a its.toArray from p) (by simp; omega) fun h' eb => ⟨rfl, I.turned (t' := s.toks) (fun b o hb e => eb b o hb e) f0 f1 f3 f4 f5⟩
  self := fun _ _ _ _ _ st h => wpAny_pyIter_tupleiter st h
theorem turn_range {P : Program} {w : World} {K : PySem.W.Frag} {tg : Expr} (it : Addr) (lo : Int) (n : Nat) : Turn P w K tg (Itr lo n) [it] it (fun i h => IsRangeIter h it (lo + (i : Nat) * 1) ((n : Int) - (i : Nat)) 1) where
  mem := by simp
  obj := fun i h st b hb => by
    have e : b = it := by simpa using hb
    subst e
    exact ⟨_, st, fun v z => by
      have z' : Data.fields _ = Data.cell v := z
      cases z'⟩
  keep := fun i h h' st k => k it (by simp) _ st
  item := by
    intro X hP hw hK hc i pins s σ H E I hf st hg
    subst hP hw hK
    obtain ⟨f0, f1, f2, f3, f4, f5⟩ := hf it (by simp)
    have W := Walks.range (prog := X.prog) (w := X.w) (I.ok.hd hc) it lo 1 n
    refine W.item i s _ _ hg st fun v h' tk hv st' kk => ?_
    obtain ⟨t, rfl⟩ := hv
    have I1 : Inv X pins σ H { s with heap := h', toks := tk } := I.turned (fun b o hb e => kk b o (by simpa using hb) e) f0 f1 f3 f4 f5
    refine ⟨_, rfl, go_of (s := { s with heap := h', toks := tk }) (n := "range_iterator") st' rfl rfl (by decide) ⟨.int (lo + i), H, I1, ⟨t, ?_⟩, ⟨rfl, rfl⟩, st', fun b hb => (hf b hb).1⟩⟩
    rw [Int.mul_one]
  done := by
    intro X hP hw hK hc i pins s σ H E I hf st hg
    subst hP hw hK
    obtain ⟨f0, f1, f2, f3, f4, f5⟩ := hf it (by simp)
    exact wpAny_pyNext_range_end (I.ok.hd hc) st (by have : n ≤ i := hg; omega) fun h' eb => ⟨rfl, I.turned (t' := s.toks) (fun b o hb e => eb b o hb e) f0 f1 f3 f4 f5⟩
  self := fun _ _ _ _ _ st h => wpAny_pyIter_rangeiter st h
end L2

namespace L2
open PySem PySem.Spec PyProof.Rows
section
variable {X : Cx} {tg : Expr}
def iList (K : PySem.W.Frag) (tl : TE) : TI := fun σ H R => tl σ H fun x H1 => ∃ a, x = .ref a ∧ (∃ xs, SqL K H1 a xs) ∧ R (Itl K a) H1
def iTup (K : PySem.W.Frag) (tl : TE) : TI := fun σ H R => tl σ H fun x H1 => ∃ a, x = .ref a ∧ (∃ xs, SqT K H1 a xs) ∧ R (Itt K a) H1
theorem pi_list {l : Expr} {tl : TE} (hl : PE X l tl) : PI X tg l (iList X.K tl) := by
  intro pins s σ H R I h
  refine thn (hl pins s σ H _ I h) fun v s1 ⟨x, H1, I1, r1, q1⟩ => ?_
  obtain ⟨a, e, ⟨xs, hq⟩, q⟩ := q1
  subst e
  cases r1
  obtain ⟨its, rv, p, hz⟩ := I1.list hq
  refine wpAny_pyIter_list p.isList ?_
  refine ⟨s1.heap.objs.size, [s1.heap.objs.size], _, _, H1, rfl, I1.kept (t' := s1.toks) fun b o e => Heap.get?_push_of_some _ e, turn_list a _, ⟨_, Heap.get?_push_size _ rfl, rfl, rfl⟩, fun b hb => ?_, q⟩
  have e : b = s1.heap.objs.size := by simpa using hb
  subst e
  exact I1.fpOk (Nat.le_refl _) (I1.hok.fresh (Nat.le_refl _))
theorem pi_tup {l : Expr} {tl : TE} (hl : PE X l tl) : PI X tg l (iTup X.K tl) := by
  intro pins s σ H R I h
  refine thn (hl pins s σ H _ I h) fun v s1 ⟨x, H1, I1, r1, q1⟩ => ?_
  obtain ⟨a, e, ⟨xs, hq⟩, q⟩ := q1
  subst e
  cases r1
  obtain ⟨its, rv, p, hz⟩ := I1.tuple hq
  refine wpAny_pyIter_tuple (show s1.heap.IsTuple a its.toArray from p) ?_
  refine ⟨s1.heap.objs.size, [s1.heap.objs.size], _, _, H1, rfl, I1.kept (t' := s1.toks) fun b o e => Heap.get?_push_of_some _ e, turn_tuple a _, ⟨_, Heap.get?_push_size _ rfl, rfl, rfl⟩, fun b hb => ?_, q⟩
  have e : b = s1.heap.objs.size := by simpa using hb
  subst e
  exact I1.fpOk (Nat.le_refl _) (I1.hok.fresh (Nat.le_refl _))
/-- a range object just made, walked -/
theorem range_it {pins : List (Addr × Obj)} {σ : St} {H : Hp} {s : Shared} {R : It → Hp → Prop} {E : Value → Shared → Prop} {lo hi : Int} {t u v : Tok} {tk : Nat} (I : Inv X pins σ H s) (h1 : -(2 ^ 62) ≤ lo) (h2 : lo < 2 ^ 62) (h3 : -(2 ^ 62) ≤ hi) (h4 : hi < 2 ^ 62)
    (q : R (Itr lo (hi - lo).toNat) H) : wpAny (model X.prog X.w) X.A (pyIter (.ref s.heap.objs.size)) (PIE X pins σ tg R) E { s with heap := s.heap.push { cls := .type "range", data := .fields #[.int lo t, .int hi u, .int 1 v] }, toks := tk } := by
  refine wpAny_pyIter_range (IsRange.new ..) (small_one h1 h2 h3 h4) ?_
  have I1 : Inv X pins σ H { s with heap := s.heap.push { cls := .type "range", data := .fields #[.int lo t, .int hi u, .int 1 v] }, toks := tk } := I.kept fun b o e => Heap.get?_push_of_some _ e
  refine ⟨(s.heap.push { cls := .type "range", data := .fields #[.int lo t, .int hi u, .int 1 v] }).objs.size, [(s.heap.push { cls := .type "range", data := .fields #[.int lo t, .int hi u, .int 1 v] }).objs.size], _, _, H, rfl,
    I1.kept (t' := tk) fun b o e => Heap.get?_push_of_some _ e, turn_range _ lo (hi - lo).toNat, ?_, fun b hb => ?_, q⟩
  · have e1 : lo + ((0 : Nat) : Int) * 1 = lo := by simp
    have e2 : (((hi - lo).toNat : Nat) : Int) - ((0 : Nat) : Int) = Builtin.Range.rangeSize lo hi 1 := by rw [rangeSize_one]; split <;> omega
    show IsRangeIter _ _ (lo + ((0 : Nat) : Int) * 1) ((((hi - lo).toNat : Nat) : Int) - ((0 : Nat) : Int)) 1
    rw [e1, e2]
    exact Heap.get?_push_size _ rfl
  · have e : b = (s.heap.push { cls := .type "range", data := .fields #[.int lo t, .int hi u, .int 1 v] }).objs.size := by simpa using hb
    subst e
    exact I1.fpOk (Nat.le_refl _) (I1.hok.fresh (Nat.le_refl _))
def iRng1 (ta : TA) : TI := fun σ H R => ta σ H fun vs H1 => ∃ j : Int, vs = [.int j] ∧ -(2 ^ 62) ≤ j ∧ j < 2 ^ 62 ∧ R (Itr 0 j.toNat) H1
def iRng2 (ta : TA) : TI := fun σ H R => ta σ H fun vs H1 => ∃ i j : Int, vs = [.int i, .int j] ∧ (-(2 ^ 62) ≤ i ∧ i < 2 ^ 62 ∧ -(2 ^ 62) ≤ j ∧ j < 2 ^ 62) ∧ R (Itr i (j - i).toNat) H1
theorem pi_range1 {a : Expr} {ta : TA} {p pos : Pos} (hg : Gl X "range") (hm : X.mg "range" = none) (ha : PA X [a] ta) (hs : starEach [a] X.env = [(false, eval a X.env)] := by rfl) : PI X tg (.Call (.Name "range" p) [a] [] pos) (iRng1 ta) := by
  intro pins s σ H R I h
  refine Call_ (ld_blt I hg hm boot_range (PyProof.Rows.callWith_type1 (thn (ha pos pins s σ H _ I h) fun us s1 ⟨vs, H1, I1, r1, q1⟩ => ?_) hs rfl))
  obtain ⟨j, e, q1, q2, q⟩ := q1
  subst e
  cases r1 with
  | cons r rr =>
    cases rr
    obtain ⟨t, rfl⟩ := r
    exact call_range_1 (range_it I1 (by omega) (by omega) q1 q2 (by simpa using q))
/-! ### for -/
/-- W: the invariant by the turn and a measure; N: what the body is to reach -/
def tFor (wi : TI) (g : TG) (tb : TS) : TS := fun D σ H => wi σ H fun J H1 => ∃ W : Nat → Nat → St → Hp → Prop, (∃ m, W 0 m σ H1) ∧ ∀ i m σ H, W i m σ H →
  (J.stop i H ∧ D.nx σ H) ∨ (J.go i H ∧ ∃ N : St → Hp → Prop, (∀ σ' H', N σ' H' → ∃ m', m' < m ∧ W (i + 1) m' σ' H') ∧ ∀ x H', J.yld i H x H' → g x σ H' fun σ2 H2 => tb { D with nx := N, ct := N, bk := D.nx } σ2 H2)
/-- the records at fp as they stand -/
def pinsAt (fp : List Addr) (h : Heap) : List (Addr × Obj) := fp.filterMap fun b => (h.get? b).map fun o => (b, o)
theorem mem_pinsAt {fp : List Addr} {h : Heap} {b : Addr} {o : Obj} (hb : b ∈ fp) (e : h.get? b = some o) : (b, o) ∈ pinsAt fp h := List.mem_filterMap.mpr ⟨b, hb, by rw [e]; rfl⟩
theorem of_pinsAt {fp : List Addr} {h : Heap} {p : Addr × Obj} (hp : p ∈ pinsAt fp h) : p.1 ∈ fp ∧ h.get? p.1 = some p.2 := by
  obtain ⟨b, hb, e⟩ := List.mem_filterMap.mp hp
  cases q : h.get? b with
  | none => rw [q] at e; cases e
  | some o =>
    rw [q] at e
    have e' : (b, o) = p := Option.some.inj e
    subst e'
    exact ⟨hb, q⟩
theorem Inv.pinned {pins : List (Addr × Obj)} {σ : St} {H : Hp} {s : Shared} {fp : List Addr} (I : Inv X pins σ H s) (hf : ∀ b ∈ fp, FpOk X pins H b) (ho : ∀ b ∈ fp, ∃ o, s.heap.get? b = some o ∧ ∀ v, o.data ≠ .cell v) : Inv X (pins ++ pinsAt fp s.heap) σ H s :=
  I.pins_of fun p hp => (List.mem_append.mp hp).elim (fun z => I.pin p (List.mem_append_right _ z)) fun z => by
    obtain ⟨hb, e⟩ := of_pinsAt z
    obtain ⟨f0, f1, f2, _⟩ := hf p.1 hb
    obtain ⟨o, e', d⟩ := ho p.1 hb
    rw [e] at e'; cases e'
    exact ⟨e, f0, f1, f2, d⟩
theorem Inv.unpinned {pins pl : List (Addr × Obj)} {σ : St} {H : Hp} {s : Shared} (I : Inv X (pins ++ pl) σ H s) : Inv X pins σ H s := I.pins_of fun p hp => I.pin p (List.mem_append_right _ (List.mem_append_left _ hp))
theorem ps_for {iter : Expr} {body : List Stmt} {wi : TI} {g : TG} {tb : TS} {pos : Pos} (hp : PassesOwn (model X.prog X.w) X.A X.env X.xe) (hc : X.calm = true) (hi : PI X tg iter wi) (hg : PG X tg g) (hb : PSs X body tb)
    (hs : ∀ x, foldedSetIterable iter X.env x = pure x := by intro _; rfl) : PS X (.For tg iter body [] pos) (tFor wi g tb) := by
  intro pins s σ H D I h
  refine wpAny_For (thn (hi pins s σ H _ I h) fun v s1 h1 => thn h1 fun itv s2 h2 => ?_) hs
  obtain ⟨it, fp, tn, J, H2, e, I2, T, st2, f2, W, ⟨m0, w0⟩, turn⟩ := h2
  subst e
  -- what stays true of the iterator's objects through the loop
  have stat : ∀ {H' : Hp}, (∀ b ∈ fp, H' b = none) → ∀ b ∈ fp, FpOk X pins H' b := fun hn b hb => ⟨hn b hb, (f2 b hb).2⟩
  refine codeAny_forLoop_any (fun n s' => ∃ i σ' H', Inv X pins σ' H' s' ∧ tn i s'.heap ∧ (∀ b ∈ fp, H' b = none) ∧ W i n σ' H') ?_ m0 ⟨0, σ, H2, I2, st2, fun b hb => (f2 b hb).1, w0⟩
  rintro n s3 ⟨i, σ3, H3, I3, st3, fr3, w3⟩
  rcases turn i n σ3 H3 w3 with ⟨stop, qn⟩ | ⟨go, N, hN, step⟩
  · refine wpAny_passesOwn hp (thn (T.done X rfl rfl rfl hc i pins s3 σ3 H3 X.xe I3 (stat fr3) st3 stop) fun r s4 ⟨hr, I4⟩ => ?_)
    subst hr
    exact wpAny_execs_nil ⟨σ3, H3, I4, qn⟩
  · refine wpAny_passesOwn hp (thn (T.item X rfl rfl rfl hc i pins s3 σ3 H3 X.xe I3 (stat fr3) st3 go) fun r s4 ⟨u, hr, h4⟩ => ?_)
    subst hr
    refine wpAny_passesOwn hp (thn h4 fun _ s5 ⟨x, H5, I5, r5, y5, st5, fr5⟩ => ?_)
    have I5' := I5.pinned (stat fr5) (T.obj _ _ st5)
    refine wpAny_passesOwn hp (thn (hg _ s5 σ3 H5 x u _ I5' r5 (step x H5 y5)) fun _ s6 ⟨σ6, H6, I6, q6⟩ => ?_)
    refine wpAny_passesOwn hp (thn (hb _ s6 σ6 H6 _ I6 q6) fun f s7 q7 => ?_)
    have again : ∀ {σ7 : St} {H7 : Hp}, Inv X (pins ++ pinsAt fp s5.heap) σ7 H7 s7 → N σ7 H7 → ∃ m, m < n ∧ ∃ i σ' H', Inv X pins σ' H' s7 ∧ tn i s7.heap ∧ (∀ b ∈ fp, H' b = none) ∧ W i m σ' H' := fun {σ7 H7} I7 n7 => by
      obtain ⟨m', hm, w7⟩ := hN σ7 H7 n7
      refine ⟨m', hm, i + 1, σ7, H7, I7.unpinned, T.keep _ _ _ st5 fun b hb o e => (I7.pin (b, o) (List.mem_append_right _ (List.mem_append_right _ (mem_pinsAt hb e)))).1, fun b hb => ?_, w7⟩
      obtain ⟨o, e, d⟩ := T.obj _ _ st5 b hb
      exact (I7.pin (b, o) (List.mem_append_right _ (List.mem_append_right _ (mem_pinsAt hb e)))).2.1
    cases f with
    | next => obtain ⟨σ7, H7, I7, n7⟩ := q7; exact again I7 n7
    | cont => obtain ⟨σ7, H7, I7, n7⟩ := q7; exact again I7 n7
    | brk => obtain ⟨σ7, H7, I7, q7⟩ := q7; exact ⟨σ7, H7, I7.unpinned, q7⟩
    | ret v => obtain ⟨x7, σ7, H7, I7, r7, q7⟩ := q7; exact ⟨x7, σ7, H7, I7.unpinned, r7, q7⟩
end

/-! ### the forms one uses -/
/-- over a list that the body leaves as it is -/
theorem for_list {K : PySem.W.Frag} {a : Addr} {xs : List V} {g : TG} {tb : TS} {D : Ends} {σ : St} {H : Hp} (Pv : Nat → St → Hp → Prop) (h0 : Pv 0 σ H) (hl : ∀ i σ H, i ≤ xs.length → Pv i σ H → SqL K H a xs)
    (hs : ∀ i x σ H, xs[i]? = some x → Pv i σ H → g x σ H fun σ2 H2 => tb { D with nx := Pv (i + 1), ct := Pv (i + 1), bk := D.nx } σ2 H2) (hd : ∀ σ H, Pv xs.length σ H → D.nx σ H) :
    ∃ W : Nat → Nat → St → Hp → Prop, (∃ m, W 0 m σ H) ∧ ∀ i m σ H, W i m σ H →
      ((Itl K a).stop i H ∧ D.nx σ H) ∨ ((Itl K a).go i H ∧ ∃ N : St → Hp → Prop, (∀ σ' H', N σ' H' → ∃ m', m' < m ∧ W (i + 1) m' σ' H') ∧ ∀ x H', (Itl K a).yld i H x H' → g x σ H' fun σ2 H2 => tb { D with nx := N, ct := N, bk := D.nx } σ2 H2) := by
  refine ⟨fun i m σ H => m = xs.length - i ∧ i ≤ xs.length ∧ Pv i σ H, ⟨xs.length, by simp, Nat.zero_le _, h0⟩, ?_⟩
  rintro i m σ H ⟨rfl, hi, p⟩
  have q := hl i σ H hi p
  by_cases hlt : i < xs.length
  · refine .inr ⟨⟨xs, xs[i], q, by simp [hlt]⟩, Pv (i + 1), fun σ' H' p' => ⟨xs.length - (i + 1), by omega, rfl, hlt, p'⟩, fun x H' y => ?_⟩
    obtain ⟨e, y⟩ := y
    subst e
    exact hs i x σ _ (y xs q) p
  · have e : i = xs.length := by omega
    subst e
    exact .inl ⟨⟨xs, q, Nat.le_refl _⟩, hd σ H p⟩
theorem for_tup {K : PySem.W.Frag} {a : Addr} {xs : List V} {g : TG} {tb : TS} {D : Ends} {σ : St} {H : Hp} (Pv : Nat → St → Hp → Prop) (h0 : Pv 0 σ H) (hl : ∀ i σ H, i ≤ xs.length → Pv i σ H → SqT K H a xs)
    (hs : ∀ i x σ H, xs[i]? = some x → Pv i σ H → g x σ H fun σ2 H2 => tb { D with nx := Pv (i + 1), ct := Pv (i + 1), bk := D.nx } σ2 H2) (hd : ∀ σ H, Pv xs.length σ H → D.nx σ H) :
    ∃ W : Nat → Nat → St → Hp → Prop, (∃ m, W 0 m σ H) ∧ ∀ i m σ H, W i m σ H →
      ((Itt K a).stop i H ∧ D.nx σ H) ∨ ((Itt K a).go i H ∧ ∃ N : St → Hp → Prop, (∀ σ' H', N σ' H' → ∃ m', m' < m ∧ W (i + 1) m' σ' H') ∧ ∀ x H', (Itt K a).yld i H x H' → g x σ H' fun σ2 H2 => tb { D with nx := N, ct := N, bk := D.nx } σ2 H2) := by
  refine ⟨fun i m σ H => m = xs.length - i ∧ i ≤ xs.length ∧ Pv i σ H, ⟨xs.length, by simp, Nat.zero_le _, h0⟩, ?_⟩
  rintro i m σ H ⟨rfl, hi, p⟩
  have q := hl i σ H hi p
  by_cases hlt : i < xs.length
  · refine .inr ⟨⟨xs, xs[i], q, by simp [hlt]⟩, Pv (i + 1), fun σ' H' p' => ⟨xs.length - (i + 1), by omega, rfl, hlt, p'⟩, fun x H' y => ?_⟩
    obtain ⟨e, y⟩ := y
    subst e
    exact hs i x σ _ (y xs q) p
  · have e : i = xs.length := by omega
    subst e
    exact .inl ⟨⟨xs, q, Nat.le_refl _⟩, hd σ H p⟩
theorem for_range {lo : Int} {n : Nat} {g : TG} {tb : TS} {D : Ends} {σ : St} {H : Hp} (Pv : Nat → St → Hp → Prop) (h0 : Pv 0 σ H)
    (hs : ∀ i σ H, i < n → Pv i σ H → g (.int (lo + i)) σ H fun σ2 H2 => tb { D with nx := Pv (i + 1), ct := Pv (i + 1), bk := D.nx } σ2 H2) (hd : ∀ σ H, Pv n σ H → D.nx σ H) :
    ∃ W : Nat → Nat → St → Hp → Prop, (∃ m, W 0 m σ H) ∧ ∀ i m σ H, W i m σ H →
      ((Itr lo n).stop i H ∧ D.nx σ H) ∨ ((Itr lo n).go i H ∧ ∃ N : St → Hp → Prop, (∀ σ' H', N σ' H' → ∃ m', m' < m ∧ W (i + 1) m' σ' H') ∧ ∀ x H', (Itr lo n).yld i H x H' → g x σ H' fun σ2 H2 => tb { D with nx := N, ct := N, bk := D.nx } σ2 H2) := by
  refine ⟨fun i m σ H => m = n - i ∧ i ≤ n ∧ Pv i σ H, ⟨n, by simp, Nat.zero_le _, h0⟩, ?_⟩
  rintro i m σ H ⟨rfl, hi, p⟩
  by_cases hlt : i < n
  · refine .inr ⟨hlt, Pv (i + 1), fun σ' H' p' => ⟨n - (i + 1), by omega, rfl, hlt, p'⟩, fun x H' y => ?_⟩
    obtain ⟨e, y⟩ := y
    subst e y
    exact hs i σ _ hlt p
  · have e : i = n := by omega
    subst e
    exact .inl ⟨Nat.le_refl _, hd σ H p⟩
end L2

namespace L2
open PySem PySem.Spec PyProof.Rows

abbrev R2 := V → V → Hp → VK → Prop
/-- a two-place operation on values: f is binaryOp op, inplaceOp op or compareOp op -/
def OpR (X : Cx) (f : Value → Value → Sem Value) (r : R2) : Prop :=
  ∀ (pins : List (Addr × Obj)) (s : Shared) (σ : St) (H : Hp) (x y : V) (v u : Value) (Q : VK), Inv X pins σ H s → RelV x v → RelV y u → r x y H Q →
    wpAny (model X.prog X.w) X.A (f v u) (EP X pins σ Q) X.xe s
/-- a one-place operation -/
def UnR (X : Cx) (f : Value → Sem Value) (r : V → Hp → VK → Prop) : Prop :=
  ∀ (pins : List (Addr × Obj)) (s : Shared) (σ : St) (H : Hp) (x : V) (v : Value) (Q : VK), Inv X pins σ H s → RelV x v → r x H Q →
    wpAny (model X.prog X.w) X.A (f v) (EP X pins σ Q) X.xe s
/-- a call of a value that is known (a builtin, a type) with values -/
def CallR (X : Cx) (f : Value) (r : List V → Hp → VK → Prop) : Prop :=
  ∀ (pins : List (Addr × Obj)) (s : Shared) (σ : St) (H : Hp) (xs : List V) (us : List Value) (Q : VK), Inv X pins σ H s → Vals xs us → r xs H Q →
    wpAny (model X.prog X.w) X.A (call f us) (EP X pins σ Q) X.xe s
/-- a value's truth -/
def TruR (X : Cx) (r : V → Hp → (Bool → Hp → Prop) → Prop) : Prop :=
  ∀ (pins : List (Addr × Obj)) (s : Shared) (σ : St) (H : Hp) (x : V) (v : Value) (Q : Bool → Hp → Prop), Inv X pins σ H s → RelV x v → r x H Q →
    wpAny (model X.prog X.w) X.A (truthy v) (TP X pins σ Q) X.xe s

def tOp (r : R2) (ta tb : TE) : TE := fun σ H Q => ta σ H fun x H1 => tb σ H1 fun y H2 => r x y H2 Q
def tUn (r : V → Hp → VK → Prop) (ta : TE) : TE := fun σ H Q => ta σ H fun x H1 => r x H1 Q
/-- ints in, under C, and a value out -/
def rI (C : Int → Int → Prop) (g : Int → Int → V) : R2 := fun x y H Q => ∃ i j, x = .int i ∧ y = .int j ∧ C i j ∧ Q (g i j) H
def rI0 (g : Int → Int → V) : R2 := fun x y H Q => ∃ i j, x = .int i ∧ y = .int j ∧ Q (g i j) H
def rU (g : Int → V) : V → Hp → VK → Prop := fun x H Q => ∃ i, x = .int i ∧ Q (g i) H

section
variable {X : Cx} {a b c : Expr} {ta tb tc : TE} {pos : Pos}

theorem binT (ha : PE X a ta) (hb : PE X b tb) {pins : List (Addr × Obj)} {s : Shared} {σ : St} {H : Hp} {R : V → V → Hp → Prop} (I : Inv X pins σ H s)
    (h : ta σ H fun x H1 => tb σ H1 fun y H2 => R x y H2) {Q : Value → Shared → Prop} {f : Value → Value → Sem Value}
    (hf : ∀ v u s2 x y H2, Inv X pins σ H2 s2 → RelV x v → RelV y u → R x y H2 → wpAny (model X.prog X.w) X.A (f v u) Q X.xe s2) :
    wpAny (model X.prog X.w) X.A (eval a X.env) (fun v s₁ => wpAny (model X.prog X.w) X.A (eval b X.env) (fun u s₂ => wpAny (model X.prog X.w) X.A (f v u) Q X.xe s₂) X.xe s₁) X.xe s := by
  refine thn (ha pins s σ H _ I h) fun v s1 ⟨x, H1, I1, r1, q1⟩ => ?_
  refine thn (hb pins s1 σ H1 _ I1 q1) fun u s2 ⟨y, H2, I2, r2, q2⟩ => ?_
  exact hf v u s2 x y H2 I2 r1 r2 q2

theorem pe_op {op : Operator} {r : R2} (ho : OpR X (binaryOp op) r) (ha : PE X a ta) (hb : PE X b tb) : PE X (.BinOp a op b pos) (tOp r ta tb) := by
  intro pins s σ H Q I h
  exact wpAny_BinOp (binT ha hb I h fun v u s2 x y H2 I2 rx ry q => ho pins s2 σ H2 x y v u Q I2 rx ry q)
/-! ### ints -/
theorem opI {f : Value → Value → Sem Value} {C : Int → Int → Prop} {g : Int → Int → Int}
    (rule : ∀ (i j : Int) (t u : Tok) (s : Shared) (Q : Value → Shared → Prop) (E : Value → Shared → Prop), C i j → Q (.int (g i j) s.toks) { s with toks := s.toks + 1 } → wpAny (model X.prog X.w) X.A (f (.int i t) (.int j u)) Q E s) :
    OpR X f (rI C fun i j => .int (g i j)) := by
  intro pins s σ H x y v u Q I rx ry h
  obtain ⟨i, j, rfl, rfl, hc, q⟩ := h
  obtain ⟨t, rfl⟩ := rx
  obtain ⟨t', rfl⟩ := ry
  exact rule i j t t' s _ _ hc ⟨.int (g i j), H, I.tok _, ⟨_, rfl⟩, q⟩
theorem opI0 {f : Value → Value → Sem Value} {g : Int → Int → Int}
    (rule : ∀ (i j : Int) (t u : Tok) (s : Shared) (Q : Value → Shared → Prop) (E : Value → Shared → Prop), Q (.int (g i j) s.toks) { s with toks := s.toks + 1 } → wpAny (model X.prog X.w) X.A (f (.int i t) (.int j u)) Q E s) :
    OpR X f (rI0 fun i j => .int (g i j)) := by
  intro pins s σ H x y v u Q I rx ry h
  obtain ⟨i, j, rfl, rfl, q⟩ := h
  obtain ⟨t, rfl⟩ := rx
  obtain ⟨t', rfl⟩ := ry
  exact rule i j t t' s _ _ ⟨.int (g i j), H, I.tok _, ⟨_, rfl⟩, q⟩
theorem opB0 {f : Value → Value → Sem Value} {g : Int → Int → Bool}
    (rule : ∀ (i j : Int) (t u : Tok) (s : Shared) (Q : Value → Shared → Prop) (E : Value → Shared → Prop), Q (.bool (g i j)) s → wpAny (model X.prog X.w) X.A (f (.int i t) (.int j u)) Q E s) :
    OpR X f (rI0 fun i j => .bl (g i j)) := by
  intro pins s σ H x y v u Q I rx ry h
  obtain ⟨i, j, rfl, rfl, q⟩ := h
  obtain ⟨t, rfl⟩ := rx
  obtain ⟨t', rfl⟩ := ry
  exact rule i j t t' s _ _ ⟨.bl (g i j), H, I, rfl, q⟩

def CDiv (i j : Int) : Prop := 0 < j ∧ j < 1073741824
def CDivN (i j : Int) : Prop := j ≠ 0 ∧ j.natAbs < 1073741824
def CPow (i j : Int) : Prop := 0 ≤ j ∧ j ≤ 1000000 ∧ i.natAbs < 2 ^ 64
def CMul (i j : Int) : Prop := (-(2 ^ 64) < i ∧ i < 2 ^ 64) ∨ (-(2 ^ 64) < j ∧ j < 2 ^ 64)
theorem CMul.ok {i j : Int} (h : CMul i j) : IntMulOk i j := by
  rcases h with ⟨h1, h2⟩ | ⟨h1, h2⟩
  · exact .of_left (intBits_le_64 h1 h2)
  · exact .of_right (intBits_le_64 h1 h2)
theorem op_add : OpR X (binaryOp .Add) (rI0 fun i j => .int (i + j)) := opI0 fun _ _ _ _ _ _ _ q => add_int q
theorem op_sub : OpR X (binaryOp .Sub) (rI0 fun i j => .int (i - j)) := opI0 fun _ _ _ _ _ _ _ q => sub_int q
theorem op_mul : OpR X (binaryOp .Mult) (rI CMul fun i j => .int (i * j)) := opI fun _ _ _ _ _ _ _ hc q => mul_int q hc.ok
/-- // by a positive divisor -/
theorem op_fdiv : OpR X (binaryOp .FloorDiv) (rI CDiv fun i j => .int (i / j)) := opI fun i j _ _ _ _ _ hc q => by
  have h1 : (0 : Int) < j := hc.1
  have h2 : j < 1073741824 := hc.2
  exact floordiv_int (by omega) (by rw [Int.fdiv_eq_ediv_of_nonneg i (by omega)]; exact q) (.inl (PyProof.noPylong_small (by omega)))
/-- % by a positive divisor of any size -/
theorem op_mod : OpR X (binaryOp .Mod) (rI (fun _ j => 0 < j) fun i j => .int (i % j)) := opI fun i j _ _ _ _ _ hc q => by
  have h1 : (0 : Int) < j := hc
  exact mod_int' (by omega) (by rw [Int.fmod_eq_emod_of_nonneg i (by omega)]; exact q)
theorem op_pow : OpR X (binaryOp .Pow) (rI CPow fun i j => .int (i ^ j.toNat)) := opI fun _ _ _ _ _ _ _ hc q => pow_int_small hc.1 hc.2.1 hc.2.2 q
/-! ### bools among ints: n += (a < b) -/
end

/-! ### comparisons -/
/-- the scalars that == tells apart as data does -/
def scal : V → V → Bool
  | .non, .non => true | .non, .int _ => true | .int _, .non => true | .non, .bl _ => true | .bl _, .non => true | .non, .str _ => true | .str _, .non => true
  | .int _, .int _ => true | .bl _, .bl _ => true | .str _, .str _ => true | .byt _, .byt _ => true
  | .int _, .str _ => true | .str _, .int _ => true | .bl _, .str _ => true | .str _, .bl _ => true
  | _, _ => false
def rEq : R2 := fun x y H Q => scal x y = true ∧ Q (.bl (decide (x = y))) H
def rNe : R2 := fun x y H Q => scal x y = true ∧ Q (.bl (!decide (x = y))) H

theorem dec_int {i j : Int} : decide (V.int i = V.int j) = (i == j) := by
  rw [Bool.eq_iff_iff]
  simp
theorem dec_bl {i j : Bool} : decide (V.bl i = V.bl j) = (i == j) := by
  rw [Bool.eq_iff_iff]
  simp
theorem dec_str {i j : Str} : decide (V.str i = V.str j) = (i == j) := by
  rw [Bool.eq_iff_iff]
  simp
theorem dec_byt {i j : Array UInt8} : decide (V.byt i = V.byt j) = (i.toList == j.toList) := by
  rw [Bool.eq_iff_iff]
  cases i
  cases j
  simp

section
variable {X : Cx} {a b c : Expr} {ta tb tc : TE} {pos : Pos}
theorem fin_bl {pins : List (Addr × Obj)} {σ : St} {H : Hp} {s : Shared} {Q : VK} {k k' : Bool} (I : Inv X pins σ H s) (q : Q (.bl k) H) (e : k = k') : EP X pins σ Q (.bool k') s := by
  subst e
  exact ⟨.bl k, H, I, rfl, q⟩
theorem op_eq : OpR X (compareOp .Eq) rEq := by
  intro pins s σ H x y v u Q I rx ry h
  obtain ⟨hs, q⟩ := h
  cases x with
  | non =>
    cases rx
    cases y with
    | non => cases ry; exact PySem.EqNone.eq_none_none (fin_bl I q (by simp))
    | bl j => cases ry; exact PySem.EqNone.eq_none_bool (fin_bl I q (by simp))
    | int j => obtain ⟨t', rfl⟩ := ry; exact PySem.EqNone.eq_none_int (fin_bl I q (by simp))
    | str j => obtain ⟨t', rfl⟩ := ry; exact PySem.EqNone.eq_none_str (fin_bl I q (by simp))
    | _ => exact absurd (show false = true from hs) Bool.false_ne_true
  | bl i =>
    cases rx
    cases y with
    | non => cases ry; exact PySem.EqNone.eq_bool_none (fin_bl I q (by simp))
    | bl j => cases ry; exact eq_bool (fin_bl I q dec_bl)
    | str j => obtain ⟨t', rfl⟩ := ry; exact PySem.EqMixed.eq_bool_str (fin_bl I q (by simp))
    | _ => exact absurd (show false = true from hs) Bool.false_ne_true
  | int i =>
    obtain ⟨t, rfl⟩ := rx
    cases y with
    | non => cases ry; exact PySem.EqNone.eq_int_none (fin_bl I q (by simp))
    | int j => obtain ⟨t', rfl⟩ := ry; exact eq_int (fin_bl I q dec_int)
    | str j => obtain ⟨t', rfl⟩ := ry; exact PySem.EqMixed.eq_int_str (fin_bl I q (by simp))
    | _ => exact absurd (show false = true from hs) Bool.false_ne_true
  | str i =>
    obtain ⟨t, rfl⟩ := rx
    cases y with
    | non => cases ry; exact PySem.EqNone.eq_str_none (fin_bl I q (by simp))
    | bl j => cases ry; exact PySem.EqMixed.eq_str_bool (fin_bl I q (by simp))
    | int j => obtain ⟨t', rfl⟩ := ry; exact PySem.EqMixed.eq_str_int (fin_bl I q (by simp))
    | str j => obtain ⟨t', rfl⟩ := ry; exact eq_str (fin_bl I q dec_str)
    | _ => exact absurd (show false = true from hs) Bool.false_ne_true
  | byt i =>
    obtain ⟨t, rfl⟩ := rx
    cases y with
    | byt j => obtain ⟨t', rfl⟩ := ry; exact PySem.W.eq_bytes (fin_bl I q dec_byt)
    | _ => exact absurd (show false = true from hs) Bool.false_ne_true
  | _ => cases y <;> exact absurd (show false = true from hs) Bool.false_ne_true
theorem op_lt : OpR X (compareOp .Lt) (rI0 fun i j => .bl (decide (i < j))) := opB0 fun _ _ _ _ _ _ _ q => lt_int q
theorem op_gt : OpR X (compareOp .Gt) (rI0 fun i j => .bl (decide (j < i))) := opB0 fun _ _ _ _ _ _ _ q => gt_int q
/-- is, is not of two objects that are tracked lists or instances -/
def isObj : HO → Bool
  | .lst _ => true
  | .ins _ _ _ => true
  | _ => false
/-- two rules for one operation: by cases -/
theorem OpR.or {f : Value → Value → Sem Value} {r r' : R2} (h : OpR X f r) (h' : OpR X f r') : OpR X f (fun x y H Q => r x y H Q ∨ r' x y H Q) := by
  intro pins s σ H x y v u Q I rx ry q
  rcases q with q | q
  · exact h pins s σ H x y v u Q I rx ry q
  · exact h' pins s σ H x y v u Q I rx ry q

theorem nomark (b : Expr) {op : CmpOp} (h : op ≠ .In := by decide) (h2 : op ≠ .NotIn := by decide) : behindInMarks op b = false := by
  have e1 : (op == CmpOp.In) = false := by cases op <;> first | rfl | exact absurd rfl h
  have e2 : (op == CmpOp.NotIn) = false := by cases op <;> first | rfl | exact absurd rfl h2
  cases b <;> simp [behindInMarks, e1, e2]
/-- a comparison as a value; hm: nomark b, or (for in, not in) by with_unfolding_all rfl -/
theorem pe_cmpR {op : CmpOp} {r : R2} (ho : OpR X (compareOp op) r) (ha : PE X a ta) (hb : PE X b tb) (hm : behindInMarks op b = false) : PE X (.Compare a [op] [b] pos) (tOp r ta tb) := by
  intro pins s σ H Q I h
  exact wpAny_Compare1 (binT ha hb I h fun v u s2 x y H2 I2 rx ry q => ho pins s2 σ H2 x y v u Q I2 rx ry q) hm
/-- a reading of a value as a test -/
def tTest (t : TE) : TT := fun σ H Q => t σ H fun x H' => ∃ k, x = .bl k ∧ Q k H'
theorem pt_cmpR {op : CmpOp} {r : R2} (ho : OpR X (compareOp op) r) (ha : PE X a ta) (hb : PE X b tb) (hm : behindInMarks op b = false) : PT X (.Compare a [op] [b] pos) (tTest (tOp r ta tb)) := by
  intro pins s σ H Q I h
  refine wpAny_isTrue_Compare1 (thn (ha pins s σ H _ I h) fun v s1 ⟨x, H1, I1, r1, q1⟩ => thn (hb pins s1 σ H1 _ I1 q1) fun u s2 ⟨y, H2, I2, r2, q2⟩ =>
    thn (ho pins s2 σ H2 x y v u _ I2 r1 r2 q2) fun c s3 ⟨z, H3, I3, r3, k, e, q3⟩ => ?_) hm
  subst e
  cases r3
  exact wpAny_truthy_bool ⟨H3, I3, q3⟩
/-- a op1 b op2 c -/
def tChain (r r' : R2) (ta tb tc : TE) : TE := fun σ H Q => ta σ H fun x H1 => tb σ H1 fun y H2 => r x y H2 fun z H3 => ∃ k, z = .bl k ∧
  (if k = true then tc σ H3 fun w' H4 => r' y w' H4 Q else Q (.bl false) H3)
/-! ### truth -/
/-- a value's truth by the abstract heap -/
def TruV (K : PySem.W.Frag) (x : V) (H : Hp) (k : Bool) : Prop :=
  match x with
  | .non => k = false
  | .bl b => k = b
  | .int i => k = (i != 0)
  | .str y => y.length ≤ sizeLine ∧ k = ((y.length : Int) != 0)
  | .byt y => y.size ≤ sizeLine ∧ k = ((y.size : Int) != 0)
  | .ref p => (∃ xs, SqL K H p xs ∧ k = !xs.isEmpty) ∨ (∃ xs, SqT K H p xs ∧ k = !xs.isEmpty) ∨ ∃ kvs, H p = some (.dK kvs) ∧ k = !kvs.isEmpty
  | _ => False
theorem line63 : (sizeLine : Nat) < 2 ^ 63 := by rw [sizeLine_eq]; decide
/-! ### strs and bytes -/
def PlainIxT (b : Expr) : Prop := ∀ o i, subscripted b false o i = operate [o, i] (getItem o i)
/-! ### scalar builtins, by CallR -/
theorem vals1 {x : V} {us : List Value} (r : Vals [x] us) : ∃ u, us = [u] ∧ RelV x u := by
  cases r with
  | cons r1 r2 => cases r2; exact ⟨_, rfl, r1⟩
theorem vals2 {x y : V} {us : List Value} (r : Vals [x, y] us) : ∃ u w', us = [u, w'] ∧ RelV x u ∧ RelV y w' := by
  cases r with
  | cons r1 r2 =>
    cases r2 with
    | cons r3 r4 => cases r4; exact ⟨_, _, rfl, r1, r3⟩
theorem call_min2 (hc : X.calm = true) : CallR X (.builtin "min") (fun xs H Q => ∃ i j, xs = [.int i, .int j] ∧ Q (.int (if j < i then j else i)) H) := by
  intro pins s σ H xs us Q I r h
  obtain ⟨i, j, rfl, q⟩ := h
  obtain ⟨u, w', rfl, ⟨t, rfl⟩, ⟨t', rfl⟩⟩ := vals2 r
  refine min_two_ints (I.ok.hd hc) fun h' tk k => ⟨_, H, I.kept k, ?_, q⟩
  by_cases hj : j < i
  · rw [if_pos hj, if_pos hj]; exact ⟨_, rfl⟩
  · rw [if_neg hj, if_neg hj]; exact ⟨_, rfl⟩
theorem call_int1 : CallR X (.type "int") (fun xs H Q => (∃ i, xs = [.int i] ∧ Q (.int i) H) ∨ ∃ k, xs = [.bl k] ∧ Q (.int (if k then 1 else 0)) H) := by
  intro pins s σ H xs us Q I r h
  rcases h with ⟨i, rfl, q⟩ | ⟨k, rfl, q⟩
  · obtain ⟨u, rfl, t, rfl⟩ := vals1 r
    exact call_int_int ⟨.int i, H, I, ⟨_, rfl⟩, q⟩
  · obtain ⟨u, rfl, r1⟩ := vals1 r
    cases r1
    exact call_int_bool ⟨.int (if k then 1 else 0), H, I.tok _, ⟨_, rfl⟩, q⟩
/-- len of a str, a bytes, a list, a tuple -/
def LenV (K : PySem.W.Frag) (x : V) (H : Hp) (n : Nat) : Prop :=
  match x with
  | .str y => y.length ≤ sizeLine ∧ n = y.length
  | .byt y => y.size ≤ sizeLine ∧ n = y.size
  | .ref p => (∃ xs, SqL K H p xs ∧ n = xs.length) ∨ ∃ xs, SqT K H p xs ∧ n = xs.length
  | _ => False
end
end L2

namespace L2
open PySem PySem.Spec PyProof.Rows

/-! ### an instance, its attributes a map -/
structure ObjM (h : Heap) (x dx C : Addr) (mA : Str → Option Value) : Prop where
  obj : h.get? x = some (PySem.W.instObj C dx)
  ns : h.Ns1 dx mA
  ne : dx ≠ x

theorem lookIn_ns {h : Heap} {dx : Addr} {mA : Str → Option Value} (n : h.Ns1 dx mA) : ∃ od, h.get? dx = some od ∧ ∀ name, PySem.W.lookIn name od = some (mA name) := by
  obtain ⟨o, es, ep, ho, hd, hk, _, hm⟩ := n
  refine ⟨o, ho, fun name => ?_⟩
  have e := hm name
  unfold nsFind findBy at e
  rw [← Array.find?_toList] at e
  unfold PySem.W.lookIn
  rw [hd]
  dsimp only
  split
  · rename_i y q
    rw [q] at e
    exact congrArg some e
  · rename_i q
    rw [q] at e
    have a : es.toList.any (·.refKey) = false := by
      rw [List.any_eq_false]
      intro y hy
      obtain ⟨z, t, hkey⟩ := hk y (Array.mem_toList_iff.mp hy)
      simp [DictEntry.refKey, hkey]
    have a' : ¬ es.toList.any (·.refKey) = true := by rw [a]; exact Bool.false_ne_true
    rw [if_neg a']
    exact congrArg some e

theorem ObjM.look {h : Heap} {x dx C : Addr} {mA : Str → Option Value} (I : ObjM h x dx C mA) : ∃ od, PySem.W.InstAt h x (PySem.W.instObj C dx) C (some od) ∧ ∀ name, PySem.W.lookIn name od = some (mA name) :=
  let ⟨od, ho, hl⟩ := lookIn_ns I.ns
  ⟨od, ⟨I.obj, rfl, rfl, ho⟩, hl⟩

section
variable {prog : Program} {w : World} {A : Around} {E : Value → Shared → Prop} {s : Shared} {K : PySem.W.Frag} {x dx C f : Addr} {mA : Str → Option Value} {name : Str} {v : Value}

theorem get_map {expr : Bool} {Q : Value → Shared → Prop} (X : K.In s.heap) (I : ObjM s.heap x dx C mA) (hg : PySem.W.plainGet K C name = true) (hh : PySem.W.hasDictIn K C = true)
    (ha : PySem.W.findIn K (.ref C) name = some none) (hv : mA name = some v) (hv' : PySem.W.handedIn v = true) (h : Q v { s with toks := s.toks + 1 }) :
    wpAny (model prog w) A (getAttr (.ref x) name expr) Q E s := by
  obtain ⟨od, J, hl⟩ := I.look
  exact PySem.W.get_value X J (PySem.W.plainGet_of hg).1 (PySem.W.findObj_own hh ha rfl (by rw [hl, hv])) hv' h

theorem get_meth {pl : Sem Bool} {Q : Value × List Value → Shared → Prop} (X : K.In s.heap) (I : ObjM s.heap x dx C mA) (hg : PySem.W.plainGet K C name = true)
    (hf : PySem.W.findIn K (.ref C) name = some (some (.ref f))) (ht : PySem.W.isFn K (.ref f) = true) (hv : mA name = none) (h : Q (.ref f, [.ref x]) s) :
    wpAny (model prog w) A (getMethod (.ref x) name pl) Q E s := by
  obtain ⟨od, J, hl⟩ := I.look
  exact PySem.W.method_fn X J (PySem.W.plainGet_of hg).1 (PySem.W.plainGet_of hg).2 hf (beq_iff_eq.mp ht) (by show (PySem.W.lookIn name od).map (·.isSome) = some false; rw [hl, hv]; rfl) h

theorem set_map {ns : List Str} {Q : Unit → Shared → Prop} (X : K.In s.heap) (I : ObjM s.heap x dx C mA)
    (hs : PySem.W.findIn K (.ref C) "__setattr__" = some (some (.builtin "object.__setattr__"))) (hp : PySem.W.plainOver K C = true) (ht : PySem.W.takerIn K C name = some none) (hh : PySem.W.hasDictIn K C = true)
    (hw : PySem.Within mA ns) (hsz : ns.length ≤ sizeLine)
    (h : ∀ h', ObjM h' x dx C (fun y => if y = name then some v else mA y) → Heap.SameBut dx s.heap h' → Q () { s with heap := h', toks := s.toks + 2 }) :
    wpAny (model prog w) A (setAttr (.ref x) name v) Q E s := by
  obtain ⟨od, J, hl⟩ := I.look
  refine PySem.W.set_plain X J hs (PySem.W.osa_open (s := { s with toks := s.toks + 1 }) (r := none) X J hp ht fun b => ?_)
  obtain ⟨cd, hc, hd'⟩ := PySem.W.any_some hh
  have hx : s.heap.get? x = some ⟨.ref C, some dx, .plain, #[]⟩ := I.obj
  refine wpAny_bind (wpAny_pure (wpAny_bind (wpAny_bind (wpAny_loadPart hx (wpAny_bind (PySem.W.Looks.here (s := { s with toks := s.toks + 1 }) (PySem.W.looks_clsIn X hc) ?_))))))
  rw [hd']
  refine wpAny_pure (a := some dx) (wpAny_bind (wpAny_pure (wpAny_bind ?_)))
  refine wpAny_nsSet1 (s := { s with toks := s.toks + 1 }) I.ns fun h' hn2 hs2 => ?_
  obtain ⟨oD, esD, epD, hoD, hdD, hcD⟩ := hn2.count (PySem.Within.cons name v hw)
  refine wpAny_bind (wpAny_lookBehind hoD (by rw [hdD]; exact pastItsLine_dict (Nat.le_trans hcD (by rw [List.length_cons]; omega))) ?_)
  exact wpAny_pure (h _ ⟨(hs2.2 _ (Ne.symm I.ne)).trans I.obj, hn2, I.ne⟩ hs2)

/-- C(..): the dict at the heap's end, the instance behind it; then its __init__ -/
theorem make_map {R : Result → Shared → Prop} {vs : List Value} {kw : List (Str × Value)} (X : K.In s.heap) (hm : PySem.W.makesIn K C = true)
    (hi : PySem.W.findIn K (.ref C) "__init__" = some (some (.ref f))) (hf : PySem.W.typeIn K (.ref f) = some (.type "function"))
    (h : codeAny (model prog w) (A.under (.builtin "type.__call__" ⟨.ref C :: vs, kw⟩)) (.call (.ref f) ⟨.ref (s.heap.objs.size + 1) :: vs, kw⟩) (PySem.W.InitBack (s.heap.objs.size + 1) R)
      { s with heap := (s.heap.push PySem.W.emptyDict).push (PySem.W.instObj C s.heap.objs.size) }) :
    codeAny (model prog w) A (.call (.ref C) ⟨vs, kw⟩) R s := by
  obtain ⟨hh, g, d, t, os⟩ := s
  exact PySem.W.make_core (PySem.W.makes_of X hm) (PySem.W.looks_findIn X hi) (fun self => PySem.W.bind_fn X self hf) (.inl rfl) h
end

/-! ### the attributes as a list of pairs -/
def putF (f : Str) (v : V) : List (Str × V) → List (Str × V)
  | [] => [(f, v)]
  | (g, x) :: r => if g = f then (g, v) :: r else (g, x) :: putF f v r
theorem lookup_putF (f g : Str) (v : V) : ∀ fs : List (Str × V), (putF f v fs).lookup g = if g = f then some v else fs.lookup g
  | [] => by
    show List.lookup g [(f, v)] = _
    by_cases h : g = f
    · have hb : (g == f) = true := beq_iff_eq.mpr h
      simp only [List.lookup, hb, if_pos h]
    · have hb : (g == f) = false := beq_eq_false_iff_ne.mpr h
      simp only [List.lookup, hb, if_neg h]
  | (k, x) :: r => by
    have ih := lookup_putF f g v r
    rw [show putF f v ((k, x) :: r) = (if k = f then (k, v) :: r else (k, x) :: putF f v r) from rfl]
    by_cases hk : k = f
    · rw [if_pos hk]
      by_cases h : g = k
      · have hb : (g == k) = true := beq_iff_eq.mpr h
        simp only [List.lookup, hb, if_pos (h.trans hk)]
      · have hb : (g == k) = false := beq_eq_false_iff_ne.mpr h
        simp only [List.lookup, hb, if_neg (fun e : g = f => h (e.trans hk.symm))]
    · rw [if_neg hk]
      by_cases h : g = k
      · have hb : (g == k) = true := beq_iff_eq.mpr h
        simp only [List.lookup, hb, if_neg (fun e : g = f => hk (h.symm.trans e))]
      · have hb : (g == k) = false := beq_eq_false_iff_ne.mpr h
        simp only [List.lookup, hb]
        exact ih
theorem keys_putF (f : Str) (v : V) : ∀ fs : List (Str × V), f ∈ (putF f v fs).map (·.1) ∧ ∀ g, g ∈ fs.map (·.1) → g ∈ (putF f v fs).map (·.1)
  | [] => ⟨by simp [putF], fun g h => by simp at h⟩
  | (k, x) :: r => by
    obtain ⟨i1, i2⟩ := keys_putF f v r
    rw [show putF f v ((k, x) :: r) = (if k = f then (k, v) :: r else (k, x) :: putF f v r) from rfl]
    by_cases hk : k = f
    · rw [if_pos hk]
      subst hk
      exact ⟨by simp, fun g h => by simpa using h⟩
    · rw [if_neg hk]
      refine ⟨?_, fun g h => ?_⟩
      · rw [List.map_cons]
        exact List.mem_cons_of_mem _ i1
      · rw [List.map_cons] at h ⊢
        rcases List.mem_cons.mp h with e | e
        · exact List.mem_cons.mpr (.inl e)
        · exact List.mem_cons_of_mem _ (i2 g e)
theorem length_putF (f : Str) (v : V) : ∀ fs : List (Str × V), (putF f v fs).length ≤ fs.length + 1
  | [] => by simp [putF]
  | (k, x) :: r => by
    have ih := length_putF f v r
    rw [show putF f v ((k, x) :: r) = (if k = f then (k, v) :: r else (k, x) :: putF f v r) from rfl]
    by_cases hk : k = f
    · rw [if_pos hk, List.length_cons, List.length_cons]; omega
    · rw [if_neg hk, List.length_cons, List.length_cons]; omega

theorem RelO.some_of {v : V} {o : Option Value} (r : RelO (some v) o) : ∃ u, o = some u ∧ RelV v u := by
  cases o with
  | none => exact (show False from r).elim
  | some u => exact ⟨u, rfl, r⟩
theorem RelO.none_of {o : Option Value} (r : RelO none o) : o = none := by
  cases o with
  | none => rfl
  | some u => exact (show False from r).elim
theorem handed_of {v : V} {u : Value} (r : RelV v u) : PySem.W.handedIn u = true := by
  cases v with
  | non => cases (show u = Value.none from r); rfl
  | bl b => cases (show u = Value.bool b from r); rfl
  | int i => obtain ⟨t, e⟩ := (show ∃ t, u = Value.int i t from r); cases e; rfl
  | str x => obtain ⟨t, e⟩ := (show ∃ t, u = Value.str x t from r); cases e; rfl
  | byt b => obtain ⟨t, e⟩ := (show ∃ t, u = Value.bytes b t from r); cases e; rfl
  | flt b => obtain ⟨t, e⟩ := (show ∃ t, u = Value.float b t from r); cases e; rfl
  | ref a => cases (show u = Value.ref a from r); rfl
  | ty n => cases (show u = Value.type n from r); rfl

section
variable {P : Program} {w : World} {H H' : Hp} {h h' : Heap} {a C dx : Addr} {fs fs' : List (Str × V)}
theorem ins_get (hok : HOk P w H h) (e : H a = some (.ins C dx fs)) : ∃ mA, ObjM h a dx C mA ∧ (∀ f, RelO (fs.lookup f) (mA f)) ∧ PySem.Within mA (fs.map (·.1)) ∧ fs.length ≤ 1000 ∧ H dx = some (.own a) := by
  obtain ⟨d, z, ne, ob, mA, n, r, q⟩ := (show ObjOk P w H h a (.ins C dx fs) from hok a _ e)
  exact ⟨mA, ⟨ob, n, ne⟩, r, q, z, d⟩
end

/-! ### what of the text a class must have -/
structure Cls (K : PySem.W.Frag) (C : Addr) : Prop where
  pg : PySem.W.plainGet K C Str.empty = true
  hd : PySem.W.hasDictIn K C = true
  po : PySem.W.plainOver K C = true
  sa : PySem.W.findIn K (.ref C) "__setattr__" = some (some (.builtin "object.__setattr__"))
theorem Cls.get {K : PySem.W.Frag} {C : Addr} (c : Cls K C) (f : Str) : PySem.W.plainGet K C f = true := c.pg
/-- no class of it has the name -/
def NoAttr (K : PySem.W.Frag) (C : Addr) (f : Str) : Prop := PySem.W.findIn K (.ref C) f = some none
theorem NoAttr.taker {K : PySem.W.Frag} {C : Addr} {f : Str} (n : NoAttr K C f) : PySem.W.takerIn K C f = some none := by
  unfold PySem.W.takerIn
  rw [show PySem.W.findIn K (.ref C) f = some none from n]
  rfl
/-- a constant of the class -/
structure Con (K : PySem.W.Frag) (C : Addr) (f : Str) (v : V) (u : Value) : Prop where
  at_ : PySem.W.findIn K (.ref C) f = some (some u)
  rel : RelV v u
  get : PySem.W.specialIn K u "__get__" = some none
  cp : PySem.W.copiedNames.contains f = false
/-- a method: a plain def of the class or of one above it -/
structure Meth (K : PySem.W.Frag) (C : Addr) (m : Str) (f : Addr) : Prop where
  at_ : PySem.W.findIn K (.ref C) m = some (some (.ref f))
  fn : PySem.W.isFn K (.ref f) = true
  kp : PySem.W.keepIn K (.ref f) = true

section
variable {X : Cx} {pins : List (Addr × Obj)} {σ : St} {H : Hp} {s : Shared} {a C dx : Addr} {fs : List (Str × V)} {f : Str} {v : V} {A : Around} {E : Value → Shared → Prop}

theorem getattr_ok {b : Bool} {Q : Value → Shared → Prop} (I : Inv X pins σ H s) (e : H a = some (.ins C dx fs)) (c : Cls X.K C) (n : NoAttr X.K C f) (l : fs.lookup f = some v)
    (h : ∀ u s', Inv X pins σ H s' → RelV v u → Q u s') : wpAny (model X.prog X.w) A (getAttr (.ref a) f b) Q E s := by
  obtain ⟨mA, O, r, _, _, _⟩ := ins_get I.hok e
  obtain ⟨u, hu, ru⟩ := RelO.some_of (v := v) (o := mA f) (by rw [← l]; exact r f)
  exact get_map I.kIn O (c.get f) c.hd n hu (handed_of ru) (h u _ (I.tok _) ru)

theorem getmeth_ok {m : Str} {g : Addr} {pl : Sem Bool} {Q : Value × List Value → Shared → Prop} (I : Inv X pins σ H s) (e : H a = some (.ins C dx fs)) (c : Cls X.K C) (k : Meth X.K C m g) (l : fs.lookup m = none)
    (h : Q (.ref g, [.ref a]) s) : wpAny (model X.prog X.w) A (getMethod (.ref a) m pl) Q E s := by
  obtain ⟨mA, O, r, _, _, _⟩ := ins_get I.hok e
  have hn : mA m = none := RelO.none_of (by rw [← l]; exact r m)
  exact get_meth I.kIn O (c.get m) k.at_ k.fn hn h

theorem setattr_ok {y : V} {u : Value} {Q : Unit → Shared → Prop} (I : Inv X pins σ H s) (e : H a = some (.ins C dx fs)) (c : Cls X.K C) (n : NoAttr X.K C f) (hl : fs.length < 1000) (ry : RelV y u)
    (h : ∀ s', Inv X pins σ (upd H a (.ins C dx (putF f y fs))) s' → Q () s') : wpAny (model X.prog X.w) A (setAttr (.ref a) f u) Q E s := by
  obtain ⟨mA, O, r, wi, _, ho⟩ := ins_get I.hok e
  have hz : (fs.map (·.1)).length ≤ sizeLine := by rw [List.length_map, sizeLine_eq]; omega
  refine set_map I.kIn O c.sa c.po n.taker c.hd wi hz fun h' O' sb => h _ ?_
  have hd : ∃ o, h'.get? dx = some o := let ⟨o, _, _, e', _⟩ := O'.ns; ⟨o, e'⟩
  refine I.write (x := a) (e := dx) (by rw [e]; exact True.intro) (.inr ho) (fun b q hb z => (sb.2 b hb).trans z) hd ?_
  refine ⟨by rw [upd_ne O.ne]; exact ho, ?_, O.ne, O'.obj, _, O'.ns, fun g => ?_, fun g hg => ?_⟩
  · have := length_putF f y fs; omega
  · show RelO ((putF f y fs).lookup g) (if g = f then some u else mA g)
    rw [lookup_putF]
    by_cases q : g = f
    · rw [if_pos q, if_pos q]; exact ry
    · rw [if_neg q, if_neg q]; exact r g
  · by_cases q : g = f
    · rw [q]; exact (keys_putF f y fs).1
    · refine (keys_putF f y fs).2 g (wi g fun z => hg ?_)
      show (if g = f then some u else mA g) = none
      rw [if_neg q]; exact z

/-- a new instance, tracked, without attributes -/
theorem Inv.made (I : Inv X pins σ H s) : Inv X pins σ (upd (upd H s.heap.objs.size (.own (s.heap.objs.size + 1))) (s.heap.objs.size + 1) (.ins C s.heap.objs.size []))
    { s with heap := (s.heap.push PySem.W.emptyDict).push (PySem.W.instObj C s.heap.objs.size) } := by
  have e1 : (s.heap.push PySem.W.emptyDict).get? s.heap.objs.size = some PySem.W.emptyDict := Heap.get?_push_size s.heap rfl
  have e2 : ((s.heap.push PySem.W.emptyDict).push (PySem.W.instObj C s.heap.objs.size)).get? (s.heap.objs.size + 1) = some (PySem.W.instObj C s.heap.objs.size) := by
    have := Heap.get?_push_size (s.heap.push PySem.W.emptyDict) (o := PySem.W.instObj C s.heap.objs.size) rfl
    rwa [Heap.size_push] at this
  have e3 : (s.heap.push PySem.W.emptyDict).Ns s.heap.objs.size (fun _ => none) := ⟨PySem.W.emptyDict, #[], _, e1, rfl, (fun e he => absurd he (by simp)), fun _ => rfl⟩
  have I1 := I.laid (a := s.heap.objs.size) (o := .own (s.heap.objs.size + 1)) (h' := s.heap.push PySem.W.emptyDict) (t' := s.toks) (fun b u q => Heap.get?_push_of_some _ q) (Nat.le_refl _) ⟨_, e1⟩
  refine I1.laid (a := s.heap.objs.size + 1) (o := .ins C s.heap.objs.size []) (t' := s.toks) (fun b u q => Heap.get?_push_of_some _ q) (Nat.le_of_eq (Heap.size_push _ _)) ?_
  have ne : s.heap.objs.size ≠ s.heap.objs.size + 1 := Nat.ne_of_lt (Nat.lt_succ_self _)
  refine ⟨by rw [upd_ne ne, upd_same], Nat.zero_le _, ne, e2, fun _ => none, (Heap.Ns1.of_empty e3).at fun o q => Heap.get?_push_of_some _ q, fun _ => True.intro, fun y hy => absurd rfl hy⟩

/-- e.f where nothing but the object is asked: through attributeBase (super) and the last hold -/
theorem attr_of {prog : Program} {w : World} {env : Env} {e : Expr} {f : Str} {pos : Pos} {s : Shared} {Q : Value → Shared → Prop} (hb : attributeBase e f env (eval e env) = eval e env)
    (h : wpAny (model prog w) A (eval e env) (fun o s₁ => wpAny (model prog w) A (getAttr o f true) Q E s₁) E s) : wpAny (model prog w) A (eval (.Attribute e f pos) env) Q E s :=
  Attribute_any_ h (by rw [arm_eval_Attribute, hb])
end

/-! ### readings and rules -/
/-- e.f, an attribute of the instance -/
def tFld (K : PySem.W.Frag) (ta : TE) (f : Str) : TE := fun σ H Q => ta σ H fun x H1 => ∃ a C dx fs v, x = .ref a ∧ H1 a = some (.ins C dx fs) ∧ Cls K C ∧ NoAttr K C f ∧ fs.lookup f = some v ∧ Q v H1
/-- e.f, a constant of the class -/
def tCon (K : PySem.W.Frag) (ta : TE) (f : Str) : TE := fun σ H Q => ta σ H fun x H1 => ∃ a C dx fs v u, x = .ref a ∧ H1 a = some (.ins C dx fs) ∧ Cls K C ∧ Con K C f v u ∧ fs.lookup f = none ∧ Q v H1
/-- e.f = value -/
def sFld (K : PySem.W.Frag) (ta tv : TE) (f : Str) : TS := fun D σ H => tv σ H fun y H1 => ta σ H1 fun x H2 => ∃ a C dx fs, x = .ref a ∧ H2 a = some (.ins C dx fs) ∧ Cls K C ∧ NoAttr K C f ∧ fs.length < 1000 ∧
  D.nx σ (upd H2 a (.ins C dx (putF f y fs)))
/-- an augmented operator on two values -/
def InOp (X : Cx) (op : Operator) (rd : V → V → Hp → VK → Prop) : Prop :=
  ∀ (pins : List (Addr × Obj)) (s : Shared) (σ : St) (H : Hp) (x y : V) (u v : Value) (Q : VK), Inv X pins σ H s → RelV x u → RelV y v → rd x y H Q → wpAny (model X.prog X.w) X.A (inplaceOp op u v) (EP X pins σ Q) X.xe s
/-- e.f op= value -/
def sFldAug (K : PySem.W.Frag) (ta tv : TE) (rd : V → V → Hp → VK → Prop) (f : Str) : TS := fun D σ H => ta σ H fun x H1 => ∃ a C dx fs v, x = .ref a ∧ H1 a = some (.ins C dx fs) ∧ Cls K C ∧ NoAttr K C f ∧ fs.lookup f = some v ∧
  tv σ H1 fun y H2 => rd v y H2 fun z H3 => ∃ dx' fs', H3 a = some (.ins C dx' fs') ∧ fs'.length < 1000 ∧ D.nx σ (upd H3 a (.ins C dx' (putF f z fs')))

section
variable {X : Cx} {o e value : Expr} {f : Str} {pos pos' tpos : Pos} {ta tv : TE}
theorem pe_fld (he : PE X e ta) (hb : attributeBase e f X.env (eval e X.env) = eval e X.env) : PE X (.Attribute e f pos) (tFld X.K ta f) := by
  intro pins s σ H Q I h
  refine attr_of hb (thn (he pins s σ H _ I h) fun u s1 ⟨x, H1, I1, rx, a, C, dx, fs, v, ex, ea, c, n, l, q⟩ => ?_)
  subst ex
  obtain rfl : u = Value.ref a := rx
  exact getattr_ok I1 ea c n l fun u' s2 I2 ru => ⟨v, H1, I2, ru, q⟩
theorem ps_fld (ha : PE X o ta) (hv : PE X value tv) (hs : swapsWith value (some (.Attribute o f pos')) pos.line X.env = pure false) : PS X (.Assign [.Attribute o f pos'] value pos) (sFld X.K ta tv f) := by
  intro pins s σ H D I h
  refine plainObj_wpAny_Assign_Attribute (thn (hv pins s σ H _ I h) fun u s1 ⟨y, H1, I1, ry, q⟩ => thn (ha pins s1 σ H1 _ I1 q) fun ov s2 ⟨x, H2, I2, rx, a, C, dx, fs, ex, ea, c, n, l, q2⟩ => ?_) hs
  subst ex
  obtain rfl : ov = Value.ref a := rx
  exact setattr_ok I2 ea c n l ry fun s3 I3 => ⟨σ, _, I3, q2⟩
def rAdd : V → V → Hp → VK → Prop := fun x y H Q => ∃ i j, x = .int i ∧ y = .int j ∧ Q (.int (i + j)) H
def rSub : V → V → Hp → VK → Prop := fun x y H Q => ∃ i j, x = .int i ∧ y = .int j ∧ Q (.int (i - j)) H
end

/-! ### isinstance -/
section
variable {X : Cx} {pins : List (Addr × Obj)} {σ : St} {H : Hp} {s : Shared} {A : Around} {E : Value → Shared → Prop} {Q : Value → Shared → Prop} {c : Value} {b : Bool}
/-- the type of a value, as the fragment's deciders take it; for an instance its class -/
inductive TyOf (K : PySem.W.Frag) (H : Hp) : V → Value → Prop where
  | non : TyOf K H .non (.type "NoneType")
  | bl (x : Bool) : TyOf K H (.bl x) (.type "bool")
  | int (i : Int) : TyOf K H (.int i) (.type "int")
  | str (x : Str) : TyOf K H (.str x) (.type "str")
  | flt (x : UInt64) : TyOf K H (.flt x) (.type "float")
  | lst {a : Addr} {xs : List V} (e : H a = some (.lst xs)) : TyOf K H (.ref a) (.type "list")
  | frz {a : Addr} {o : Obj} {xs : List V} (e : H a = some (.frz o (.lst xs))) : TyOf K H (.ref a) (.type "list")
  | tup {a : Addr} {xs : List V} (e : H a = some (.tup xs)) : TyOf K H (.ref a) (.type "tuple")
  | dK {a : Addr} {kvs : List (Key × V)} (e : H a = some (.dK kvs)) : TyOf K H (.ref a) (.type "dict")
  | dT {a : Addr} {kvs : List (List Key × V)} (e : H a = some (.dT kvs)) : TyOf K H (.ref a) (.type "dict")
  | ins {a C dx : Addr} {fs : List (Str × V)} (e : H a = some (.ins C dx fs)) (cl : Cls K C) (ha : PySem.W.findIn K (.ref C) "__class__" = some (some (.builtin "object.__class__")))
      (hn : PySem.W.specialIn K (.builtin "object.__class__") "__get__" = some (some (.builtin "getset_descriptor.__get__"))) (htk : PySem.W.takesIn K (.builtin "object.__class__") = some true)
      (hm : PySem.W.mroIn K C (.type "object") = some true) : TyOf K H (.ref a) (.ref C)
end
end L2

namespace L2
open PySem PySem.Spec PyProof.Rows

/-! ### room -/
structure Room (k : Nat) (A : Around) : Prop where
  hd : A.handled = none
  dp : A.depth + 3 * k + 5 < recursionLimit
  un : A.units + 16 * k + 200 < cLine
theorem Room.mono {j k : Nat} {A : Around} (r : Room k A) (h : j ≤ k) : Room j A := ⟨r.hd, by have := r.dp; omega, by have := r.un; omega⟩
theorem Room.deeper {k : Nat} {A : Around} (r : Room (k + 1) A) (env : Env) : Room k (A.deeper env) :=
  ⟨r.hd, by have := r.dp; show A.depth + 1 + 3 * k + 5 < _; omega, by have := r.un; show A.units + 3 + 16 * k + 200 < _; omega⟩
theorem Room.in1 {k : Nat} {A : Around} (r : Room (k + 1) A) : Room k A.in1 :=
  ⟨r.hd, by have := r.dp; show A.depth + 3 * k + 5 < _; omega, by have := r.un; show A.units + 1 + 16 * k + 200 < _; omega⟩
theorem make_depth {A : Around} {C : Addr} {us : List Value} {kw : List (Str × Value)} : (A.under (.builtin "type.__call__" ⟨.ref C :: us, kw⟩)).depth = A.depth + 1 := by
  first | rfl | simp [Around.under, Code.weight, Code.isCreation, Code.isGuard, Code.isCaller, Code.frames, Code.isFrame, guardIds]
theorem make_units {A : Around} {C : Addr} {us : List Value} {kw : List (Str × Value)} : (A.under (.builtin "type.__call__" ⟨.ref C :: us, kw⟩)).units = A.units + 1 := by
  first | rfl | simp [Around.under, Code.cUnits, Code.frames, Code.isFrame]
theorem Room.make {k : Nat} {A : Around} (r : Room (k + 1) A) (C : Addr) (us : List Value) (kw : List (Str × Value)) : Room k (A.under (.builtin "type.__call__" ⟨.ref C :: us, kw⟩)) :=
  ⟨r.hd, by have := r.dp; rw [make_depth]; omega, by have := r.un; rw [make_units]; omega⟩
theorem Room.depth {k : Nat} {A : Around} (r : Room k A) : A.depth < recursionLimit := by have := r.dp; omega
theorem Room.units {k : Nat} {A : Around} (r : Room k A) : A.units + 64 < cLine := by have := r.un; omega
/-! ### argument lists and displays -/
def tNil : TA := fun _ H Q => Q [] H
def tCons (ta : TE) (tr : TA) : TA := fun σ H Q => ta σ H fun x H1 => tr σ H1 fun xs H2 => Q (x :: xs) H2
section
variable {X : Cx} {e : Expr} {es : List Expr} {te : TE} {t : TA} {pos : Pos}
theorem pa_nil : PA X [] tNil := fun _ _ _ _ H Q I h => Calls.spliced_nil ⟨[], H, I, .nil, h⟩
theorem pa_cons (ha : PE X e te) (hr : PA X es t) (hs : starEach (e :: es) X.env = (false, eval e X.env) :: starEach es X.env := by rfl) : PA X (e :: es) (tCons te t) := by
  intro pos pins s σ H Q I h
  rw [hs]
  show wpAny _ _ (spliced ((false, eval e X.env) :: backTo pos (starEach es X.env))) _ _ s
  refine Calls.spliced_cons (thn (ha pins s σ H _ I h) fun u s1 ⟨x, H1, I1, r1, q1⟩ => ?_)
  exact thn (hr pos pins s1 σ H1 _ I1 q1) fun us s2 ⟨xs, H2, I2, r2, q2⟩ => ⟨x :: xs, H2, I2, .cons r1 r2, q2⟩

/-- a tuple, a list of written items -/
def tTup (t : TA) : TE := fun σ H Q => t σ H fun xs H1 => xs.length ≤ sizeLine ∧ ∀ p, H1 p = none → Q (.ref p) (upd H1 p (.tup xs))
def tLst (t : TA) : TE := fun σ H Q => t σ H fun xs H1 => xs.length ≤ sizeLine ∧ ∀ p, H1 p = none → Q (.ref p) (upd H1 p (.lst xs))
theorem pe_tup {x1} (h : PA X es t) : PE X (.Tuple es x1 pos) (tTup t) := by
  intro pins s σ H Q I hq
  refine wpAny_Tuple_spliced (thn (h pos pins s σ H _ I hq) fun us s1 ⟨xs, H1, I1, r, z, q⟩ => ⟨by rw [← r.length]; exact z, ?_⟩)
  have hf : H1 s1.heap.objs.size = none := I1.hok.fresh (Nat.le_refl _)
  refine ⟨.ref s1.heap.objs.size, upd H1 s1.heap.objs.size (.tup xs), I1.laid (t' := s1.toks) (fun b u e => Heap.get?_push_of_some _ e) (Nat.le_refl _) ?_, rfl, q _ hf⟩
  exact ⟨z, us, r, ⟨_, Heap.get?_push_size _ rfl, rfl, _, rfl, rfl⟩⟩
theorem pe_lst (h : PA X es t) : PE X (.List es pos) (tLst t) := by
  intro pins s σ H Q I hq
  refine wpAny_List_spliced (thn (h pos pins s σ H _ I hq) fun us s1 ⟨xs, H1, I1, r, z, q⟩ => ⟨by rw [← r.length]; exact z, ?_⟩)
  have hf : H1 s1.heap.objs.size = none := I1.hok.fresh (Nat.le_refl _)
  refine ⟨.ref s1.heap.objs.size, upd H1 s1.heap.objs.size (.lst xs), I1.laid (t' := s1.toks) (fun b u e => Heap.get?_push_of_some _ e) (Nat.le_refl _) ?_, rfl, q _ hf⟩
  exact ⟨z, us, 0, r, Heap.get?_push_size _ rfl⟩
end

/-! ### what a def promises -/
/-- a def's promise: the bound arguments in the parameters' order, the heap, the wanted end, the wanted exception -/
abbrev Sp := List V → Hp → VK → XK → Prop
/-- how an exception lies behind a call (file 08 gives it): the callers' frames, abstract heap and state ahead of the call, the wish, the exception, the state -/
abbrev CXT := List Env → Hp → Shared → XK → Value → Shared → Prop

/-- the state at a call -/
structure Env0 (P : Program) (w : World) (K : PySem.W.Frag) (mg : Str → Option Value) (base : Heap) (A : Around) (outer : List Env) (s : Shared) (H : Hp) : Prop where
  frames : A.frames = some outer
  mod : Mod K mg base
  bs : ∀ b o, base.get? b = some o → s.heap.get? b = some o ∧ H b = none
  bsz : base.objs.size ≤ s.heap.objs.size
  funs : s.heap.FunFrames base outer
  frf : ∀ b ∈ frs outer, H b = none
  hok : HOk P w H s.heap
  bare : AllBare s.gens
/-- a call's end -/
def CE (outer : List Env) (P : Program) (w : World) (H : Hp) (s : Shared) (Q : VK) (u : Value) (s' : Shared) : Prop :=
  ∃ v H', s'.os = s.os ∧ AllBare s'.gens ∧ Un (frs outer) [] H H' s.heap s'.heap ∧ HOk P w H' s'.heap ∧ RelV v u ∧ Q v H'
def CR (CX : CXT) (outer : List Env) (P : Program) (w : World) (H : Hp) (s : Shared) (Q : VK) (E : XK) (r : Result) (s' : Shared) : Prop :=
  match r with
  | .ok (.ret u) => CE outer P w H s Q u s'
  | .ok _ => False
  | .error e => CX outer H s E e s'
structure FnOk (P : Program) (w : World) (K : PySem.W.Frag) (mg : Str → Option Value) (base : Heap) (CX : CXT) (k : Nat) (f : Addr) (fd : FuncData) (ps : List Str) (sp : Sp) : Prop where
  len : ∀ vs H Q E, sp vs H Q E → vs.length = ps.length
  run : ∀ (A : Around) (outer : List Env) (s : Shared) (H : Hp) (args : Args) (us : List Value) (vs : List V) (Q : VK) (E : XK), Room k A → Env0 P w K mg base A outer s H → BindsTo s fd args (ps.zip us) → Vals vs us → sp vs H Q E →
    codeAny (model P w) A (.call (.ref f) args) (CR CX outer P w H s Q E) s
theorem FnOk.mono {P : Program} {w : World} {K : PySem.W.Frag} {mg : Str → Option Value} {base : Heap} {CX : CXT} {j k : Nat} {f : Addr} {fd : FuncData} {ps : List Str} {sp : Sp} (F : FnOk P w K mg base CX j f fd ps sp) (h : j ≤ k) :
    FnOk P w K mg base CX k f fd ps sp := ⟨F.len, fun A outer s H args us vs Q E hr => F.run A outer s H args us vs Q E (hr.mono h)⟩
theorem Env0.make {P : Program} {w : World} {K : PySem.W.Frag} {mg : Str → Option Value} {base : Heap} {A : Around} {outer : List Env} {s : Shared} {H : Hp} (e : Env0 P w K mg base A outer s H) (C : Addr) (us : List Value) (kw : List (Str × Value)) :
    Env0 P w K mg base (A.under (.builtin "type.__call__" ⟨.ref C :: us, kw⟩)) outer s H := ⟨by first | exact e.frames | (simpa [Around.under, Code.envs, Code.isFrame, pushEnvs] using e.frames), e.mod, e.bs, e.bsz, e.funs, e.frf, e.hok, e.bare⟩
theorem Env0.in1 {P : Program} {w : World} {K : PySem.W.Frag} {mg : Str → Option Value} {base : Heap} {A : Around} {outer : List Env} {s : Shared} {H : Hp} (e : Env0 P w K mg base A outer s H) :
    Env0 P w K mg base A.in1 outer s H := ⟨e.frames, e.mod, e.bs, e.bsz, e.funs, e.frf, e.hok, e.bare⟩

section
variable {X : Cx} {pins : List (Addr × Obj)} {σ : St} {H : Hp} {s s' : Shared}
/-- from a body: what a callee wants -/
theorem Inv.env0 (I : Inv X pins σ H s) : Env0 X.prog X.w X.K X.mg X.base X.A X.stack s H :=
  ⟨I.ok.frames, I.ok.mod, I.bs, Nat.le_trans I.ok.bsz I.sz, I.stack, I.stkFree, I.hok, I.bare⟩
/-- behind a call -/
theorem Inv.after {Q : VK} {u : Value} (I : Inv X pins σ H s) (h : CE X.stack X.prog X.w H s Q u s') : EP X pins σ Q u s' := by
  obtain ⟨v, H', os, bare, un, hok, r, q⟩ := h
  obtain ⟨hh, g, d, t, os'⟩ := s'
  obtain rfl : os' = s.os := os
  exact ⟨v, H', I.call (h' := hh) (g' := g) (d' := d) (t' := t) (ch := []) un hok bare (fun b z => absurd z (by simp)), r, q⟩
end

/-! ### calls -/
/-- f(..): the written arguments, then the defaults dvs; E: what is wanted of an exception -/
def tCall (sp : Sp) (dvs : List V) (E : XK) (t : TA) : TE := fun σ H Q => t σ H fun vs H1 => sp (vs ++ dvs) H1 Q E
/-- o.m(..) of an instance of the class at C -/
def tMeth (C : Addr) (m : Str) (sp : Sp) (dvs : List V) (E : XK) (ta : TE) (t : TA) : TE := fun σ H Q => ta σ H fun x H1 => ∃ a dx fs, x = .ref a ∧ H1 a = some (.ins C dx fs) ∧ fs.lookup m = none ∧
  t σ H1 fun vs H2 => sp (x :: (vs ++ dvs)) H2 Q E
/-- C(..): a new instance and its dict, then __init__ -/
def tMake (C : Addr) (sp : Sp) (dvs : List V) (E : XK) (t : TA) : TE := fun σ H Q => t σ H fun vs H1 => ∀ x dx, H1 x = none → H1 dx = none → dx ≠ x →
  sp (.ref x :: (vs ++ dvs)) (upd (upd H1 dx (.own x)) x (.ins C dx [])) (fun v H2 => v = .non ∧ Q (.ref x) H2) E

/-- how the parameters are bound: us the positional arguments, kw the keywords' values by name, ds the defaults that fill up -/
def Binds (K : PySem.W.Frag) (fd : FuncData) (ps : List Str) (ds : List Value) : Prop :=
  ∀ (s : Shared) (us : List Value), K.In s.heap → (us ++ ds).length = ps.length → BindsTo s fd ⟨us, []⟩ (ps.zip (us ++ ds))
/-- every parameter is given -/
theorem Binds.all {K : PySem.W.Frag} {fd : FuncData} {ps : List Str} (h : ∀ us : List Value, us.length = ps.length → bindArgs fd ⟨us, []⟩ = pure (ps.zip us)) : Binds K fd ps [] := fun s us _ hl => by
  rw [List.append_nil] at hl ⊢
  exact .of_eq (h us hl)

/-- an exception of a callee reaches what this body wants of exceptions -/
def Passes (CX : CXT) (X : Cx) (E : XK) : Prop := ∀ (pins : List (Addr × Obj)) (σ : St) (H : Hp) (s : Shared) (e : Value) (s' : Shared), Inv X pins σ H s → CX X.stack H s E e s' → X.xe e s'

section
variable {X : Cx} {CX : CXT} {k : Nat} {f C : Addr} {fd : FuncData} {ps : List Str} {sp : Sp} {dvs : List V} {ds : List Value} {E : XK} {x m : Str} {p pos apos : Pos} {e o : Expr} {es : List Expr} {ta : TE} {t : TA}

/-- the callee runs -/
theorem run_fn {pins : List (Addr × Obj)} {σ : St} {H : Hp} {s : Shared} {Q : VK} {us : List Value} {vs : List V} (F : FnOk X.prog X.w X.K X.mg X.base CX k f fd ps sp) (hr : Room k X.A) (hb : Binds X.K fd ps ds) (hd : Vals dvs ds) (hx : Passes CX X E)
    (I : Inv X pins σ H s) (r : Vals vs us) (h : sp (vs ++ dvs) H Q E) : wpAny (model X.prog X.w) X.A (call (.ref f) us) (EP X pins σ Q) X.xe s := by
  have r2 : Vals (vs ++ dvs) (us ++ ds) := r.append hd
  have hl : (us ++ ds).length = ps.length := by rw [← r2.length]; exact F.len _ _ _ _ h
  refine wpAny_call (codeAny_mono (F.run X.A X.stack s H ⟨us, []⟩ (us ++ ds) (vs ++ dvs) Q E hr I.env0 (hb s us I.kIn hl) r2 h) fun r s' hq => ?_)
  cases r with
  | error e => exact hx pins σ H s e s' I hq
  | ok fl =>
    cases fl with
    | ret u => exact I.after hq
    | next => exact False.elim hq
    | brk => exact False.elim hq
    | cont => exact False.elim hq

theorem pe_call (F : FnOk X.prog X.w X.K X.mg X.base CX k f fd ps sp) (hr : Room k X.A) (hg : Gl X x) (hm : X.mg x = some (.ref f)) (hk : PySem.W.keepIn X.K (.ref f) = true) (hb : Binds X.K fd ps ds) (hd : Vals dvs ds) (hx : Passes CX X E)
    (ha : PA X (e :: es) t) (hdb : (x == ("__debug__" : Str)) = false := by decide) (he : starEach (e :: es) X.env = (false, eval e X.env) :: starEach es X.env := by rfl) (hpl : (backTo pos (starEach es X.env)).any (·.1) = false := by rfl) :
    PE X (.Call (.Name x p) (e :: es) [] pos) (tCall sp dvs E t) := by
  intro pins s σ H Q I h
  refine wpAny_Call_Name_kw (ld_glob I hg hm ?_ hdb)
  refine PySem.W.callWith_K (h₀ := X.base) I.ok.mod.kin hk (thn (ha pos pins s σ H _ I h) fun us s1 ⟨vs, H1, I1, r, q⟩ => ⟨I1.kIn, ?_⟩) he hpl
  exact run_fn F hr hb hd hx I1 r q
/-- o.m(e, ..) -/
theorem pe_meth {pl : Sem Bool} (he : PE X o ta) (c : Cls X.K C) (hm : Meth X.K C m f) (F : FnOk X.prog X.w X.K X.mg X.base CX k f fd ps sp) (hr : Room k X.A) (hb : Binds X.K fd ps ds) (hd : Vals dvs ds) (hx : Passes CX X E) (ha : PA X (e :: es) t)
    (hst : starEach (e :: es) X.env = (false, eval e X.env) :: starEach es X.env := by rfl) (hpl : (backTo pos (starEach es X.env)).any (·.1) = false := by rfl)
    (ht : eval (.Call (.Attribute o m apos) (e :: es) [] pos) X.env = (do
      let ov ← eval o X.env
      standAt apos.atName
      let (f, first) ← holding [ov] (getMethod ov m pl)
      callWith pos f first (backTo pos (starEach (e :: es) X.env)) (backToKw pos (keywordEach [] X.env))) := by rfl) :
    PE X (.Call (.Attribute o m apos) (e :: es) [] pos) (tMeth C m sp dvs E ta t) := by
  intro pins s σ H Q I h
  refine PySem.W.methodCall_KW (pl := pl) (thn (he pins s σ H _ I h) fun u s1 ⟨x, H1, I1, rx, a, dx, fs, ex, ea, l, q⟩ => ?_) ht
  subst ex
  obtain rfl : u = Value.ref a := rx
  refine getmeth_ok I1 ea c hm l ?_
  refine PySem.W.callWith_K (first := [.ref a]) (h₀ := X.base) I.ok.mod.kin hm.kp (thn (ha pos pins s1 σ H1 _ I1 q) fun us s2 ⟨vs, H2, I2, r, q2⟩ => ⟨I2.kIn, ?_⟩) hst hpl
  exact run_fn (us := .ref a :: us) (vs := .ref a :: vs) F hr hb hd hx I2 (.cons rfl r) q2
/-- what a class must have to be made -/
structure Mk (K : PySem.W.Frag) (C f : Addr) : Prop where
  makes : PySem.W.makesIn K C = true
  init : PySem.W.findIn K (.ref C) "__init__" = some (some (.ref f))
  fn : PySem.W.isFn K (.ref f) = true
  kp : PySem.W.keepIn K (.ref C) = true

theorem run_make {pins : List (Addr × Obj)} {σ : St} {H : Hp} {s : Shared} {Q : VK} {us : List Value} {vs : List V} (M : Mk X.K C f) (F : FnOk X.prog X.w X.K X.mg X.base CX k f fd ps sp) (hr : Room (k + 1) X.A) (hb : Binds X.K fd ps ds) (hd : Vals dvs ds)
    (hx : Passes CX X E) (I : Inv X pins σ H s) (r : Vals vs us)
    (h : ∀ x dx, H x = none → H dx = none → dx ≠ x → sp (.ref x :: (vs ++ dvs)) (upd (upd H dx (.own x)) x (.ins C dx [])) (fun v H2 => v = .non ∧ Q (.ref x) H2) E) :
    wpAny (model X.prog X.w) X.A (call (.ref C) us) (EP X pins σ Q) X.xe s := by
  have hq := h (s.heap.objs.size + 1) s.heap.objs.size (I.hok.fresh (Nat.le_succ _)) (I.hok.fresh (Nat.le_refl _)) (Nat.ne_of_lt (Nat.lt_succ_self _))
  have I2 := Inv.made (C := C) I
  have r2 : Vals (V.ref (s.heap.objs.size + 1) :: (vs ++ dvs)) (Value.ref (s.heap.objs.size + 1) :: (us ++ ds)) := .cons rfl (r.append hd)
  have hl : (Value.ref (s.heap.objs.size + 1) :: us ++ ds).length = ps.length := by
    have e := r2.length
    rw [F.len _ _ _ _ hq] at e
    exact e.symm
  refine wpAny_call (make_map (f := f) I.kIn M.makes M.init (beq_iff_eq.mp M.fn) (codeAny_mono (F.run _ X.stack _ _ ⟨Value.ref (s.heap.objs.size + 1) :: us, []⟩ (Value.ref (s.heap.objs.size + 1) :: (us ++ ds)) _ _ E (hr.make C us [])
    (I2.env0.make C us []) (hb _ (Value.ref (s.heap.objs.size + 1) :: us) I2.kIn hl) r2 hq) fun r s' hq' => ?_))
  cases r with
  | error e => exact hx pins σ _ _ e s' I2 hq'
  | ok fl =>
    cases fl with
    | ret u =>
      obtain ⟨v, H', I3, rv, ev, q3⟩ := I2.after hq'
      subst ev
      exact ⟨rv, ⟨V.ref (s.heap.objs.size + 1), H', I3, rfl, q3⟩⟩
    | next => exact False.elim hq'
    | brk => exact False.elim hq'
    | cont => exact False.elim hq'
theorem pe_make (M : Mk X.K C f) (F : FnOk X.prog X.w X.K X.mg X.base CX k f fd ps sp) (hr : Room (k + 1) X.A) (hg : Gl X x) (hm : X.mg x = some (.ref C)) (hb : Binds X.K fd ps ds) (hd : Vals dvs ds) (hx : Passes CX X E)
    (ha : PA X (e :: es) t) (hdb : (x == ("__debug__" : Str)) = false := by decide) (he : starEach (e :: es) X.env = (false, eval e X.env) :: starEach es X.env := by rfl) (hpl : (backTo pos (starEach es X.env)).any (·.1) = false := by rfl) :
    PE X (.Call (.Name x p) (e :: es) [] pos) (tMake C sp dvs E t) := by
  intro pins s σ H Q I h
  refine wpAny_Call_Name_kw (ld_glob I hg hm ?_ hdb)
  refine PySem.W.callWith_K (h₀ := X.base) I.ok.mod.kin M.kp (thn (ha pos pins s σ H _ I h) fun us s1 ⟨vs, H1, I1, r, q⟩ => ⟨I1.kIn, ?_⟩) he hpl
  exact run_make M F hr hb hd hx I1 r q
end

/-! ### keywords -/
/-- the values of the keywords, from the left -/
def PK (X : Cx) (kws : List Keyword) (t : TA) : Prop :=
  ∀ (pos : Pos) (pins : List (Addr × Obj)) (s : Shared) (σ : St) (H : Hp) (Q : List V → Hp → Prop), Inv X pins σ H s → t σ H Q → wpAny (model X.prog X.w) X.A (evalAll ((backToKw pos (keywordEach kws X.env)).map (·.2))) (AP X pins σ Q) X.xe s
section
variable {X : Cx} {CX : CXT} {k : Nat} {f C : Addr} {fd : FuncData} {ps ks : List Str} {sp : Sp} {E : XK} {x m : Str} {p pos apos kpos : Pos} {e o : Expr} {es : List Expr} {kws : List Keyword} {te ta : TE} {t tk : TA} {nm : Option Str}
/-- how a call with keywords binds: g puts the positional values us and the keywords' values ws (names ks) in the parameters' order, defaults among them -/
structure KBinds (K : PySem.W.Frag) (fd : FuncData) (ps ks : List Str) (g : List Value → List Value → List Value) (gV : List V → List V → List V) : Prop where
  to : ∀ (s : Shared) (us ws : List Value), K.In s.heap → (g us ws).length = ps.length → BindsTo s fd ⟨us, ks.zip ws⟩ (ps.zip (g us ws))
  rel : ∀ {vs : List V} {us : List Value} {zs : List V} {ws : List Value}, Vals vs us → Vals zs ws → Vals (gV vs zs) (g us ws)
def tCallK (sp : Sp) (gV : List V → List V → List V) (E : XK) (t tk : TA) : TE := fun σ H Q => t σ H fun vs H1 => tk σ H1 fun zs H2 => sp (gV vs zs) H2 Q E
variable {g : List Value → List Value → List Value} {gV : List V → List V → List V}
end

/-! ### a def's body keeps its promise -/
/-- names: the parameters first -/
structure FnScope (N P : List Str) (sc : Scope) : Prop where
  kind : sc.kind = .function
  co : sc.isCoroutine = false
  gen : sc.isGenerator = false
  nd : N.Nodup
  pre : N.take P.length = P
  par : ∀ x ∈ P, sc.names.lookup x = some .local ∨ sc.names.lookup x = some .cell
  nofree : ∀ y ∈ sc.names, y.2 ≠ .free

theorem bindL_out {kindOf : Str → Option NameKind} {x : Str} : ∀ {binds : List (Str × Value)} {m : Str → Option Value}, (∀ v, (x, v) ∉ binds) → bindL kindOf binds m x = m x
  | [], _, _ => rfl
  | (n, v) :: r, m, h => by
    unfold bindL
    rw [bindL_out fun w hw => h w (List.mem_cons_of_mem _ hw)]
    split
    · have : x ≠ n := by rintro rfl; exact h v List.mem_cons_self
      simp [this]
    · rfl
theorem bindC_out {kindOf : Str → Option NameKind} {x : Str} : ∀ {binds : List (Str × Value)} {m : Str → Option Value}, (∀ v, (x, v) ∉ binds) → bindC kindOf binds m x = m x
  | [], _, _ => rfl
  | (n, v) :: r, m, h => by
    unfold bindC
    rw [bindC_out fun w hw => h w (List.mem_cons_of_mem _ hw)]
    split
    · rfl
    · have : x ≠ n := by rintro rfl; exact h v List.mem_cons_self
      simp [this]
theorem bindL_get {kindOf : Str → Option NameKind} {x : Str} {v : Value} : ∀ {P : List Str} {vs : List Value} {i : Nat} {m : Str → Option Value}, P.Nodup → P[i]? = some x → vs[i]? = some v → kindOf x = some .local →
    bindL kindOf (P.zip vs) m x = some v
  | [], _, _, _, _, h, _, _ => by simp at h
  | _ :: _, [], _, _, _, _, h, _ => by simp at h
  | p :: P, w :: vs, 0, m, nd, h1, h2, hk => by
    simp at h1 h2; subst h1; subst h2
    show bindL kindOf ((p, w) :: P.zip vs) m p = _
    unfold bindL
    rw [bindL_out fun v hv => (List.nodup_cons.mp nd).1 (List.of_mem_zip hv).1, if_pos hk]
    simp
  | p :: P, w :: vs, i + 1, m, nd, h1, h2, hk => by
    show bindL kindOf ((p, w) :: P.zip vs) m x = _
    unfold bindL
    exact bindL_get (i := i) (List.nodup_cons.mp nd).2 (by simpa using h1) (by simpa using h2) hk
theorem bindC_get {kindOf : Str → Option NameKind} {x : Str} {v : Value} : ∀ {P : List Str} {vs : List Value} {i : Nat} {m : Str → Option Value}, P.Nodup → P[i]? = some x → vs[i]? = some v → kindOf x ≠ some .local →
    bindC kindOf (P.zip vs) m x = some v
  | [], _, _, _, _, h, _, _ => by simp at h
  | _ :: _, [], _, _, _, _, h, _ => by simp at h
  | p :: P, w :: vs, 0, m, nd, h1, h2, hk => by
    simp at h1 h2; subst h1; subst h2
    show bindC kindOf ((p, w) :: P.zip vs) m p = _
    unfold bindC
    rw [bindC_out fun v hv => (List.nodup_cons.mp nd).1 (List.of_mem_zip hv).1, if_neg hk]
    simp
  | p :: P, w :: vs, i + 1, m, nd, h1, h2, hk => by
    show bindC kindOf ((p, w) :: P.zip vs) m x = _
    unfold bindC
    exact bindC_get (i := i) (List.nodup_cons.mp nd).2 (by simpa using h1) (by simpa using h2) hk

/-- the names' values at the entry -/
def start (N : List Str) (vs : List V) : St := vs.map some ++ List.replicate (N.length - vs.length) none

/-- the context of a def's body, at its entry; an exception leaves the frame, then lies as CX says -/
def cxOf (CX : CXT) (P : Program) (w : World) (K : PySem.W.Frag) (mg : Str → Option Value) (base : Heap) (N : List Str) (qual : Str) (scope : Scope) (f : Addr) (cd : Value) (A : Around) (outer : List Env) (s : Shared) (H : Hp) (E : XK) : Cx where
  prog := P
  w := w
  K := K
  mg := mg
  base := base
  A := A.deeper (envOfC qual scope s.heap.objs.size f cd)
  N := N
  s₀ := s
  H₀ := H
  env := envOfC qual scope s.heap.objs.size f cd
  outer := outer
  stack := envOfC qual scope s.heap.objs.size f cd :: outer
  ex := []
  calm := true
  fn := fun _ => true
  pn := []
  xe := fun e s' => wpAny (model P w) (A.deeper (envOfC qual scope s.heap.objs.size f cd)) (leaving (envOfC qual scope s.heap.objs.size f cd) e) (fun _ s'' => CX outer H s E e s'') (fun e' s'' => CX outer H s E e' s'') s'

theorem cell_has {sc : Scope} {n : Nat} {x : Str} (h : sc.names.lookup x = some .cell) : ∃ c, (cellsFrom n sc.names []).lookup x = some c := by
  have q := PySem.W.cellsFrom_some sc.names n [] (.inl h)
  exact Option.isSome_iff_exists.mp q

theorem inv_start {CX : CXT} {P : Program} {w : World} {K : PySem.W.Frag} {mg : Str → Option Value} {base : Heap} {N ps : List Str} {qual : Str} {scope : Scope} {f : Addr} {cd : Value} {A : Around} {outer : List Env} {s s1 : Shared} {H : Hp} {E : XK} {us : List Value} {vs : List V}
    (S : FnScope N ps scope) (hd : A.handled = none) (e0 : Env0 P w K mg base A outer s H) (hl : vs.length = ps.length) (r : Vals vs us)
    (x : InCallC s s.heap.objs.size (bindL (envOfC qual scope s.heap.objs.size f cd).kindOf (ps.zip us) fun _ => none) (cellsFrom (s.heap.objs.size + 1) scope.names []) (bindC (envOfC qual scope s.heap.objs.size f cd).kindOf (ps.zip us) fun _ => none) s1) :
    Inv (cxOf CX P w K mg base N qual scope f cd A outer s H E) [] (start N vs) H s1 := by
  have hpl : ps.length ≤ N.length := by have := congrArg List.length S.pre; rw [List.length_take] at this; omega
  obtain ⟨h1, tk, rfl, hk⟩ := x.done
  have noA : ∀ b : Addr, b ∉ (cxOf CX P w K mg base N qual scope f cd A outer s H E).ex := fun b z => absurd (show b ∈ ([] : List Addr) from z) (by simp)
  refine ⟨⟨e0.mod, S.kind, rfl, rfl, Nat.le_refl _, fun y z c h1 h2 => ?_, fun y hy => ?_, fun y c _ h => ?_, fun _ => hd, Around.frames_deeper e0.frames, .inr ⟨rfl, rfl⟩, fun b z => absurd z (noA b), e0.bs, e0.bsz, fun b _ _ => noA b, fun b z => absurd z (noA b), e0.funs, e0.frf⟩,
    rfl, e0.bare, Un.kept hk, ⟨_, x.toInCall.ns, fun i y v h1 h2 h3 => ?_⟩, fun y c h => ⟨_, x.cell y c h⟩, e0.hok.fresh (Nat.le_refl _), fun y c h => ?_, fun p hp => absurd (show p ∈ ([] : List (Addr × Obj)) from hp) (by simp), e0.hok.kept hk, ?_⟩
  · exact name_of_addr x.apart (PySem.mem_of_lookup h1) (PySem.mem_of_lookup h2)
  · have hy : scope.names.lookup y = some .cell ∨ scope.names.lookup y = some .free := hy
    rcases hy with hy | hy
    · exact cell_has hy
    · exact absurd rfl (S.nofree _ (PySem.mem_of_lookup hy))
  · exact Nat.le_of_lt (x.above y c (PySem.mem_of_lookup h))
  · have hi : i < vs.length := by
      unfold start at h2
      by_cases hi : i < vs.length
      · exact hi
      · rw [List.getElem?_append_right (by simpa using hi)] at h2
        rw [List.getElem?_replicate] at h2
        split at h2 <;> cases h2
    have ha : vs[i]? = some v := by
      unfold start at h2
      rw [List.getElem?_append_left (by simpa using hi), List.getElem?_map] at h2
      cases e : vs[i]? with
      | none => rw [e] at h2; cases h2
      | some a => rw [e] at h2; cases h2; rfl
    obtain ⟨u, hu, rv⟩ := r.get ha
    have hp : ps[i]? = some y := by
      rw [← S.pre, List.getElem?_take_of_lt (by omega)]; exact h1
    have ndP : ps.Nodup := by rw [← S.pre]; exact S.nd.sublist (List.take_sublist _ _)
    refine ⟨u, rv, ?_⟩
    rcases S.par y (List.mem_of_getElem? hp) with k | k
    · exact .inl ⟨k, bindL_get ndP hp hu k⟩
    · obtain ⟨c, e⟩ := cell_has (n := s.heap.objs.size + 1) k
      refine .inr ⟨.inl k, c, e, ?_⟩
      have q := x.cell y c e
      rw [bindC_get ndP hp hu (by show scope.names.lookup y ≠ _; rw [k]; decide)] at q
      exact q
  · exact e0.hok.fresh (Nat.le_of_lt (x.above y c (PySem.mem_of_lookup h)))
  · unfold start
    show _ = N.length
    rw [List.length_append, List.length_map, List.length_replicate]
    omega

/-- THE RULE: a def (or a method) of the text, by its body. The body's reading t is chosen for each entry; it is run at the parameters' values -/
theorem fn_of {CX : CXT} {P : Program} {w : World} {K : PySem.W.Frag} {mg : Str → Option Value} {base : Heap} {k : Nat} {f : Addr} {name qual : Str} {params : Arguments} {body : List Stmt} {scope : Scope} {dV kV doc pm cdv ct oc : Value} {an od : Option Addr}
    {osl : Array (Option Value)} {N ps : List Str} {sp : Sp} (lk : K.lookup f = some ⟨oc, od, .func (PySem.W.fnOf name qual params body scope dV kV doc pm an cdv ct), osl⟩) (hcd : PySem.W.codeIn K cdv qual = true) (S : FnScope N ps scope)
    (len : ∀ vs H Q E, sp vs H Q E → vs.length = ps.length)
    (hbody : ∀ (A : Around) (outer : List Env) (s : Shared) (H : Hp) (vs : List V) (Q : VK) (E : XK), Room k (A.deeper (envOfC qual scope s.heap.objs.size f cdv)) → sp vs H Q E →
      ∃ t, PSs (cxOf CX P w K mg base N qual scope f cdv A outer s H E) body t ∧ t { nx := fun _ H' => Q .non H', rt := Q } (start N vs) H) :
    FnOk P w K mg base CX (k + 1) f (PySem.W.fnOf name qual params body scope dV kV doc pm an cdv ct) ps sp := by
  refine ⟨len, fun A outer s H args us vs Q E hr e0 hb r hsp => ?_⟩
  have hl := len _ _ _ _ hsp
  have KX : K.In s.heap := e0.mod.kin.keeps fun b o e => (e0.bs b o e).1
  have lim : s.heap.NoLimit := e0.mod.nolimit.keeps fun b o e => (e0.bs b o e).1
  have hkind : ∀ y ∈ ps.zip us, scope.names.lookup y.1 = some .local ∨ (scope.names.lookup y.1 = some .cell ∧ ((cellsFrom (s.heap.objs.size + 1) scope.names []).lookup y.1).isSome = true) := fun ⟨n, v⟩ hy => by
    rcases S.par n (List.of_mem_zip hy).1 with q | q
    · exact .inl q
    · exact .inr ⟨q, PySem.W.cellsFrom_some _ _ _ (.inl q)⟩
  refine codeAny_call_function hr.depth (KX _ _ lk) rfl S.co S.gen rfl (PySem.W.codeRec_of KX hcd) (hb _ _ _ _ ?_)
  refine wpAny_newFunctionEnv_cells S.kind hkind fun env he s1 x => ?_
  subst he
  refine ⟨lim.keeps x.toInCall.keep, codeAny_func ?_⟩
  obtain ⟨t, ht, hq⟩ := hbody A outer s H vs Q E (hr.deeper _) hsp
  have I : Inv (cxOf CX P w K mg base N qual scope f cdv A outer s H E) [] (start N vs) H s1 := inv_start S hr.hd e0 hl r x
  refine wpAny_mono (ht [] s1 (start N vs) H _ I hq) (fun fl s' hs => ?_) fun e s' hs => hs
  have fin : ∀ {σ' : St} {H' : Hp} {v : V} {u : Value}, Inv (cxOf CX P w K mg base N qual scope f cdv A outer s H E) [] σ' H' s' → RelV v u → Q v H' → CE outer P w H s Q u s' :=
    fun {σ' H' v u} J rv q => ⟨v, H', J.os, J.bare, J.base, J.hok, rv, q⟩
  cases fl with
  | ret u =>
    obtain ⟨v, σ', H', J, rv, q⟩ := hs
    exact fin J rv q
  | next =>
    obtain ⟨σ', H', J, q⟩ := hs
    exact fin (v := V.non) (u := Value.none) J rfl q
  | brk =>
    obtain ⟨_, _, _, q⟩ := hs
    exact False.elim q
  | cont =>
    obtain ⟨_, _, _, q⟩ := hs
    exact False.elim q
end L2

namespace L2
open PySem PySem.Spec PyProof.Rows
section
variable {X : Cx} {x : Str} {p pos : Pos} {e : Expr} {es : List Expr} {t : TA} {id T : String} {r : List V → Hp → VK → Prop}

def tCB (r : List V → Hp → VK → Prop) (t : TA) : TE := fun σ H Q => t σ H fun vs H1 => r vs H1 Q
/-- f(e, ..), f a built-in function -/
theorem pe_callB (hc : CallR X (.builtin id) r) (hg : Gl X x) (hm : X.mg x = none) (hv : bootBuiltins x = some (.builtin id)) (ha : PA X (e :: es) t) (hn : x ≠ "__name__" := by decide) (hdb : (x == ("__debug__" : Str)) = false := by decide)
    (he : starEach (e :: es) X.env = (false, eval e X.env) :: starEach es X.env := by rfl) (hpl : (backTo pos (starEach es X.env)).any (·.1) = false := by rfl) : PE X (.Call (.Name x p) (e :: es) [] pos) (tCB r t) := by
  intro pins s σ H Q I h
  refine wpAny_Call_Name_kw (ld_blt I hg hm hv ?_ hn hdb)
  exact PyProof.Rows.callWith_builtin1 (thn (ha pos pins s σ H _ I h) fun us s1 ⟨vs, H1, I1, r1, q1⟩ => hc pins s1 σ H1 vs us Q I1 r1 q1) he hpl
/-- T(e, ..), T a built-in type -/
theorem pe_callTy (hc : CallR X (.type T) r) (hg : Gl X x) (hm : X.mg x = none) (hv : bootBuiltins x = some (.type T)) (ha : PA X (e :: es) t) (hn : x ≠ "__name__" := by decide) (hdb : (x == ("__debug__" : Str)) = false := by decide)
    (he : starEach (e :: es) X.env = (false, eval e X.env) :: starEach es X.env := by rfl) (hpl : (backTo pos (starEach es X.env)).any (·.1) = false := by rfl) : PE X (.Call (.Name x p) (e :: es) [] pos) (tCB r t) := by
  intro pins s σ H Q I h
  refine wpAny_Call_Name_kw (ld_blt I hg hm hv ?_ hn hdb)
  exact PyProof.Rows.callWith_type1 (thn (ha pos pins s σ H _ I h) fun us s1 ⟨vs, H1, I1, r1, q1⟩ => hc pins s1 σ H1 vs us Q I1 r1 q1) he hpl
/-- T() -/
theorem pe_callTy0 (hc : CallR X (.type T) r) (hg : Gl X x) (hm : X.mg x = none) (hv : bootBuiltins x = some (.type T)) (hn : x ≠ "__name__" := by decide) (hdb : (x == ("__debug__" : Str)) = false := by decide) :
    PE X (.Call (.Name x p) [] [] pos) (tCB r tNil) := by
  intro pins s σ H Q I h
  refine wpAny_Call_Name_kw (ld_blt I hg hm hv ?_ hn hdb)
  exact PyProof.Rows.callWith_type0 (hc pins s σ H [] [] Q I .nil h)
end
end L2

namespace HT
open PySem PyProof.Rows

/-- t < u of tuples of ints -/
def lexLt : List Int → List Int → Bool
  | [], [] => false
  | [], _ :: _ => true
  | _ :: _, [] => false
  | x :: xs, y :: ys => if x = y then lexLt xs ys else decide (x < y)
section
open PySem.SeqAt
open PySem.AutoSeq1 (wpAny_loadPart')
open PySem.MeetsSeq PySem.MeetsSeq2 PySem.MeetsSeq3

end

section
variable {prog : Program} {w : World} {A : Around} {E : Value → Shared → Prop} {s : Shared}

/-- t + u, t not empty -/
theorem cat_tup {t b : Addr} {vs ws : List Value} {Q : Value → Shared → Prop} (ht : IsTup s.heap t vs.toArray) (hb : IsTup s.heap b ws.toArray) (hv : vs ≠ [])
    (h1 : ws = [] → Q (.ref t) s) (h2 : ws ≠ [] → Q (.ref s.heap.objs.size) { s with heap := s.heap.push { cls := .type "tuple", data := .seq (vs ++ ws).toArray } })
    (hsz : vs.length + ws.length ≤ sizeLine) : wpAny (model prog w) A (binaryOp .Add (.ref t) (.ref b)) Q E s := by
  obtain ⟨⟨cls, dd, data, sl⟩, ho, hc, n, hd⟩ := id ht
  obtain ⟨⟨cls2, dd2, data2, sl2⟩, ho2, hc2, n2, hd2⟩ := id hb
  simp only at hc hd hc2 hd2
  subst hc hd hc2 hd2
  have e : vs.toArray ++ ws.toArray = (vs ++ ws).toArray := by simp
  by_cases hw : ws = []
  · exact concat_meets ⟨_, ho, rfl⟩ ⟨_, ho2, rfl⟩ noFill_tuple_add seq_tuple_add PySem.F.slot_tuple_add PySem.F.entry_tuple_add (PySem.F.args_tuple_add_2 _ _)
      (tuple_addW1 t b vs.toArray ws.toArray n n2 dd dd2 sl sl2 (by simpa using hv) (by simp [hw])) ⟨ho, ho2, h1 hw⟩
  · refine concat_meets ⟨_, ho, rfl⟩ ⟨_, ho2, rfl⟩ noFill_tuple_add seq_tuple_add PySem.F.slot_tuple_add PySem.F.entry_tuple_add (PySem.F.args_tuple_add_2 _ _)
      (tuple_addW2 t b vs.toArray ws.toArray n n2 dd dd2 sl sl2 (by simpa using hv) (by simpa using hw) (by rw [List.size_toArray, List.size_toArray]; exact hsz)) ⟨ho, ho2, ?_⟩
    rw [e]
    exact h2 hw

/-! ### t[a:b], not the whole -/
/-- a slice's bound as a place among n (d where it is left out) -/
def sIx (n d : Nat) : Option Int → Nat
  | none => d
  | some v => if v < 0 then (v + (n : Int)).toNat else min v.toNat n
theorem sIx_none (n d : Nat) : sIx n d none = d := rfl
theorem sIx_nat (n d k : Nat) : sIx n d (some (k : Int)) = min k n := by
  show (if (k : Int) < 0 then ((k : Int) + (n : Int)).toNat else min (k : Int).toNat n) = min k n
  rw [if_neg (by omega), Int.toNat_natCast]
theorem sIx_le (n d : Nat) (hd : d ≤ n) (o : Option Int) : sIx n d o ≤ n := by
  cases o with
  | none => exact hd
  | some v =>
    show (if v < 0 then (v + (n : Int)).toNat else min v.toNat n) ≤ n
    by_cases hv : v < 0
    · rw [if_pos hv]; omega
    · rw [if_neg hv]; exact Nat.min_le_right _ _
theorem clip_eq (v : Int) (n d : Nat) : (if v < 0 then max (v + (n : Int)) 0 else min v (n : Int)) = ((sIx n d (some v) : Nat) : Int) := by
  show (if v < 0 then max (v + (n : Int)) 0 else min v (n : Int)) = (((if v < 0 then (v + (n : Int)).toNat else min v.toNat n) : Nat) : Int)
  by_cases hv : v < 0
  · simp only [if_pos hv]; omega
  · simp only [if_neg hv]; omega
theorem adjust_gen (lo hi : Option Int) (n : Nat) : Builtin.Slice.sliceAdjust lo hi 1 (n : Int) = (((sIx n 0 lo : Nat) : Int), ((sIx n n hi : Nat) : Int)) := by
  have h1 : ¬ ((1 : Int) < 0) := by omega
  unfold Builtin.Slice.sliceAdjust
  simp only [h1, if_false]
  refine Prod.ext ?_ ?_
  · cases lo with
    | none => rfl
    | some v => exact clip_eq v n 0
  · cases hi with
    | none => rfl
    | some v => exact clip_eq v n n
theorem places_gen (i j : Nat) : Builtin.Slice.slicePlaces (i : Int) (j : Int) 1 = j - i := by
  unfold Builtin.Slice.slicePlaces
  have h1 : (1 : Int) > 0 := by omega
  simp only [h1, if_true, Int.ediv_one]
  split <;> omega
theorem slicePart_ {v : Value} {o : Option Int} {Q : Option Int → Shared → Prop} (p : IsPart v o) (h : Q o s) : wpAny (model prog w) A (Builtin.Slice.slicePartIndex v) Q E s := by
  cases p with
  | none => exact slicePart_none h
  | int i t => exact slicePart_int h
theorem sliceApplied_gen {sl : Addr} {vl vu : Value} {lo hi : Option Int} {n : Nat} {Q : Int × Int × Nat → Shared → Prop} (hs : s.heap.IsSliceOf sl vl vu .none) (pl : IsPart vl lo) (pu : IsPart vu hi)
    (h : Q (((sIx n 0 lo : Nat) : Int), 1, sIx n n hi - sIx n 0 lo) s) : wpAny (model prog w) A (Builtin.Slice.sliceApplied (.ref sl) (pure (n : Int))) Q E s := by
  obtain ⟨os, hos, hcs, hds⟩ := id hs
  unfold Builtin.Slice.sliceApplied Builtin.Slice.sliceFields
  refine wpAny_bind (wpAny_bind (wpAny_field hos hds (x := vl) rfl (wpAny_bind (wpAny_field hos hds (x := vu) rfl (wpAny_bind (wpAny_field hos hds (x := .none) rfl (wpAny_pure ?_)))))))
  refine wpAny_bind (slicePart_none ?_)
  show wpAny _ _ (if ((1 : Int) == 0) = true then _ else _) _ _ s
  rw [if_neg (by decide)]
  refine wpAny_bind (slicePart_ pl (wpAny_bind (slicePart_ pu (wpAny_bind (wpAny_pure ?_)))))
  show wpAny _ _ (match Builtin.Slice.sliceAdjust lo hi 1 (n : Int) with | (lo, hi) => pure (lo, (1 : Int), Builtin.Slice.slicePlaces lo hi 1)) _ _ s
  rw [adjust_gen lo hi n]
  show wpAny _ _ (pure (((sIx n 0 lo : Nat) : Int), (1 : Int), Builtin.Slice.slicePlaces ((sIx n 0 lo : Nat) : Int) ((sIx n n hi : Nat) : Int) 1)) _ _ s
  rw [places_gen]
  exact wpAny_pure h
theorem pick_gen (xs : Array Value) (i k : Nat) : ((List.range k).filterMap fun (m : Nat) => xs[((i : Int) + (m : Int) * 1).toNat]?).toArray = ((xs.toList.drop i).take k).toArray := by
  have e : (fun (m : Nat) => xs[((i : Int) + (m : Int) * 1).toNat]?) = fun m => xs[i + m]? := by
    funext m
    have : ((i : Int) + (m : Int) * 1).toNat = i + m := by omega
    rw [this]
  rw [e]
  have := pick_run xs i k
  rw [List.filterMap_map] at this
  have e2 : ((fun x => xs[x]?) ∘ fun x => i + x) = fun m => xs[i + m]? := rfl
  rw [e2] at this
  rw [this]

theorem getItem_tuple_cut {t sl : Addr} {items : Array Value} {vl vu : Value} {lo hi : Option Int} {Q : Value → Shared → Prop} (ht : IsTup s.heap t items) (hs : s.heap.IsSliceOf sl vl vu .none) (pl : IsPart vl lo) (pu : IsPart vu hi)
    (hw : ¬ (sIx items.size 0 lo = 0 ∧ sIx items.size items.size hi = items.size))
    (h : Q (.ref s.heap.objs.size) { s with heap := s.heap.push { cls := .type "tuple", data := .seq ((items.toList.drop (sIx items.size 0 lo)).take (sIx items.size items.size hi - sIx items.size 0 lo)).toArray } })
    (hsz : items.size ≤ sizeLine) : wpAny (model prog w) A (getItem (.ref t) (.ref sl)) Q E s := by
  have htake : sizeOk (.seq ((items.toList.drop (sIx items.size 0 lo)).take (sIx items.size items.size hi - sIx items.size 0 lo)).toArray) := by
    show ((items.toList.drop (sIx items.size 0 lo)).take (sIx items.size items.size hi - sIx items.size 0 lo)).toArray.size ≤ sizeLine
    rw [List.size_toArray, List.length_take, List.length_drop, Array.length_toList]
    omega
  have hj : sIx items.size items.size hi ≤ items.size := sIx_le _ _ (Nat.le_refl _) hi
  obtain ⟨os, hos, hcs, hds⟩ := id hs
  have hTs : s.TypeIs (.ref sl) "slice" := ⟨os, hos, hcs⟩
  unfold getItem
  try with_reducible refine wpAny_holding ?_
  first | refine wpAny_bind (wpAny_pure ?_) | skip
  refine wpAny_bind (wpAny_sequenceKey ht.typeIs (by decide) ?_)
  refine wpAny_bind (wpAny_callSpecial?_slot (name := Str.ofString "__getitem__") ht.typeIs PyProof.Rows.slot_tuple_getitem
    (wpAny_call_entry PyProof.Rows.slot_tuple_getitem ht.typeIs entry_tuple_getitem ?_ (args_tuple_getitem _ _)))
  show wpAny _ _ (Builtin.Tuple.tupleItemsOf (.ref t) >>= _) _ _ s
  refine wpAny_bind (tupleItemsOf_ ht ?_)
  refine wpAny_bind (wpAny_typeOf hTs ?_)
  rw [if_pos (by decide)]
  refine wpAny_bind (sliceApplied_gen hs pl pu ?_)
  have hno : ¬ ((((sIx items.size 0 lo : Nat) : Int) == 0 && (1 : Int) == 1 && (sIx items.size items.size hi - sIx items.size 0 lo) == items.size) = true) := by
    intro q
    rw [Bool.and_eq_true, Bool.and_eq_true] at q
    have q1 : ((sIx items.size 0 lo : Nat) : Int) = 0 := eq_of_beq q.1.1
    have q2 : sIx items.size items.size hi - sIx items.size 0 lo = items.size := eq_of_beq q.2
    exact hw ⟨by omega, by omega⟩
  show wpAny _ _ (if (((sIx items.size 0 lo : Nat) : Int) == 0 && (1 : Int) == 1 && (sIx items.size items.size hi - sIx items.size 0 lo) == items.size) = true then _ else _) _ _ s
  rw [if_neg hno, pick_gen]
  first
    | exact wpAny_bind (m := Builtin.Tuple.tupleExact _) (wpAny_newObj_type (wpAny_pure ⟨_, rfl, wpAny_pure h⟩) htake)
    | exact wpAny_bind (m := Builtin.Tuple.tupleExact _) (wpAny_newObj_type (wpAny_bind (wpAny_pure (wpAny_pure ⟨_, rfl, wpAny_pure h⟩))) htake)
    | exact wpAny_bind (wpAny_bind (m := Builtin.Tuple.tupleExact _) (wpAny_newObj_type (wpAny_pure (wpAny_pure ⟨_, rfl, wpAny_pure h⟩)) htake))
    | exact wpAny_bind (wpAny_bind (m := Builtin.Tuple.tupleExact _) (wpAny_newObj_type (wpAny_pure ⟨_, rfl, wpAny_pure h⟩) htake))
end
end HT

namespace L2
open PySem PySem.Spec PyProof.Rows

/-! ### the parts of a slice -/
abbrev TO := St → Hp → (Option Int → Hp → Prop) → Prop
/-- a slice's part (left out, or an int) -/
def PO (X : Cx) (e : Option Expr) (t : TO) : Prop :=
  ∀ (pins : List (Addr × Obj)) (s : Shared) (σ : St) (H : Hp) (Q : Option Int → Hp → Prop), Inv X pins σ H s → t σ H Q →
    wpAny (model X.prog X.w) X.A (evalPart e X.env) (fun u s' => ∃ o H', Inv X pins σ H' s' ∧ IsPart u o ∧ Q o H') X.xe s
def tNoPart : TO := fun _ H Q => Q none H
def tPart (t : TE) : TO := fun σ H Q => t σ H fun x H1 => ∃ i, x = .int i ∧ Q (some i) H1

theorem intsAre_of {ns : List Int} : ∀ {us : List Value}, Vals (ns.map V.int) us → IntsAre us ns := by
  induction ns with
  | nil => intro us r; rw [List.map_nil] at r; cases r; exact .nil
  | cons n ns ih =>
    intro us r
    rw [List.map_cons] at r
    cases r with
    | cons r1 r2 =>
      obtain ⟨t, e⟩ := r1
      subst e
      exact .cons n t (ih r2)

section
variable {X : Cx} {e : Expr} {te : TE} {lo hi : Option Expr} {tl th : TO} {pos p2 : Pos}

theorem po_none : PO X none tNoPart := by
  intro pins s σ H Q I h
  rw [evalPart_none]
  exact wpAny_pure ⟨none, H, I, .none, h⟩
theorem po_some (h : PE X e te) : PO X (some e) (tPart te) := by
  intro pins s σ H Q I hw
  rw [evalPart_some]
  refine thn (h pins s σ H _ I hw) fun u s1 ⟨x, H1, I1, r1, q1⟩ => ?_
  obtain ⟨i, rfl, q⟩ := q1
  obtain ⟨t, rfl⟩ := r1
  exact ⟨some i, H1, I1, .int i t, q⟩

/-- what a slice of a value is, by values: the slice object stands at sl -/
def SlR (X : Cx) (r : V → Option Int → Option Int → Hp → VK → Prop) : Prop :=
  ∀ (pins : List (Addr × Obj)) (s : Shared) (σ : St) (H : Hp) (x : V) (v vl vu : Value) (lo hi : Option Int) (sl : Addr) (Q : VK), Inv X pins σ H s → RelV x v → s.heap.IsSliceOf sl vl vu .none → IsPart vl lo → IsPart vu hi → r x lo hi H Q →
    ∃ T id, typeLookup (.type T) "__getitem__" = pure (some (.builtin id)) ∧ s.TypeIs v T ∧ wpAny (model X.prog X.w) X.A (getItem v (.ref sl)) (EP X pins σ Q) X.xe s
theorem SlR.or {r r' : V → Option Int → Option Int → Hp → VK → Prop} (h : SlR X r) (h' : SlR X r') : SlR X (fun x lo hi H Q => r x lo hi H Q ∨ r' x lo hi H Q) := by
  intro pins s σ H x v vl vu lo hi sl Q I rx hs pl pu q
  rcases q with q | q
  · exact h pins s σ H x v vl vu lo hi sl Q I rx hs pl pu q
  · exact h' pins s σ H x v vl vu lo hi sl Q I rx hs pl pu q
def tSl (r : V → Option Int → Option Int → Hp → VK → Prop) (te : TE) (tl th : TO) : TE := fun σ H Q => te σ H fun x H1 => tl σ H1 fun l H2 => th σ H2 fun u H3 => r x l u H3 Q
/-- a[lo:hi], any a -/
theorem pe_slice {r : V → Option Int → Option Int → Hp → VK → Prop} (hr : SlR X r) (he : PE X e te) (hl : PO X lo tl) (hu : PO X hi th) : PE X (.Subscript e (.Slice lo hi none p2) pos) (tSl r te tl th) := by
  intro pins s σ H Q I h
  refine Subscript_ (thn (he pins s σ H _ I h) fun v s1 ⟨x, H1, I1, r1, q1⟩ => ?_)
  refine wpAny_Slice (thn (hl pins s1 σ H1 _ I1 q1) fun vl s2 ⟨l, H2, I2, pl, q2⟩ => thn (hu pins s2 σ H2 _ I2 q2) fun vu s3 ⟨u, H3, I3, pu, q3⟩ => ?_)
  rw [evalPart_none]
  refine wpAny_pure ?_
  have I4 : Inv X pins σ H3 { s3 with heap := s3.heap.push { cls := .type "slice", data := .fields #[vl, vu, .none] } } := I3.kept (t' := s3.toks) fun b ob q => Heap.get?_push_of_some _ q
  obtain ⟨T, id, hT, ht, hg⟩ := hr pins { s3 with heap := s3.heap.push { cls := .type "slice", data := .fields #[vl, vu, .none] } } σ H3 x v vl vu l u s3.heap.objs.size Q I4 r1 (Heap.IsSliceOf.new ..) pl pu q3
  show wpAny (model X.prog X.w) X.A (subscriptTail e (.Slice lo hi none p2) v (.ref s3.heap.objs.size)) (EP X pins σ Q) X.xe { s3 with heap := s3.heap.push { cls := .type "slice", data := .fields #[vl, vu, .none] } }
  exact tail_any (ops := [.ref s3.heap.objs.size, v]) ht hT hg (by with_unfolding_all rfl)

/-- the items of xs[lo:hi] -/
def cutV (xs : List V) (lo hi : Option Int) : List V := (xs.drop (HT.sIx xs.length 0 lo)).take (HT.sIx xs.length xs.length hi - HT.sIx xs.length 0 lo)
theorem cutV_length (xs : List V) (lo hi : Option Int) : (cutV xs lo hi).length ≤ xs.length := by
  unfold cutV
  rw [List.length_take, List.length_drop]
  omega
/-- t[lo:hi], not the whole of it (the whole would be t itself) -/
def rSlT (K : PySem.W.Frag) : V → Option Int → Option Int → Hp → VK → Prop := fun x lo hi H Q => ∃ a xs, x = .ref a ∧ SqT K H a xs ∧
  ¬ (HT.sIx xs.length 0 lo = 0 ∧ HT.sIx xs.length xs.length hi = xs.length) ∧ ∀ p, H p = none → Q (.ref p) (upd H p (.tup (cutV xs lo hi)))
theorem sl_tup : SlR X (rSlT X.K) := by
  intro pins s σ H x v vl vu lo hi sl Q I rx hs pl pu h
  obtain ⟨a, xs, rfl, hx, hw, q⟩ := h
  cases rx
  obtain ⟨its, r, ht, hz⟩ := I.tuple hx
  have hlen : its.toArray.size = xs.length := by rw [List.size_toArray]; exact r.length.symm
  refine ⟨"tuple", _, PyProof.Rows.slot_tuple_getitem.lookup, ht.typeIs, ?_⟩
  refine HT.getItem_tuple_cut ht hs pl pu (by rw [hlen]; exact hw) ?_ (by rw [hlen]; exact hz)
  rw [hlen]
  refine ⟨.ref s.heap.objs.size, _, I.laid (t' := s.toks) (o := .tup (cutV xs lo hi)) (fun b ob q => Heap.get?_push_of_some _ q) (Nat.le_refl _) ?_, rfl, q _ (I.hok.fresh (Nat.le_refl _))⟩
  exact ⟨Nat.le_trans (cutV_length xs lo hi) hz, _, (r.drop (HT.sIx xs.length 0 lo)).take (HT.sIx xs.length xs.length hi - HT.sIx xs.length 0 lo), ⟨_, Heap.get?_push_size _ rfl, rfl, _, rfl, rfl⟩⟩

/-! ### t < u, t + u -/
def rLtT (K : PySem.W.Frag) : R2 := fun x y H Q => ∃ a b ns ms, x = .ref a ∧ y = .ref b ∧ SqT K H a (ns.map V.int) ∧ SqT K H b (ms.map V.int) ∧ Q (.bl (HT.lexLt ns ms)) H
/-- t + u, t not empty: u empty gives t itself -/
def rCatT (K : PySem.W.Frag) : R2 := fun x y H Q => ∃ a b xs ys, x = .ref a ∧ y = .ref b ∧ SqT K H a xs ∧ SqT K H b ys ∧ xs ≠ [] ∧ xs.length + ys.length ≤ sizeLine ∧
  (ys = [] → Q (.ref a) H) ∧ (ys ≠ [] → ∀ p, H p = none → Q (.ref p) (upd H p (.tup (xs ++ ys))))
theorem Vals.nil_iff {xs : List V} {us : List Value} (r : Vals xs us) : us = [] ↔ xs = [] := by
  cases r with
  | nil => simp
  | cons _ _ => simp
end
end L2

namespace L2
open PySem PySem.Spec PyProof.Rows

/-! ### places -/
/-- the place that an index of any sign means -/
def ixN (n : Nat) (i : Int) : Option Nat := if 0 ≤ i then (if i < n then some i.toNat else none) else if -(n : Int) ≤ i then some (i + n).toNat else none
def atI {α : Type} (xs : List α) (i : Int) : Option α := (ixN xs.length i).bind fun j => xs[j]?
theorem ixN_seq {n : Nat} {i : Int} {j : Nat} (h : ixN n i = some j) : seqIndex? i n = some j ∧ j < n ∧ -(n : Int) ≤ i ∧ i < n := by
  unfold ixN at h
  by_cases h0 : 0 ≤ i
  · rw [if_pos h0] at h
    by_cases h1 : i < n
    · rw [if_pos h1] at h
      have e : i.toNat = j := Option.some.inj h
      exact ⟨by rw [seqIndex_of h0 h1, e], by omega, by omega, h1⟩
    · rw [if_neg h1] at h; cases h
  · rw [if_neg h0] at h
    by_cases h1 : -(n : Int) ≤ i
    · rw [if_pos h1] at h
      have e : (i + n).toNat = j := Option.some.inj h
      exact ⟨by rw [seqIndex_neg (by omega) h1, e], by omega, h1, by omega⟩
    · rw [if_neg h1] at h; cases h
theorem atI_get {α : Type} {xs : List α} {i : Int} {v : α} (h : atI xs i = some v) : ∃ j, seqIndex? i xs.length = some j ∧ xs[j]? = some v ∧ j < xs.length ∧ -(xs.length : Int) ≤ i ∧ i < xs.length := by
  unfold atI at h
  cases e : ixN xs.length i with
  | none => rw [e] at h; cases h
  | some j =>
    rw [e] at h
    obtain ⟨h1, h2, h3, h4⟩ := ixN_seq e
    exact ⟨j, h1, h, h2, h3, h4⟩
theorem atI_nat {α : Type} {xs : List α} {j : Nat} {v : α} (h : xs[j]? = some v) : atI xs (j : Int) = some v := by
  have hj : j < xs.length := (List.getElem?_eq_some_iff.mp h).1
  have e : ixN xs.length (j : Int) = some j := by
    unfold ixN
    rw [if_pos (by omega), if_pos (by omega)]; simp
  unfold atI; rw [e]; exact h
/-! ### what may be subscripted -/
/-- what stands as an index of a plain subscript -/
def PlainIx (b : Expr) : Prop := ∀ o i, subscripted b false o i = operate [o, i] (getItem o i)
/-- a subscript by values -/
def IxR (X : Cx) (r : R2) : Prop :=
  ∀ (value slice : Expr) (pins : List (Addr × Obj)) (s : Shared) (σ : St) (H : Hp) (x y : V) (v u : Value) (Q : VK), Inv X pins σ H s → RelV x v → RelV y u → r x y H Q →
    subscripted slice false v u = operate [v, u] (getItem v u) → wpAny (model X.prog X.w) X.A (subscriptTail value slice v u) (EP X pins σ Q) X.xe s
/-- a call of a builtin's method by values: the receiver, the arguments -/
def MtR (X : Cx) (id : String) (r : V → List V → Hp → VK → Prop) : Prop :=
  ∀ (pins : List (Addr × Obj)) (s : Shared) (σ : St) (H : Hp) (x : V) (xs : List V) (v : Value) (us : List Value) (Q : VK), Inv X pins σ H s → RelV x v → Vals xs us → r x xs H Q →
    wpAny (model X.prog X.w) X.A (call (.builtin id) (v :: us)) (EP X pins σ Q) X.xe s
section
variable {X : Cx} {a b : Expr} {ta tb : TE} {pos : Pos}
theorem IxR.or {r r' : R2} (h : IxR X r) (h' : IxR X r') : IxR X (fun x y H Q => r x y H Q ∨ r' x y H Q) := by
  intro value slice pins s σ H x y v u Q I rx ry q hs
  rcases q with q | q
  · exact h value slice pins s σ H x y v u Q I rx ry q hs
  · exact h' value slice pins s σ H x y v u Q I rx ry q hs
theorem MtR.or {id : String} {r r' : V → List V → Hp → VK → Prop} (h : MtR X id r) (h' : MtR X id r') : MtR X id (fun x xs H Q => r x xs H Q ∨ r' x xs H Q) := by
  intro pins s σ H x xs v us Q I rx rs q
  rcases q with q | q
  · exact h pins s σ H x xs v us Q I rx rs q
  · exact h' pins s σ H x xs v us Q I rx rs q
/-- a[b] -/
theorem pe_ix {r : R2} (hr : IxR X r) (ha : PE X a ta) (hb : PE X b tb) (hs : PlainIx b) : PE X (.Subscript a b pos) (tOp r ta tb) := by
  intro pins s σ H Q I h
  exact Subscript_ (binT ha hb I h fun v u s2 x y H2 I2 rx ry q => hr a b pins s2 σ H2 x y v u Q I2 rx ry q (hs _ _))

def rIxL (K : PySem.W.Frag) : R2 := fun x y H Q => ∃ p xs i v, x = .ref p ∧ y = .int i ∧ SqL K H p xs ∧ atI xs i = some v ∧ Q v H
def rIxT (K : PySem.W.Frag) : R2 := fun x y H Q => ∃ p xs i v, x = .ref p ∧ y = .int i ∧ SqT K H p xs ∧ atI xs i = some v ∧ Q v H
def rIxS : R2 := fun x y H Q => ∃ z i c, x = .str z ∧ y = .int i ∧ z.length ≤ sizeLine ∧ atI z.cps.toList i = some c ∧ Q (.str ⟨#[c]⟩) H
theorem ix_list : IxR X (rIxL X.K) := by
  intro value slice pins s σ H x y v u Q I rx ry h hs
  obtain ⟨p, xs, i, z, rfl, rfl, hq, he, q⟩ := h
  cases rx
  obtain ⟨t, rfl⟩ := ry
  obtain ⟨its, r, pl, hz⟩ := I.list hq
  obtain ⟨j, h1, h2, h3, h4, h5⟩ := atI_get he
  obtain ⟨w, ew, rw'⟩ := r.get h2
  have hl := r.length
  have hn := line63
  have fin : EP X pins σ Q w s := ⟨z, H, I, rw', q⟩
  by_cases h0 : 0 ≤ i
  · have hj : i.toNat = j := by
      rw [seqIndex_of h0 h5] at h1
      exact Option.some.inj h1
    exact item_listR pl.isList h0 (by omega) (by rw [hj]; simpa using ew) fin hs
  · have hj : (i + (its.toArray.size : Int)).toNat = j := by
      rw [seqIndex_neg (by omega) h4] at h1
      rw [List.size_toArray, ← hl]
      exact Option.some.inj h1
    exact subscriptTail_builtinR (x := w) pl.isList.typeIs slot_list_getitem.lookup
      (wpAny_getItem_list_neg (Q := fun r s' => r = w ∧ EP X pins σ Q r s') pl.isList (by omega) (by rw [List.size_toArray] <;> omega) (by omega) (by rw [hj]; simpa using ew) ⟨rfl, fin⟩) hs
theorem ix_tup : IxR X (rIxT X.K) := by
  intro value slice pins s σ H x y v u Q I rx ry h hs
  obtain ⟨p, xs, i, z, rfl, rfl, hq, he, q⟩ := h
  cases rx
  obtain ⟨t, rfl⟩ := ry
  obtain ⟨its, r, pl, hz⟩ := I.tuple hq
  obtain ⟨j, h1, h2, h3, h4, h5⟩ := atI_get he
  obtain ⟨w, ew, rw'⟩ := r.get h2
  have hl := r.length
  have hn := line63
  have fin : EP X pins σ Q w s := ⟨z, H, I, rw', q⟩
  exact subscriptTail_builtinR (x := w) pl.typeIs slot_tuple_getitem.lookup
    (getItem_tuple (j := j) (Q := fun r s' => r = w ∧ EP X pins σ Q r s') pl (by omega) (by omega) (by rw [List.size_toArray, ← hl]; exact h1) (by simpa using ew) ⟨rfl, fin⟩) hs
theorem ix_str : IxR X rIxS := by
  intro value slice pins s σ H x y v u Q I rx ry h hs
  obtain ⟨z, i, c, rfl, rfl, hz, he, q⟩ := h
  obtain ⟨t, rfl⟩ := rx
  obtain ⟨t', rfl⟩ := ry
  obtain ⟨j, h1, h2, h3, h4, h5⟩ := atI_get he
  have hl : z.cps.toList.length = z.length := by simp [Str.length]
  rw [hl] at h1 h4 h5
  have hn := line63
  exact tail_any (typeIs_str s z t) slot_str_getitem.lookup (getItem_str (c := c) (by
    have e1 : decide (i < -(2 ^ 63 : Int)) = false := decide_eq_false (by omega)
    have e2 : decide (i ≥ 2 ^ 63) = false := decide_eq_false (by omega)
    rw [e1, e2, Bool.or_false]) (by rw [h1]; simpa using h2) ⟨.str ⟨#[c]⟩, H, I.tok _, ⟨_, rfl⟩, q⟩) hs
/-- list, tuple or str -/
def rIx (K : PySem.W.Frag) : R2 := fun x y H Q => rIxL K x y H Q ∨ rIxT K x y H Q ∨ rIxS x y H Q
/-! ### xs[i] = v, any sign -/
/-- the list's object behind a store -/
theorem mapSeq_set (its : List Value) (n j : Nat) (u : Value) : Obj.mapSeq (·.setIfInBounds j u) { cls := .type "list", data := .seq its.toArray n } = { cls := .type "list", data := .seq (its.set j u).toArray n } := by
  simp [Obj.mapSeq]
theorem Inv.lst {pins : List (Addr × Obj)} {σ : St} {H : Hp} {s : Shared} {p : Addr} {xs : List V} (I : Inv X pins σ H s) (h : H p = some (.lst xs)) :
    ∃ (its : List Value) (n : Nat), Vals xs its ∧ s.heap.get? p = some { cls := .type "list", data := .seq its.toArray n } ∧ xs.length ≤ sizeLine := by
  obtain ⟨z, its, n, r, e⟩ := I.hok p _ h
  exact ⟨its, n, r, e, z⟩
/-- the list at p is written by an update of its object -/
theorem Inv.lstUpd {pins : List (Addr × Obj)} {σ : St} {H : Hp} {s : Shared} {p : Addr} {xs ys : List V} {its its' : List Value} {n n' : Nat} {f : Obj → Obj} (I : Inv X pins σ H s) (h : H p = some (.lst xs))
    (ho : s.heap.get? p = some { cls := .type "list", data := .seq its.toArray n }) (hf : f { cls := .type "list", data := .seq its.toArray n } = { cls := .type "list", data := .seq its'.toArray n' }) (r : Vals ys its') (hz : ys.length ≤ sizeLine) (t : Nat) :
    Inv X pins σ (upd H p (.lst ys)) { s with heap := s.heap.update p f, toks := t } := by
  have e : (s.heap.update p f).get? p = some { cls := .type "list", data := .seq its'.toArray n' } := by
    rw [Heap.get?_update_self f ho (by rw [hf] <;> rfl), hf]
  refine I.write (x := p) (e := p) (by rw [h]; trivial) (.inl rfl) (fun b u hb q => (Heap.get?_update_other _ _ (Ne.symm hb)).trans q) ⟨_, e⟩ ?_
  exact ⟨hz, its', n', r, e⟩
def rSetL : V → V → V → Hp → (Hp → Prop) → Prop := fun o i v H Q => ∃ p xs k j, o = .ref p ∧ i = .int k ∧ H p = some (.lst xs) ∧ ixN xs.length k = some j ∧ Q (upd H p (.lst (xs.set j v)))
theorem set_list : PSet X rSetL := by
  intro pins s σ H o i v ov iv u Q I ro ri rv h
  obtain ⟨p, xs, k, j, rfl, rfl, hp, hj, q⟩ := h
  cases ro
  obtain ⟨t, rfl⟩ := ri
  obtain ⟨its, n, r, ho, hz⟩ := I.lst hp
  obtain ⟨h1, h2, h3, h4⟩ := ixN_seq hj
  have hl := r.length
  have hn := line63
  have I' : Inv X pins σ (upd H p (.lst (xs.set j v))) { s with heap := s.heap.update p (Obj.mapSeq (·.setIfInBounds j u)) } :=
    I.lstUpd hp ho (mapSeq_set its n j u) (r.set rv j) (by rw [List.length_set]; exact hz) s.toks
  by_cases h0 : 0 ≤ k
  · have hk : k.toNat = j := by
      rw [seqIndex_of h0 h4] at h1
      exact Option.some.inj h1
    exact PySem.W.ki_setAt ho h0 (by omega) (by rw [List.size_toArray, ← hl]; exact h4) (by rw [hk]; exact ⟨_, I', q⟩)
  · have hk : (k + (its.toArray.size : Int)).toNat = j := by
      rw [seqIndex_neg (by omega) h3] at h1
      rw [List.size_toArray, ← hl]
      exact Option.some.inj h1
    exact PySem.W.ki_setBack ho (by omega) (by rw [List.size_toArray, ← hl]; exact h3) (by omega) (by rw [hk]; exact ⟨_, I', q⟩)

/-! ### slices -/
theorem slice_bounds (lo hi : Option Int) (n : Nat) : (sliceBounds lo hi none n).1 = ((HT.sIx n 0 lo : Nat) : Int) ∧ (sliceBounds lo hi none n).2.1 = ((HT.sIx n n hi : Nat) : Int) ∧ (sliceBounds lo hi none n).2.2 = 1 := by
  refine ⟨?_, ?_, rfl⟩
  · cases lo with
    | none => simp [sliceBounds, HT.sIx]
    | some i =>
      simp only [sliceBounds, HT.sIx, Option.getD_none, show (1 : Int) > 0 by decide, if_true]
      by_cases h : i < 0
      · simp only [h, if_true] <;> omega
      · simp only [h, if_false] <;> omega
  · cases hi with
    | none => simp [sliceBounds, HT.sIx]
    | some i =>
      simp only [sliceBounds, HT.sIx, Option.getD_none, show (1 : Int) > 0 by decide, if_true]
      by_cases h : i < 0
      · simp only [h, if_true] <;> omega
      · simp only [h, if_false] <;> omega
theorem slicePick_cut (its : List Value) (lo hi : Option Int) : slicePick its.toArray lo hi none = ((its.drop (HT.sIx its.length 0 lo)).take (HT.sIx its.length its.length hi - HT.sIx its.length 0 lo)).toArray := by
  obtain ⟨h1, h2, h3⟩ := slice_bounds lo hi its.toArray.size
  unfold slicePick
  rw [h1, h2, h3]
  simp only [sliceRange_one, pick_run, List.size_toArray] <;> rfl
/-- xs[lo:hi] of a list: a new list -/
def rSlL (K : PySem.W.Frag) : V → Option Int → Option Int → Hp → VK → Prop := fun x lo hi H Q => ∃ a xs, x = .ref a ∧ SqL K H a xs ∧ ∀ p, H p = none → Q (.ref p) (upd H p (.lst (cutV xs lo hi)))
theorem sl_list : SlR X (rSlL X.K) := by
  intro pins s σ H x v vl vu lo hi sl Q I rx hs pl pu h
  obtain ⟨a, xs, rfl, hx, q⟩ := h
  cases rx
  obtain ⟨its, r, ht, hz⟩ := I.list hx
  have hlen := r.length
  refine ⟨"list", _, slot_list_getitem.lookup, ht.isList.typeIs, ?_⟩
  refine wpAny_getItem_list_slice ht.isList hs pl pu .none (by simp) ?_ (by rw [List.size_toArray] <;> omega)
  rw [slicePick_cut, ← hlen]
  refine ⟨.ref s.heap.objs.size, _, I.laid (t' := s.toks) (o := .lst (cutV xs lo hi)) (fun b ob q => Heap.get?_push_of_some _ q) (Nat.le_refl _) ?_, rfl, q _ (I.hok.fresh (Nat.le_refl _))⟩
  exact ⟨Nat.le_trans (cutV_length xs lo hi) hz, _, 0, (r.drop (HT.sIx xs.length 0 lo)).take (HT.sIx xs.length xs.length hi - HT.sIx xs.length 0 lo), Heap.get?_push_size _ rfl⟩

/-! ### in, not in: flat items -/
def flatV : V → Bool
  | .non => true
  | .bl _ => true
  | .int _ => true
  | .str _ => true
  | _ => false
/-- == of flat values -/
def eqV : V → V → Bool
  | .non, .non => true
  | .bl a, .bl b => a == b
  | .bl a, .int b => (if a then 1 else 0) == b
  | .int a, .bl b => a == (if b then 1 else 0)
  | .int a, .int b => a == b
  | .str a, .str b => a == b
  | _, _ => false
theorem eqAt_V {A : Around} {s : Shared} {y x : V} {u v : Value} (ry : RelV y u) (rx : RelV x v) (fy : flatV y = true) (fx : flatV x = true) : SeqAt.EqAt A s u v (eqV y x) := by
  cases y with
  | non =>
    cases ry
    cases x with
    | non => cases rx; exact SeqAt.EqAt.same _
    | bl b => cases rx; exact SeqAt.EqAt.none_bool b
    | int b => obtain ⟨t, rfl⟩ := rx; exact SeqAt.EqAt.none_int b t
    | str b => obtain ⟨t, rfl⟩ := rx; exact SeqAt.EqAt.none_str b t
    | _ => exact absurd (show false = true from fx) Bool.false_ne_true
  | bl a =>
    cases ry
    cases x with
    | non => cases rx; exact SeqAt.EqAt.bool_none a
    | bl b => cases rx; exact SeqAt.EqAt.bool_bool a b
    | int b => obtain ⟨t, rfl⟩ := rx; exact SeqAt.EqAt.bool_int a b t
    | str b => obtain ⟨t, rfl⟩ := rx; exact SeqAt.EqAt.bool_str a b t
    | _ => exact absurd (show false = true from fx) Bool.false_ne_true
  | int a =>
    obtain ⟨t', rfl⟩ := ry
    cases x with
    | non => cases rx; exact SeqAt.EqAt.int_none a t'
    | bl b => cases rx; exact SeqAt.EqAt.int_bool a t' b
    | int b => obtain ⟨t, rfl⟩ := rx; exact SeqAt.EqAt.int_int a t' b t
    | str b => obtain ⟨t, rfl⟩ := rx; exact SeqAt.EqAt.int_str a t' b t
    | _ => exact absurd (show false = true from fx) Bool.false_ne_true
  | str a =>
    obtain ⟨t', rfl⟩ := ry
    cases x with
    | non => cases rx; exact SeqAt.EqAt.str_none a t'
    | bl b => cases rx; exact SeqAt.EqAt.str_bool a t' b
    | int b => obtain ⟨t, rfl⟩ := rx; exact SeqAt.EqAt.str_int a t' b t
    | str b => obtain ⟨t, rfl⟩ := rx; exact SeqAt.EqAt.str_str a t' b t
    | _ => exact absurd (show false = true from fx) Bool.false_ne_true
  | _ => exact absurd (show false = true from fy) Bool.false_ne_true
/-- the items' answers, read off the values (a value's own answer does not lean on its token) -/
def eqU (x : V) (u : Value) : Bool := match u with
  | .none => eqV .non x
  | .bool b => eqV (.bl b) x
  | .int i _ => eqV (.int i) x
  | .str z _ => eqV (.str z) x
  | _ => false
theorem eqU_of {x y : V} {u : Value} (r : RelV y u) (f : flatV y = true) : eqU x u = eqV y x := by
  cases y with
  | non => cases r; rfl
  | bl b => cases r; rfl
  | int i => obtain ⟨t, rfl⟩ := r; rfl
  | str z => obtain ⟨t, rfl⟩ := r; rfl
  | _ => exact absurd (show false = true from f) Bool.false_ne_true
theorem any_eqU {x : V} : ∀ {xs : List V} {us : List Value}, Vals xs us → xs.all flatV = true → us.any (eqU x) = xs.any fun y => eqV y x
  | _, _, .nil, _ => rfl
  | y :: xs, u :: us, .cons r t, f => by
    rw [List.all_cons, Bool.and_eq_true] at f
    rw [List.any_cons, List.any_cons, eqU_of r f.1, any_eqU t f.2]
theorem mem_eqAt {A : Around} {s : Shared} {x : V} {v : Value} (rx : RelV x v) (fx : flatV x = true) : ∀ {xs : List V} {us : List Value}, Vals xs us → xs.all flatV = true → ∀ u ∈ us, SeqAt.EqAt A s u v (eqU x u)
  | _, _, .nil, _ => fun u hu => by cases hu
  | y :: xs, u :: us, .cons r t, f => fun u' hu => by
    rw [List.all_cons, Bool.and_eq_true] at f
    rcases List.mem_cons.mp hu with rfl | hu
    · rw [eqU_of r f.1]; exact eqAt_V r rx f.1 fx
    · exact mem_eqAt rx fx t f.2 u' hu
def inV (x : V) (xs : List V) : Bool := xs.any fun y => eqV y x
/-- x in a list or tuple of flat items -/
def rIn (K : PySem.W.Frag) (neg : Bool) : R2 := fun x y H Q => ∃ p xs, y = .ref p ∧ (SqL K H p xs ∨ SqT K H p xs) ∧ flatV x = true ∧ xs.all flatV = true ∧ Q (.bl (if neg then !inV x xs else inV x xs)) H
theorem op_in_seq : OpR X (compareOp .In) (rIn X.K false) := by
  intro pins s σ H x y v u Q I rx ry h
  obtain ⟨p, xs, rfl, hq, fx, fs, q⟩ := h
  cases ry
  rcases hq with hq | hq
  · obtain ⟨its, r, pl, hz⟩ := I.list hq
    refine SeqAt.in_listAt (eqU x) pl.isList (fun w hw => mem_eqAt rx fx r fs w (by simpa using hw)) ⟨.bl _, H, I, rfl, ?_⟩
    rw [show its.toArray.any (eqU x) = its.any (eqU x) by simp, any_eqU r fs]
    exact q
  · obtain ⟨its, r, pl, hz⟩ := I.tuple hq
    refine SeqAt.in_tupleAt (eqU x) pl (fun w hw => mem_eqAt rx fx r fs w (by simpa using hw)) ⟨.bl _, H, I, rfl, ?_⟩
    rw [show its.toArray.any (eqU x) = its.any (eqU x) by simp, any_eqU r fs]
    exact q
theorem op_notIn_seq : OpR X (compareOp .NotIn) (rIn X.K true) := by
  intro pins s σ H x y v u Q I rx ry h
  obtain ⟨p, xs, rfl, hq, fx, fs, q⟩ := h
  cases ry
  rcases hq with hq | hq
  · obtain ⟨its, r, pl, hz⟩ := I.list hq
    refine SeqAt.notIn_listAt (eqU x) pl.isList (fun w hw => mem_eqAt rx fx r fs w (by simpa using hw)) ⟨.bl _, H, I, rfl, ?_⟩
    rw [show its.toArray.any (eqU x) = its.any (eqU x) by simp, any_eqU r fs]
    exact q
  · obtain ⟨its, r, pl, hz⟩ := I.tuple hq
    refine SeqAt.notIn_tupleAt (eqU x) pl (fun w hw => mem_eqAt rx fx r fs w (by simpa using hw)) ⟨.bl _, H, I, rfl, ?_⟩
    rw [show its.toArray.any (eqU x) = its.any (eqU x) by simp, any_eqU r fs]
    exact q
/-! ### len, list(x), tuple(x) of any list or tuple that is read -/
theorem call_len_seq : CallR X (.builtin "len") (fun xs H Q => ∃ p ys, xs = [.ref p] ∧ (SqL X.K H p ys ∨ SqT X.K H p ys) ∧ Q (.int ys.length) H) := by
  intro pins s σ H xs us Q I r h
  obtain ⟨p, ys, rfl, hq, q⟩ := h
  obtain ⟨u, rfl, rx⟩ := vals1 r
  cases rx
  have hn := line63
  rcases hq with hq | hq
  · obtain ⟨its, r', pl, hz⟩ := I.list hq
    have hlen := r'.length
    exact Calls.call_len_list pl.isList (by simp only [List.size_toArray] <;> omega) ⟨.int ys.length, H, I.tok _, ⟨s.toks + 1, by rw [List.size_toArray, hlen]⟩, q⟩
  · obtain ⟨its, r', pl, hz⟩ := I.tuple hq
    have hlen := r'.length
    exact len_tuple pl (by simp only [List.size_toArray] <;> omega) ⟨.int ys.length, H, I.tok _, ⟨s.toks + 1, by rw [List.size_toArray, hlen]⟩, q⟩
theorem CallR.or {f : Value} {r r' : List V → Hp → VK → Prop} (h : CallR X f r) (h' : CallR X f r') : CallR X f (fun xs H Q => r xs H Q ∨ r' xs H Q) := by
  intro pins s σ H xs us Q I rs q
  rcases q with q | q
  · exact h pins s σ H xs us Q I rs q
  · exact h' pins s σ H xs us Q I rs q
theorem call_list_of : CallR X (.type "list") (fun xs H Q => ∃ p ys, xs = [.ref p] ∧ (SqL X.K H p ys ∨ SqT X.K H p ys) ∧ ∀ l, H l = none → Q (.ref l) (upd H l (.lst ys))) := by
  intro pins s σ H xs us Q I r h
  obtain ⟨p, ys, rfl, hq, q⟩ := h
  obtain ⟨u, rfl, rx⟩ := vals1 r
  cases rx
  have fin : ∀ (its : List Value), Vals ys its → ys.length ≤ sizeLine → ∀ (h' : Heap) (c' : Nat), (∀ b o', s.heap.get? b = some o' → h'.get? b = some o') →
      h'.get? s.heap.objs.size = some { cls := .type "list", dict := none, data := .seq its.toArray c', slots := #[] } → EP X pins σ Q (.ref s.heap.objs.size) { s with heap := h' } := fun its r' hz h' c' kp e =>
    ⟨.ref s.heap.objs.size, _, I.laid (t' := s.toks) kp (Nat.le_refl _) (show ObjOk X.prog X.w _ h' _ (.lst ys) from ⟨hz, its, c', r', e⟩), rfl, q _ (I.hok.fresh (Nat.le_refl _))⟩
  rcases hq with hq | hq
  · obtain ⟨its, r', pl, hz⟩ := I.list hq
    have hlen := r'.length
    obtain ⟨o, ho, hc, n, hd⟩ := pl.isList
    exact call_list_seq p (.inl rfl) ho hc hd (fun h' c' kp e => fin its r' hz h' c' kp e) (by simp only [List.size_toArray] <;> omega)
  · obtain ⟨its, r', pl, hz⟩ := I.tuple hq
    have hlen := r'.length
    obtain ⟨o, ho, hc, n, hd⟩ := pl
    exact call_list_seq p (.inr rfl) ho hc hd (fun h' c' kp e => fin its r' hz h' c' kp e) (by simp only [List.size_toArray] <;> omega)
theorem call_tuple_of : CallR X (.type "tuple") (fun xs H Q => ∃ p ys, xs = [.ref p] ∧ ((SqL X.K H p ys ∧ ∀ l, H l = none → Q (.ref l) (upd H l (.tup ys))) ∨ (SqT X.K H p ys ∧ Q (.ref p) H))) := by
  intro pins s σ H xs us Q I r h
  obtain ⟨p, ys, rfl, h⟩ := h
  obtain ⟨u, rfl, rx⟩ := vals1 r
  cases rx
  rcases h with ⟨hq, q⟩ | ⟨hq, q⟩
  · obtain ⟨its, r', pl, hz⟩ := I.list hq
    have hlen := r'.length
    refine call_tuple_list pl.isList (fun h' kp => ?_) (by simp only [List.size_toArray] <;> omega)
    have I1 : Inv X pins σ H { s with heap := h' } := I.kept (t' := s.toks) kp
    have I2 : Inv X pins σ (upd H h'.objs.size (.tup ys)) { s with heap := h'.push { cls := .type "tuple", data := .seq its.toArray } } :=
      I1.laid (t' := s.toks) (fun b o e => Heap.get?_push_of_some _ e) (Nat.le_refl _) (show ObjOk X.prog X.w _ _ _ (.tup ys) from ⟨hz, its, r', ⟨_, Heap.get?_push_size _ rfl, rfl, _, rfl, rfl⟩⟩)
    exact ⟨.ref h'.objs.size, _, I2, rfl, q _ (I1.hok.fresh (Nat.le_refl _))⟩
  · obtain ⟨its, r', pl, hz⟩ := I.tuple hq
    exact call_tuple_same pl ⟨.ref p, H, I, rfl, q⟩

/-! ### the call of a builtin's method: o.m(..) -/
/-- the value is of that builtin type -/
def tyV (K : PySem.W.Frag) (T : String) (x : V) (H : Hp) : Prop := match x with
  | .str _ => T = "str"
  | .int _ => T = "int"
  | .ref p => (T = "list" ∧ ∃ xs, SqL K H p xs) ∨ (T = "tuple" ∧ ∃ o, K.lookup p = some o ∧ o.cls = .type "tuple" ∧ o.dict = none) ∨
      (T = "dict" ∧ ((∃ kvs, H p = some (.dK kvs)) ∨ ∃ kvs, H p = some (.dT kvs))) ∨ (T = "set" ∧ ∃ S n, H p = some (.set S n))
  | _ => False
theorem tyV_is {pins : List (Addr × Obj)} {σ : St} {H : Hp} {s : Shared} {T : String} {x : V} {v : Value} (I : Inv X pins σ H s) (r : RelV x v) (ty : tyV X.K T x H) :
    s.TypeIs v T ∧ ∀ a, v = .ref a → ∃ ob, s.heap.get? a = some ob ∧ ob.dict = none := by
  cases x with
  | str z =>
    obtain ⟨t, rfl⟩ := r
    cases (show T = "str" from ty)
    exact ⟨typeIs_str s z t, fun _ e => nomatch e⟩
  | int i =>
    obtain ⟨t, rfl⟩ := r
    cases (show T = "int" from ty)
    exact ⟨typeIs_int s i t, fun _ e => nomatch e⟩
  | ref p =>
    cases r
    rcases ty with ⟨rfl, xs, hq⟩ | ⟨rfl, o, hk, hc, hd⟩ | ⟨rfl, hk⟩ | ⟨rfl, S, n, hk⟩
    · obtain ⟨its, _, pl, _⟩ := I.list hq
      refine ⟨pl.isList.typeIs, fun a e => ?_⟩
      cases e
      obtain ⟨o, n, e, c, hd, _⟩ := pl
      exact ⟨o, e, hd⟩
    · refine ⟨⟨o, I.kIn p o hk, hc⟩, fun a e => ?_⟩
      cases e
      exact ⟨o, I.kIn _ o hk, hd⟩
    · have z : ∃ o, s.heap.get? p = some o ∧ o.ExactDict := by
        rcases hk with ⟨kvs, hk⟩ | ⟨kvs, hk⟩
        · obtain ⟨_, _, _, _, o, _, _, e, ex, _⟩ := I.hok p _ hk
          exact ⟨o, e, ex⟩
        · obtain ⟨_, _, _, _, o, _, _, e, ex, _⟩ := I.hok p _ hk
          exact ⟨o, e, ex⟩
      obtain ⟨o, e, ex⟩ := z
      refine ⟨⟨o, e, ex.1⟩, fun a e2 => ?_⟩
      cases e2
      exact ⟨o, e, ex.2.1⟩
    · obtain ⟨o, _, _, _, e, ex, _⟩ := I.hok p _ hk
      refine ⟨⟨o, e, ex.1⟩, fun a e2 => ?_⟩
      cases e2
      exact ⟨o, e, ex.2.1⟩
  | _ => exact False.elim ty
def tBM0 (K : PySem.W.Frag) (T : String) (r : V → List V → Hp → VK → Prop) (to : TE) : TE := fun σ H Q => to σ H fun x H1 => tyV K T x H1 ∧ r x [] H1 Q
def tBM (K : PySem.W.Frag) (T : String) (r : V → List V → Hp → VK → Prop) (to : TE) (t : TA) : TE := fun σ H Q => to σ H fun x H1 => tyV K T x H1 ∧ t σ H1 fun xs H2 => r x xs H2 Q
variable {o e : Expr} {es : List Expr} {to : TE} {t : TA} {name : Str} {apos cpos : Pos} {T id : String} {r : V → List V → Hp → VK → Prop}
theorem pe_bm (pa : PlainAttrs T) (slot : Slot T name id) (hty : typeOf (.builtin id) = pure (.type "method_descriptor")) (hm : MtR X id r) (ho : PE X o to) (ha : PA X (e :: es) t)
    (hbase : attributeBase o name X.env (eval o X.env) = eval o X.env := by rfl)
    (hfew : ((backTo cpos (starEach (e :: es) X.env)).all (fun x => !x.1) && (backToKw cpos (keywordEach [] X.env)).all (fun x => x.1.isSome)
      && decide ((e :: es).length + ([] : List Keyword).length + (if ([] : List Keyword).isEmpty then 0 else 1) < 30)) = true := by rfl)
    (hline : (apos.endLine == cpos.line) = true := by rfl) (hs : starEach (e :: es) X.env = (false, eval e X.env) :: starEach es X.env := by rfl) (hplain : (backTo cpos (starEach es X.env)).any (·.1) = false := by rfl) :
    PE X (.Call (.Attribute o name apos) (e :: es) [] cpos) (tBM X.K T r to t) := by
  intro pins s σ H Q I h
  refine wpAny_Call_method_late hbase hfew hline rfl (thn (ho pins s σ H _ I h) fun v s1 ⟨x, H1, I1, r1, ty, q1⟩ => ?_)
  obtain ⟨h1, h2⟩ := tyV_is I1 r1 ty
  refine ⟨T, id, pa, slot, hty, h1, h2, ?_⟩
  have hA := ha cpos pins s1 σ H1 _ I1 q1
  rw [hs] at hA ⊢
  refine Calls.callWith_builtin (by show (false || (backTo cpos (starEach es X.env)).any (·.1)) = false; rw [hplain] <;> rfl) (Calls.evalArgs_plain ?_)
  exact thn hA fun us s2 ⟨vs, H2, I2, r2, q2⟩ => hm pins s2 σ H2 x vs v us Q I2 r1 r2 q2
/- xs.append(e), list.index on a module's tuple .. are MtR facts of 06m -/
end
end L2

namespace L2
open PySem PySem.Spec PyProof.Rows

def MtM (X : Cx) (id : String) (r : V → List V → Hp → VK → Prop) : Prop :=
  ∀ (pins : List (Addr × Obj)) (s : Shared) (σ : St) (H : Hp) (x : V) (xs : List V) (v : Value) (us : List Value) (Q : VK), Inv X pins σ H s → RelV x v → Vals xs us → r x xs H Q →
    wpAny (model X.prog X.w) X.A (call (.builtin id) (v :: us)) (EP X pins σ Q) X.xe s

/-! ### lists of values -/
theorem Vals.one : ∀ {x : V} {us : List Value}, Vals [x] us → ∃ u, us = [u] ∧ RelV x u
  | _, _, .cons r .nil => ⟨_, rfl, r⟩
theorem Vals.two : ∀ {x y : V} {us : List Value}, Vals [x, y] us → ∃ u v, us = [u, v] ∧ RelV x u ∧ RelV y v
  | _, _, _, .cons r (.cons q .nil) => ⟨_, _, rfl, r, q⟩
theorem Vals.zero : ∀ {us : List Value}, Vals [] us → us = []
  | _, .nil => rfl
theorem Vals.dropLast {xs : List V} {us : List Value} (h : Vals xs us) : Vals xs.dropLast us.dropLast := by
  induction h with
  | nil => exact .nil
  | cons r t ih =>
    cases t with
    | nil => exact .nil
    | cons q t' => exact .cons r ih
theorem Vals.eraseIdx : ∀ {xs : List V} {us : List Value} (i : Nat), Vals xs us → Vals (xs.eraseIdx i) (us.eraseIdx i)
  | _, _, _, .nil => .nil
  | _, _, 0, .cons _ t => t
  | _, _, i + 1, .cons r t => .cons r (Vals.eraseIdx i t)
theorem Vals.reverse {xs : List V} {us : List Value} (h : Vals xs us) : Vals xs.reverse us.reverse := by
  induction h with
  | nil => exact .nil
  | cons r t ih => rw [List.reverse_cons, List.reverse_cons]; exact Vals.append ih (.cons r .nil)
section
variable {X : Cx} {pins : List (Addr × Obj)} {σ : St} {H : Hp} {s : Shared} {l b : Addr} {xs ys zs : List V}

/-! ### the two steps: a tracked list is rewritten, a new list is laid -/
theorem Inv.lset {its its' : List Value} {n : Nat} {f : Array Value → Array Value} {t' : Nat} (I : Inv X pins σ H s) (hH : H l = some (.lst xs))
    (e : s.heap.get? l = some { cls := .type "list", data := .seq its.toArray n }) (hf : f its.toArray = its'.toArray) (hv : Vals ys its') (hz : ys.length ≤ sizeLine) :
    Inv X pins σ (upd H l (.lst ys)) { s with heap := s.heap.update l (Obj.mapSeq f), toks := t' } := by
  have q := PySem.IsL.update e f
  rw [hf] at q
  refine I.write (x := l) (e := l) (by rw [hH]; exact trivial) (.inl rfl) (fun b' u hb hu => (Heap.get?_update_other s.heap (Obj.mapSeq f) (Ne.symm hb)).trans hu) ⟨_, q⟩ ?_
  exact ⟨hz, its', _, hv, q⟩
theorem Inv.fresh (I : Inv X pins σ H s) : H s.heap.objs.size = none := I.hok.fresh (Nat.le_refl _)
theorem Inv.lstM (I : Inv X pins σ H s) (hH : H l = some (.lst xs)) : xs.length ≤ sizeLine ∧ ∃ (its : List Value) (n : Nat), Vals xs its ∧ xs.length = its.length ∧ s.heap.get? l = some { cls := .type "list", data := .seq its.toArray n } := by
  obtain ⟨z, its, n, r, e⟩ := I.hok l _ hH
  exact ⟨z, its, n, r, r.length, e⟩

end

section
variable {X : Cx}

/-! ### methods -/
def rAppend : V → List V → Hp → VK → Prop := fun x vs H Q => ∃ l xs y, x = .ref l ∧ vs = [y] ∧ H l = some (.lst xs) ∧ xs.length < sizeLine ∧ Q .non (upd H l (.lst (xs ++ [y])))
theorem mt_append : MtM X "list.append" rAppend := by
  intro pins s σ H x vs v us Q I rx rv h
  obtain ⟨l, xs, y, rfl, rfl, hH, hz, q⟩ := h
  cases rx
  obtain ⟨u, rfl, ru⟩ := rv.one
  obtain ⟨z, its, n, r, hl, e⟩ := I.lstM hH
  refine call_meets F.slot_list_append ⟨_, e, rfl⟩ F.entry_list_append (F.args_list_append_2 _ _) (PySem.list_append l its.toArray n u (by rw [List.size_toArray]; omega)) ⟨e, ?_⟩
  refine ⟨.non, _, I.lset (its' := its ++ [u]) hH e (by simp) (r.append (.cons ru .nil)) ?_, rfl, q⟩
  rw [List.length_append, List.length_singleton]
  omega

def rExtend : V → List V → Hp → VK → Prop := fun x vs H Q => ∃ l b xs zs, x = .ref l ∧ vs = [.ref b] ∧ H l = some (.lst xs) ∧ H b = some (.lst zs) ∧ xs.length + zs.length ≤ sizeLine ∧ Q .non (upd H l (.lst (xs ++ zs)))
def rPop : V → List V → Hp → VK → Prop := fun x vs H Q => ∃ l xs y, x = .ref l ∧ vs = [] ∧ H l = some (.lst xs) ∧ xs[xs.length - 1]? = some y ∧ Q y (upd H l (.lst xs.dropLast))
def rPopAt : V → List V → Hp → VK → Prop := fun x vs H Q => ∃ l xs i k y, x = .ref l ∧ vs = [.int i] ∧ H l = some (.lst xs) ∧ -(2 ^ 63) ≤ i ∧ i < 2 ^ 63 ∧ seqIndex? i xs.length = some k ∧ xs[k]? = some y ∧ Q y (upd H l (.lst (xs.eraseIdx k)))
def rReverse : V → List V → Hp → VK → Prop := fun x vs H Q => ∃ l xs, x = .ref l ∧ vs = [] ∧ H l = some (.lst xs) ∧ Q .non (upd H l (.lst xs.reverse))
def rClear : V → List V → Hp → VK → Prop := fun x vs H Q => ∃ l xs, x = .ref l ∧ vs = [] ∧ H l = some (.lst xs) ∧ Q .non (upd H l (.lst []))
/-! ### list + list, list += list, list * int -/
def rCat : R2 := fun x y H Q => ∃ l b xs zs, x = .ref l ∧ y = .ref b ∧ H l = some (.lst xs) ∧ H b = some (.lst zs) ∧ xs.length + zs.length ≤ sizeLine ∧ ∀ p, H p = none → Q (.ref p) (upd H p (.lst (xs ++ zs)))
/-- a list times an int (a negative one is nothing) -/
def rRep : R2 := fun x y H Q => ∃ l k xs, x = .ref l ∧ y = .int k ∧ H l = some (.lst xs) ∧ -(2 ^ 63) ≤ k ∧ k < 2 ^ 63 ∧ xs.length * k.toNat ≤ sizeLine ∧
  ∀ p, H p = none → Q (.ref p) (upd H p (.lst (List.replicate k.toNat xs).flatten))
/-! ### del xs[i] -/
end

/-! ### xs[a:b] = ys -/
section
variable {prog : Program} {w : World} {A : Around} {E : Value → Shared → Prop} {s : Shared}
end

section
variable {X : Cx}
end
end L2

namespace Att
open PySem PySem.W PySem.Calls PyProof.Rows

/-! ### the script -/
theorem ints_of_wellAll {P : Params} {h : Heap} : ∀ (ns : List Int) (vs : List Value), WellAll P h vs (ns.map WData.int) → IntsAre vs ns := by
  intro ns
  induction ns with
  | nil =>
    intro vs w
    rw [List.map_nil] at w
    cases w
    exact .nil
  | cons n ns ih =>
    intro vs w
    rw [List.map_cons] at w
    cases w with
    | cons a b =>
      cases a
      exact .cons _ _ (ih _ b)

theorem script_of {l : OpenLaw} {n : Nat} (hn : l.most = some n) {P : Params} {h : Heap} {args : List WData} {vals : List Value}
    (hpre : l.row.toRowW.claim.pre args = true) (hwl : WellAll P h vals args) :
    ∃ a vs ns, vals = [Value.ref a] ∧ args = [WData.list (ns.map WData.int)] ∧ h.get? a = some { cls := .type "list", data := .seq vs.toArray } ∧ IntsAre vs ns ∧ ns.length ≤ n := by
  have hsh : WShape.hasAll [] args [.list .int] = true := (pre_splitW hpre).1
  have hc : l.pre.holds [] { args := args } = true := (pre_splitW hpre).2
  obtain ⟨d, r, rfl, h1, h2⟩ := hasAllW_cons hsh
  obtain rfl := hasAllW_nil h2
  obtain ⟨xs, rfl, h3⟩ := hasW_list h1
  obtain ⟨ns, rfl⟩ := items_int h3
  have hlen : ns.length ≤ n := by
    unfold OpenLaw.pre at hc
    have h4 : (WTm.not (.lt (.lit (.int (n : Int))) (.len (.arg 0)))).holds [] { args := [.list (ns.map .int)] } = true := by
      have h4 := (holds_andW hc).1
      rw [hn] at h4
      exact h4
    have h5 := condW_of h4 (w_not (w_lt w_lit (w_len_list (w_arg rfl))))
    rw [List.length_map] at h5
    refine Nat.le_of_not_lt fun q => ?_
    have q' : (n : Int) < ((ns.length : Nat) : Int) := by omega
    first
      | (rw [decide_eq_true q'] at h5; exact absurd h5 (by decide))
      | (simp at h5; omega)
  cases hwl with
  | cons w1 w2 =>
    cases w2
    cases w1 with
    | list ho hall => exact ⟨_, _, ns, rfl, rfl, ho, ints_of_wellAll ns _ hall, hlen⟩

theorem post_true (l : OpenLaw) (args : List WData) : l.row.toRowW.claim.post args (.bool true) args = true :=
  postW_of (r := l.row.toRowW) (X := (true == true))
    (show WShape.has [] (.bool true) .bool = true by first | rfl | decide | simp [WShape.has, WShape.arms, WShape.armsAll])
    (show (WTm.eq .res (.lit (.bool true))).value [] { args := args, res := some (.bool true), after := args } = some (.bool (true == true)) from w_eq_bool (w_res rfl) w_lit) rfl

/-! ### the attachment: holds_open's last premise (the goal 'hc' behind k_head) from a wpAny of the law's body -/
/-- the same from a codeAny of the CALL (for a layer whose function contracts speak of calls) -/
theorem attach_call {l : OpenLaw} {n : Nat} {q : Program} {loose : List Str} {XP : (Str → Option Value) → Heap → Prop} {YP : World → Heap → Prop} {d : DefRec}
    (hn : l.most = some n) (hdf : d.params.defaults = [])
    (call : ∀ (w : World) (s₀ s₁ : Shared) (mg mb : Str → Option Value) (fa : Addr) (o : Obj) (pm cd doc : Value) (a : Addr) (vs : List Value) (ns : List Int),
      Ground q loose [] XP w s₀ mg mb s₁.heap → YP w s₁.heap →
      s₁.heap.get? fa = some o → o.data = .func (docDef d.name d.params d.body d.scope pm cd doc) → s₁.heap.CodeRec cd d.name → mg d.name = some (.ref fa) →
      s₁.heap.get? a = some { cls := .type "list", data := .seq vs.toArray } → IntsAre vs ns → ns.length ≤ n → s₁.gens = #[] →
      codeAny (model l.prog w) callerA (.call (.ref fa) ⟨[.ref a], []⟩) (fun r s' => r = .ok (.ret (.bool true)) ∧ OldK s₁.heap s'.heap ∧ s'.os = s₁.os ∧ AllBare s'.gens) s₁) :
    WalkO q loose XP YP l.row.toRowW d [] (fun f vs => PySem.call f vs) := by
  intro w s₀ s₁ mg mb G Y fa o pm cd doc dV kV ho hd hcd hD hmg hg args vals as hpre hlay hrd hwl hlo
  obtain rfl : dV = .none := Dflts.none hD hdf
  obtain rfl : kV = .none := Dflts.noKw hD
  obtain ⟨a, vs, ns, rfl, rfl, hobj, hints, hlen⟩ := script_of hn hpre hwl
  refine enter_call (codeAny_mono (call w s₀ s₁ mg mb fa o pm cd doc a vs ns G Y ho (fd_plain hd) hcd hmg hobj hints hlen hg) fun r s' hq => ?_)
  obtain ⟨rfl, h2, h3, h4⟩ := hq
  exact ⟨.inl ⟨.bool true, .bool true, [], rfl, fun _ => rfl, .bool true, post_true l _, fun _ => ⟨List.Pairwise.nil, fun _ hm => (nomatch hm)⟩⟩, h2, h3, h4⟩

/-! ### rules over ANY heap (no ledger) from facts about the written part K: the library's own take a ledger (News) for what they write -/
section
variable {prog : Program} {w : World} {A : Around} {E : Value → Shared → Prop} {s : Shared} {K : Frag}

/-! the whole heap as the ledger: makes every rule that writes through a ledger a rule over any heap -/
def noObjs (h : Heap) : Heap := { h with objs := #[] }
def ledger (h : Heap) (L d : Addr) : List (Addr × Obj) := (List.range h.objs.size).filterMap fun a => if a = L ∨ a = d then none else (h.get? a).map fun o => (a, o)
end
end Att

namespace L2
open PySem PySem.Spec PyProof.Rows

theorem vals_ints : ∀ {vs : List Value} {ns : List Int}, IntsAre vs ns → Vals (ns.map V.int) vs
  | _, _, .nil => .nil
  | _, _, .cons n t h => .cons ⟨t, rfl⟩ (vals_ints h)

/-- nothing is tracked but the script, known to the object (or it is an object of the module) -/
def Only (H : Hp) : Prop := ∀ b, H b = none ∨ ∃ o xs, H b = some (.frz o (.lst xs))

/-- THE HEAD: the law's promise, at the heap behind the top. F, the promise of the law's def, may use that base is part of the heap (so K.In base, base.Ns mainGlobals mg stand in Mod) -/
theorem law_call {P : Program} {w : World} {K : PySem.W.Frag} {mg mb : Str → Option Value} {CX : CXT} {k : Nat} {fa a : Addr} {fd : FuncData} {x : Str} {sp : Sp} {s₁ : Shared} {vs : List Value} {ns : List Int}
    (KX : K.In s₁.heap) (hns : s₁.heap.Ns mainGlobals mg) (hb : s₁.heap.Ns builtinsNs mb) (hbb : ∀ x : Str, x ≠ "__name__" → mb x = bootBuiltins x) (hlim : s₁.heap.NoLimit) (hg : s₁.gens = #[])
    (ha : s₁.heap.get? a = some { cls := .type "list", data := .seq vs.toArray }) (hi : IntsAre vs ns) (hl : ns.length ≤ sizeLine) (hr : Room k callerA)
    (F : ∀ base : Heap, K.In base → base.Ns mainGlobals mg → FnOk P w K mg base CX k fa fd [x] sp) (hbind : ∀ (s : Shared) (u : Value), BindsTo s fd ⟨[u], []⟩ [(x, u)])
    (hsp : ∀ H : Hp, Only H → SqL K H a (ns.map V.int) → sp [.ref a] H (fun v _ => v = .bl true) fun _ _ _ => False)
    (hCX : ∀ H e s', CX [] H s₁ (fun _ _ _ => False) e s' → False) :
    codeAny (model P w) callerA (.call (.ref fa) ⟨[.ref a], []⟩) (fun r s' => r = .ok (.ret (.bool true)) ∧ OldK s₁.heap s'.heap ∧ s'.os = s₁.os ∧ AllBare s'.gens) s₁ := by
  have rv := vals_ints hi
  have lenV := hi.length
  -- from an abstract heap in which nothing but the script may be tracked
  have core : ∀ H : Hp, Only H → SqL K H a (ns.map V.int) → HOk P w H s₁.heap → (∀ b, H b ≠ none → b = a) → (H a ≠ none → K.lookup a = none) →
      codeAny (model P w) callerA (.call (.ref fa) ⟨[.ref a], []⟩) (fun r s' => r = .ok (.ret (.bool true)) ∧ OldK s₁.heap s'.heap ∧ s'.os = s₁.os ∧ AllBare s'.gens) s₁ := by
    intro H hO hS hok hA hK
    have base_of : ∀ {b : Addr} {o : Obj}, s₁.heap.get? b = some o → H b = none → (hidT s₁.heap H).get? b = some o := fun e n => hidT_get e n
    have noA : ∀ {b : Addr} {o : Obj} {es : Array DictEntry} {ep : Nat}, s₁.heap.get? b = some o → o.data = .dict es ep → H b = none := fun {b o es ep} e d => by
      cases q : H b with
      | none => rfl
      | some u =>
        have e' : b = a := hA b (by rw [q]; simp)
        subst e'
        rw [ha] at e; cases e
        have d' : Data.seq vs.toArray _ = Data.dict es ep := d
        cases d'
    have nsK : ∀ {b : Addr} {m : Str → Option Value}, s₁.heap.Ns b m → (hidT s₁.heap H).Ns b m := fun {b m} ⟨o, es, ep, e, d, r⟩ => ⟨o, es, ep, base_of e (noA e d), d, r⟩
    have hKb : K.In (hidT s₁.heap H) := fun b o e => base_of (KX b o e) (by
      cases q : H b with
      | none => rfl
      | some u =>
        have e' : b = a := hA b (by rw [q]; simp)
        subst e'
        rw [hK (by rw [q]; simp)] at e; cases e)
    have hM : Mod K mg (hidT s₁.heap H) := ⟨hKb, nsK hns, ⟨mb, nsK hb, hbb⟩, let ⟨mc, h1, h2⟩ := hlim; ⟨mc, nsK h1, h2⟩⟩
    have e0 : Env0 P w K mg (hidT s₁.heap H) callerA [] s₁ H := ⟨rfl, hM, fun b o e => of_hidT e, Nat.le_of_eq (hidT_size _ _), trivial, fun b hb => absurd (show b ∈ ([] : List Addr) from hb) (by simp), hok, .of_eq hg⟩
    refine codeAny_mono ((F _ hKb (nsK hns)).run callerA [] s₁ H ⟨[.ref a], []⟩ [.ref a] [.ref a] _ _ hr e0 (hbind s₁ (.ref a)) (.cons rfl .nil) (hsp H hO hS)) fun r s' h => ?_
    cases r with
    | error e => exact (hCX H e s' h).elim
    | ok fl =>
      cases fl with
      | next => exact False.elim h
      | brk => exact False.elim h
      | cont => exact False.elim h
      | ret u =>
        obtain ⟨v, H', os, bare, un, hok', r', q⟩ := h
        have q' : v = .bl true := q
        subst q'
        obtain rfl : u = Value.bool true := r'
        refine ⟨rfl, OldK.of_keep fun b o e => ?_, os, bare⟩
        cases q : H b with
        | none => exact un.keep b o e q (by intro z; exact absurd (show b ∈ ([] : List Addr) from z) (by simp)) (by simp)
        | some u =>
          rcases hO b with z | ⟨ob, xs, z⟩
          · rw [q] at z; cases z
          · have z2 := un.frzs b ob _ z
            obtain ⟨e1, _⟩ := hok b _ z
            obtain ⟨e2, _⟩ := hok' b _ z2
            rw [e] at e1; cases e1
            exact e2
  cases hk : K.lookup a with
  | some o =>
    -- the script is one of the module's own objects
    have e := KX a o hk
    rw [ha] at e
    cases e
    refine core (fun _ => none) (fun _ => .inl rfl) (.inr ⟨_, vs.toArray, _, hk, rfl, rfl, rfl, by rw [List.size_toArray, lenV]; exact hl, by simpa using rv⟩) (fun b u z => by have z' : (none : Option HO) = some u := z; cases z') (fun b z => absurd rfl z) fun z => absurd rfl z
  | none =>
    refine core (fun b => if b = a then some (.frz { cls := .type "list", data := .seq vs.toArray } (.lst (ns.map V.int))) else none) (fun b => ?_) (.inl (.inr ⟨{ cls := .type "list", data := .seq vs.toArray }, if_pos rfl⟩)) (fun b u z => ?_) (fun b z => ?_) fun _ => hk
    · by_cases hb : b = a
      · exact .inr ⟨_, _, if_pos hb⟩
      · exact .inl (if_neg hb)
    · by_cases hb : b = a
      · have z' := (if_pos hb).symm.trans z
        cases z'
        subst hb
        exact ⟨ha, by rw [List.length_map]; exact hl, vs, _, rv, ha⟩
      · have z' := (if_neg hb).symm.trans z
        cases z'
    · by_cases hb : b = a
      · exact hb
      · exact absurd (if_neg hb) z
end L2

namespace L2
open PySem PySem.Spec PyProof.Rows

abbrev KOf {K : PySem.W.Frag} {h : Heap} (_ : K.In h) : PySem.W.Frag := K

/-- the goal that k_head leaves (case hc), from the law's promise. F gives the function object fd (K's own) once, then the promise over every base -/
theorem walk_of {l : PySem.W.OpenLaw} {n k : Nat} {q : Program} {loose : List Str} {XP : (Str → Option Value) → Heap → Prop} {YP : World → Heap → Prop} {d : DefRec} {K : Params → PySem.W.Frag} {CX : World → CXT} {sp : World → Sp} {x : Str}
    (hn : l.most = some n) (hn2 : n ≤ sizeLine) (hdf : d.params.defaults = []) (hr : Room k callerA)
    (hY : ∀ (w : World) (h : Heap), YP w h → (K w.params).In h)
    (F : ∀ (w : World) (mg : Str → Option Value) (fa : Addr) (h : Heap), (K w.params).In h → h.Ns mainGlobals mg → mg d.name = some (.ref fa) →
      ∃ fd : FuncData, (∀ (s : Shared) (u : Value), BindsTo s fd ⟨[u], []⟩ [(x, u)]) ∧
        ∀ base : Heap, (K w.params).In base → base.Ns mainGlobals mg → FnOk l.prog w (K w.params) mg base (CX w) k fa fd [x] (sp w))
    (hsp : ∀ (w : World) (H : Hp) (a : Addr) (ns : List Int), ns.length ≤ n → Only H → SqL (K w.params) H a (ns.map V.int) → sp w [.ref a] H (fun v _ => v = .bl true) fun _ _ _ => False)
    (hCX : ∀ (w : World) (H : Hp) (s : Shared) (e : Value) (s' : Shared), CX w [] H s (fun _ _ _ => False) e s' → False) :
    PySem.W.WalkO q loose XP YP l.row.toRowW d [] (fun f vs => PySem.call f vs) := by
  refine Att.attach_call hn hdf fun w s₀ s₁ mg mb fa o pm cd doc a vs ns G Y ho hd hcd hmg hobj hints hlen hg => ?_
  have KX := hY w _ Y
  obtain ⟨fd, hb, hF⟩ := F w mg fa _ KX G.T.g hmg
  exact law_call KX G.T.g G.T.b G.T.builtins G.T.nolimit hg hobj hints (Nat.le_trans hlen hn2) hr hF hb (fun H hO hS => hsp w H a ns hlen hO hS) fun H e s' => hCX w H s₁ e s'
end L2

/- THE LAST THEOREM (shape; LID, My.* are yours):
   My.Adr: a structure of the addresses that your layer names (classes, functions); My.Txt K t: a structure (Prop) of the equations over K;
   My.txt_mk : {K} {implicit addresses ..} (e1 : nsIn K mainGlobals "law" = some (some (.ref f))) (e2 : K.lookup f = some ⟨oc, od, .func (fnOf "law" "law" params body scope dV kV doc pm an cdv ct), sl⟩) (e3 : codeIn K cdv "law" = true) .. : ∃ t, My.Txt K t

set_option maxRecDepth 100000 in
set_option maxHeartbeats 0 in
theorem PySem.Challenge.cw_LID_holds : PySem.Challenge.rw_LID.Holds := by
  w_on; o_law; k_head; (case hw => w_witness2)
  k_fill
  refine L2.walk_of (l := PySem.Challenge.rw_LID) (n := 63) (k := 40) (x := "script") (CX := fun w => ..) (sp := fun _ => My.sp_law) rfl (by decide) rfl ⟨rfl, by decide, by decide⟩ (fun w h Y => PySem.W.kIn_of Y) ?F ?S ?C
  case F =>
    intro w mg fa h KX G hmg
    have T : ∃ t, My.Txt (L2.KOf KX) t := by
      dsimp only [L2.KOf]                          -- K must stand as «<heap const> w.params» for k_is
      refine' My.txt_mk ?e1 ?e2 ?e3 ..
      (case e1 => PySem.W.k_is)                    -- in the order: a name -> its address -> its object -> its parts
      (case e2 => PySem.W.k_is)
      ..
    obtain ⟨t, T⟩ := T
    have e0 := hmg.symm.trans (PySem.W.mg_of KX G T.law)
    cases e0                                       -- fa is the law's own address
    exact ⟨_, fun s u => .of_eq rfl, fun base kb nb => My.law_fn T kb nb⟩     -- if «.of_eq rfl» comes too early: refine' ⟨_, ?b, fun base kb nb => My.law_fn T kb nb⟩; exact fun s u => .of_eq rfl
  case S => exact fun w H a ns hl hO hS => ..
  case C => exact ..
(the tactic k_is has no namespace: write k_is) -/

/-! SHORT WORDS over the layer: a def of the text, its body, what a loop and a test want. -/
namespace L2
open PySem PySem.Spec PyProof.Rows

/-! ### the text by places -/
/-- the j-th statement of a class's body -/
def inClass (s : Stmt) (j : Nat) : Stmt := match s with
  | .ClassDef _ _ _ body _ _ _ _ _ _ _ => body.getD j (.Pass ⟨0, 0, 0, 0⟩)
  | _ => .Pass ⟨0, 0, 0, 0⟩
def defArgs (s : Stmt) : Arguments := match s with
  | .FunctionDef _ a _ _ _ _ _ _ _ _ => a
  | _ => { posonlyargs := [], args := [], vararg := none, kwonlyargs := [], kw_defaults := [], kwarg := none, defaults := [] }
def defBody (s : Stmt) : List Stmt := match s with
  | .FunctionDef _ _ b _ _ _ _ _ _ _ => b
  | _ => []
def defScope (s : Stmt) : Scope := match s with
  | .FunctionDef _ _ _ _ _ _ sc _ _ _ => sc
  | _ => { kind := .function, names := [], isGenerator := false, isCoroutine := false }

/-! ### no exception leaves a def -/
abbrev CX0 : CXT := fun _ _ _ _ _ _ => False
abbrev E0 : XK := fun _ _ _ => False
theorem pass0 {X : Cx} : Passes CX0 X E0 := fun _ _ _ _ _ _ _ h => h.elim

/-! ### a def (or method) of the text as it stands behind the top -/
structure Fun (K : PySem.W.Frag) (x qual : Str) (st : Stmt) (f : Addr) (fd : FuncData) : Prop where
  ex : ∃ (oc : Value) (od : Option Addr) (kV doc pm : Value) (an : Option Addr) (cdv ct : Value) (osl : Array (Option Value)),
    fd = PySem.W.fnOf x qual (defArgs st) (defBody st) (defScope st) .none kV doc pm an cdv ct ∧ K.lookup f = some ⟨oc, od, .func fd, osl⟩ ∧ PySem.W.codeIn K cdv qual = true
  kp : PySem.W.keepIn K (.ref f) = true
section
variable {P : Program} {w : World} {K : PySem.W.Frag} {mg : Str → Option Value} {base : Heap}
/-- THE RULE for a def: its body as a term of rules, and the reading of that term -/
theorem Fun.ok {x qual : Str} {st : Stmt} {f : Addr} {fd : FuncData} {N ps : List Str} {k : Nat} {sp : Sp} (F : Fun K x qual st f fd) (S : FnScope N ps (defScope st)) (len : ∀ vs H Q E, sp vs H Q E → vs.length = ps.length)
    (hbody : ∀ (cdv : Value) (A : Around) (outer : List Env) (s : Shared) (H : Hp) (vs : List V) (Q : VK) (E : XK), Room k (A.deeper (envOfC qual (defScope st) s.heap.objs.size f cdv)) → sp vs H Q E →
      ∃ t, PSs (cxOf CX0 P w K mg base N qual (defScope st) f cdv A outer s H E).nox (defBody st) t ∧ t { nx := fun _ H' => Q .non H', rt := Q } (start N vs) H) : FnOk P w K mg base CX0 (k + 1) f fd ps sp := by
  obtain ⟨oc, od, kV, doc, pm, an, cdv, ct, osl, rfl, lk, hcd⟩ := F.ex
  refine fn_of lk hcd S len fun A outer s H vs Q E hr hsp => ?_
  obtain ⟨t, h, q⟩ := hbody cdv A outer s H vs Q E hr hsp
  exact ⟨t, h.nox, q⟩
/-- how its arguments bind (no defaults): h is «fun _ _ _ _ _ _ us hl => match us, hl with | [_, _], _ => rfl», one _ a parameter -/
theorem Fun.binds {x qual : Str} {st : Stmt} {f : Addr} {fd : FuncData} {ps : List Str} (F : Fun K x qual st f fd)
    (h : ∀ (kV doc pm : Value) (an : Option Addr) (cdv ct : Value) (us : List Value), us.length = ps.length → bindArgs (PySem.W.fnOf x qual (defArgs st) (defBody st) (defScope st) .none kV doc pm an cdv ct) ⟨us, []⟩ = pure (ps.zip us)) : Binds K fd ps [] := by
  obtain ⟨oc, od, kV, doc, pm, an, cdv, ct, osl, rfl, lk, hcd⟩ := F.ex
  exact .all (h kV doc pm an cdv ct)
theorem fun_mk {x qual : Str} {st : Stmt} {f : Addr} {oc : Value} {od an : Option Addr} {osl : Array (Option Value)} {kV doc pm cdv ct : Value} (l : K.lookup f = some ⟨oc, od, .func (PySem.W.fnOf x qual (defArgs st) (defBody st) (defScope st) .none kV doc pm an cdv ct), osl⟩)
    (c : PySem.W.codeIn K cdv qual = true) (k : PySem.W.keepIn K (.ref f) = true) : Fun K x qual st f (PySem.W.fnOf x qual (defArgs st) (defBody st) (defScope st) .none kV doc pm an cdv ct) := ⟨⟨oc, od, kV, doc, pm, an, cdv, ct, osl, rfl, l, c⟩, k⟩
end
theorem hu_of {A : Around} {k : Nat} (hr : Room k A) : A.units + 1 < cLine := Nat.lt_of_le_of_lt (Nat.add_le_add_left (by decide : 1 ≤ 64) _) hr.units
theorem small1000 {n : Nat} (h : n ≤ 1000) : n < sizeLine := Nat.lt_of_le_of_lt h (by decide)

/-! ### expressions in short: the name that stands in the i-th slot -/
section
variable {X : Cx}
theorem pv (i : Nat) {x : Str} {pos : Pos} (hN : X.N[i]? = some x := by rfl) (hv : Vis X.env.scope x := by first | exact Or.inl rfl | exact Or.inr (Or.inl rfl) | exact Or.inr (Or.inr rfl)) (hd : (x == ("__debug__" : Str)) = false := by decide)
    (hcd : (x == ("__classdict__" : Str)) = false := by decide) : PE X (.Name x pos) (tVar i) := pe_var hN hv hd hcd
end

/-! ### tests -/
theorem iteF {A B : Prop} (h : B) : if false = true then A else B := by
  rw [if_neg Bool.false_ne_true]
  exact h
theorem iteT {A B : Prop} (h : A) : if true = true then A else B := by
  rw [if_pos rfl]
  exact h
theorem ite2 {c A B : Prop} [Decidable c] (h1 : c → A) (h2 : ¬ c → B) : if c then A else B := by
  by_cases h : c
  · rw [if_pos h]
    exact h1 h
  · rw [if_neg h]
    exact h2 h
/-! ### heaps -/
/-- all that was tracked is as it was -/
def Same (H H' : Hp) : Prop := ∀ b o, H b = some o → H' b = some o
theorem Same.refl (H : Hp) : Same H H := fun _ _ h => h
theorem Same.trans {H H1 H2 : Hp} (a : Same H H1) (b : Same H1 H2) : Same H H2 := fun c o h => b c o (a c o h)
theorem Same.free {H H' : Hp} (e : Same H H') {l : Addr} (h : H' l = Option.none) : H l = Option.none := by
  cases q : H l with
  | none => rfl
  | some o =>
    rw [e l o q] at h
    cases h
theorem Same.seq {K : PySem.W.Frag} {H H' : Hp} {a : Addr} {xs : List V} (e : Same H H') (h : SqL K H a xs) : SqL K H' a xs := by
  rcases h with (h | ⟨o, h⟩) | h
  · exact .inl (.inl (e _ _ h))
  · exact .inl (.inr ⟨o, e _ _ h⟩)
  · exact .inr h

end L2

set_option Elab.async false
set_option linter.all false
set_option maxRecDepth 100000
namespace L2
open PySem PySem.Spec PyProof.Rows

/-! ### lists of pairs as tables -/
section
variable {κ : Type} [DecidableEq κ]
def valV (kvs : List (κ × V)) (k : κ) : Option V := (kvs.find? fun kv => decide (kv.1 = k)).map (·.2)
/-- in its place, or at the end -/
def putK (kvs : List (κ × V)) (k : κ) (v : V) : List (κ × V) :=
  if (kvs.any fun kv => decide (kv.1 = k)) = true then kvs.map (fun kv => if kv.1 = k then (kv.1, v) else kv) else kvs ++ [(k, v)]
def dropK (kvs : List (κ × V)) (k : κ) : List (κ × V) := kvs.filter fun kv => decide (kv.1 ≠ k)

theorem valV_pos {p : κ × V} {r : List (κ × V)} {k : κ} (e : p.1 = k) : valV (p :: r) k = some p.2 := by simp [valV, List.find?_cons, e]
theorem valV_neg {p : κ × V} {r : List (κ × V)} {k : κ} (e : ¬ p.1 = k) : valV (p :: r) k = valV r k := by simp [valV, List.find?_cons, e]
theorem valV_any (k : κ) : ∀ kvs : List (κ × V), (kvs.any fun kv => decide (kv.1 = k)) = (valV kvs k).isSome
  | [] => rfl
  | p :: r => by
    rw [List.any_cons]
    by_cases e : p.1 = k
    · simp only [valV_pos e, decide_eq_true e, Bool.true_or, Option.isSome_some]
    · rw [valV_neg e, decide_eq_false e, Bool.false_or]; exact valV_any k r
theorem valV_map (k j : κ) (y : V) : ∀ kvs : List (κ × V), valV (kvs.map fun kv => if kv.1 = k then (kv.1, y) else kv) j = (valV kvs j).map fun x => if j = k then y else x
  | [] => rfl
  | p :: r => by
    have ih := valV_map k j y r
    rw [List.map_cons]
    by_cases h : p.1 = k
    · rw [if_pos h]
      by_cases e : p.1 = j
      · rw [valV_pos (p := (p.1, y)) e, valV_pos e, Option.map_some, if_pos (e.symm.trans h)]
      · rw [valV_neg (p := (p.1, y)) e, valV_neg e, ih]
    · rw [if_neg h]
      by_cases e : p.1 = j
      · rw [valV_pos (p := p) e, valV_pos e, Option.map_some, if_neg (fun z => h (e.trans z))]
      · rw [valV_neg (p := p) e, valV_neg e, ih]
theorem valV_snoc (k j : κ) (y : V) : ∀ kvs : List (κ × V), valV kvs k = none → valV (kvs ++ [(k, y)]) j = if j = k then some y else valV kvs j
  | [], _ => by
    by_cases e : k = j
    · rw [if_pos e.symm]; exact valV_pos (p := (k, y)) e
    · rw [if_neg (fun z => e z.symm)]; exact valV_neg (p := (k, y)) e
  | p :: r, hn => by
    rw [List.cons_append]
    have hk : ¬ p.1 = k := fun z => by rw [valV_pos z] at hn; cases hn
    rw [valV_neg hk] at hn
    have ih := valV_snoc k j y r hn
    by_cases e : p.1 = j
    · rw [valV_pos e, valV_pos e, if_neg (fun z => hk (e.trans z))]
    · rw [valV_neg e, valV_neg e, ih]
theorem valV_put (kvs : List (κ × V)) (k j : κ) (y : V) : valV (putK kvs k y) j = if j = k then some y else valV kvs j := by
  unfold putK
  by_cases a : (kvs.any fun kv => decide (kv.1 = k)) = true
  · rw [if_pos a, valV_map]
    rw [valV_any] at a
    by_cases e : j = k
    · obtain ⟨x, hx⟩ := Option.isSome_iff_exists.mp a
      rw [if_pos e, e, hx, Option.map_some, if_pos rfl]
    · rw [if_neg e]
      cases valV kvs j with
      | none => rfl
      | some x => rw [Option.map_some, if_neg e]
  · rw [if_neg a]
    refine valV_snoc k j y kvs ?_
    rw [valV_any] at a
    cases q : valV kvs k with
    | none => rfl
    | some x => rw [q] at a; exact (a rfl).elim
theorem length_putK (kvs : List (κ × V)) (k : κ) (v : V) : (putK kvs k v).length ≤ kvs.length + 1 := by
  unfold putK
  split
  · rw [List.length_map]; omega
  · rw [List.length_append, List.length_cons, List.length_nil]; omega
theorem RelO.isSome_eq {o : Option V} {u : Option Value} (r : RelO o u) : o.isSome = u.isSome := by
  cases o with
  | none => cases u with
    | none => rfl
    | some _ => exact (show False from r).elim
  | some _ => cases u with
    | none => exact (show False from r).elim
    | some _ => rfl
theorem RelO.getD {o : Option V} {u : Option Value} {d : V} {d' : Value} (r : RelO o u) (rd : RelV d d') : RelV (o.getD d) (u.getD d') := by
  cases o with
  | none => cases u with
    | none => exact rd
    | some _ => exact (show False from r).elim
  | some _ => cases u with
    | none => exact (show False from r).elim
    | some _ => exact r

/-- raw tables of the same keys -/
theorem KV.val {kvs : List (κ × V)} {vs : List (κ × Value)} (r : KV kvs vs) (k : κ) : RelO (valV kvs k) (valueAt vs k) := by
  unfold KV at r
  induction r with
  | nil => exact True.intro
  | @cons p q ps qs h t ih =>
    obtain ⟨h1, h2⟩ := h
    by_cases e : p.1 = k
    · have e' : q.1 = k := h1.symm.trans e
      have b : valueAt (q :: qs) k = some q.2 := by simp [valueAt, List.find?_cons, e']
      rw [valV_pos e, b]; exact h2
    · have e' : ¬ q.1 = k := fun z => e (h1.trans z)
      have b : valueAt (q :: qs) k = valueAt qs k := by simp [valueAt, List.find?_cons, e']
      rw [valV_neg e, b]; exact ih
theorem KV.any {kvs : List (κ × V)} {vs : List (κ × Value)} (r : KV kvs vs) (k : κ) : (kvs.any fun kv => decide (kv.1 = k)) = vs.any fun kv => decide (kv.1 = k) := by
  unfold KV at r
  induction r with
  | nil => rfl
  | cons h t ih => rw [List.any_cons, List.any_cons, ih, h.1]
theorem KV.repl {kvs : List (κ × V)} {vs : List (κ × Value)} (r : KV kvs vs) (k : κ) {y : V} {u : Value} (ry : RelV y u) :
    KV (kvs.map fun kv => if kv.1 = k then (kv.1, y) else kv) (vs.map fun kv => if kv.1 = k then (kv.1, u) else kv) := by
  unfold KV at r ⊢
  induction r with
  | nil => exact .nil
  | @cons p q ps qs h t ih =>
    rw [List.map_cons, List.map_cons]
    refine .cons ?_ ih
    obtain ⟨h1, h2⟩ := h
    by_cases e : p.1 = k
    · rw [if_pos e, if_pos (h1.symm.trans e)]; exact ⟨h1, ry⟩
    · rw [if_neg e, if_neg (fun z => e (h1.trans z))]; exact ⟨h1, h2⟩
theorem KV.put {kvs : List (κ × V)} {vs : List (κ × Value)} (r : KV kvs vs) (k : κ) {y : V} {u : Value} (ry : RelV y u) : KV (putK kvs k y) (stored vs k u) := by
  unfold putK stored
  rw [r.any k]
  by_cases e : (vs.any fun kv => decide (kv.1 = k)) = true
  · rw [if_pos e, if_pos e]; exact r.repl k ry
  · rw [if_neg e, if_neg e]; exact Paired.snoc r ⟨rfl, ry⟩
theorem KV.drop {kvs : List (κ × V)} {vs : List (κ × Value)} (r : KV kvs vs) (k : κ) : KV (dropK kvs k) (without vs k) := by
  unfold KV at r ⊢
  unfold dropK without
  induction r with
  | nil => exact .nil
  | @cons p q ps qs h t ih =>
    obtain ⟨h1, h2⟩ := h
    rw [List.filter_cons, List.filter_cons]
    by_cases e : p.1 = k
    · have a : ¬ decide (p.1 ≠ k) = true := by simp [e]
      have b : ¬ decide (q.1 ≠ k) = true := by simp [h1.symm.trans e]
      rw [if_neg a, if_neg b]; exact ih
    · have e' : ¬ q.1 = k := fun z => e (h1.trans z)
      have a : decide (p.1 ≠ k) = true := by simp [e]
      have b : decide (q.1 ≠ k) = true := by simp [e']
      rw [if_pos a, if_pos b]; exact .cons ⟨h1, h2⟩ ih
theorem KV.keys {kvs : List (κ × V)} {vs : List (κ × Value)} (r : KV kvs vs) : kvs.map (·.1) = vs.map (·.1) := by
  unfold KV at r
  induction r with
  | nil => rfl
  | cons h t ih => rw [List.map_cons, List.map_cons, ih, h.1]
theorem KV.length {kvs : List (κ × V)} {vs : List (κ × Value)} (r : KV kvs vs) : kvs.length = vs.length := Paired.length r
end


/-! ### a tracked dict, its keys ints and texts or tuples of these -/
theorem kV_is {P : Program} {w : World} {k : Key} {u : Value} (r : RelV (kV k) u) : (mixKind P w).is k u = true := by
  cases k with
  | inl i => obtain ⟨t, e⟩ := (show ∃ t, u = Value.int i t from r); subst e; exact mixKind_int P w i t
  | inr x => obtain ⟨t, e⟩ := (show ∃ t, u = Value.str x t from r); subst e; exact mixKind_str P w x t
theorem items_are {P : Program} {w : World} : ∀ {ks : List Key} {us : List Value}, Vals (ks.map kV) us → ItemsAre (mixKind P w) ks us
  | [], _, r => by rw [List.map_nil] at r; cases r; exact .nil
  | k :: ks, _, r => by
    rw [List.map_cons] at r
    cases r with
    | cons h t => exact .cons (kV_is h) (items_are t)

/-- raw entries of a dict with tuple keys -/
abbrev KT (H : Hp) : List (List Key × V) → List (List Key × Addr × Value) → Prop := Paired fun p q => p.1 = q.1 ∧ H q.2.1 = some (.tup (p.1.map kV)) ∧ RelV p.2 q.2.2
theorem KT.val {H : Hp} {kvs : List (List Key × V)} {xs : List (List Key × Addr × Value)} (r : KT H kvs xs) (k : List Key) : RelO (valV kvs k) ((atKey xs k).map (·.2)) := by
  induction r with
  | nil => exact True.intro
  | @cons p q ps qs h t ih =>
    obtain ⟨h1, _, h2⟩ := h
    by_cases e : p.1 = k
    · have e' : q.1 = k := h1.symm.trans e
      have b : atKey (q :: qs) k = some q.2 := by simp [atKey, List.find?_cons, e']
      rw [valV_pos e, b]; exact h2
    · have e' : ¬ q.1 = k := fun z => e (h1.trans z)
      have b : atKey (q :: qs) k = atKey qs k := by simp [atKey, List.find?_cons, e']
      rw [valV_neg e, b]; exact ih
theorem KT.repl {H : Hp} {kvs : List (List Key × V)} {xs : List (List Key × Addr × Value)} (r : KT H kvs xs) (k : List Key) {y : V} {u : Value} (ry : RelV y u) :
    KT H (kvs.map fun kv => if kv.1 = k then (kv.1, y) else kv) (xs.map (putAt k u)) := by
  induction r with
  | nil => exact .nil
  | @cons p q ps qs h t ih =>
    rw [List.map_cons, List.map_cons]
    refine .cons ?_ ih
    obtain ⟨h1, h2, h3⟩ := h
    unfold putAt
    by_cases e : p.1 = k
    · rw [if_pos e, if_pos (h1.symm.trans e)]; exact ⟨h1, h2, ry⟩
    · rw [if_neg e, if_neg (fun z => e (h1.trans z))]; exact ⟨h1, h2, h3⟩
theorem KT.put {H : Hp} {kvs : List (List Key × V)} {xs : List (List Key × Addr × Value)} (r : KT H kvs xs) (k : List Key) {b : Addr} {y : V} {u : Value} (hb : H b = some (.tup (k.map kV))) (ry : RelV y u) :
    KT H (putK kvs k y) (storedH xs k b u) := by
  have e : (kvs.any fun kv => decide (kv.1 = k)) = (atKey xs k).isSome := by
    rw [valV_any, (r.val k).isSome_eq, Option.isSome_map]
  unfold putK storedH
  rw [e]
  by_cases q : (atKey xs k).isSome = true
  · rw [if_pos q, if_pos q]; exact r.repl k ry
  · rw [if_neg q, if_neg q]; exact Paired.snoc r ⟨rfl, hb, ry⟩
theorem KT.keeps {H H' : Hp} {kvs : List (List Key × V)} {xs : List (List Key × Addr × Value)} (r : KT H kvs xs) (ht : ∀ b ys, H b = some (.tup ys) → H' b = some (.tup ys)) : KT H' kvs xs :=
  Paired.mapP r fun _ _ z => ⟨z.1, ht _ _ z.2.1, z.2.2⟩

section
variable {P : Program} {w : World} {H : Hp} {h : Heap} {a : Addr}
theorem rd_of {u : HO} (ok : HOk P w H h) (e : Rd H a u) : ObjOk P w H h a u := e.ok ok
theorem dk_rd {kvs : List (Key × V)} (ok : HOk P w H h) (e : Rd H a (.dK kvs)) : kvs.length ≤ sizeLine ∧ (a == sysModules) = false ∧ ∃ vs, KV kvs vs ∧ h.DictOf (mixKind P w) a vs :=
  show ObjOk P w H h a (.dK kvs) from rd_of ok e
theorem dk_of {kvs : List (Key × V)} (ok : HOk P w H h) (e : H a = some (.dK kvs)) : kvs.length ≤ sizeLine ∧ (a == sysModules) = false ∧ ∃ vs, KV kvs vs ∧ h.DictOf (mixKind P w) a vs := dk_rd ok (.inl e)
/-- a tracked tuple of ints and texts is a key -/
theorem key_of {ks : List Key} (ok : HOk P w H h) (e : H a = some (.tup (ks.map kV))) : (tupleKind (mixKind P w)).is h ks a := by
  obtain ⟨_, its, r, o, h1, h2, n, h3⟩ := (show ObjOk P w H h a (.tup (ks.map kV)) from ok a _ e)
  exact ⟨o, its.toArray, n, h1, h2, h3.1, by simpa using items_are r⟩
theorem dt_rd {kvs : List (List Key × V)} (ok : HOk P w H h) (e : Rd H a (.dT kvs)) : kvs.length ≤ sizeLine ∧ (a == sysModules) = false ∧
    ∃ xs, KT H kvs xs ∧ h.DictOfH (tupleKind (mixKind P w)) a xs := by
  obtain ⟨z, y, xs, r, o, es, ep, h1, h2, h3, h4, h5⟩ := (show ObjOk P w H h a (.dT kvs) from rd_of ok e)
  refine ⟨z, y, xs, r, o, es, ep, h1, h2, h3, h4, fun x hx => ?_, h5⟩
  have all : ∀ {l : List (List Key × V)} {m : List (List Key × Addr × Value)}, KT H l m → ∀ x ∈ m, (tupleKind (mixKind P w)).is h x.1 x.2.1 := by
    intro l m q
    induction q with
    | nil => intro x hx; exact nomatch hx
    | @cons p q ps qs hq t ih =>
      intro x hx
      rcases List.mem_cons.mp hx with e | hx
      · subst e
        exact key_of ok (by rw [← hq.1]; exact hq.2.1)
      · exact ih x hx
  exact all r x hx
theorem dt_of {kvs : List (List Key × V)} (ok : HOk P w H h) (e : H a = some (.dT kvs)) : kvs.length ≤ sizeLine ∧ (a == sysModules) = false ∧
    ∃ xs, KT H kvs xs ∧ h.DictOfH (tupleKind (mixKind P w)) a xs := dt_rd ok (.inl e)
end

/-- what the dict at a holds at the key y -/
def DGet (H : Hp) (a : Addr) (y : V) (r : Option V) : Prop :=
  (∃ kvs k, Rd H a (.dK kvs) ∧ y = kV k ∧ r = valV kvs k) ∨ ∃ kvs k b, Rd H a (.dT kvs) ∧ y = .ref b ∧ H b = some (.tup (k.map kV)) ∧ r = valV kvs k
/-- the heap behind a[y] = v -/
def DPut (H : Hp) (a : Addr) (y v : V) (H' : Hp) : Prop :=
  (∃ kvs k, H a = some (.dK kvs) ∧ y = kV k ∧ kvs.length < sizeLine ∧ H' = upd H a (.dK (putK kvs k v))) ∨
  ∃ kvs k b, H a = some (.dT kvs) ∧ y = .ref b ∧ H b = some (.tup (k.map kV)) ∧ kvs.length < sizeLine ∧ H' = upd H a (.dT (putK kvs k v))
theorem DGet.k {H : Hp} {a : Addr} {kvs : List (Key × V)} {k : Key} (e : H a = some (.dK kvs)) : DGet H a (kV k) (valV kvs k) := .inl ⟨kvs, k, .inl e, rfl, rfl⟩
theorem DGet.t {H : Hp} {a b : Addr} {kvs : List (List Key × V)} {k : List Key} (e : H a = some (.dT kvs)) (eb : H b = some (.tup (k.map kV))) : DGet H a (.ref b) (valV kvs k) := .inr ⟨kvs, k, b, .inl e, rfl, eb, rfl⟩
theorem DPut.k {H : Hp} {a : Addr} {kvs : List (Key × V)} {k : Key} {v : V} (e : H a = some (.dK kvs)) (hl : kvs.length < sizeLine) : DPut H a (kV k) v (upd H a (.dK (putK kvs k v))) := .inl ⟨kvs, k, e, rfl, hl, rfl⟩
theorem DPut.t {H : Hp} {a b : Addr} {kvs : List (List Key × V)} {k : List Key} {v : V} (e : H a = some (.dT kvs)) (eb : H b = some (.tup (k.map kV))) (hl : kvs.length < sizeLine) :
    DPut H a (.ref b) v (upd H a (.dT (putK kvs k v))) := .inr ⟨kvs, k, b, e, rfl, eb, hl, rfl⟩


section
variable {X : Cx} {pins : List (Addr × Obj)} {σ : St} {H : Hp} {s : Shared} {a : Addr} {y v : V} {u r : Value} {o : Option V} {A : Around} {E : Value → Shared → Prop}

theorem Inv.big (I : Inv X pins σ H s) : sysModules < s.heap.objs.size := by
  have h : mainGlobals < s.heap.objs.size := (I.mod.glob.keeps I.bk).lt
  exact Nat.lt_trans (by decide) h

/-- d[y], there -/
theorem d_getItem {Q : Value → Shared → Prop} (hu : A.units + 1 < cLine) (I : Inv X pins σ H s) (g : DGet H a y (some v)) (ry : RelV y u) (h : ∀ w' s', Inv X pins σ H s' → RelV v w' → Q w' s') :
    wpAny (model X.prog X.w) A (getItem (.ref a) u) Q E s := by
  rcases g with ⟨kvs, k, e, ey, l⟩ | ⟨kvs, k, b, e, ey, eb, l⟩
  · subst ey
    obtain ⟨z, hd, vs, rel, dd⟩ := dk_rd I.hok e
    obtain ⟨w', hw, rw'⟩ := RelO.some_of (v := v) (o := valueAt vs k) (by rw [l]; exact rel.val k)
    exact wpAny_getItem_of (kV_is ry) dd.mapOf hw (h w' _ (I.tok _) rw')
  · subst ey
    cases (show u = Value.ref b from ry)
    obtain ⟨z, hd, xs, rel, dd⟩ := dt_rd I.hok e
    obtain ⟨w', hw, rw'⟩ := RelO.some_of (v := v) (o := (atKey xs k).map (·.2)) (by rw [l]; exact rel.val k)
    obtain ⟨p, hp, hp2⟩ := Option.map_eq_some_iff.mp hw
    refine wpAny_getItem_heap (tupleKind_room_in1 hu) (key_of I.hok eb) dd hp ?_
    rw [hp2]
    exact h w' _ (I.tok _) rw'
theorem d_notIn {Q : Value → Shared → Prop} (hu : A.units + 1 < cLine) (I : Inv X pins σ H s) (g : DGet H a y o) (ry : RelV y u) (h : ∀ s', Inv X pins σ H s' → Q (.bool (!o.isSome)) s') :
    wpAny (model X.prog X.w) A (compareOp .NotIn u (.ref a)) Q E s := by
  rcases g with ⟨kvs, k, e, ey, l⟩ | ⟨kvs, k, b, e, ey, eb, l⟩
  · subst ey
    obtain ⟨z, hd, vs, rel, dd⟩ := dk_rd I.hok e
    refine wpAny_notIn_of (kV_is ry) hd dd.mapOf ?_
    rw [← (rel.val k).isSome_eq, ← l]
    exact h _ (I.tok _)
  · subst ey
    cases (show u = Value.ref b from ry)
    obtain ⟨z, hd, xs, rel, dd⟩ := dt_rd I.hok e
    refine wpAny_notIn_heap (tupleKind_room_in1 hu) (key_of I.hok eb) hd dd ?_
    have q := (rel.val k).isSome_eq
    rw [Option.isSome_map] at q
    rw [← q, ← l]
    exact h _ (I.tok _)
/-- a dict's object is replaced -/
theorem d_write {h' : Heap} {t' : Nat} {ob : HO} (I : Inv X pins σ H s) (mu : Mut (H a)) (hs : Heap.SameBut a s.heap h') (he : ∃ q, h'.get? a = some q) (new : ObjOk X.prog X.w (upd H a ob) h' a ob) :
    Inv X pins σ (upd H a ob) { s with heap := h', toks := t' } :=
  I.write (x := a) (e := a) mu (.inl rfl) (fun b q hb z => (hs.2 b hb).trans z) he new
theorem dk_new {P : Program} {w : World} {H' : Hp} {h' : Heap} {kvs : List (Key × V)} {vs : List (Key × Value)} (z : kvs.length ≤ sizeLine) (hd : (a == sysModules) = false) (rel : KV kvs vs) (dd : h'.DictOf (mixKind P w) a vs) :
    ObjOk P w H' h' a (.dK kvs) := ⟨z, hd, vs, rel, dd⟩
/-- d[y] = v -/
theorem d_setItem {H' : Hp} {Q : Unit → Shared → Prop} (hu : A.units + 1 < cLine) (I : Inv X pins σ H s) (g : DPut H a y v H') (ry : RelV y u) (rv : RelV v r) (h : ∀ s', Inv X pins σ H' s' → Q () s') :
    wpAny (model X.prog X.w) A (setItem (.ref a) u r) Q E s := by
  rcases g with ⟨kvs, k, e, ey, l, eH⟩ | ⟨kvs, k, b, e, ey, eb, l, eH⟩
  · subst ey eH
    obtain ⟨z, hd, vs, rel, dd⟩ := dk_of I.hok e
    have hz : vs.length ≤ sizeLine := by rw [← rel.length]; exact z
    have hl : (putK kvs k v).length ≤ sizeLine := by have := length_putK kvs k v; omega
    refine wpAny_setItem_pairs (hsz := hz) (kV_is ry) dd fun h' dd' hs => h _ ?_
    have he : ∃ q, h'.get? a = some q := let ⟨q, _, _, hq, _⟩ := dd'; ⟨q, hq⟩
    exact d_write I (by rw [e]; exact True.intro) hs he (dk_new hl hd (rel.put k rv) dd')
  · subst ey eH
    cases (show u = Value.ref b from ry)
    obtain ⟨z, hd, xs, rel, dd⟩ := dt_of I.hok e
    have hz : xs.length ≤ sizeLine := by rw [← Paired.length rel]; exact z
    have hl : (putK kvs k v).length ≤ sizeLine := by have := length_putK kvs k v; omega
    refine wpAny_setItem_heap (hsz := hz) (tupleKind_room_in1 hu) (key_of I.hok eb) dd fun h' dd' hs => h _ ?_
    obtain ⟨q, es, ep, hq, h2, h3, h4, _, h5⟩ := dd'
    refine d_write I (by rw [e]; exact True.intro) hs ⟨q, hq⟩ ⟨hl, hd, _, (rel.put k eb rv).keeps fun c ys ec => ?_, q, es, ep, hq, h2, h3, h4, h5⟩
    rw [upd_ne (ne_of ec e (fun z => nomatch z))]
    exact ec
end

section
variable {X : Cx} {pins : List (Addr × Obj)} {σ : St} {H : Hp} {s : Shared} {a : Addr} {kvs : List (Key × V)} {k : Key} {u : Value} {A : Around} {E : Value → Shared → Prop}
end


/-! ### readings and rules -/
/-- the element of a subscription, not a slice -/
def NoSl (i : Expr) : Prop := ∀ ov iv, subscripted i false ov iv = operate [ov, iv] (getItem ov iv)
theorem subD_of {prog : Program} {w : World} {A : Around} {E : Value → Shared → Prop} {s : Shared} {env : Env} {value slice : Expr} {pos : Pos} {T id : String} {Q : Value → Shared → Prop}
    (hl : typeLookup (.type T) "__getitem__" = pure (some (.builtin id))) (hs : NoSl slice)
    (h : wpAny (model prog w) A (eval value env) (fun o s₁ => wpAny (model prog w) A (eval slice env) (fun i s₂ => s₂.TypeIs o T ∧ wpAny (model prog w) A (getItem o i) Q E s₂) E s₁) E s) :
    wpAny (model prog w) A (eval (.Subscript value slice pos) env) Q E s := by
  refine Subscript_ (wpAny_mono h (fun o s₁ h₁ => wpAny_mono h₁ (fun i s₂ h₂ => ?_) fun _ _ x => x) fun _ _ x => x)
  obtain ⟨hT, h₂⟩ := h₂
  unfold subscriptTail
  refine wpAny_bind ?_
  rw [getitemInPython_of_ne hT.not_modules]
  refine wpAny_bind (wpAny_specialOf hT hl ?_)
  have fin : wpAny (model prog w) A (subscripted slice false o i) (fun r s₃ => wpAny (model prog w) A (letTemporaryGo value o r >>= fun _ => pure r) Q E s₃) E s₂ := by
    rw [hs o i]
    exact wpAny_operating (wpAny_mono h₂ (fun r s₃ h₃ => wpAny_bind (wpAny_letTemporaryGo (wpAny_pure h₃))) fun _ _ x => x)
  first
    | exact wpAny_pure (wpAny_bind fin)
    | exact wpAny_bind (wpAny_pure (wpAny_bind fin))
    | exact wpAny_bind fin

theorem dict_typeIs {X : Cx} {pins : List (Addr × Obj)} {σ : St} {H : Hp} {s : Shared} {a : Addr} {y : V} {o : Option V} (I : Inv X pins σ H s) (g : DGet H a y o) : s.TypeIs (.ref a) "dict" := by
  rcases g with ⟨kvs, k, e, _, _⟩ | ⟨kvs, k, b, e, _, _, _⟩
  · obtain ⟨_, _, vs, _, dd⟩ := dk_rd I.hok e
    exact dd.typeIs
  · obtain ⟨_, _, xs, _, dd⟩ := dt_rd I.hok e
    exact dd.typeIs
/-- d[y] -/
def tDGet (td ty : TE) : TE := fun σ H Q => td σ H fun x H1 => ty σ H1 fun y H2 => ∃ a v, x = .ref a ∧ DGet H2 a y (some v) ∧ Q v H2
/-- y in d, y not in d -/
def tDIn (ty td : TE) : TE := fun σ H Q => ty σ H fun y H1 => td σ H1 fun x H2 => ∃ a o, x = .ref a ∧ DGet H2 a y o ∧ Q (.bl o.isSome) H2
def tDNotIn (ty td : TE) : TE := fun σ H Q => ty σ H fun y H1 => td σ H1 fun x H2 => ∃ a o, x = .ref a ∧ DGet H2 a y o ∧ Q (.bl (!o.isSome)) H2
/-- d[y] = v -/
def sDPut (td ty tv : TE) : TS := fun D σ H => tv σ H fun v H1 => td σ H1 fun x H2 => ty σ H2 fun y H3 => ∃ a H4, x = .ref a ∧ DPut H3 a y v H4 ∧ D.nx σ H4
/-- d[y] op= v -/
def sDAug (td ty tv : TE) (rd : V → V → Hp → VK → Prop) : TS := fun D σ H => td σ H fun x H1 => ty σ H1 fun y H2 => ∃ a v, x = .ref a ∧ DGet H2 a y (some v) ∧
  tv σ H2 fun y2 H3 => rd v y2 H3 fun z H4 => ∃ H5, DPut H4 a y z H5 ∧ D.nx σ H5
/-- del d[y] -/
def sDDel (td ty : TE) : TS := fun D σ H => td σ H fun x H1 => ty σ H1 fun y H2 => ∃ a kvs k, x = .ref a ∧ H2 a = some (.dK kvs) ∧ y = kV k ∧ (valV kvs k).isSome = true ∧ D.nx σ (upd H2 a (.dK (dropK kvs k)))

section
variable {X : Cx} {o i e value : Expr} {pos pos' tpos : Pos} {td ty tv : TE}
theorem pe_dget (hu : X.A.units + 1 < cLine) (ho : PE X o td) (hi : PE X i ty) (hs : NoSl i) : PE X (.Subscript o i pos) (tDGet td ty) := by
  intro pins s σ H Q I h
  refine subD_of PySem.F.slot_dict_getitem.lookup hs (thn (ho pins s σ H _ I h) fun u s1 ⟨x, H1, I1, rx, q1⟩ => thn (hi pins s1 σ H1 _ I1 q1) fun iv s2 ⟨y, H2, I2, ry, a, v, ex, g, q2⟩ => ?_)
  subst ex
  obtain rfl : u = Value.ref a := rx
  exact ⟨dict_typeIs I2 g, d_getItem hu I2 g ry fun w' s3 I3 rw' => ⟨v, H2, I3, rw', q2⟩⟩
theorem pc_dnotin (hu : X.A.units + 1 < cLine) (hi : PE X i ty) (ho : PE X o td) : PC X .NotIn i o (tDNotIn ty td) := by
  intro pins s σ H Q I h
  refine thn (hi pins s σ H _ I h) fun iv s1 ⟨y, H1, I1, ry, q1⟩ => thn (ho pins s1 σ H1 _ I1 q1) fun u s2 ⟨x, H2, I2, rx, a, ov, ex, g, q2⟩ => ?_
  subst ex
  obtain rfl : u = Value.ref a := rx
  exact d_notIn hu I2 g ry fun s3 I3 => ⟨.bl (!ov.isSome), H2, I3, rfl, q2⟩
theorem ps_dput (hu : X.A.units + 1 < cLine) (ho : PE X o td) (hi : PE X i ty) (hv : PE X value tv) (hs : swapsWith value (some (.Subscript o i pos')) pos.line X.env = pure false) :
    PS X (.Assign [.Subscript o i pos'] value pos) (sDPut td ty tv) := by
  intro pins s σ H D I h
  refine wpAny_Assign_Subscript (thn (hv pins s σ H _ I h) fun r s1 ⟨v, H1, I1, rv, q1⟩ => thn (ho pins s1 σ H1 _ I1 q1) fun u s2 ⟨x, H2, I2, rx, q2⟩ => thn (hi pins s2 σ H2 _ I2 q2) fun iv s3 ⟨y, H3, I3, ry, a, H4, ex, g, q3⟩ => ?_) hs
  subst ex
  obtain rfl : u = Value.ref a := rx
  exact d_setItem hu I3 g ry rv fun s4 I4 => ⟨σ, H4, I4, q3⟩
end


/-! ### displays -/
theorem dk_empty {P : Program} {w : World} {H : Hp} (h : Heap) (hb : sysModules < h.objs.size) : ObjOk P w H (h.push { cls := .type "dict", data := .dict #[] }) h.objs.size (.dK []) :=
  ⟨Nat.zero_le _, beq_eq_false_iff_ne.mpr (Ne.symm (Nat.ne_of_lt hb)), [], .nil, Heap.DictOf.new h⟩
/-- {}, to be a dict of the kind that is wanted -/
def tDNewK : TE := fun _ H Q => ∀ p, H p = none → Q (.ref p) (upd H p (.dK []))
def tDNewT : TE := fun _ H Q => ∀ p, H p = none → Q (.ref p) (upd H p (.dT []))
section
variable {X : Cx} {pos : Pos}
end

/-- the pairs of a display, from the left -/
def tPairs : List (TE × TE) → St → Hp → (List (V × V) → Hp → Prop) → Prop
  | [], _, H, Q => Q [] H
  | (tk, tv) :: r, σ, H, Q => tk σ H fun x H1 => tv σ H1 fun y H2 => tPairs r σ H2 fun ps H3 => Q ((x, y) :: ps) H3
abbrev VV : List (V × V) → List (Value × Value) → Prop := Paired fun p q => RelV p.1 q.1 ∧ RelV p.2 q.2
def PPs (X : Cx) (pos : Pos) (keys : List (Option Expr)) (values : List Expr) (trs : List (TE × TE)) : Prop :=
  ∀ (pins : List (Addr × Obj)) (s : Shared) (σ : St) (H : Hp) (Q : List (V × V) → Hp → Prop), Inv X pins σ H s → tPairs trs σ H Q →
    wpAny (model X.prog X.w) X.A (evalPairs (pairTrees keys values X.env pos)) (fun vs s' => ∃ ps H', Inv X pins σ H' s' ∧ VV ps vs ∧ Q ps H') X.xe s
theorem pps_nil {X : Cx} {pos : Pos} : PPs X pos [] [] [] := fun pins s σ H Q I h => pairTrees_nil_walk ⟨[], H, I, .nil, h⟩
theorem pps_cons {X : Cx} {pos : Pos} {k v : Expr} {ks : List (Option Expr)} {vs : List Expr} {tk tv : TE} {trs : List (TE × TE)} (hk : PE X k tk) (hv : PE X v tv) (hr : PPs X pos ks vs trs) :
    PPs X pos (some k :: ks) (v :: vs) ((tk, tv) :: trs) := fun pins s σ H Q I h =>
  pairTrees_cons_walk (thn (hk pins s σ H _ I h) fun u s1 ⟨x, H1, I1, rx, q1⟩ => thn (hv pins s1 σ H1 _ I1 q1) fun w2 s2 ⟨y, H2, I2, ry, q2⟩ =>
    thn (hr pins s2 σ H2 _ I2 q2) fun ws s3 ⟨ps, H3, I3, rel, q3⟩ => ⟨(x, y) :: ps, H3, I3, .cons ⟨rx, ry⟩ rel, q3⟩)

def mergeK (kvs more : List (Key × V)) : List (Key × V) := more.foldl (fun acc kv => putK acc kv.1 kv.2) kvs
theorem KV.merge : ∀ {more : List (Key × V)} {rs : List (Key × Value)} {kvs : List (Key × V)} {vs : List (Key × Value)}, KV more rs → KV kvs vs → KV (mergeK kvs more) (merged vs rs) := by
  intro more rs kvs vs r
  unfold KV at r
  induction r generalizing kvs vs with
  | nil => intro q; exact q
  | @cons p q ps qs h t ih =>
    intro r0
    have e : KV (putK kvs p.1 p.2) (stored vs q.1 q.2) := by
      have := r0.put p.1 h.2
      rw [← h.1]; exact this
    exact ih e
theorem length_mergeK : ∀ (more kvs : List (Key × V)), (mergeK kvs more).length ≤ kvs.length + more.length
  | [], kvs => by show kvs.length ≤ kvs.length + 0; omega
  | p :: r, kvs => by
    have h1 := length_mergeK r (putK kvs p.1 p.2)
    have h2 := length_putK kvs p.1 p.2
    show (mergeK (putK kvs p.1 p.2) r).length ≤ _
    rw [List.length_cons]; omega
theorem carries_of {P : Program} {w : World} : ∀ {kvs : List (Key × V)} {ws : List (Value × Value)}, VV (kvs.map fun kv => (kV kv.1, kv.2)) ws → ∃ rs, Carries (mixKind P w) ws rs ∧ KV kvs rs
  | [], _, r => by rw [List.map_nil] at r; cases r; exact ⟨[], True.intro, .nil⟩
  | p :: kvs, _, r => by
    rw [List.map_cons] at r
    cases r with
    | @cons a b as bs h t =>
      obtain ⟨rs, c, q⟩ := carries_of (P := P) (w := w) t
      obtain ⟨b1, b2⟩ := b
      exact ⟨(p.1, b2) :: rs, ⟨kV_is h.1, rfl, c⟩, .cons ⟨rfl, h.2⟩ q⟩
/-- {k: v, ..} with keys ints and texts; the new dict stands empty while the pairs are made -/
def tDisp (trs : List (TE × TE)) : TE := fun σ H Q => ∀ p, H p = none → tPairs trs σ (upd H p (.dK [])) fun ps H2 => H2 p = some (.dK []) ∧ ∃ kvs : List (Key × V), ps = kvs.map (fun kv => (kV kv.1, kv.2)) ∧ kvs.length ≤ 15 ∧ Q (.ref p) (upd H2 p (.dK (mergeK [] kvs)))
theorem pe_disp {X : Cx} {pos : Pos} {keys : List (Option Expr)} {values : List Expr} {trs : List (TE × TE)} (h : PPs X pos keys values trs) (hall : keys.all (·.isSome) = true) (hl : keys.length = values.length) (h0 : keys ≠ [])
    (h15 : keys.length ≤ 15) : PE X (.Dict keys values pos) (tDisp trs) := by
  intro pins s σ H Q I q
  have hn := I.hok.fresh (Nat.le_refl s.heap.objs.size)
  have I1 := I.laid (a := s.heap.objs.size) (o := .dK []) (h' := s.heap.push { cls := .type "dict", data := .dict #[] }) (t' := s.toks) (fun _ _ q => Heap.get?_push_of_some _ q) (Nat.le_refl _) (dk_empty s.heap I.big)
  refine wpAny_Dict_walk (knd := mixKind X.prog X.w) hall hl h0 h15 (thn (h pins _ σ _ _ I1 (q _ hn)) fun ws s2 ⟨ps, H2, I2, rel, e, kvs, ep, lk, q2⟩ => ?_)
  subst ep
  obtain ⟨rs, c, rk⟩ := carries_of (P := X.prog) (w := X.w) rel
  obtain ⟨z, hd, vs0, r0, dd⟩ := dk_of I2.hok e
  cases r0
  refine ⟨rs, c, dd, fun h' dd' hs => ⟨.ref s.heap.objs.size, _, ?_, rfl, q2⟩⟩
  have hz : (mergeK [] kvs).length ≤ sizeLine := by
    have h1 := length_mergeK kvs []
    rw [List.length_nil] at h1
    rw [sizeLine_eq]; omega
  have he : ∃ q, h'.get? s.heap.objs.size = some q := let ⟨q, _, _, hq, _⟩ := dd'; ⟨q, hq⟩
  exact d_write I2 (by rw [e]; exact True.intro) hs he (dk_new hz hd (rk.merge .nil) dd')


/-! ### methods -/
/-- a method call o.m(e) of a built-in, with one argument: what must be seen of the text -/
structure M1 (X : Cx) (o : Expr) (m : Str) (apos : Pos) (e : Expr) (cpos : Pos) : Prop where
  base : attributeBase o m X.env (eval o X.env) = eval o X.env
  few : ((backTo cpos (starEach [e] X.env)).all (fun x => !x.1) && (backToKw cpos (keywordEach [] X.env)).all (fun x => x.1.isSome)
    && decide (([e] : List Expr).length + ([] : List Keyword).length + (if ([] : List Keyword).isEmpty then 0 else 1) < 30)) = true
  line : (apos.endLine == cpos.line) = true
  trees : backTo cpos (starEach [e] X.env) = [(false, eval e X.env)]
structure M2 (X : Cx) (o : Expr) (m : Str) (apos : Pos) (e f : Expr) (cpos : Pos) : Prop where
  base : attributeBase o m X.env (eval o X.env) = eval o X.env
  few : ((backTo cpos (starEach [e, f] X.env)).all (fun x => !x.1) && (backToKw cpos (keywordEach [] X.env)).all (fun x => x.1.isSome)
    && decide (([e, f] : List Expr).length + ([] : List Keyword).length + (if ([] : List Keyword).isEmpty then 0 else 1) < 30)) = true
  line : (apos.endLine == cpos.line) = true
  trees : backTo cpos (starEach [e, f] X.env) = [(false, eval e X.env), (false, eval f X.env)]

/-- a is a dict, whatever its keys -/
def IsD (H : Hp) (a : Addr) : Prop := (∃ kvs, Rd H a (.dK kvs)) ∨ ∃ kvs, Rd H a (.dT kvs)
section
variable {X : Cx} {pins : List (Addr × Obj)} {σ : St} {H : Hp} {s : Shared} {a : Addr} {y d : V} {u r : Value} {o : Option V} {A : Around} {E : Value → Shared → Prop}
end

def tDGet1 (td ty : TE) : TE := fun σ H Q => td σ H fun x H1 => ∃ a, x = .ref a ∧ IsD H1 a ∧ ty σ H1 fun y H2 => ∃ o, DGet H2 a y o ∧ Q (o.getD .non) H2
def tDGet2 (td ty tx : TE) : TE := fun σ H Q => td σ H fun x H1 => ∃ a, x = .ref a ∧ IsD H1 a ∧ ty σ H1 fun y H2 => tx σ H2 fun z H3 => ∃ o, DGet H3 a y o ∧ Q (o.getD z) H3
/-- d.pop(k): there; d.pop(k, x): there or not -/
def tDPop1 (td ty : TE) : TE := fun σ H Q => td σ H fun x H1 => ∃ a, x = .ref a ∧ IsD H1 a ∧ ty σ H1 fun y H2 => ∃ kvs k v, H2 a = some (.dK kvs) ∧ y = kV k ∧ valV kvs k = some v ∧ Q v (upd H2 a (.dK (dropK kvs k)))
def tDPop2 (td ty tx : TE) : TE := fun σ H Q => td σ H fun x H1 => ∃ a, x = .ref a ∧ IsD H1 a ∧ ty σ H1 fun y H2 => tx σ H2 fun z H3 => ∃ kvs k, H3 a = some (.dK kvs) ∧ y = kV k ∧
  (∀ v, valV kvs k = some v → Q v (upd H3 a (.dK (dropK kvs k)))) ∧ (valV kvs k = none → Q z H3)
section
variable {X : Cx} {o e f : Expr} {apos cpos : Pos} {td ty tx : TE}
end

/-! ### dict(d): a copy -/
section
variable {X : Cx} {pins : List (Addr × Obj)} {σ : St} {H : Hp} {s : Shared} {a : Addr} {kvs : List (Key × V)} {A : Around} {E : Value → Shared → Prop}
end


section
variable {X : Cx} {pins : List (Addr × Obj)} {σ : St} {H : Hp} {s : Shared} {a : Addr} {y : V} {u : Value} {A : Around} {E : Value → Shared → Prop}
end
end L2
namespace L2
open PySem PySem.Spec PyProof.Rows
section
variable {X : Cx}
end
section
variable {κ : Type} [DecidableEq κ]
end
end L2

set_option Elab.async false
set_option linter.all false
set_option maxRecDepth 100000
namespace L2
open PySem PySem.Spec PyProof.Rows
section
variable {X : Cx}
/-! ### more of ints -/
theorem op_mulB : OpR X (binaryOp .Mult) (rI IntMulOk fun i j => .int (i * j)) := opI fun _ _ _ _ _ _ _ hc q => mul_int q hc
def CDivB (_i j : Int) : Prop := 0 < j ∧ j.natAbs.log2 < 9000
theorem op_fdivB : OpR X (binaryOp .FloorDiv) (rI CDivB fun i j => .int (i / j)) := opI fun i j _ _ _ _ _ hc q => by
  have h1 : (0 : Int) < j := hc.1
  exact floordiv_int (by omega) (by rw [Int.fdiv_eq_ediv_of_nonneg i (by omega)]; exact q) (.inl (PyProof.noPylong_of_log2 hc.2))
/-! ### isinstance by a builtin type -/
def rIsi (K : PySem.W.Frag) : List V → Hp → VK → Prop := fun xs H Q => ∃ x T t b, xs = [x, .ty T] ∧ TyOf K H x t ∧ PySem.W.kitOne K t (.type T) = some b ∧ Q (.bl b) H
/-! ### a call of a def of the text -/
structure Own (P : Program) (w : World) (K : PySem.W.Frag) (mg : Str → Option Value) (base : Heap) (x : Str) (k : Nat) (ps : List Str) (sp : Sp) : Prop where
  ex : ∃ f fd, FnOk P w K mg base CX0 k f fd ps sp ∧ mg x = some (.ref f) ∧ PySem.W.keepIn K (.ref f) = true ∧ Binds K fd ps []
variable {x : Str} {k : Nat} {ps : List Str} {sp : Sp} {e : Expr} {es : List Expr} {t : TA} {p pos : Pos}
theorem pe_own (o : Own X.prog X.w X.K X.mg X.base x k ps sp) (hr : Room k X.A) (hg : Gl X x) (ha : PA X (e :: es) t)
    (hdb : (x == ("__debug__" : Str)) = false := by decide) (he : starEach (e :: es) X.env = (false, eval e X.env) :: starEach es X.env := by rfl)
    (hpl : (backTo pos (starEach es X.env)).any (·.1) = false := by rfl) : PE X (.Call (.Name x p) (e :: es) [] pos) (tCall sp [] E0 t) := by
  obtain ⟨f, fd, F, hm, hk, hb⟩ := o.ex
  exact pe_call F hr hg hm hk hb .nil pass0 ha hdb he hpl
end
theorem at0 {α : Type} {x : α} {xs : List α} : atI (x :: xs) 0 = some x := atI_nat (j := 0) rfl
theorem at1 {α : Type} {x y : α} {xs : List α} : atI (x :: y :: xs) 1 = some y := atI_nat (j := 1) rfl
theorem at2 {α : Type} {x y z : α} {xs : List α} : atI (x :: y :: z :: xs) 2 = some z := atI_nat (j := 2) rfl
/-- an index that lies in the list -/
theorem at_in {α : Type} {xs : List α} {i : Int} (h0 : 0 ≤ i) (h1 : i < xs.length) : ∃ v, atI xs i = some v ∧ v ∈ xs := by
  obtain ⟨j, rfl⟩ : ∃ j : Nat, i = j := ⟨i.toNat, by omega⟩
  have hj : j < xs.length := by omega
  exact ⟨xs[j], atI_nat (by simp [hj]), List.getElem_mem hj⟩
theorem bt_len : bootBuiltins "len" = some (.builtin "len") := by decide +kernel
theorem bt_min : bootBuiltins "min" = some (.builtin "min") := by decide +kernel
theorem bt_int : bootBuiltins "int" = some (.type "int") := by decide +kernel
theorem bt_tuple : bootBuiltins "tuple" = some (.type "tuple") := by decide +kernel
theorem bt_list : bootBuiltins "list" = some (.type "list") := by decide +kernel

/-! ### the laws' bag of draws -/
def Bag (H : Hp) (b : Addr) : Prop := ∃ x y : Int, H b = some (.lst [.int x, .int y]) ∧ 0 ≤ y ∧ y < 2147483648
/-- all that was tracked is as it was, but what stands at b -/
def Fix (b : Addr) (H H' : Hp) : Prop := ∀ c o, H c = some o → c ≠ b → H' c = some o
theorem Fix.refl (b : Addr) (H : Hp) : Fix b H H := fun _ _ h _ => h
theorem Fix.trans {b : Addr} {H H1 H2 : Hp} (u : Fix b H H1) (v : Fix b H1 H2) : Fix b H H2 := fun c o h n => v c o (u c o h n) n
theorem Fix.upd_b {b : Addr} {H : Hp} {o : HO} : Fix b H (upd H b o) := fun c u h n => by rw [upd_ne n]; exact h
theorem Fix.new {b p : Addr} {H : Hp} {o : HO} (hp : H p = none) : Fix b H (upd H p o) := fun c u h _ => by rw [upd_ne (ne_of_none h hp)]; exact h
theorem Fix.of_same {b : Addr} {H H' : Hp} (h : Same H H') : Fix b H H' := fun c o e _ => h c o e
theorem Same.new {p : Addr} {H : Hp} {o : HO} (hp : H p = none) : Same H (upd H p o) := fun c u h => by rw [upd_ne (ne_of_none h hp)]; exact h
theorem Bag.new {b p : Addr} {H : Hp} {o : HO} (h : Bag H b) (hp : H p = none) : Bag (upd H p o) b := by
  obtain ⟨x, y, e, q⟩ := h
  exact ⟨x, y, by rw [upd_ne (ne_of_none e hp)]; exact e, q⟩
theorem Bag.same {b : Addr} {H H' : Hp} (h : Bag H b) (s : Same H H') : Bag H' b := by
  obtain ⟨x, y, e, q⟩ := h
  exact ⟨x, y, s _ _ e, q⟩
theorem ln1 {α : Type} {x0 : α} : [x0].length ≤ sizeLine := by show 1 ≤ sizeLine; decide
theorem ln2 {α : Type} {x0 x1 : α} : [x0, x1].length ≤ sizeLine := by show 2 ≤ sizeLine; decide
theorem ln3 {α : Type} {x0 x1 x2 : α} : [x0, x1, x2].length ≤ sizeLine := by show 3 ≤ sizeLine; decide
theorem ln5 {α : Type} {x0 x1 x2 x3 x4 : α} : [x0, x1, x2, x3, x4].length ≤ sizeLine := by show 5 ≤ sizeLine; decide
theorem ln7 {α : Type} {x0 x1 x2 x3 x4 x5 x6 : α} : [x0, x1, x2, x3, x4, x5, x6].length ≤ sizeLine := by show 7 ≤ sizeLine; decide
theorem Bag.ne_tup {b p : Addr} {H : Hp} {xs : List V} (h : Bag H b) (e : H p = some (.tup xs)) : p ≠ b := by
  obtain ⟨x, y, e1, _⟩ := h
  exact ne_of e e1 (by intro z; cases z)
theorem Bag.ne_new {b p : Addr} {H : Hp} (h : Bag H b) (e : H p = none) : p ≠ b := by
  obtain ⟨x, y, e1, _⟩ := h
  exact fun z => ne_of_none e1 e z.symm
/-- numbers -/
theorem c10 {i j : Int} (h1 : i = 10) (h2 : 0 ≤ j) (h3 : j ≤ 1000) : CPow i j := by subst h1; exact ⟨h2, by omega, by decide⟩
/-- _law_bag -/
def spBag (K : PySem.W.Frag) : Sp := fun vs H Q _ => ∃ (a : Addr) (ns : List Int) (k : Int), vs = [.ref a, .int k] ∧ SqL K H a (ns.map V.int) ∧ 0 ≤ k ∧
  ∀ b H', H b = none → Bag H' b → Same H H' → Q (.ref b) H'
/-- _law_take -/
def spTake : Sp := fun vs H Q _ => ∃ (b : Addr) (m : Int), vs = [.ref b, .int m] ∧ Bag H b ∧ (0 < m ∧ m.natAbs.log2 < 9000) ∧
  ∀ r H', 0 ≤ r → r < m → Bag H' b → Fix b H H' → Q (.int r) H'
def spLaw (K : PySem.W.Frag) : Sp := fun vs H Q _ => ∃ (a : Addr) (ns : List Int), vs = [.ref a] ∧ SqL K H a (ns.map V.int) ∧ ns.length ≤ 63 ∧ ∀ H', Q (.bl true) H'
end L2

set_option Elab.async false
set_option linter.all false
set_option maxRecDepth 100000
namespace L2
open PySem PySem.Spec PyProof.Rows
/-! ### comprehensions: the cells that a block takes along -/
def clF (cells : List (Str × Addr)) : List (Str × NameKind) → List (Str × Addr) → List (Str × Addr)
  | [], cs => cs
  | (n, k) :: r, cs => clF cells r (if k == .free then (n, (cells.lookup n).getD 0) :: cs else cs)
theorem closure_eq {scope : Scope} {env : Env} (hf : ∀ y ∈ scope.names, y.2 = .free → ∃ c, env.cells.lookup y.1 = some c) : closureFor scope env = pure (clF env.cells scope.names []) := by
  have key : ∀ (names : List (Str × NameKind)) (cs : List (Str × Addr)), (∀ y ∈ names, y.2 = .free → ∃ c, env.cells.lookup y.1 = some c) →
      (forIn names cs fun x r => match x with
        | (name, kind) => if (kind == NameKind.free) = true then (do let a ← cellOf env name; pure (ForInStep.yield ((name, a) :: r))) else pure (ForInStep.yield r) : Sem (List (Str × Addr))) = pure (clF env.cells names cs) := by
    intro names
    induction names with
    | nil => intro cs _; rfl
    | cons y r ih =>
      intro cs hy
      obtain ⟨n, k⟩ := y
      have ih' := fun cs => ih cs fun z hz => hy z (List.mem_cons_of_mem _ hz)
      rw [List.forIn_cons]
      by_cases hk : (k == NameKind.free) = true
      · have e : k = .free := by simpa using hk
        obtain ⟨c, hc⟩ := hy (n, k) List.mem_cons_self e
        have hc' : env.cells.lookup n = some c := hc
        simp only [hk, if_true, cellOf, hc', pure_bind, clF, Option.getD_some]
        exact ih' _
      · have hk' : (k == NameKind.free) = false := by simpa using hk
        simp only [hk', Bool.false_eq_true, if_false, pure_bind, clF]
        exact ih' _
  unfold closureFor
  have e := key scope.names [] hf
  show ((forIn scope.names ([] : List (Str × Addr)) fun x r => match x with
        | (name, kind) => if (kind == NameKind.free) = true then (do let a ← cellOf env name; pure (ForInStep.yield ((name, a) :: r))) else pure (ForInStep.yield r) : Sem (List (Str × Addr))) >>= fun r => pure r) = _
  rw [e, pure_bind]
theorem clF_agree {cells : List (Str × Addr)} : ∀ (names : List (Str × NameKind)) (cs : List (Str × Addr)), (∀ y ∈ names, y.2 = .free → ∃ c, cells.lookup y.1 = some c) →
    (∀ x c, cs.lookup x = some c → cells.lookup x = some c) → ∀ x c, (clF cells names cs).lookup x = some c → cells.lookup x = some c
  | [], _, _, h, x, c, e => h x c e
  | (n, k) :: r, cs, hf, h, x, c, e => by
    refine clF_agree r _ (fun y hy => hf y (List.mem_cons_of_mem _ hy)) (fun z d hz => ?_) x c e
    by_cases hk : (k == NameKind.free) = true
    · rw [if_pos hk] at hz
      obtain ⟨c', hc⟩ := hf (n, k) List.mem_cons_self (by simpa using hk)
      have hc' : cells.lookup n = some c' := hc
      rw [List.lookup_cons] at hz
      cases hzn : z == n with
      | true =>
        rw [hzn] at hz
        have : z = n := by simpa using hzn
        subst this
        rw [hc'] at hz ⊢
        simpa using hz
      | false => rw [hzn] at hz; exact h z d hz
    · rw [if_neg hk] at hz; exact h z d hz
theorem clF_has {cells : List (Str × Addr)} {x : Str} : ∀ (names : List (Str × NameKind)) (cs : List (Str × Addr)), ((x, NameKind.free) ∈ names ∨ ∃ c, cs.lookup x = some c) → ∃ c, (clF cells names cs).lookup x = some c
  | [], _, h => by
    rcases h with h | h
    · cases h
    · exact h
  | (n, k) :: r, cs, h => by
    refine clF_has r _ ?_
    by_cases hk : (k == NameKind.free) = true
    · rw [if_pos hk]
      cases hxn : x == n with
      | true => exact .inr ⟨_, by rw [List.lookup_cons, hxn]⟩
      | false =>
        rcases h with h | ⟨c, h⟩
        · rcases List.mem_cons.mp h with h | h
          · have : x = n := (Prod.mk.inj h).1
            subst this
            simp at hxn
          · exact .inl h
        · exact .inr ⟨c, by rw [List.lookup_cons, hxn]; exact h⟩
    · rw [if_neg hk]
      rcases h with h | h
      · rcases List.mem_cons.mp h with h | h
        · have : NameKind.free = k := (Prod.mk.inj h).2
          subst this
          simp at hk
        · exact .inl h
      · exact .inr h
theorem relabel_back {env : Env} {x : Str} {k : NameKind} (hk : k = .cell ∨ k = .free) : ∀ {names : List (Str × NameKind)}, (∀ y ∈ names, y.2 ≠ .cell) →
    (names.map fun (n, k) => if (k == NameKind.free && env.scope.kind == .function && env.kindOf n == some .cell) then (n, NameKind.cell) else (n, k)).lookup x = some k → (x, NameKind.free) ∈ names
  | [], _, h => by simp at h
  | (n, q) :: r, hc, h => by
    have ih := relabel_back (env := env) (x := x) hk (names := r) (fun y hy => hc y (List.mem_cons_of_mem _ hy))
    have h' : List.lookup x ((if (q == NameKind.free && env.scope.kind == .function && env.kindOf n == some .cell) = true then (n, NameKind.cell) else (n, q)) :: _) = some k := h
    by_cases hq : (q == NameKind.free && env.scope.kind == .function && env.kindOf n == some .cell) = true
    · rw [if_pos hq, List.lookup_cons] at h'
      have eq : q = .free := by
        rw [Bool.and_eq_true, Bool.and_eq_true] at hq
        simpa using hq.1.1
      cases hxn : x == n with
      | true =>
        have : x = n := by simpa using hxn
        subst this; subst eq
        exact List.mem_cons_self
      | false => rw [hxn] at h'; exact List.mem_cons_of_mem _ (ih h')
    · rw [if_neg hq, List.lookup_cons] at h'
      cases hxn : x == n with
      | true =>
        rw [hxn] at h'
        have : x = n := by simpa using hxn
        subst this
        have e : q = k := Option.some.inj h'
        subst e
        rcases hk with hk | hk
        · exact absurd hk (hc (x, q) List.mem_cons_self)
        · subst hk; exact List.mem_cons_self
      | false => rw [hxn] at h'; exact List.mem_cons_of_mem _ (ih h')
theorem relabel_free {env : Env} {x : Str} : ∀ {names : List (Str × NameKind)}, names.lookup x = some .free →
    (names.map fun (n, k) => if (k == NameKind.free && env.scope.kind == .function && env.kindOf n == some .cell) then (n, NameKind.cell) else (n, k)).lookup x = some .cell ∨
    (names.map fun (n, k) => if (k == NameKind.free && env.scope.kind == .function && env.kindOf n == some .cell) then (n, NameKind.cell) else (n, k)).lookup x = some .free
  | [], h => by simp at h
  | (n, q) :: r, h => by
    have ih := relabel_free (env := env) (x := x) (names := r)
    show List.lookup x ((if (q == NameKind.free && env.scope.kind == .function && env.kindOf n == some .cell) = true then (n, NameKind.cell) else (n, q)) :: _) = some .cell ∨
      List.lookup x ((if (q == NameKind.free && env.scope.kind == .function && env.kindOf n == some .cell) = true then (n, NameKind.cell) else (n, q)) :: _) = some .free
    rw [List.lookup_cons] at h
    by_cases hq : (q == NameKind.free && env.scope.kind == .function && env.kindOf n == some .cell) = true
    · rw [if_pos hq, List.lookup_cons]
      cases hxn : x == n with
      | true => exact .inl rfl
      | false => rw [hxn] at h; exact ih h
    · rw [if_neg hq, List.lookup_cons]
      cases hxn : x == n with
      | true => rw [hxn] at h; exact .inr h
      | false => rw [hxn] at h; exact ih h

/-- the block's context -/
def blkCx (X : Cx) (scope : Scope) (C : Addr) (N' : List Str) (fp : List Addr) (s₁ : Shared) (H₁ : Hp) : Cx where
  prog := X.prog
  w := X.w
  K := X.K
  mg := X.mg
  base := X.base
  A := X.A
  N := N'
  s₀ := s₁
  H₀ := H₁
  env := compEnvC scope (clF X.env.cells scope.names []) C X.env
  outer := X.stack
  stack := X.stack
  ex := fp
  fn := fun _ => false
  calm := X.calm
  pn := []
  xe := fun _ _ => False
/-- the names that the block takes from outside: their places outside -/
def FrOk (X : Cx) (scope : Scope) : List Str → List Nat → Prop
  | [], [] => True
  | x :: fr, j :: js => (X.N[j]? = some x ∧ (X.env.kindOf x = some .cell ∨ X.env.kindOf x = some .free) ∧ scope.names.lookup x = some .free) ∧ FrOk X scope fr js
  | _, _ => False
theorem FrOk.len {X : Cx} {scope : Scope} : ∀ {fr : List Str} {js : List Nat}, FrOk X scope fr js → fr.length = js.length
  | [], [], _ => rfl
  | _ :: _, _ :: _, h => by simp [FrOk.len h.2]
  | [], _ :: _, h => h.elim
  | _ :: _, [], h => h.elim
theorem FrOk.mem {X : Cx} {scope : Scope} {x : Str} : ∀ {fr : List Str} {js : List Nat}, FrOk X scope fr js → x ∈ fr → X.env.kindOf x = some .cell ∨ X.env.kindOf x = some .free
  | [], [], _, h => by cases h
  | a :: fr, b :: js, h, hm => by
    rcases List.mem_cons.mp hm with rfl | hm
    · exact h.1.2.1
    · exact FrOk.mem h.2 hm
  | [], _ :: _, h, _ => h.elim
  | _ :: _, [], h, _ => h.elim
theorem FrOk.get {X : Cx} {scope : Scope} : ∀ {fr : List Str} {js : List Nat} {i : Nat} {x : Str} {j : Nat}, FrOk X scope fr js → fr[i]? = some x → js[i]? = some j →
    X.N[j]? = some x ∧ (X.env.kindOf x = some .cell ∨ X.env.kindOf x = some .free) ∧ scope.names.lookup x = some .free
  | [], [], _, _, _, _, h, _ => by simp at h
  | a :: fr, b :: js, 0, x, j, h, h1, h2 => by
    simp at h1 h2
    subst h1; subst h2
    exact h.1
  | a :: fr, b :: js, i + 1, x, j, h, h1, h2 => FrOk.get h.2 (by simpa using h1) (by simpa using h2)
  | [], _ :: _, _, _, _, h, _, _ => h.elim
  | _ :: _, [], _, _, _, h, _, _ => h.elim
/-- the block's names at its start -/
def blk (n : Nat) (js : List Nat) (σ : St) : St := List.replicate n none ++ js.map fun j => σ.getD j none

theorem blk_ok {X : Cx} {pins : List (Addr × Obj)} {σ : St} {H : Hp} {s : Shared} {scope : Scope} {fp : List Addr} {C : Addr} {N' : List Str} (I : Inv X pins σ H s) (hk : scope.kind = .function) (hcell : ∀ y ∈ scope.names, y.2 ≠ .cell)
    (hf : ∀ y ∈ scope.names, y.2 = .free → ∃ c, X.env.cells.lookup y.1 = some c) (hC : s.heap.objs.size ≤ C) (hfp : ∀ b ∈ fp, FpOk X pins H b) (hlt : ∀ b ∈ fp, b < s.heap.objs.size) : (blkCx X scope C N' fp s H).Ok := by
  have ag : ∀ x c, (clF X.env.cells scope.names []).lookup x = some c → X.env.cells.lookup x = some c := clF_agree scope.names [] hf fun x c e => by simp at e
  refine ⟨I.ok.mod, hk, I.ok.glob, I.ok.blt, hC, fun x y c h1 h2 => I.ok.inj x y c (ag x c h1) (ag y c h2), fun x hx => ?_, (fun x c h => (by cases h)), I.ok.hd, I.ok.frames, .inl rfl, fun b hb => ?_, I.bs, ?_, fun b o e hb => ?_, fun b hb => ?_, I.stack, I.stkFree⟩
  · refine clF_has scope.names [] (.inl ?_)
    rcases hx with hx | hx
    · exact relabel_back (.inl rfl) hcell hx
    · exact relabel_back (.inr rfl) hcell hx
  · obtain ⟨h1, h2, h3, h4, h5, h6⟩ := hfp b hb
    exact ⟨Nat.ne_of_lt (Nat.lt_of_lt_of_le (hlt b hb) hC), fun x c e => h5 x c (ag x c e)⟩
  · exact Nat.le_trans I.ok.bsz I.sz
  · obtain ⟨h1, h2, h3, h4, h5, h6⟩ := hfp b hb
    rcases h4 with h4 | h4
    · exact I.ok.noex b o e h4
    · exact absurd (Nat.lt_of_lt_of_le (Heap.lt_size e) (Nat.le_trans I.ok.bsz h4)) (Nat.lt_irrefl _)
  · obtain ⟨h1, h2, h3, h4, h5, h6⟩ := hfp b hb
    intro z
    rcases List.mem_cons.mp (I.stkSub b z) with z | z
    · exact h2 z
    · exact h3 z

/-- what a comprehension wants of its block: a word W by the turn, a measure, the items so far, the names, the heap -/
def LcG (J : It) (n : Nat) (js : List Nat) (g : TG) (ct : TT) (te : TE) (acc : Addr) (σ : St) (H1 : Hp) (Q : VK) : Prop :=
  ∃ W : Nat → Nat → List V → St → Hp → Prop, (∃ m, W 0 m [] (blk n js σ) (upd H1 acc (.lst []))) ∧ ∀ i m ys τ H2, W i m ys τ H2 → H2 acc = some (.lst ys) ∧ ys.length < sizeLine ∧
    ((J.stop i H2 ∧ Q (.ref acc) H2) ∨ (J.go i H2 ∧ ∃ N : List V → St → Hp → Prop, (∀ ys' τ' H', N ys' τ' H' → ∃ m', m' < m ∧ W (i + 1) m' ys' τ' H') ∧ ∀ x H3, J.yld i H2 x H3 → g x τ H3 fun τ1 H4 => ct τ1 H4 fun b H5 =>
      if b = true then te τ1 H5 fun y H6 => H6 acc = some (.lst ys) ∧ N (ys ++ [y]) τ1 (upd H6 acc (.lst (ys ++ [y]))) else N ys τ1 H5))
/-- [elt for tg in iter if c ..] -/
def tLC (n : Nat) (js : List Nat) (wi : TI) (g : TG) (ct : TT) (te : TE) : TE := fun σ H Q => wi σ H fun J H1 => ∀ acc, H1 acc = none → LcG J n js g ct te acc σ H1 Q
/-- the tests of a comprehension's clause -/
def PTs (X : Cx) (ifs : List Expr) (t : TT) : Prop :=
  ∀ (pins : List (Addr × Obj)) (s : Shared) (σ : St) (H : Hp) (Q : Bool → Hp → Prop), Inv X pins σ H s → t σ H Q →
    wpAny (model X.prog X.w) X.A (forIn ifs true fun c r => if r = true then do let ok ← isTrue c X.env (eval c X.env); pure (ForInStep.yield ok) else pure (ForInStep.yield r)) (TP X pins σ Q) X.xe s
def tYes : TT := fun _ H Q => Q true H
theorem pts_nil {X : Cx} : PTs X [] tYes := fun _ _ σ H Q I h => wpAny_pure ⟨H, I, h⟩
theorem pts_one {X : Cx} {c : Expr} {t : TT} (h : PT X c t) : PTs X [c] t := by
  intro pins s σ H Q I q
  rw [List.forIn_cons]
  simp only [if_true, bind_assoc, pure_bind]
  refine wpAny_bind (thn (h pins s σ H Q I q) fun b s1 h1 => ?_)
  exact wpAny_pure h1
section
variable {X : Cx} {pos : Pos}
theorem codeAny_compLoop_tg {prog : Program} {w : World} {A : Around} {R : Result → Shared → Prop} {s : Shared} {elt target iter : Expr} {ifs : List Expr} {scope : Scope} {pos : Pos} {it acc : Value} {env : Env} (I : Nat → Shared → Prop)
    (turn : ∀ n s, I n s → wpAny (model prog w) A (pyNext it) (fun r s₁ => match r with
      | none => R (.ok .next) s₁
      | some v => wpAny (model prog w) A (letOwnedTupleGo target it v) (fun _ s₁' => wpAny (model prog w) A (assign target env v) (fun _ s₂ =>
          wpAny (model prog w) A (forIn ifs true fun c r => if r = true then do let ok ← isTrue c env (eval c env); pure (ForInStep.yield ok) else pure (ForInStep.yield r)) (fun ok s₃ =>
            if ok = true then wpAny (model prog w) A (eval elt env) (fun x s₄ =>
              wpAny (model prog w) A (call (.builtin "list.append") [acc, x]) (fun _ s₅ => ∃ m, m < n ∧ I m s₅) (fun _ _ => False) s₄) (fun _ _ => False) s₃
            else ∃ m, m < n ∧ I m s₃) (fun _ _ => False) s₂) (fun _ _ => False) s₁') (fun _ _ => False) s₁) (fun _ _ => False) s)
    (n : Nat) (h : I n s) :
    codeAny (model prog w) A (.compLoop (.ListComp elt [⟨target, iter, ifs, 0⟩] scope pos) 0 it acc env) R s := by
  refine codeAny_loop rfl I (fun n s hI => ?_) n h
  show wpAny _ A ((compTurn (.ListComp elt [⟨target, iter, ifs, 0⟩] scope pos) 0 it acc env).onRaise (fun x => do noteFrame x env; theTreesLotGoes x)) _ _ s
  refine wpAny_noted ?_
  rw [compTurn_list]
  refine wpAny_bind (wpAny_standAt (wpAny_bind (wpAny_mono (turn n s hI) (fun r s₁ h₁ => ?_) fun _ _ h' => h'.elim)))
  cases r with
  | none => exact wpAny_pure h₁
  | some v =>
    refine wpAny_bind (wpAny_mono h₁ (fun _ s₁' h₁' => ?_) fun _ _ h' => h'.elim)
    refine wpAny_bind (wpAny_mono h₁' (fun _ s₂ h₂ => wpAny_bind (wpAny_mono h₂ (fun ok s₃ h₃ => ?_) fun _ _ h' => h'.elim)) fun _ _ h' => h'.elim)
    cases ok with
    | false => exact wpAny_pure ⟨rfl, h₃⟩
    | true =>
      exact wpAny_bind (wpAny_bind (wpAny_mono h₃ (fun x s₄ h₄ => wpAny_bind (wpAny_mono h₄ (fun _ s₅ h₅ => wpAny_pure (wpAny_pure ⟨rfl, h₅⟩)) fun _ _ h' => h'.elim)) fun _ _ h' => h'.elim))
/-- the block, from the iterator on -/
theorem lc_core {pins : List (Addr × Obj)} {σ : St} {H : Hp} {s : Shared} {E : Value → Shared → Prop} {tg elt iter : Expr} {ifs : List Expr} {scope : Scope} {g : TG} {ct : TT} {te : TE} {ts fr : List Str} {js : List Nat}
    {it : Addr} {fp : List Addr} {tn : Nat → Heap → Prop} {J : It} {Q : VK} {RR : Value → Addr → Result → Shared → Prop}
    (hc : X.calm = true) (hkind : scope.kind = .function) (hcell : ∀ y ∈ scope.names, y.2 ≠ .cell) (hfree : ∀ y ∈ scope.names, y.2 = .free → X.env.kindOf y.1 = some .cell ∨ X.env.kindOf y.1 = some .free)
    (hfr : FrOk X scope fr js) (htg : ∀ C fp s₁ H₁, PG (blkCx X scope C (ts ++ fr) fp s₁ H₁) tg g) (hct : ∀ C fp s₁ H₁, PTs (blkCx X scope C (ts ++ fr) fp s₁ H₁) ifs ct) (hte : ∀ C fp s₁ H₁, PE (blkCx X scope C (ts ++ fr) fp s₁ H₁) elt te)
    (I : Inv X pins σ H s) (T : Turn X.prog X.w X.K tg J fp it tn) (st : tn 0 s.heap) (hfp : ∀ b ∈ fp, FpOk X pins H b)
    (h : ∀ acc, H acc = none → LcG J ts.length js g ct te acc σ H Q)
    (hRR : ∀ acc C H' s' m, Inv X pins σ H' s' → s'.heap.Ns C m → H' C = none → s.heap.objs.size ≤ C → Q (.ref acc) H' → RR (.ref acc) C (.ok .next) s') :
    wpAny (model X.prog X.w) X.A (newList []) (fun acc s₃ => wpAny (model X.prog X.w) X.A (newFunctionEnv scope X.env.globals (clF X.env.cells scope.names []) [] X.env.qual none .none (some X.env)) (fun cenv s₄ =>
      codeAny (model X.prog X.w) X.A (.compStart (.ListComp elt [⟨tg, iter, ifs, 0⟩] scope pos) 0 (.ref it) acc { cenv with scope := relabel scope X.env }) (RR acc cenv.locals) s₄) E s₃) E s := by
  have hf : ∀ y ∈ scope.names, y.2 = .free → ∃ c, X.env.cells.lookup y.1 = some c := fun y hy e => I.ok.has y.1 (hfree y hy e)
  have ag : ∀ x c, (clF X.env.cells scope.names []).lookup x = some c → X.env.cells.lookup x = some c := clF_agree scope.names [] hf fun x c e => by simp at e
  have hlt : ∀ b ∈ fp, b < s.heap.objs.size := fun b hb => by
    obtain ⟨o, e, _⟩ := T.obj _ _ st b hb
    exact Heap.lt_size e
  refine wpAny_newObj_type (wpAny_newFunctionEnv hcell (by intro y hy; simp at hy) (fun h₁ hns₁ hsb₁ => ?_) hkind)
  dsimp only at hns₁ hsb₁ ⊢
  generalize hH2 : s.heap.push { cls := .type "list", dict := none, data := .seq ([] : List Value).toArray } = G2 at hns₁ hsb₁ ⊢
  have hC : G2.objs.size = s.heap.objs.size + 1 := by rw [← hH2, Heap.size_push]
  have hDC : s.heap.objs.size ≠ G2.objs.size := by rw [hC]; exact Nat.ne_of_lt (Nat.lt_succ_self _)
  have hCle : s.heap.objs.size ≤ G2.objs.size := by rw [hC]; exact Nat.le_succ _
  have below : ∀ b, b < s.heap.objs.size → b ≠ G2.objs.size ∧ b ≠ s.heap.objs.size := fun b hb => ⟨by rw [hC]; exact Nat.ne_of_lt (Nat.lt_succ_of_lt hb), Nat.ne_of_lt hb⟩
  have old : ∀ b o, s.heap.get? b = some o → h₁.get? b = some o := fun b o e => hsb₁.extBut b o (below b (Heap.lt_size e)).1 (Heap.get?_push_of_some _ (hH2 ▸ Heap.get?_push_of_some _ e))
  have hacc : h₁.get? s.heap.objs.size = some { cls := .type "list", data := .seq ([] : List Value).toArray } := hsb₁.extBut _ _ hDC (Heap.get?_push_of_some _ (hH2 ▸ Heap.get?_push_size _ rfl))
  have nD : H s.heap.objs.size = none := I.hok.fresh (Nat.le_refl _)
  have nC : H G2.objs.size = none := I.hok.fresh hCle
  obtain ⟨W, ⟨m0, w0⟩, turn⟩ := h s.heap.objs.size nD
  generalize hXb : blkCx X scope G2.objs.size (ts ++ fr) fp s H = Xb
  have Ib : ∀ tk, Inv Xb [] (blk ts.length js σ) (upd H s.heap.objs.size (.lst [])) { s with heap := h₁, toks := tk } := by
    intro tk
    subst hXb
    refine ⟨blk_ok I hkind hcell hf hCle hfp hlt, rfl, I.bare, Un.laid old (Nat.le_refl _) nD, ⟨_, hns₁, fun i x v e1 e2 e3 => ?_⟩, fun x c e => ?_, ?_, fun x c e => ?_, fun p hp => absurd (show p ∈ ([] : List (Addr × Obj)) from hp) (by simp), I.hok.laid old (Nat.le_refl _) ⟨by show 0 ≤ sizeLine; decide, [], _, .nil, hacc⟩, ?_⟩
    · have hi : ts.length ≤ i := by
        refine Nat.le_of_not_lt fun hi => ?_
        unfold blk at e2
        rw [List.getElem?_append_left (by simpa using hi), List.getElem?_replicate] at e2
        split at e2 <;> cases e2
      have e1' : fr[i - ts.length]? = some x := by
        have e1'' : (ts ++ fr)[i]? = some x := e1
        rw [List.getElem?_append_right hi] at e1''
        exact e1''
      unfold blk at e2
      rw [List.getElem?_append_right (by simpa using hi), List.length_replicate, List.getElem?_map] at e2
      cases ej : js[i - ts.length]? with
      | none => rw [ej] at e2; cases e2
      | some j =>
        rw [ej] at e2
        have e2' : σ.getD j none = some v := by simpa using e2
        obtain ⟨q1, q2, q3⟩ := hfr.get e1' ej
        have e2'' : σ[j]? = some (some v) := by
          rw [List.getD_eq_getElem?_getD] at e2'
          cases ez : σ[j]? with
          | none => rw [ez] at e2'; cases e2'
          | some z => rw [ez] at e2'; rw [show z = some v from e2']
        obtain ⟨m, hn, hl⟩ := I.loc
        obtain ⟨u, r, l⟩ := hl j x v q1 e2'' (by
          rcases q2 with q2 | q2
          · exact .inr (.inl q2)
          · exact .inr (.inr q2))
        refine ⟨u, r, .inr ⟨relabel_free q3, ?_⟩⟩
        rcases l with ⟨l, _⟩ | ⟨_, c, lc, lv⟩
        · rcases q2 with q2 | q2 <;> (rw [l] at q2; cases q2)
        · obtain ⟨c', hc'⟩ := clF_has (cells := X.env.cells) scope.names [] (.inl (PySem.mem_of_lookup q3))
          have := ag x c' hc'
          rw [lc] at this
          cases this
          obtain ⟨o, ho, hd⟩ := lv
          exact ⟨c, hc', o, old _ _ ho, hd⟩
    · obtain ⟨v, o, ho, hd⟩ := I.cell x c (ag x c e)
      exact ⟨v, o, old _ _ ho, hd⟩
    · show upd H s.heap.objs.size (.lst []) G2.objs.size = none
      rw [upd_ne hDC.symm]; exact nC
    · obtain ⟨v, o, ho, hd⟩ := I.cell x c (ag x c e)
      rw [upd_ne (Nat.ne_of_lt (Heap.lt_size ho))]
      exact I.freeC x c (ag x c e)
    · show (blk ts.length js σ).length = (ts ++ fr).length
      unfold blk
      rw [List.length_append, List.length_replicate, List.length_map, List.length_append, hfr.len]
  have fpB : ∀ {H' : Hp}, (∀ b ∈ fp, H' b = none) → ∀ b ∈ fp, FpOk Xb [] H' b := fun {H'} hn b hb => by
    subst hXb
    obtain ⟨h1, h2, h3, h4, h5, h6⟩ := hfp b hb
    refine ⟨hn b hb, (below b (hlt b hb)).1, fun z => ?_, .inl hb, fun x c e => h5 x c (ag x c e), fun p hp => absurd (show p ∈ ([] : List (Addr × Obj)) from hp) (by simp)⟩
    rcases List.mem_cons.mp (I.stkSub b z) with z | z
    · exact h2 z
    · exact h3 z
  have fin : ∀ {τ : St} {H' : Hp} {s' : Shared}, Inv Xb [] τ H' s' → Q (.ref s.heap.objs.size) H' → RR (.ref s.heap.objs.size) G2.objs.size (.ok .next) s' := fun {τ H' s'} Jb q => by
    subst hXb
    obtain ⟨m, hn, _⟩ := Jb.loc
    refine hRR _ _ H' s' m (I.call' (ch := fp) Jb.os Jb.base Jb.hok Jb.bare fun b hb => ?_) hn Jb.free hCle q
    obtain ⟨h1, h2, h3, h4, h5, h6⟩ := hfp b hb
    exact ⟨h4, h2, h5, h6⟩
  have loop : ∀ tk, codeAny (model X.prog X.w) X.A (.compLoop (.ListComp elt [⟨tg, iter, ifs, 0⟩] scope pos) 0 (.ref it) (.ref s.heap.objs.size) (compEnvC scope (clF X.env.cells scope.names []) G2.objs.size X.env))
        (RR (.ref s.heap.objs.size) G2.objs.size) { s with heap := h₁, toks := tk } := by
    intro tk
    refine codeAny_compLoop_tg (fun n s' => ∃ i ys τ H', Inv Xb [] τ H' s' ∧ tn i s'.heap ∧ (∀ b ∈ fp, H' b = none) ∧ W i n ys τ H') ?_ m0 ⟨0, [], _, _, Ib tk, T.keep _ _ _ st fun b hb o e => old b o e, fun b hb => ?_, w0⟩
    · rintro n s3 ⟨i, ys, τ, H3, I3, st3, fr3, w3⟩
      have htg' := htg G2.objs.size fp s H
      have hct' := hct G2.objs.size fp s H
      have hte' := hte G2.objs.size fp s H
      rw [hXb] at htg' hct' hte'
      have eP : Xb.prog = X.prog := by subst hXb; rfl
      have ew : Xb.w = X.w := by subst hXb; rfl
      have eK : Xb.K = X.K := by subst hXb; rfl
      have eA : Xb.A = X.A := by subst hXb; rfl
      have ec : Xb.calm = true := by subst hXb; exact hc
      have ee : Xb.env = compEnvC scope (clF X.env.cells scope.names []) G2.objs.size X.env := by subst hXb; rfl
      have ex : Xb.xe = fun _ _ => False := by subst hXb; rfl
      rw [← eP, ← ew, ← eA, ← ee]
      obtain ⟨ha, hl, turn'⟩ := turn i n ys τ H3 w3
      rcases turn' with ⟨stop, q⟩ | ⟨go, N, hN, step⟩
      · have hd := T.done Xb eP ew eK ec i [] s3 τ H3 (fun _ _ => False) I3 (fpB fr3) st3 stop
        rw [← eP, ← ew] at hd
        refine wpAny_mono hd (fun r s4 hr4 => ?_) fun _ _ z => z
        obtain ⟨hr, I4⟩ := hr4
        subst hr
        exact fin I4 q
      · have hd := T.item Xb eP ew eK ec i [] s3 τ H3 (fun _ _ => False) I3 (fpB fr3) st3 go
        rw [← eP, ← ew] at hd
        refine wpAny_mono hd (fun r s4 hr4 => ?_) fun _ _ z => z
        obtain ⟨u, hr, h4⟩ := hr4
        subst hr
        refine wpAny_mono h4 (fun _ s5 ⟨x, H5, I5, r5, y5, st5, fr5⟩ => ?_) fun _ _ z => z
        have I5' := I5.pinned (fpB fr5) (T.obj _ _ st5)
        have keepT : ∀ {σ7 : St} {H7 : Hp} {s7 : Shared}, Inv Xb ([] ++ pinsAt fp s5.heap) σ7 H7 s7 → tn (i + 1) s7.heap ∧ ∀ b ∈ fp, H7 b = none := fun {σ7 H7 s7} I7 => by
          refine ⟨T.keep _ _ _ st5 fun b hb o e => (I7.pin (b, o) (List.mem_append_right _ (List.mem_append_right _ (mem_pinsAt hb e)))).1, fun b hb => ?_⟩
          obtain ⟨o, e, d⟩ := T.obj _ _ st5 b hb
          exact (I7.pin (b, o) (List.mem_append_right _ (List.mem_append_right _ (mem_pinsAt hb e)))).2.1
        refine wpAny_mono (htg' _ s5 τ H5 x u _ I5' r5 (step x H5 y5)) (fun _ s6 ⟨τ6, H6, I6, q6⟩ => ?_) (fun _ _ z => by rw [ex] at z; exact z)
        refine wpAny_mono (hct' _ s6 τ6 H6 _ I6 q6) (fun ok s7 ⟨H7, I7, q7⟩ => ?_) (fun _ _ z => by rw [ex] at z; exact z)
        cases ok with
        | false =>
          have q7' : N ys τ6 H7 := by rw [if_neg (by simp)] at q7; exact q7
          rw [if_neg (by simp)]
          obtain ⟨m', hm, w7⟩ := hN _ _ _ q7'
          exact ⟨m', hm, i + 1, ys, τ6, H7, I7.unpinned, (keepT I7).1, (keepT I7).2, w7⟩
        | true =>
          rw [if_pos rfl] at q7 ⊢
          refine wpAny_mono (hte' _ s7 τ6 H7 _ I7 q7) (fun v s8 ⟨y, H8, I8, r8, ha8, n8⟩ => ?_) (fun _ _ z => by rw [ex] at z; exact z)
          refine wpAny_mono (mt_append (X := Xb) _ s8 τ6 H8 (.ref s.heap.objs.size) [y] (.ref s.heap.objs.size) [v] (fun _ H9 => H9 = upd H8 s.heap.objs.size (.lst (ys ++ [y]))) I8 rfl (.cons r8 .nil) ⟨_, ys, y, rfl, rfl, ha8, hl, rfl⟩) (fun _ s9 ⟨_, H9, I9, _, e9⟩ => ?_) (fun _ _ z => by rw [ex] at z; exact z)
          subst e9
          obtain ⟨m', hm, w8⟩ := hN _ _ _ n8
          exact ⟨m', hm, i + 1, _, τ6, _, I9.unpinned, (keepT I9).1, (keepT I9).2, w8⟩
    · rw [upd_ne (Nat.ne_of_lt (hlt b hb))]
      exact (hfp b hb).1
  exact codeAny_compStart_list (loop _) (T.self _ 0 _ _ _ (T.keep _ _ _ st fun b hb o e => old b o e) (loop _))

theorem Inv.let_go {pins : List (Addr × Obj)} {σ : St} {H H' : Hp} {s s' : Shared} {C : Addr} {h' : Heap} (I : Inv X pins σ H s) {σ' : St} (I' : Inv X pins σ' H' s') (hC : H' C = none) (hle : s.heap.objs.size ≤ C) (hsb : Heap.SameBut C s'.heap h') :
    Inv X pins σ' H' { s' with heap := h' } := by
  obtain ⟨h1, h2, h3, h4, h5, h6⟩ := I.fpOk (H' := H') hle hC
  exact I'.turned (t' := s'.toks) (fun b o hb e => hsb.extBut b o hb e) hC h2 h4 h5 h6
theorem pe_lcomp {tg elt iter : Expr} {ifs : List Expr} {scope : Scope} {wi : TI} {g : TG} {ct : TT} {te : TE} (ts fr : List Str) (js : List Nat)
    (hc : X.calm = true) (hi : PI X tg iter wi) (hkind : scope.kind = .function) (hcell : ∀ y ∈ scope.names, y.2 ≠ .cell) (hnames : ∀ y ∈ scope.names, y.2 = .local → scope.names.lookup y.1 = some .local)
    (hfree0 : ∀ y ∈ scope.names, y.2 = .free → y.1 ∈ fr) (hfr : FrOk X scope fr js)
    (htg : ∀ C fp s₁ H₁, PG (blkCx X scope C (ts ++ fr) fp s₁ H₁) tg g) (hct : ∀ C fp s₁ H₁, PTs (blkCx X scope C (ts ++ fr) fp s₁ H₁) ifs ct) (hte : ∀ C fp s₁ H₁, PE (blkCx X scope C (ts ++ fr) fp s₁ H₁) elt te)
    (hs : ∀ x, foldedSetIterable iter X.env x = pure x := by intro _; rfl) : PE X (.ListComp elt [⟨tg, iter, ifs, 0⟩] scope pos) (tLC ts.length js wi g ct te) := by
  have hfree : ∀ y ∈ scope.names, y.2 = .free → X.env.kindOf y.1 = some .cell ∨ X.env.kindOf y.1 = some .free := fun y hy e => hfr.mem (hfree0 y hy e)
  intro pins s σ H Q I h
  rw [eval_ListComp]
  refine wpAny_comprehension_free (use := none) rfl hs (closure_eq fun y hy e => I.ok.has y.1 (hfree y hy e)) hkind hnames (thn (hi pins s σ H _ I h) fun xv s1 h1 => thn h1 fun itv s2 h2 => ?_)
  obtain ⟨it, fp, tn, J, H2, e, I2, T, st2, f2, hW⟩ := h2
  subst e
  refine lc_core (RR := fun acc C => compPost (model X.prog X.w) X.A X.xe none (EP X pins σ Q) acc C) hc hkind hcell hfree hfr htg hct hte I2 T st2 f2 hW ?_
  intro acc C H' s' m I' hn hC hle q
  exact ⟨m, hn, fun h' hsb => ⟨.ref acc, H', I2.let_go I' hC hle hsb, rfl, q⟩⟩
/-- name = [.. for ..] -/
theorem ps_setLC {tg elt iter : Expr} {ifs : List Expr} {scope : Scope} {wi : TI} {g : TG} {ct : TT} {te : TE} {i : Nat} {y : Str} {py spos : Pos} (ts fr : List Str) (js : List Nat)
    (hsw : swapsWith (.ListComp elt [⟨tg, iter, ifs, 0⟩] scope pos) (some (.Name y py)) spos.line X.env = pure true) (hN : X.N.Nodup) (hi0 : X.N[i]? = some y) (hx : X.env.scope.names.lookup y = some .local)
    (hc : X.calm = true) (hi : PI X tg iter wi) (hkind : scope.kind = .function) (hcell : ∀ y ∈ scope.names, y.2 ≠ .cell) (hnames : ∀ y ∈ scope.names, y.2 = .local → scope.names.lookup y.1 = some .local)
    (hfree0 : ∀ y ∈ scope.names, y.2 = .free → y.1 ∈ fr) (hfr : FrOk X scope fr js)
    (htg : ∀ C fp s₁ H₁, PG (blkCx X scope C (ts ++ fr) fp s₁ H₁) tg g) (hct : ∀ C fp s₁ H₁, PTs (blkCx X scope C (ts ++ fr) fp s₁ H₁) ifs ct) (hte : ∀ C fp s₁ H₁, PE (blkCx X scope C (ts ++ fr) fp s₁ H₁) elt te)
    (hs : ∀ x, foldedSetIterable iter X.env x = pure x := by intro _; rfl) : PS X (.Assign [.Name y py] (.ListComp elt [⟨tg, iter, ifs, 0⟩] scope pos) spos) (tAsg (tLC ts.length js wi g ct te) (gName i)) := by
  have hfree : ∀ y ∈ scope.names, y.2 = .free → X.env.kindOf y.1 = some .cell ∨ X.env.kindOf y.1 = some .free := fun y hy e => hfr.mem (hfree0 y hy e)
  intro pins s σ H D I h
  rw [exec_Assign_Name_used _ _ _ _ hsw]
  refine wpAny_bind (wpAny_standAt (wpAny_bind ?_))
  show wpAny _ X.A (do let _ ← comprehension (.ListComp elt [⟨tg, iter, ifs, 0⟩] scope pos) scope X.env _ (newList []) false (eval iter X.env) (some (assign (.Name y py) X.env))) _ _ s
  refine wpAny_bind (wpAny_mono (wpAny_comprehension_free (use := some (assign (.Name y py) X.env)) (Q := fun _ s' => SP X pins D .next s') rfl hs (closure_eq fun y hy e => I.ok.has y.1 (hfree y hy e)) hkind hnames
    (thn (hi pins s σ H _ I h) fun xv s1 h1 => thn h1 fun itv s2 h2 => ?_)) (fun _ s' hq => wpAny_pure (wpAny_pure hq)) fun _ _ e => e)
  obtain ⟨it, fp, tn, J, H2, e, I2, T, st2, f2, hW⟩ := h2
  subst e
  refine lc_core (Q := fun v H' => D.nx (σ.set i (some v)) H') (RR := fun acc C => compPost (model X.prog X.w) X.A X.xe (some (assign (.Name y py) X.env)) (fun _ s' => SP X pins D .next s') acc C) hc hkind hcell hfree hfr htg hct hte I2 T st2 f2 hW ?_
  intro acc C H' s' m I' hn hC hle q
  show wpAny _ X.A (assign (.Name y py) X.env (.ref acc)) _ _ _
  refine wpAny_assign_Name (store_ok2 I' hN hi0 (.inl hx) (v := .ref acc) rfl (fun s'' I'' hch => ?_) (.inr hx))
  obtain ⟨h1, h2, h3, h4, h5, h6⟩ := I2.fpOk (H' := H') hle hC
  obtain ⟨a, hsb, ha⟩ := hch
  refine ⟨m, hn.sameBut hsb ?_, fun h' hsb' => ⟨_, H', I2.let_go I'' hC hle hsb', q⟩⟩
  rcases ha with ha | ha
  · rw [ha]; exact h2
  · exact fun z => h5 y a ha z.symm
end
/-! ### the forms one uses -/
theorem lc_list {K : PySem.W.Frag} {a acc : Addr} {xs : List V} {n : Nat} {js : List Nat} {g : TG} {ct : TT} {te : TE} {σ : St} {H1 : Hp} {Q : VK} (Pv : Nat → List V → St → Hp → Prop) (h0 : Pv 0 [] (blk n js σ) (upd H1 acc (.lst [])))
    (hl : ∀ i ys τ H, i ≤ xs.length → Pv i ys τ H → SqL K H a xs ∧ H acc = some (.lst ys) ∧ ys.length < sizeLine)
    (hs : ∀ i x ys τ H, xs[i]? = some x → Pv i ys τ H → g x τ H fun τ1 H4 => ct τ1 H4 fun b H5 => if b = true then te τ1 H5 fun y H6 => H6 acc = some (.lst ys) ∧ Pv (i + 1) (ys ++ [y]) τ1 (upd H6 acc (.lst (ys ++ [y]))) else Pv (i + 1) ys τ1 H5)
    (hd : ∀ ys τ H, Pv xs.length ys τ H → Q (.ref acc) H) :
    LcG (Itl K a) n js g ct te acc σ H1 Q := by
  refine ⟨fun i m ys τ H => m = xs.length - i ∧ i ≤ xs.length ∧ Pv i ys τ H, ⟨xs.length, by simp, Nat.zero_le _, h0⟩, ?_⟩
  rintro i m ys τ H ⟨rfl, hi, p⟩
  obtain ⟨q, q2, q3⟩ := hl i ys τ H hi p
  refine ⟨q2, q3, ?_⟩
  by_cases hlt : i < xs.length
  · refine .inr ⟨⟨xs, xs[i], q, by simp [hlt]⟩, Pv (i + 1), fun ys' τ' H' p' => ⟨xs.length - (i + 1), by omega, rfl, hlt, p'⟩, fun x H' y => ?_⟩
    obtain ⟨e, y⟩ := y
    subst e
    exact hs i x ys τ _ (y xs q) p
  · have e : i = xs.length := by omega
    subst e
    exact .inl ⟨⟨xs, q, Nat.le_refl _⟩, hd ys τ H p⟩
theorem lc_tup {K : PySem.W.Frag} {a acc : Addr} {xs : List V} {n : Nat} {js : List Nat} {g : TG} {ct : TT} {te : TE} {σ : St} {H1 : Hp} {Q : VK} (Pv : Nat → List V → St → Hp → Prop) (h0 : Pv 0 [] (blk n js σ) (upd H1 acc (.lst [])))
    (hl : ∀ i ys τ H, i ≤ xs.length → Pv i ys τ H → SqT K H a xs ∧ H acc = some (.lst ys) ∧ ys.length < sizeLine)
    (hs : ∀ i x ys τ H, xs[i]? = some x → Pv i ys τ H → g x τ H fun τ1 H4 => ct τ1 H4 fun b H5 => if b = true then te τ1 H5 fun y H6 => H6 acc = some (.lst ys) ∧ Pv (i + 1) (ys ++ [y]) τ1 (upd H6 acc (.lst (ys ++ [y]))) else Pv (i + 1) ys τ1 H5)
    (hd : ∀ ys τ H, Pv xs.length ys τ H → Q (.ref acc) H) :
    LcG (Itt K a) n js g ct te acc σ H1 Q := by
  refine ⟨fun i m ys τ H => m = xs.length - i ∧ i ≤ xs.length ∧ Pv i ys τ H, ⟨xs.length, by simp, Nat.zero_le _, h0⟩, ?_⟩
  rintro i m ys τ H ⟨rfl, hi, p⟩
  obtain ⟨q, q2, q3⟩ := hl i ys τ H hi p
  refine ⟨q2, q3, ?_⟩
  by_cases hlt : i < xs.length
  · refine .inr ⟨⟨xs, xs[i], q, by simp [hlt]⟩, Pv (i + 1), fun ys' τ' H' p' => ⟨xs.length - (i + 1), by omega, rfl, hlt, p'⟩, fun x H' y => ?_⟩
    obtain ⟨e, y⟩ := y
    subst e
    exact hs i x ys τ _ (y xs q) p
  · have e : i = xs.length := by omega
    subst e
    exact .inl ⟨⟨xs, q, Nat.le_refl _⟩, hd ys τ H p⟩
theorem lc_range {lo : Int} {k : Nat} {acc : Addr} {n : Nat} {js : List Nat} {g : TG} {ct : TT} {te : TE} {σ : St} {H1 : Hp} {Q : VK} (Pv : Nat → List V → St → Hp → Prop) (h0 : Pv 0 [] (blk n js σ) (upd H1 acc (.lst [])))
    (hl : ∀ i ys τ H, i ≤ k → Pv i ys τ H → H acc = some (.lst ys) ∧ ys.length < sizeLine)
    (hs : ∀ i ys τ H, i < k → Pv i ys τ H → g (.int (lo + i)) τ H fun τ1 H4 => ct τ1 H4 fun b H5 => if b = true then te τ1 H5 fun y H6 => H6 acc = some (.lst ys) ∧ Pv (i + 1) (ys ++ [y]) τ1 (upd H6 acc (.lst (ys ++ [y]))) else Pv (i + 1) ys τ1 H5)
    (hd : ∀ ys τ H, Pv k ys τ H → Q (.ref acc) H) :
    LcG (Itr lo k) n js g ct te acc σ H1 Q := by
  refine ⟨fun i m ys τ H => m = k - i ∧ i ≤ k ∧ Pv i ys τ H, ⟨k, by simp, Nat.zero_le _, h0⟩, ?_⟩
  rintro i m ys τ H ⟨rfl, hi, p⟩
  obtain ⟨q2, q3⟩ := hl i ys τ H hi p
  refine ⟨q2, q3, ?_⟩
  by_cases hlt : i < k
  · refine .inr ⟨hlt, Pv (i + 1), fun ys' τ' H' p' => ⟨k - (i + 1), by omega, rfl, hlt, p'⟩, fun x H' y => ?_⟩
    obtain ⟨e, y⟩ := y
    subst e y
    exact hs i ys τ _ hlt p
  · have e : i = k := by omega
    subst e
    exact .inl ⟨Nat.le_refl _, hd ys τ H p⟩
section
variable {X : Cx}
/-- max of a list of ints -/
def rMaxL (K : PySem.W.Frag) : List V → Hp → VK → Prop := fun vs H Q => ∃ (p : Addr) (ns : List Int), vs = [.ref p] ∧ SqL K H p (ns.map V.int) ∧ 0 < ns.length ∧ ∀ M, M ∈ ns → (∀ a, a ∈ ns → a ≤ M) → Q (.int M) H
end

/-- a statement, cut behind it by a word of one's own -/
def tCut (t : TS) : TS := fun D σ H => ∃ M : St → Hp → Prop, t { D with nx := M } σ H ∧ ∀ σ' H', M σ' H' → D.nx σ' H'
theorem ps_cut {X : Cx} {st : Stmt} {t : TS} (h : PS X st t) : PS X st (tCut t) := by
  intro pins s σ H D I q
  obtain ⟨M, q, hM⟩ := q
  refine thn (h pins s σ H _ I q) fun f s' hs => ?_
  cases f with
  | next =>
    obtain ⟨σ', H', I', m⟩ := hs
    exact ⟨σ', H', I', hM _ _ m⟩
  | brk => exact hs
  | cont => exact hs
  | ret u => exact hs
theorem smallM {m : Int} (h0 : 0 < m) (h1 : m < 1073741824) : m.natAbs.log2 < 9000 := by
  have h : m.natAbs.log2 < 30 := (Nat.log2_lt (by omega)).mpr (by omega)
  omega
theorem pg_tupK {X : Cx} {K : PySem.W.Frag} {es : List Expr} {k : Nat} {t : TGs} {n : Nat} {pos : Pos} (hK : X.K = K) (h : PG X (.Tuple es k pos) (gTup X.K n t)) : PG X (.Tuple es k pos) (gTup K n t) := by
  subst hK
  exact h
end L2

set_option Elab.async false
set_option linter.all false
set_option maxRecDepth 100000
namespace L2
open PySem PySem.Spec PyProof.Rows
/-! ### data within the heap: == and != at any depth -/
mutual
inductive RdD (H : Hp) : V → PyData → Prop
  | non : RdD H .non .none
  | bl (b : Bool) : RdD H (.bl b) (.bool b)
  | int (i : Int) : RdD H (.int i) (.int i)
  | str (x : Str) : RdD H (.str x) (.str x)
  | lst {p : Addr} {xs : List V} {ds : List PyData} : H p = some (.lst xs) → RdDs H xs ds → RdD H (.ref p) (.list ds)
  | tup {p : Addr} {xs : List V} {ds : List PyData} : H p = some (.tup xs) → RdDs H xs ds → RdD H (.ref p) (.tuple ds)
inductive RdDs (H : Hp) : List V → List PyData → Prop
  | nil : RdDs H [] []
  | cons {x : V} {xs : List V} {d : PyData} {ds : List PyData} : RdD H x d → RdDs H xs ds → RdDs H (x :: xs) (d :: ds)
end
section
variable {P : Program} {w : World} {H : Hp} {h : Heap}
mutual
theorem RdD.reads (ok : HOk P w H h) : ∀ {x : V} {d : PyData} {v : Value}, RdD H x d → RelV x v → ∃ as, Reads h v d as
  | _, _, v, .non, r => by
    cases (show v = Value.none from r)
    exact ⟨_, .none⟩
  | _, _, v, .bl b, r => by
    cases (show v = Value.bool b from r)
    exact ⟨_, .bool b⟩
  | _, _, v, .int i, r => by
    obtain ⟨t, e⟩ := (show ∃ t, v = Value.int i t from r)
    cases e
    exact ⟨_, .int i t⟩
  | _, _, v, .str x, r => by
    obtain ⟨t, e⟩ := (show ∃ t, v = Value.str x t from r)
    cases e
    exact ⟨_, .str x t⟩
  | _, _, v, .lst (p := p) (xs := xs) e ds, r => by
    cases (show v = Value.ref p from r)
    obtain ⟨_, its, n, rv, h1⟩ := (show ObjOk P w H h p (.lst xs) from ok p _ e)
    obtain ⟨as, ra⟩ := RdDs.reads ok ds rv
    exact ⟨_, .list (vs := its.toArray) h1 rfl rfl (by simpa using ra)⟩
  | _, _, v, .tup (p := p) (xs := xs) e ds, r => by
    cases (show v = Value.ref p from r)
    obtain ⟨_, its, rv, o, h1, h2, n, h3⟩ := (show ObjOk P w H h p (.tup xs) from ok p _ e)
    obtain ⟨as, ra⟩ := RdDs.reads ok ds rv
    exact ⟨_, .tuple (vs := its.toArray) h1 h2 h3.1 (by simpa using ra)⟩
theorem RdDs.reads (ok : HOk P w H h) : ∀ {xs : List V} {ds : List PyData} {vs : List Value}, RdDs H xs ds → Vals xs vs → ∃ as, ReadsAll h vs ds as
  | _, _, _, .nil, .nil => ⟨_, .nil⟩
  | _, _, _, .cons r rs, .cons q qs => by
    obtain ⟨as, ra⟩ := RdD.reads ok r q
    obtain ⟨bs, rb⟩ := RdDs.reads ok rs qs
    exact ⟨_, .cons ra rb⟩
end
end
section
variable {X : Cx}
def rEqD (neg : Bool) : R2 := fun x y H Q => ∃ dx dy, RdD H x dx ∧ RdD H y dy ∧ dx.canLay0 = true ∧ dy.canLay0 = true ∧ min dx.depth dy.depth ≤ 60 ∧ Q (.bl (if neg then !PyData.eqv dx dy else PyData.eqv dx dy)) H
theorem op_eqD (hu : X.A.units + 64 < cLine) : OpR X (compareOp .Eq) (rEqD false) := by
  intro pins s σ H x y v u Q I rx ry h
  obtain ⟨dx, dy, r1, r2, c1, c2, hd, q⟩ := h
  obtain ⟨as, ra⟩ := r1.reads I.hok rx
  obtain ⟨bs, rb⟩ := r2.reads I.hok ry
  exact PySem.SeqAt.compareEq_reads ra rb c1 c2 (by omega) ⟨.bl _, H, I, rfl, q⟩
end
end L2

set_option Elab.async false
set_option linter.all false
set_option maxRecDepth 100000
namespace L2
open PySem PySem.Spec PyProof.Rows
/-! ### texts -/
def one (c : Nat) : Str := ⟨#[c]⟩
theorem glued_toList (rest : List Str) : ∀ a : Array Nat, (rest.foldl (fun acc p => acc ++ Str.empty.cps ++ p.cps) a).toList = a.toList ++ rest.flatMap (·.cps.toList) := by
  induction rest with
  | nil => intro a; simp
  | cons x r ih =>
    intro a
    rw [List.foldl_cons, ih]
    have e : Str.empty.cps = #[] := rfl
    simp [e]
theorem join_ones (cs : List Nat) : (Txt.join Str.empty (cs.map one)).cps.toList = cs := by
  cases cs with
  | nil => rfl
  | cons c r =>
    show (List.foldl (fun acc p => acc ++ Str.empty.cps ++ p.cps) (#[c] : Array Nat) (r.map one)).toList = c :: r
    rw [glued_toList]
    simp only [List.flatMap_map, one]
    simp
theorem empty_is : Str.ofString "" = Str.empty := by decide +kernel
theorem strsAre_of {ys : List Str} : ∀ {us : List Value}, Vals (ys.map V.str) us → StrsAre us ys := by
  induction ys with
  | nil => intro us r; cases r; exact .nil
  | cons y ys ih =>
    intro us r
    cases r with
    | cons h t =>
      obtain ⟨k, e⟩ := h
      subst e
      exact .cons y k (ih t)
section
variable {X : Cx}
/-- sep.join(list of texts) -/
def rJoin (K : PySem.W.Frag) : V → List V → Hp → VK → Prop := fun x vs H Q => ∃ (z : Str) (p : Addr) (ys : List Str), x = .str z ∧ vs = [.ref p] ∧ SqL K H p (ys.map V.str) ∧ (ys.map (·.length)).sum + ys.length * z.length ≤ 16777216 ∧ Q (.str (Txt.join z ys)) H
theorem mt_join : MtR X "str.join" (rJoin X.K) := by
  intro pins s σ H x vs v us Q I rx rv h
  obtain ⟨z, p, ys, rfl, rfl, hS, hz, q⟩ := h
  obtain ⟨t, e⟩ := (show ∃ t, v = Value.str z t from rx)
  subst e
  obtain ⟨u, rfl, ru⟩ := vals1 rv
  cases (show u = Value.ref p from ru)
  obtain ⟨its, rv', pl, _⟩ := I.list hS
  exact join_list pl.isList (by simpa using strsAre_of rv') hz fun t' k => ⟨.str _, H, I.tok k, ⟨_, rfl⟩, q⟩
end
/-! ### plans as data -/
inductive Deed where
  | put (x : Str) (n : Int)
  | copy (x y : Str)
  | add (x : Str) (n : Int)
  | read (x : Str)
  | tell (x : Str)
inductive End where
  | stop
  | go (p : Nat)
  | tst (less : Bool) (x : Str) (n : Int) (p q : Nat)
abbrev Piece := List Deed × End
def wT (b : Bool) : Str := if b = true then "less" else "is"
def dDeed : Deed → PyData
  | .put x n => .tuple [.str "put", .str x, .int n]
  | .copy x y => .tuple [.str "copy", .str x, .str y]
  | .add x n => .tuple [.str "add", .str x, .int n]
  | .read x => .tuple [.str "read", .str x]
  | .tell x => .tuple [.str "tell", .str x]
def dEnd : End → PyData
  | .stop => .tuple [.str "stop"]
  | .go p => .tuple [.str "go", .int p]
  | .tst b x n p q => .tuple [.str (wT b), .str x, .int n, .int p, .int q]
def dPiece (p : Piece) : PyData := .tuple [.tuple (p.1.map dDeed), dEnd p.2]
def dPlan (ps : List Piece) : PyData := .tuple (ps.map dPiece)
structure NameOk (x : Str) : Prop where
  lo : 1 ≤ x.length
  hi : x.length ≤ 8
  az : ∀ c ∈ x.cps.toList, 97 ≤ c ∧ c ≤ 122
def NumOk (n : Int) : Prop := -(10 ^ 40) < n ∧ n < 10 ^ 40
def DeedOk (xs : List Str) : Deed → Prop
  | .put x n => x ∈ xs ∧ NumOk n
  | .copy x y => x ∈ xs ∧ y ∈ xs
  | .add x n => x ∈ xs ∧ NumOk n
  | .read x => x ∈ xs
  | .tell x => x ∈ xs
def EndOk (xs : List Str) (count : Nat) : End → Prop
  | .stop => True
  | .go p => p < count
  | .tst _ x n p q => x ∈ xs ∧ NumOk n ∧ p < count ∧ q < count
structure PlanOk (xs : List Str) (most : Nat) (ps : List Piece) : Prop where
  deeds : ∀ p ∈ ps, p.1.length ≤ most ∧ ∀ d ∈ p.1, DeedOk xs d
  ends : ∀ p ∈ ps, EndOk xs ps.length p.2
/-! ### data of tuples alone stays -/
mutual
def noList : PyData → Bool
  | .list _ => false
  | .tuple xs => noLists xs
  | _ => true
def noLists : List PyData → Bool
  | [] => true
  | x :: xs => noList x && noLists xs
end
mutual
theorem RdD.tups {H H' : Hp} (k : ∀ p xs, H p = some (.tup xs) → H' p = some (.tup xs)) : ∀ {x : V} {d : PyData}, RdD H x d → noList d = true → RdD H' x d
  | _, _, .non, _ => .non
  | _, _, .bl b, _ => .bl b
  | _, _, .int i, _ => .int i
  | _, _, .str x, _ => .str x
  | _, _, .lst _ _, h => nomatch h
  | _, _, .tup e ds, h => .tup (k _ _ e) (RdDs.tups k ds h)
theorem RdDs.tups {H H' : Hp} (k : ∀ p xs, H p = some (.tup xs) → H' p = some (.tup xs)) : ∀ {xs : List V} {ds : List PyData}, RdDs H xs ds → noLists ds = true → RdDs H' xs ds
  | _, _, .nil, _ => .nil
  | _, _, .cons r rs, h => by
    simp only [noLists, Bool.and_eq_true] at h
    exact .cons (RdD.tups k r h.1) (RdDs.tups k rs h.2)
end
theorem RdD.fix {b : Addr} {H H' : Hp} {x : V} {d : PyData} (r : RdD H x d) (hb : Bag H b) (f : Fix b H H') (n : noList d = true) : RdD H' x d :=
  r.tups (fun p xs e => f p _ e (hb.ne_tup e)) n
theorem RdD.same {H H' : Hp} {x : V} {d : PyData} (r : RdD H x d) (f : Same H H') (n : noList d = true) : RdD H' x d :=
  r.tups (fun p xs e => f p _ e) n
theorem RdDs.fix {b : Addr} {H H' : Hp} {xs : List V} {ds : List PyData} (r : RdDs H xs ds) (hb : Bag H b) (f : Fix b H H') (n : noLists ds = true) : RdDs H' xs ds :=
  r.tups (fun p xs e => f p _ e (hb.ne_tup e)) n
theorem RdDs.same {H H' : Hp} {xs : List V} {ds : List PyData} (r : RdDs H xs ds) (f : Same H H') (n : noLists ds = true) : RdDs H' xs ds :=
  r.tups (fun p xs e => f p _ e) n
/-- a list is rewritten -/
theorem RdDs.put {H : Hp} {xs ys : List V} {ds : List PyData} {l : Addr} {o : HO} (r : RdDs H xs ds) (hl : H l = some (.lst ys)) (n : noLists ds = true) : RdDs (upd H l o) xs ds :=
  r.tups (fun p zs e => by rw [upd_ne (ne_of e hl (by intro z; cases z))]; exact e) n
theorem RdDs.app {H : Hp} {x : V} {d : PyData} : ∀ {xs : List V} {ds : List PyData}, RdDs H xs ds → RdD H x d → RdDs H (xs ++ [x]) (ds ++ [d])
  | _, _, .nil, q => .cons q .nil
  | _, _, .cons r rs, q => .cons r (RdDs.app rs q)
theorem RdDs.len {H : Hp} : ∀ {xs : List V} {ds : List PyData}, RdDs H xs ds → xs.length = ds.length
  | _, _, .nil => rfl
  | _, _, .cons _ rs => by simp [RdDs.len rs]
theorem noList_deed (d : Deed) : noList (dDeed d) = true := by cases d <;> rfl
theorem noList_end (e : End) : noList (dEnd e) = true := by cases e <;> rfl
theorem noLists_deeds : ∀ ds : List Deed, noLists (ds.map dDeed) = true
  | [] => rfl
  | d :: ds => by show (noList (dDeed d) && noLists (ds.map dDeed)) = true; rw [noList_deed, noLists_deeds ds]; rfl
theorem noList_piece (p : Piece) : noList (dPiece p) = true := by
  show (noLists (p.1.map dDeed) && (noList (dEnd p.2) && true)) = true
  rw [noLists_deeds, noList_end]; rfl
theorem noLists_pieces : ∀ ps : List Piece, noLists (ps.map dPiece) = true
  | [] => rfl
  | p :: ps => by show (noList (dPiece p) && noLists (ps.map dPiece)) = true; rw [noList_piece, noLists_pieces ps]; rfl
theorem noList_plan (ps : List Piece) : noList (dPlan ps) = true := noLists_pieces ps
/-! ### the promises of the laws' own drawing -/
/-- the list of names at l -/
structure NamesAt (H : Hp) (b l : Addr) (xs : List Str) : Prop where
  at_ : H l = some (.lst (xs.map V.str))
  ne : l ≠ b
  some_ : xs ≠ []
  few : xs.length ≤ 1000
  ok : ∀ x ∈ xs, NameOk x
theorem NamesAt.fix {H H' : Hp} {b l : Addr} {xs : List Str} (h : NamesAt H b l xs) (f : Fix b H H') : NamesAt H' b l xs := ⟨f l _ h.at_ h.ne, h.ne, h.some_, h.few, h.ok⟩
theorem NamesAt.pos {H : Hp} {b l : Addr} {xs : List Str} (h : NamesAt H b l xs) : 0 < ((xs.map V.str).length : Int) ∧ ((xs.map V.str).length : Int) < 1073741824 := by
  have h1 := h.some_
  have h2 := h.few
  have h3 : 0 < xs.length := by cases xs with | nil => exact absurd rfl h1 | cons _ _ => simp
  rw [List.length_map]
  omega
def spNames : Sp := fun vs H Q _ => ∃ (b : Addr), vs = [.ref b] ∧ Bag H b ∧ ∀ l xs H', NamesAt H' b l xs → xs.length ≤ 4 → Bag H' b → Fix b H H' → Q (.ref l) H'
def spNumber : Sp := fun vs H Q _ => ∃ (b : Addr), vs = [.ref b] ∧ Bag H b ∧ ∀ n H', NumOk n → Bag H' b → Fix b H H' → Q (.int n) H'
def spDeed : Sp := fun vs H Q _ => ∃ (b l : Addr) (xs : List Str), vs = [.ref b, .ref l] ∧ Bag H b ∧ NamesAt H b l xs ∧ ∀ v d H', RdD H' v (dDeed d) → DeedOk xs d → Bag H' b → Fix b H H' → Q v H'
def spEndP : Sp := fun vs H Q _ => ∃ (b l : Addr) (xs : List Str) (c : Nat), vs = [.ref b, .ref l, .int c] ∧ Bag H b ∧ NamesAt H b l xs ∧ 0 < c ∧ c < 1073741824 ∧ ∀ v e H', RdD H' v (dEnd e) → EndOk xs c e → Bag H' b → Fix b H H' → Q v H'
def spPlan : Sp := fun vs H Q _ => ∃ (b : Addr) (c m : Nat), vs = [.ref b, .int c, .int m] ∧ Bag H b ∧ 0 < c ∧ c ≤ 1000 ∧ m ≤ 1000 ∧ ∀ v xs ps H', RdD H' v (dPlan ps) → ps.length = c → PlanOk xs m ps → ((∀ x ∈ xs, NameOk x) ∧ xs.length ≤ 4) → Bag H' b → Fix b H H' → Q v H'
def spCount : Sp := fun vs H Q _ => ∃ (b : Addr) (m : Nat), vs = [.ref b, .int m] ∧ Bag H b ∧ 0 < m ∧ m ≤ 1000 ∧ ∀ (n : Nat) H', 0 < n → n ≤ max m 4 → Bag H' b → Fix b H H' → Q (.int n) H'
def abc : Str := "abcdefghijklmnopqrstuvwxyz"
theorem abc_list : abc.cps.toList = (List.range 26).map (· + 97) := by decide +kernel
theorem abc_len : abc.length ≤ sizeLine := by decide +kernel
theorem abc_at {r : Int} (h0 : 0 ≤ r) (h1 : r < 26) : ∃ c, atI abc.cps.toList r = some c ∧ 97 ≤ c ∧ c ≤ 122 := by
  have hl : abc.cps.toList.length = 26 := by rw [abc_list]; simp
  obtain ⟨c, hc, hm⟩ := at_in (xs := abc.cps.toList) h0 (by rw [hl]; exact h1)
  refine ⟨c, hc, ?_⟩
  rw [abc_list] at hm
  obtain ⟨k, hk, rfl⟩ := List.mem_map.mp hm
  have := List.mem_range.mp hk
  omega
/-- an item of a list of names -/
theorem names_at {xs : List Str} {r : Int} (h0 : 0 ≤ r) (h1 : r < ((xs.map V.str).length : Int)) : ∃ x, atI (xs.map V.str) r = some (V.str x) ∧ x ∈ xs := by
  obtain ⟨v, hv, hm⟩ := at_in h0 h1
  obtain ⟨x, hx, rfl⟩ := List.mem_map.mp hm
  exact ⟨x, hv, hx⟩
theorem yes_ {σ : L2.St} {H : Hp} {Q : Bool → Hp → Prop} (h : Q true H) : tYes σ H Q := h
theorem gname_ {i : Nat} {v : V} {σ : L2.St} {H : Hp} {Q : L2.St → Hp → Prop} (h : Q (σ.set i (some v)) H) : gName i v σ H Q := h
end L2

set_option Elab.async false
set_option linter.all false
set_option maxRecDepth 100000
namespace L2
open PySem PySem.Spec PyProof.Rows
/-! ### data, taken apart -/
theorem RdD.tup_inv {H : Hp} {v : V} {ds : List PyData} (h : RdD H v (.tuple ds)) : ∃ p xs, v = .ref p ∧ H p = some (.tup xs) ∧ RdDs H xs ds := by
  cases h with
  | tup e r => exact ⟨_, _, rfl, e, r⟩
theorem RdD.int_inv {H : Hp} {v : V} {i : Int} (h : RdD H v (.int i)) : v = .int i := by cases h; rfl
theorem RdD.str_inv {H : Hp} {v : V} {x : Str} (h : RdD H v (.str x)) : v = .str x := by cases h; rfl
theorem RdDs.cons_inv {H : Hp} {xs : List V} {d : PyData} {ds : List PyData} (h : RdDs H xs (d :: ds)) : ∃ x r, xs = x :: r ∧ RdD H x d ∧ RdDs H r ds := by
  cases h with
  | cons a b => exact ⟨_, _, rfl, a, b⟩
theorem RdDs.nil_inv {H : Hp} {xs : List V} (h : RdDs H xs []) : xs = [] := by cases h; rfl
theorem RdDs.get {H : Hp} : ∀ {xs : List V} {ds : List PyData} {i : Nat} {d : PyData}, RdDs H xs ds → ds[i]? = some d → ∃ x, xs[i]? = some x ∧ RdD H x d
  | _, _, _, _, .nil, e => by simp at e
  | _, _, 0, _, .cons r _, e => by
    simp at e
    subst e
    exact ⟨_, rfl, r⟩
  | _, _, i + 1, d, .cons _ t, e => by
    obtain ⟨x, h1, h2⟩ := RdDs.get (i := i) (d := d) t (by simpa using e)
    exact ⟨x, by simpa using h1, h2⟩
theorem RdDs.ints {H : Hp} : ∀ {xs : List V} {ns : List Int}, RdDs H xs (ns.map PyData.int) → xs = ns.map V.int
  | _, [], h => h.nil_inv
  | _, n :: ns, h => by
    obtain ⟨x, r, rfl, h1, h2⟩ := h.cons_inv
    rw [h1.int_inv, RdDs.ints h2]
    rfl
/-- the tuple of a deed, of an end -/
def vDeed : Deed → List V
  | .put x n => [.str "put", .str x, .int n]
  | .copy x y => [.str "copy", .str x, .str y]
  | .add x n => [.str "add", .str x, .int n]
  | .read x => [.str "read", .str x]
  | .tell x => [.str "tell", .str x]
def vEnd : End → List V
  | .stop => [.str "stop"]
  | .go p => [.str "go", .int p]
  | .tst b x n p q => [.str (wT b), .str x, .int n, .int p, .int q]
theorem rd_end {H : Hp} {v : V} {e : End} (h : RdD H v (dEnd e)) : ∃ p, v = .ref p ∧ H p = some (.tup (vEnd e)) := by
  cases e with
  | stop =>
    obtain ⟨p, xs, rfl, e, r⟩ := RdD.tup_inv h
    obtain ⟨x1, r1, rfl, h1, r⟩ := r.cons_inv
    have z := r.nil_inv
    subst z
    exact ⟨p, rfl, by rw [e, h1.str_inv]; rfl⟩
  | go q =>
    obtain ⟨p, xs, rfl, e, r⟩ := RdD.tup_inv h
    obtain ⟨x1, r1, rfl, h1, r⟩ := r.cons_inv
    obtain ⟨x2, r2, rfl, h2, r⟩ := r.cons_inv
    have z := r.nil_inv
    subst z
    exact ⟨p, rfl, by rw [e, h1.str_inv, h2.int_inv]; rfl⟩
  | tst b x n q q' =>
    obtain ⟨p, xs, rfl, e, r⟩ := RdD.tup_inv h
    obtain ⟨x1, r1, rfl, h1, r⟩ := r.cons_inv
    obtain ⟨x2, r2, rfl, h2, r⟩ := r.cons_inv
    obtain ⟨x3, r3, rfl, h3, r⟩ := r.cons_inv
    obtain ⟨x4, r4, rfl, h4, r⟩ := r.cons_inv
    obtain ⟨x5, r5, rfl, h5, r⟩ := r.cons_inv
    have z := r.nil_inv
    subst z
    exact ⟨p, rfl, by rw [e, h1.str_inv, h2.str_inv, h3.int_inv, h4.int_inv, h5.int_inv]; rfl⟩
/-- a piece of a plan -/
theorem rd_piece {H : Hp} {v : V} {ps : List Piece} {i : Nat} {ds : List Deed} {e : End} (h : RdD H v (dPlan ps)) (hi : ps[i]? = some (ds, e)) :
    ∃ p xs pc da ea vs, v = .ref p ∧ H p = some (.tup xs) ∧ xs.length = ps.length ∧ xs[i]? = some (.ref pc) ∧ H pc = some (.tup [.ref da, .ref ea]) ∧ H da = some (.tup vs) ∧ RdDs H vs (ds.map dDeed) ∧ H ea = some (.tup (vEnd e)) := by
  obtain ⟨p, xs, rfl, e1, r⟩ := RdD.tup_inv h
  have hl := r.len
  obtain ⟨x, hx, rx⟩ := r.get (i := i) (d := dPiece (ds, e)) (by rw [List.getElem?_map, hi]; rfl)
  obtain ⟨pc, ys, rfl, e2, r2⟩ := RdD.tup_inv rx
  obtain ⟨y1, t1, rfl, q1, r2⟩ := r2.cons_inv
  obtain ⟨y2, t2, rfl, q2, r2⟩ := r2.cons_inv
  have z := r2.nil_inv
  subst z
  obtain ⟨da, vs, rfl, e3, r3⟩ := RdD.tup_inv q1
  obtain ⟨ea, rfl, e4⟩ := rd_end q2
  exact ⟨p, xs, pc, da, ea, vs, rfl, e1, by rw [hl, List.length_map], hx, e2, e3, r3, e4⟩
theorem small1000' {n : Nat} (h : n ≤ 1000000) : n < sizeLine := Nat.lt_of_le_of_lt h (by decide)
theorem iteFb {c : Bool} {A B : Prop} (hc : c = false) (h : B) : if c = true then A else B := by subst hc; exact iteF h
theorem iteTb {c : Bool} {A B : Prop} (hc : c = true) (h : A) : if c = true then A else B := by subst hc; exact iteT h
/-- d.get(k, x), its value told apart -/
def tDGet2v (td ty tx : TE) : TE := fun σ H Q => td σ H fun x H1 => ∃ a, x = .ref a ∧ IsD H1 a ∧ ty σ H1 fun y H2 => tx σ H2 fun z H3 => ∃ o v, DGet H3 a y o ∧ o.getD z = v ∧ Q v H3
/-! ### the run -/
structure RS where
  piece : Nat
  place : Nat
  w : Str → Int
  taken : Nat
  told : List Int
  word : Str
  been : List Nat
def setW (w : Str → Int) (x : Str) (n : Int) : Str → Int := fun y => if y = x then n else w y
def stepD (nums : List Int) (S : RS) : Deed → RS
  | .put x n => { S with w := setW S.w x n, place := S.place + 1 }
  | .copy x y => { S with w := setW S.w x (S.w y), place := S.place + 1 }
  | .add x n => { S with w := setW S.w x (S.w x + n), place := S.place + 1 }
  | .tell x => { S with told := S.told ++ [S.w x], place := S.place + 1 }
  | .read x => match nums[S.taken]? with
    | none => { S with word := "dry" }
    | some n => { S with w := setW S.w x n, taken := S.taken + 1, place := S.place + 1 }
def ansT (b : Bool) (u n : Int) : Bool := if b = true then decide (u < n) else decide (u = n)
def stepE (S : RS) : End → RS
  | .stop => { S with word := "stop" }
  | .go p => { S with piece := p, place := 0, been := S.been ++ [p] }
  | .tst b x n p q => { S with piece := if ansT b (S.w x) n = true then p else q, place := 0, been := S.been ++ [if ansT b (S.w x) n = true then p else q] }
def stepF (ps : List Piece) (nums : List Int) (S : RS) : RS := match ps[S.piece]? with
  | none => S
  | some (ds, e) => match ds[S.place]? with
    | some d => stepD nums S d
    | none => stepE S e
/-- the dict of worths -/
def DW (kvs : List (Key × V)) (w : Str → Int) : Prop := ∀ x : Str, (valV kvs (Sum.inr x : Key)).getD (.int 0) = .int (w x)
theorem DW.put {kvs : List (Key × V)} {w : Str → Int} (h : DW kvs w) (x : Str) (n : Int) : DW (putK kvs (Sum.inr x) (.int n)) (setW w x n) := fun y => by
  rw [valV_put]
  unfold setW
  by_cases e : y = x
  · subst e
    rw [if_pos rfl, if_pos rfl]; rfl
  · rw [if_neg (fun z => e (Sum.inr.inj z)), if_neg e]
    exact h y
/-- the walker's state as it lies: the tuple at st, the dict at d, what was told at tl, where it was at bl -/
structure StAt (H : Hp) (st d tl bl : Addr) (S : RS) (m : Nat) : Prop where
  at_ : H st = some (.tup [.int S.piece, .int S.place, .ref d, .int S.taken, .ref tl, .str S.word, .ref bl])
  dict : ∃ kvs, H d = some (.dK kvs) ∧ DW kvs S.w ∧ kvs.length ≤ m
  told : H tl = some (.lst (S.told.map V.int))
  been : H bl = some (.lst (S.been.map fun k => V.int (k : Nat)))
  ne : tl ≠ bl
  few : S.told.length ≤ m ∧ S.been.length ≤ m + 1
/-- but the three -/
def But (d tl bl : Addr) (H H' : Hp) : Prop := ∀ c o, H c = some o → c ≠ d → c ≠ tl → c ≠ bl → H' c = some o
theorem But.refl (d tl bl : Addr) (H : Hp) : But d tl bl H H := fun _ _ h _ _ _ => h
theorem But.trans {d tl bl : Addr} {H H1 H2 : Hp} (a : But d tl bl H H1) (b : But d tl bl H1 H2) : But d tl bl H H2 := fun c o h n1 n2 n3 => b c o (a c o h n1 n2 n3) n1 n2 n3
theorem But.new {d tl bl p : Addr} {H : Hp} {o : HO} (hp : H p = none) : But d tl bl H (upd H p o) := fun c u h _ _ _ => by rw [upd_ne (ne_of_none h hp)]; exact h
/-- all P lie in the plan -/
def InPlan (ps : List Piece) : Prop := ∀ p ∈ ps, match p.2 with
  | .stop => True
  | .go q => q < ps.length
  | .tst _ _ _ q r => q < ps.length ∧ r < ps.length
theorem PlanOk.inPlan {xs : List Str} {m : Nat} {ps : List Piece} (h : PlanOk xs m ps) : InPlan ps := fun p hp => by
  have := h.ends p hp
  cases e : p.2 with
  | stop => exact True.intro
  | go q => rw [e] at this; exact this
  | tst b x n q r => rw [e] at this; exact ⟨this.2.2.1, this.2.2.2⟩
def spStep : Sp := fun vs H Q _ => ∃ (pv : V) (st np d tl bl : Addr) (ps : List Piece) (nums : List Int) (S : RS) (m : Nat), vs = [pv, .ref st, .ref np] ∧ RdD H pv (dPlan ps) ∧ InPlan ps ∧ H np = some (.tup (nums.map V.int)) ∧ StAt H st d tl bl S m ∧
  S.piece < ps.length ∧ S.taken ≤ nums.length ∧ m ≤ 10000 ∧ ∀ st' H', StAt H' st' d tl bl (stepF ps nums S) (m + 1) → But d tl bl H H' → Q (.ref st') H'
theorem stepF_in {ps : List Piece} {nums : List Int} {S : RS} (hp : InPlan ps) (h : S.piece < ps.length) (ht : S.taken ≤ nums.length) : (stepF ps nums S).piece < ps.length ∧ (stepF ps nums S).taken ≤ nums.length := by
  unfold stepF
  have hx : ps[S.piece]? = some ps[S.piece] := by simp [h]
  rw [hx]
  generalize hpc : ps[S.piece] = pc
  obtain ⟨ds, e⟩ := pc
  have hm : (ds, e) ∈ ps := by rw [← hpc]; exact List.getElem_mem h
  dsimp only
  cases hd : ds[S.place]? with
  | some dd =>
    cases dd with
    | read x =>
      dsimp only [stepD]
      cases hn : nums[S.taken]? with
      | none => exact ⟨h, ht⟩
      | some n =>
        have : S.taken < nums.length := (List.getElem?_eq_some_iff.mp hn).1
        exact ⟨h, this⟩
    | _ => exact ⟨h, ht⟩
  | none =>
    have hq := hp (ds, e) hm
    cases e with
    | stop => exact ⟨h, ht⟩
    | go q => exact ⟨hq, ht⟩
    | tst b x n q r =>
      dsimp only [stepE]
      refine ⟨?_, ht⟩
      split
      · exact hq.1
      · exact hq.2
end L2

set_option Elab.async false
set_option linter.all false
set_option maxRecDepth 100000
namespace L2
open PySem PySem.Spec PyProof.Rows
/-! ### parts of stretches -/
def vO : Option Int → V
  | none => .non
  | some i => .int i
def LEo : Option Int → Option Int → Prop
  | some a, some b => a ≤ b
  | _, _ => True
def liesB (n : Int) (lo hi : Option Int) : Bool := (match lo with | none => true | some a => decide (a ≤ n)) && (match hi with | none => true | some a => decide (n ≤ a))
abbrev Rs := Option (Option Int × Option Int)
/-- the parts -/
def topF (hi : Option Int) (n : Int) : Int := match hi with | none => n - 1 | some h => if n - 1 < h then n - 1 else h
def botF (lo : Option Int) (n : Int) : Int := match lo with | none => n | some l => if n > l then n else l
def belowF (lo hi : Option Int) (n : Int) : Rs :=
  match lo with | none => some (none, some (topF hi n)) | some l => if topF hi n < l then none else some (some l, some (topF hi n))
def fromF (lo hi : Option Int) (n : Int) : Rs :=
  match hi with | none => some (some (botF lo n), none) | some h => if h < botF lo n then none else some (some (botF lo n), some h)
def atF (lo hi : Option Int) (n : Int) : Rs := if liesB n lo hi = true then some (some n, some n) else none
def besF (lo hi : Option Int) (n : Int) : Rs := if lo = some n then (if hi = some n then none else some (some (n + 1), hi)) else if hi = some n then some (lo, some (n - 1)) else some (lo, hi)
def lessF (lo hi : Option Int) (n : Int) (side : Bool) : Rs := if side = true then belowF lo hi n else fromF lo hi n
def isF (lo hi : Option Int) (n : Int) (side : Bool) : Rs := if side = true then atF lo hi n else besF lo hi n
def partF (w : Str) (lo hi : Option Int) (n : Int) (side : Bool) : Rs := if w = "less" then lessF lo hi n side else isF lo hi n side
def ansF (rt rf : Rs) : Str := match rf with
  | none => "yes"
  | some _ => match rt with
    | none => "no"
    | some _ => "open"
/-- a part as it lies -/
def RV (H : Hp) (v : V) (r : Rs) : Prop := match r with
  | none => v = .non
  | some (a, b) => ∃ p, v = .ref p ∧ H p = some (.tup [vO a, vO b])
theorem RV.same {H H' : Hp} {v : V} {r : Rs} (h : RV H v r) (s : Same H H') : RV H' v r := by
  cases r with
  | none => exact h
  | some ab =>
    obtain ⟨p, e, h⟩ := h
    exact ⟨p, e, s _ _ h⟩
theorem RV.put {H : Hp} {v : V} {r : Rs} {l : Addr} {xs : List V} {o : HO} (h : RV H v r) (hl : H l = some (.lst xs)) : RV (upd H l o) v r := by
  cases r with
  | none => exact h
  | some ab =>
    obtain ⟨p, e, h⟩ := h
    exact ⟨p, e, by rw [upd_ne (ne_of h hl (by intro z; cases z))]; exact h⟩
def dO : Option Int → PyData
  | none => .none
  | some i => .int i
def dR : Rs → PyData
  | none => .none
  | some (a, b) => .tuple [dO a, dO b]
theorem rd_o {H : Hp} (o : Option Int) : RdD H (vO o) (dO o) := by
  cases o with
  | none => exact .non
  | some i => exact .int i
theorem RV.rd {H : Hp} {v : V} {r : Rs} (h : RV H v r) : RdD H v (dR r) := by
  cases r with
  | none => cases (show v = V.non from h); exact .non
  | some ab =>
    obtain ⟨a, b⟩ := ab
    obtain ⟨p, rfl, h⟩ := h
    exact .tup h (.cons (rd_o a) (.cons (rd_o b) .nil))
def spLies : Sp := fun vs H Q _ => ∃ (n : Int) (q : Addr) (lo hi : Option Int), vs = [.int n, .ref q] ∧ H q = some (.tup [vO lo, vO hi]) ∧ Q (.bl (liesB n lo hi)) H
def spP (F : Option Int → Option Int → Int → Rs) : Sp := fun vs H Q _ => ∃ (p : Addr) (n : Int) (lo hi : Option Int), vs = [.ref p, .int n] ∧ H p = some (.tup [vO lo, vO hi]) ∧ ∀ v H', RV H' v (F lo hi n) → Same H H' → Q v H'
def spL (F : Option Int → Option Int → Int → Bool → Rs) : Sp := fun vs H Q _ => ∃ (p : Addr) (n : Int) (side : Bool) (lo hi : Option Int), vs = [.ref p, .int n, .bl side] ∧ H p = some (.tup [vO lo, vO hi]) ∧ ∀ v H', RV H' v (F lo hi n side) → Same H H' → Q v H'
def spPart : Sp := fun vs H Q _ => ∃ (p : Addr) (w : Str) (n : Int) (side : Bool) (lo hi : Option Int), vs = [.ref p, .str w, .int n, .bl side] ∧ H p = some (.tup [vO lo, vO hi]) ∧ ∀ v H', RV H' v (partF w lo hi n side) → Same H H' → Q v H'
def spAns : Sp := fun vs H Q _ => ∃ (p : Addr) (w : Str) (n : Int) (lo hi : Option Int), vs = [.ref p, .str w, .int n] ∧ H p = some (.tup [vO lo, vO hi]) ∧ ∀ H', Same H H' → Q (.str (ansF (partF w lo hi n true) (partF w lo hi n false))) H'
theorem Same.put {H H' : Hp} {l : Addr} {o : HO} (s : Same H H') (n : H l = none) : Same H (upd H' l o) := fun c u e => by rw [upd_ne (ne_of_none e n)]; exact s c u e
end L2

set_option Elab.async false
set_option linter.all false
set_option maxRecDepth 100000
namespace L2
open PySem PySem.Spec PyProof.Rows
/-! ### own classes -/
structure MOwn (P : Program) (w : World) (K : PySem.W.Frag) (mg : Str → Option Value) (base : Heap) (C : Addr) (m : Str) (k : Nat) (ps : List Str) (sp : Sp) : Prop where
  cl : Cls K C
  ex : ∃ f fd, FnOk P w K mg base CX0 k f fd ps sp ∧ Meth K C m f ∧ Binds K fd ps []
structure COwn (P : Program) (w : World) (K : PySem.W.Frag) (mg : Str → Option Value) (base : Heap) (C : Addr) (x : Str) (k : Nat) (ps : List Str) (sp : Sp) : Prop where
  ex : ∃ f fd, FnOk P w K mg base CX0 k f fd ps sp ∧ Mk K C f ∧ mg x = some (.ref C) ∧ Binds K fd ps []
section
variable {X : Cx} {C : Addr} {m x : Str} {k : Nat} {ps : List Str} {sp : Sp} {oe e : Expr} {es : List Expr} {ta : TE} {t : TA} {p pos apos : Pos}
theorem pe_mown {pl : Sem Bool} (o : MOwn X.prog X.w X.K X.mg X.base C m k ps sp) (he : PE X oe ta) (hr : Room k X.A) (ha : PA X (e :: es) t)
    (hst : starEach (e :: es) X.env = (false, eval e X.env) :: starEach es X.env := by rfl) (hpl : (backTo pos (starEach es X.env)).any (·.1) = false := by rfl)
    (ht : eval (.Call (.Attribute oe m apos) (e :: es) [] pos) X.env = (do
      let ov ← eval oe X.env
      standAt apos.atName
      let (f, first) ← holding [ov] (getMethod ov m pl)
      callWith pos f first (backTo pos (starEach (e :: es) X.env)) (backToKw pos (keywordEach [] X.env))) := by rfl) :
    PE X (.Call (.Attribute oe m apos) (e :: es) [] pos) (tMeth C m sp [] E0 ta t) := by
  obtain ⟨f, fd, F, hm, hb⟩ := o.ex
  exact pe_meth he o.cl hm F hr hb .nil pass0 ha hst hpl ht
theorem pe_cown (o : COwn X.prog X.w X.K X.mg X.base C x k ps sp) (hr : Room (k + 1) X.A) (hg : Gl X x) (ha : PA X (e :: es) t)
    (hdb : (x == ("__debug__" : Str)) = false := by decide) (he : starEach (e :: es) X.env = (false, eval e X.env) :: starEach es X.env := by rfl)
    (hpl : (backTo pos (starEach es X.env)).any (·.1) = false := by rfl) : PE X (.Call (.Name x p) (e :: es) [] pos) (tMake C sp [] E0 t) := by
  obtain ⟨f, fd, F, M, hm, hb⟩ := o.ex
  exact pe_make M F hr hg hm hb .nil pass0 ha hdb he hpl
end
/-! ### the fields of a walker's stand -/
theorem lk_h {k : Str} {v : V} {l : List (Str × V)} : ((k, v) :: l).lookup k = some v := by simp [List.lookup]
theorem lk_t {k k' : Str} {v : V} {l : List (Str × V)} {o : Option V} (h : ¬ k = k') (e : l.lookup k = o) : ((k', v) :: l).lookup k = o := by
  rw [List.lookup_cons, beq_false_of_ne h]; exact e
theorem pf_t {k k' : Str} {v u : V} {l l' : List (Str × V)} (h : ¬ k' = k) (e : putF k v l = l') : putF k v ((k', u) :: l) = (k', u) :: l' := by simp only [putF, if_neg h, e]
theorem pf_n {k : Str} {v : V} : putF k v [] = [(k, v)] := rfl
def sfl (a0 a1 a2 a3 a4 a5 a6 a7 : V) : List (Str × V) := [("pieces", a0), ("passed", a1), ("place", a2), ("worths", a3), ("numbers", a4), ("taken", a5), ("spoken", a6), ("over", a7)]
section
variable {a0 a1 a2 a3 a4 a5 a6 a7 z : V}
end
structure StT (K : PySem.W.Frag) (C : Addr) : Prop where
  cl : Cls K C
  pieces : NoAttr K C "pieces"
  passed : NoAttr K C "passed"
  place : NoAttr K C "place"
  worths : NoAttr K C "worths"
  numbers : NoAttr K C "numbers"
  taken : NoAttr K C "taken"
  spoken : NoAttr K C "spoken"
  over : NoAttr K C "over"
/-- the stand as it lies: the list of pieces passed at pl, the worths at d, the numbers at nl, what was spoken at sl -/
structure SAt (C : Addr) (H : Hp) (p pl d nl sl : Addr) (plv : V) (nums : List Int) (S : RS) (m : Nat) : Prop where
  ob : ∃ dx, H p = some (.ins C dx (sfl plv (.ref pl) (.int S.place) (.ref d) (.ref nl) (.int S.taken) (.ref sl) (.bl (decide (S.word = "stop")))))
  passed : H pl = some (.lst (S.been.map fun k => V.int (k : Nat)))
  last : ∃ xs, S.been = xs ++ [S.piece]
  dict : ∃ kvs, H d = some (.dK kvs) ∧ DW kvs S.w ∧ kvs.length ≤ m
  nums : H nl = some (.lst (nums.map V.int))
  spoken : H sl = some (.lst (S.told.map V.int))
  ne : pl ≠ nl ∧ pl ≠ sl ∧ nl ≠ sl
  few : S.told.length ≤ m ∧ S.been.length ≤ m + 1
/-- but the four -/
def But4 (p pl d sl : Addr) (H H' : Hp) : Prop := ∀ c o, H c = some o → c ≠ p → c ≠ pl → c ≠ d → c ≠ sl → H' c = some o
theorem But4.refl (p pl d sl : Addr) (H : Hp) : But4 p pl d sl H H := fun _ _ h _ _ _ _ => h
theorem But4.trans {p pl d sl : Addr} {H H1 H2 : Hp} (a : But4 p pl d sl H H1) (b : But4 p pl d sl H1 H2) : But4 p pl d sl H H2 := fun c o h n1 n2 n3 n4 => b c o (a c o h n1 n2 n3 n4) n1 n2 n3 n4
theorem But4.of_same {p pl d sl : Addr} {H H' : Hp} (h : Same H H') : But4 p pl d sl H H' := fun c o e _ _ _ _ => h c o e
section
variable {C : Addr} {H H' : Hp} {p pl d nl sl : Addr} {plv : V} {nums : List Int} {S : RS} {m : Nat}
theorem SAt.nes (A : SAt C H p pl d nl sl plv nums S m) : p ≠ pl ∧ p ≠ d ∧ p ≠ nl ∧ p ≠ sl ∧ d ≠ pl ∧ d ≠ nl ∧ d ≠ sl := by
  obtain ⟨dx, h1⟩ := A.ob
  obtain ⟨kvs, h2, _⟩ := A.dict
  refine ⟨ne_of h1 A.passed ?_, ne_of h1 h2 ?_, ne_of h1 A.nums ?_, ne_of h1 A.spoken ?_, ne_of h2 A.passed ?_, ne_of h2 A.nums ?_, ne_of h2 A.spoken ?_⟩ <;> (intro z; cases z)
theorem SAt.tup {c : Addr} {xs : List V} (A : SAt C H p pl d nl sl plv nums S m) (b : But4 p pl d sl H H') (h : H c = some (.tup xs)) : H' c = some (.tup xs) := by
  obtain ⟨dx, h1⟩ := A.ob
  obtain ⟨kvs, h2, _⟩ := A.dict
  refine b c _ h (ne_of h h1 ?_) (ne_of h A.passed ?_) (ne_of h h2 ?_) (ne_of h A.spoken ?_) <;> (intro z; cases z)
theorem SAt.rd {x : V} {dd : PyData} (A : SAt C H p pl d nl sl plv nums S m) (b : But4 p pl d sl H H') (r : RdD H x dd) (n : noList dd = true) : RdD H' x dd :=
  r.tups (fun c xs e => A.tup b e) n
theorem SAt.same (A : SAt C H p pl d nl sl plv nums S m) (s : Same H H') : SAt C H' p pl d nl sl plv nums S m := by
  obtain ⟨⟨dx, h1⟩, h2, h3, ⟨kvs, h4, h5⟩, h6, h7, h8, h9⟩ := A
  exact ⟨⟨dx, s _ _ h1⟩, s _ _ h2, h3, ⟨kvs, s _ _ h4, h5⟩, s _ _ h6, s _ _ h7, h8, h9⟩
/-- the object is written, its fields alone -/
theorem SAt.obj {dx : Addr} {S' : RS} {fs : List (Str × V)} (A : SAt C H p pl d nl sl plv nums S m)
    (e : fs = sfl plv (.ref pl) (.int S'.place) (.ref d) (.ref nl) (.int S'.taken) (.ref sl) (.bl (decide (S'.word = "stop"))))
    (e1 : S'.been = S.been) (e2 : S'.piece = S.piece) (e3 : S'.w = S.w) (e4 : S'.told = S.told) : SAt C (upd H p (.ins C dx fs)) p pl d nl sl plv nums S' m := by
  obtain ⟨n1, n2, n3, n4, _⟩ := A.nes
  obtain ⟨kvs, h4, h5⟩ := A.dict
  subst e
  refine ⟨⟨dx, upd_same⟩, by rw [upd_ne n1.symm, e1]; exact A.passed, by rw [e1, e2]; exact A.last, ⟨kvs, by rw [upd_ne n2.symm]; exact h4, by rw [e3]; exact h5⟩, by rw [upd_ne n3.symm]; exact A.nums, by rw [upd_ne n4.symm, e4]; exact A.spoken, A.ne, by rw [e1, e4]; exact A.few⟩
/-- the worths are written -/
theorem SAt.worths {kvs : List (Key × V)} {x : Str} {n : Int} (A : SAt C H p pl d nl sl plv nums S m) (h : H d = some (.dK kvs)) (dw : DW kvs S.w) (hl : kvs.length ≤ m) :
    SAt C (upd H d (.dK (putK kvs (Sum.inr x) (.int n)))) p pl d nl sl plv nums { S with w := setW S.w x n } (m + 1) := by
  obtain ⟨n1, n2, n3, n4, n5, n6, n7⟩ := A.nes
  obtain ⟨dx, h1⟩ := A.ob
  refine ⟨⟨dx, by rw [upd_ne n2]; exact h1⟩, by rw [upd_ne n5.symm]; exact A.passed, A.last, ⟨_, upd_same, dw.put x n, ?_⟩, by rw [upd_ne n6.symm]; exact A.nums, by rw [upd_ne n7.symm]; exact A.spoken, A.ne, ⟨Nat.le_succ_of_le A.few.1, Nat.le_succ_of_le A.few.2⟩⟩
  have := length_putK kvs (Sum.inr x : Key) (V.int n)
  omega
/-- more is spoken -/
theorem SAt.speak {n : Int} (A : SAt C H p pl d nl sl plv nums S m) : SAt C (upd H sl (.lst (S.told.map V.int ++ [.int n]))) p pl d nl sl plv nums { S with told := S.told ++ [n] } (m + 1) := by
  obtain ⟨n1, n2, n3, n4, n5, n6, n7⟩ := A.nes
  obtain ⟨dx, h1⟩ := A.ob
  obtain ⟨kvs, h4, h5, h6⟩ := A.dict
  refine ⟨⟨dx, by rw [upd_ne n4]; exact h1⟩, by rw [upd_ne A.ne.2.1]; exact A.passed, A.last, ⟨kvs, by rw [upd_ne n7]; exact h4, h5, Nat.le_succ_of_le h6⟩, by rw [upd_ne A.ne.2.2]; exact A.nums, by rw [upd_same, List.map_append]; rfl, A.ne, ?_, Nat.le_succ_of_le A.few.2⟩
  have := A.few.1
  show (S.told ++ [n]).length ≤ m + 1
  rw [List.length_append]
  exact Nat.succ_le_succ this
/-- a piece more -/
theorem SAt.come {q : Nat} (A : SAt C H p pl d nl sl plv nums S m) : SAt C (upd H pl (.lst ((S.been.map fun k => V.int (k : Nat)) ++ [.int q]))) p pl d nl sl plv nums { S with piece := q, been := S.been ++ [q] } (m + 1) := by
  obtain ⟨n1, n2, n3, n4, n5, n6, n7⟩ := A.nes
  obtain ⟨dx, h1⟩ := A.ob
  obtain ⟨kvs, h4, h5, h6⟩ := A.dict
  refine ⟨⟨dx, by rw [upd_ne n1]; exact h1⟩, by rw [upd_same, List.map_append]; rfl, ⟨S.been, rfl⟩, ⟨kvs, by rw [upd_ne n5]; exact h4, h5, Nat.le_succ_of_le h6⟩, by rw [upd_ne A.ne.1.symm]; exact A.nums, by rw [upd_ne A.ne.2.1.symm]; exact A.spoken, A.ne, Nat.le_succ_of_le A.few.1, ?_⟩
  have := A.few.2
  show (S.been ++ [q]).length ≤ m + 1 + 1
  rw [List.length_append]
  exact Nat.succ_le_succ this
theorem SAt.mono {m' : Nat} (A : SAt C H p pl d nl sl plv nums S m) (h : m ≤ m') : SAt C H p pl d nl sl plv nums S m' := by
  obtain ⟨h1, h2, h3, ⟨kvs, h4, h5, h6⟩, h7, h8, h9, h10⟩ := A
  exact ⟨h1, h2, h3, ⟨kvs, h4, h5, Nat.le_trans h6 h⟩, h7, h8, h9, Nat.le_trans h10.1 h, Nat.le_trans h10.2 (Nat.succ_le_succ h)⟩
end
/-! ### the promises -/
def spWorth (C : Addr) : Sp := fun vs H Q _ => ∃ (p pl d nl sl : Addr) (plv : V) (nums : List Int) (S : RS) (m : Nat) (x : Str), vs = [.ref p, .str x] ∧ SAt C H p pl d nl sl plv nums S m ∧ Q (.int (S.w x)) H
/-- what comes next: a deed or the end -/
inductive Nx (H : Hp) (ds : List Deed) (e : End) (i : Nat) (v : V) : Prop
  | deed (dd : Deed) (q : Addr) (h : ds[i]? = some dd) (hv : v = .ref q) (hq : H q = some (.tup (vDeed dd)))
  | end_ (q : Addr) (h : ds[i]? = none) (hv : v = .ref q) (hq : H q = some (.tup (vEnd e)))
def spComing (C : Addr) : Sp := fun vs H Q _ => ∃ (p pl d nl sl : Addr) (plv : V) (nums : List Int) (S : RS) (m : Nat) (ps : List Piece) (ds : List Deed) (e : End), vs = [.ref p] ∧ SAt C H p pl d nl sl plv nums S m ∧ RdD H plv (dPlan ps) ∧ ps[S.piece]? = some (ds, e) ∧
  ∀ v, Nx H ds e S.place v → Q v H
def isRead : Deed → Bool
  | .read _ => true
  | _ => false
def lackB (ps : List Piece) (nums : List Int) (S : RS) : Bool := match ps[S.piece]? with
  | none => false
  | some (ds, _) => match ds[S.place]? with
    | some dd => isRead dd && decide (S.taken = nums.length)
    | none => false
def spLacks (C : Addr) : Sp := fun vs H Q _ => ∃ (p pl d nl sl : Addr) (plv : V) (nums : List Int) (S : RS) (m : Nat) (ps : List Piece), vs = [.ref p] ∧ SAt C H p pl d nl sl plv nums S m ∧ RdD H plv (dPlan ps) ∧ S.piece < ps.length ∧ Q (.bl (lackB ps nums S)) H
def spTakeN (C : Addr) : Sp := fun vs H Q _ => ∃ (p pl d nl sl : Addr) (plv : V) (nums : List Int) (S : RS) (m : Nat) (n : Int), vs = [.ref p] ∧ SAt C H p pl d nl sl plv nums S m ∧ nums[S.taken]? = some n ∧
  ∀ H', SAt C H' p pl d nl sl plv nums { S with taken := S.taken + 1 } m → But4 p pl d sl H H' → Q (.int n) H'
def spDoDeed (C : Addr) : Sp := fun vs H Q _ => ∃ (p pl d nl sl q : Addr) (plv : V) (nums : List Int) (S : RS) (m : Nat) (dd : Deed), vs = [.ref p, .ref q] ∧ SAt C H p pl d nl sl plv nums S m ∧ H q = some (.tup (vDeed dd)) ∧ (isRead dd = true → S.taken < nums.length) ∧ m ≤ 10000 ∧
  ∀ H', SAt C H' p pl d nl sl plv nums (stepD nums S dd) (m + 1) → But4 p pl d sl H H' → Q .non H'
def spCome (C : Addr) : Sp := fun vs H Q _ => ∃ (p pl d nl sl : Addr) (plv : V) (nums : List Int) (S : RS) (m n : Nat), vs = [.ref p, .int n] ∧ SAt C H p pl d nl sl plv nums S m ∧ m ≤ 10000 ∧
  ∀ H', SAt C H' p pl d nl sl plv nums { S with piece := n, place := 0, been := S.been ++ [n] } (m + 1) → But4 p pl d sl H H' → Q .non H'
def spDoEnd (C : Addr) : Sp := fun vs H Q _ => ∃ (p pl d nl sl q : Addr) (plv : V) (nums : List Int) (S : RS) (m : Nat) (e : End), vs = [.ref p, .ref q] ∧ SAt C H p pl d nl sl plv nums S m ∧ H q = some (.tup (vEnd e)) ∧ m ≤ 10000 ∧
  ∀ H', SAt C H' p pl d nl sl plv nums (stepE S e) (m + 1) → But4 p pl d sl H H' → Q .non H'
def spDoStep (C : Addr) : Sp := fun vs H Q _ => ∃ (p pl d nl sl : Addr) (plv : V) (nums : List Int) (S : RS) (m : Nat) (ps : List Piece), vs = [.ref p] ∧ SAt C H p pl d nl sl plv nums S m ∧ RdD H plv (dPlan ps) ∧ S.piece < ps.length ∧ S.taken ≤ nums.length ∧ lackB ps nums S = false ∧ m ≤ 10000 ∧
  ∀ H', SAt C H' p pl d nl sl plv nums (stepF ps nums S) (m + 1) → But4 p pl d sl H H' → Q .non H'
/-! ### many steps -/
def onF (ps : List Piece) (nums : List Int) (S : RS) : RS := if S.word = "on" then stepF ps nums S else S
def walkF (ps : List Piece) (nums : List Int) : Nat → RS → RS
  | 0, S => S
  | n + 1, S => onF ps nums (walkF ps nums n S)
theorem walk_on {ps : List Piece} {nums : List Int} {n : Nat} {S : RS} (h : (walkF ps nums n S).word = "on") : walkF ps nums (n + 1) S = stepF ps nums (walkF ps nums n S) := by
  show onF ps nums _ = _
  unfold onF
  rw [if_pos h]
theorem walk_off {ps : List Piece} {nums : List Int} {n : Nat} {S : RS} (h : ¬ (walkF ps nums n S).word = "on") : ∀ k, walkF ps nums (n + k) S = walkF ps nums n S
  | 0 => rfl
  | k + 1 => by
    show onF ps nums (walkF ps nums (n + k) S) = _
    rw [walk_off h k]
    unfold onF
    rw [if_neg h]
/-- a number lacks: the step tells dry and does nothing else -/
theorem lack_dry {ps : List Piece} {nums : List Int} {S : RS} (h : lackB ps nums S = true) : stepF ps nums S = { S with word := "dry" } := by
  unfold lackB at h
  unfold stepF
  cases hx : ps[S.piece]? with
  | none => rw [hx] at h; cases h
  | some pc =>
    obtain ⟨ds, e⟩ := pc
    rw [hx] at h
    dsimp only at h ⊢
    cases hd : ds[S.place]? with
    | none => rw [hd] at h; cases h
    | some dd =>
      rw [hd] at h
      dsimp only at h ⊢
      cases dd with
      | read x =>
        have ht : S.taken = nums.length := of_decide_eq_true (by simpa [isRead] using h)
        have hn : nums[S.taken]? = none := by rw [ht]; simp
        show stepD nums S (.read x) = _
        unfold stepD
        rw [hn]
      | _ => cases h
/-- no number lacks: the word is on, or a stop was done -/
theorem lack_not {ps : List Piece} {nums : List Int} {S : RS} (h : lackB ps nums S = false) (hw : S.word = "on") (ht : S.taken ≤ nums.length) : (stepF ps nums S).word = "on" ∨ (stepF ps nums S).word = "stop" := by
  unfold lackB at h
  unfold stepF
  cases hx : ps[S.piece]? with
  | none => exact .inl hw
  | some pc =>
    obtain ⟨ds, e⟩ := pc
    rw [hx] at h
    dsimp only at h ⊢
    cases hd : ds[S.place]? with
    | none =>
      dsimp only
      cases e with
      | stop => exact .inr rfl
      | go q => exact .inl hw
      | tst b x n q r => exact .inl hw
    | some dd =>
      rw [hd] at h
      dsimp only at h ⊢
      cases dd with
      | read x =>
        have hlt : S.taken < nums.length := by
          have : ¬ S.taken = nums.length := of_decide_eq_false (by simpa [isRead] using h)
          omega
        have hn : nums[S.taken]? = some nums[S.taken] := by simp [hlt]
        show (stepD nums S (.read x)).word = _ ∨ _
        unfold stepD
        rw [hn]
        exact .inl hw
      | put x n => exact .inl hw
      | copy x y => exact .inl hw
      | add x n => exact .inl hw
      | tell x => exact .inl hw
def start0 (pc : Nat) (w : Str → Int) : RS := ⟨pc, 0, w, 0, [], "on", [pc]⟩
/-! ### held: a stop was done, or a number lacks -/
def heldB (ps : List Piece) (nums : List Int) (S : RS) : Bool := decide (S.word = "stop") || lackB ps nums S
def goF (ps : List Piece) (nums : List Int) : Nat → RS → RS
  | 0, S => S
  | n + 1, S => if heldB ps nums (goF ps nums n S) = true then goF ps nums n S else stepF ps nums (goF ps nums n S)
def cntF (ps : List Piece) (nums : List Int) : Nat → RS → Nat
  | 0, _ => 0
  | n + 1, S => if heldB ps nums (goF ps nums n S) = true then cntF ps nums n S else cntF ps nums n S + 1
theorem go_not {ps : List Piece} {nums : List Int} {n : Nat} {S : RS} (h : heldB ps nums (goF ps nums n S) = false) : goF ps nums (n + 1) S = stepF ps nums (goF ps nums n S) ∧ cntF ps nums (n + 1) S = cntF ps nums n S + 1 := by
  have h' : ¬ heldB ps nums (goF ps nums n S) = true := by rw [h]; decide
  exact ⟨if_neg h', if_neg h'⟩
theorem go_held {ps : List Piece} {nums : List Int} {n : Nat} {S : RS} (h : heldB ps nums (goF ps nums n S) = true) : ∀ k, goF ps nums (n + k) S = goF ps nums n S ∧ cntF ps nums (n + k) S = cntF ps nums n S
  | 0 => ⟨rfl, rfl⟩
  | k + 1 => by
    have ih := go_held h k
    have h' : heldB ps nums (goF ps nums (n + k) S) = true := by rw [ih.1]; exact h
    exact ⟨(if_pos h').trans ih.1, (if_pos h').trans ih.2⟩
theorem cnt_le {ps : List Piece} {nums : List Int} {S : RS} : ∀ n, cntF ps nums n S ≤ n
  | 0 => Nat.le_refl _
  | n + 1 => by
    have ih := cnt_le (ps := ps) (nums := nums) (S := S) n
    unfold cntF
    split <;> omega
theorem go_in {ps : List Piece} {nums : List Int} {S : RS} (hp : InPlan ps) (h : S.piece < ps.length) (ht : S.taken ≤ nums.length) : ∀ n, (goF ps nums n S).piece < ps.length ∧ (goF ps nums n S).taken ≤ nums.length
  | 0 => ⟨h, ht⟩
  | n + 1 => by
    have ih := go_in hp h ht n
    unfold goF
    split
    · exact ih
    · exact stepF_in hp ih.1 ih.2
/-- the walk by words, and the one that is held -/
theorem go_walk {ps : List Piece} {nums : List Int} {S : RS} (hin : InPlan ps) (hpc : S.piece < ps.length) (ht : S.taken ≤ nums.length) (hw : S.word = "on") : ∀ n,
    ((walkF ps nums n S).word = "on" ∧ goF ps nums n S = walkF ps nums n S ∧ cntF ps nums n S = n) ∨ ((walkF ps nums n S).word = "stop" ∧ goF ps nums n S = walkF ps nums n S) ∨
    (walkF ps nums n S = { goF ps nums n S with word := "dry" } ∧ (goF ps nums n S).word = "on" ∧ lackB ps nums (goF ps nums n S) = true ∧ cntF ps nums n S < n)
  | 0 => .inl ⟨hw, rfl, rfl⟩
  | n + 1 => by
    have gi := go_in (ps := ps) (nums := nums) (S := S) hin hpc ht n
    rcases go_walk hin hpc ht hw n with ⟨h1, h2, h3⟩ | ⟨h1, h2⟩ | ⟨h1, h2, h3, h4⟩
    · have e1 := walk_on h1
      have ns : decide ((goF ps nums n S).word = "stop") = false := by rw [h2, h1]; decide +kernel
      cases hl : lackB ps nums (goF ps nums n S) with
      | true =>
        have hh : heldB ps nums (goF ps nums n S) = true := by unfold heldB; rw [ns, hl]; rfl
        have e2 := go_held hh 1
        refine .inr (.inr ⟨?_, ?_, ?_, ?_⟩)
        · rw [e1, e2.1, ← h2]
          exact lack_dry hl
        · rw [e2.1, h2]; exact h1
        · rw [e2.1]; exact hl
        · rw [e2.2, h3]; omega
      | false =>
        have hh : heldB ps nums (goF ps nums n S) = false := by unfold heldB; rw [ns, hl]; rfl
        have e2 := go_not hh
        have w2 := lack_not hl (by rw [h2]; exact h1) gi.2
        have e3 : goF ps nums (n + 1) S = walkF ps nums (n + 1) S := by rw [e2.1, e1, h2]
        rcases w2 with w2 | w2
        · exact .inl ⟨by rw [← e3, e2.1]; exact w2, e3, by rw [e2.2, h3]⟩
        · exact .inr (.inl ⟨by rw [← e3, e2.1]; exact w2, e3⟩)
    · have hh : heldB ps nums (goF ps nums n S) = true := by unfold heldB; rw [h2, h1]; rfl
      have e2 := go_held hh 1
      have e1 := walk_off (n := n) (ps := ps) (nums := nums) (S := S) (by rw [h1]; decide +kernel) 1
      exact .inr (.inl ⟨by rw [e1]; exact h1, by rw [e2.1, e1]; exact h2⟩)
    · have hh : heldB ps nums (goF ps nums n S) = true := by unfold heldB; rw [h3]; simp
      have e2 := go_held hh 1
      have e1 := walk_off (n := n) (ps := ps) (nums := nums) (S := S) (by rw [h1]; show ¬ (("dry" : Str) = "on"); decide +kernel) 1
      refine .inr (.inr ⟨?_, ?_, ?_, ?_⟩)
      · rw [e1, e2.1]; exact h1
      · rw [e2.1]; exact h2
      · rw [e2.1]; exact h3
      · rw [e2.2]; omega
def spHeld (C : Addr) : Sp := fun vs H Q _ => ∃ (p pl d nl sl : Addr) (plv : V) (nums : List Int) (S : RS) (m : Nat) (ps : List Piece), vs = [.ref p] ∧ SAt C H p pl d nl sl plv nums S m ∧ RdD H plv (dPlan ps) ∧ S.piece < ps.length ∧ Q (.bl (heldB ps nums S)) H
/-- the stand at the end of the steps, and how many were done -/
def spGoOn (C : Addr) : Sp := fun vs H Q _ => ∃ (p pl d nl sl : Addr) (plv : V) (nums : List Int) (S : RS) (m n : Nat) (ps : List Piece), vs = [.ref p, .int n] ∧ SAt C H p pl d nl sl plv nums S m ∧ RdD H plv (dPlan ps) ∧ InPlan ps ∧ S.piece < ps.length ∧ S.taken ≤ nums.length ∧ m + n ≤ 10000 ∧
  ∀ H', SAt C H' p pl d nl sl plv nums (goF ps nums n S) (m + cntF ps nums n S) → But4 p pl d sl H H' → Q (.int (cntF ps nums n S : Nat)) H'
def spInitS (C : Addr) : Sp := fun vs H Q _ => ∃ (p dx d0 np : Addr) (plv : V) (pc : Nat) (kvs : List (Key × V)) (w : Str → Int) (nums : List Int), vs = [.ref p, plv, .int pc, .ref d0, .ref np] ∧ H p = some (.ins C dx []) ∧ H d0 = some (.dK kvs) ∧ DW kvs w ∧ H np = some (.tup (nums.map V.int)) ∧
  ∀ (pl d nl sl : Addr) (H' : Hp), SAt C H' p pl d nl sl plv nums (start0 pc w) kvs.length → (∀ c o, H c = some o → c ≠ p → H' c = some o) → H pl = none → H d = none → H nl = none → H sl = none → Q .non H'
def dRun (S : RS) : PyData := .tuple [.str S.word, .tuple (S.told.map PyData.int)]
def spRunAt : Sp := fun vs H Q _ => ∃ (d0 np : Addr) (plv : V) (pc n : Nat) (kvs : List (Key × V)) (w : Str → Int) (nums : List Int) (ps : List Piece), vs = [plv, .int pc, .ref d0, .ref np, .int n] ∧ RdD H plv (dPlan ps) ∧ InPlan ps ∧ pc < ps.length ∧ H d0 = some (.dK kvs) ∧ DW kvs w ∧ H np = some (.tup (nums.map V.int)) ∧ kvs.length ≤ 1000 ∧ n ≤ 2000 ∧
  ∀ v H', RdD H' v (dRun (walkF ps nums n (start0 pc w))) → Same H H' → Q v H'
def spRun : Sp := fun vs H Q _ => ∃ (np : Addr) (plv : V) (n : Nat) (nums : List Int) (ps : List Piece), vs = [plv, .ref np, .int n] ∧ RdD H plv (dPlan ps) ∧ InPlan ps ∧ 0 < ps.length ∧ H np = some (.tup (nums.map V.int)) ∧ n ≤ 2000 ∧
  ∀ v H', RdD H' v (dRun (walkF ps nums n (start0 0 fun _ => 0))) → Same H H' → Q v H'
def dSeen (S : RS) : PyData := .tuple (S.been.map fun k => PyData.int (k : Nat))
def spSeen : Sp := fun vs H Q _ => ∃ (np : Addr) (plv : V) (n : Nat) (nums : List Int) (ps : List Piece), vs = [plv, .ref np, .int n] ∧ RdD H plv (dPlan ps) ∧ InPlan ps ∧ 0 < ps.length ∧ H np = some (.tup (nums.map V.int)) ∧ n ≤ 2000 ∧
  ∀ v H', RdD H' v (dSeen (walkF ps nums n (start0 0 fun _ => 0))) → Same H H' → Q v H'
end L2

set_option Elab.async false
set_option linter.all false
set_option maxRecDepth 100000
namespace HT
open PySem PyProof.Rows PySem.Spec
section
variable {prog : Program} {w : World} {A : Around} {E : Value → Shared → Prop} {s : Shared}
theorem getItem_tuple_all {t sl : Addr} {items : Array Value} {vl vu : Value} {lo hi : Option Int} {Q : Value → Shared → Prop} (ht : IsTup s.heap t items) (hs : s.heap.IsSliceOf sl vl vu .none) (pl : IsPart vl lo) (pu : IsPart vu hi)
    (hw : sIx items.size 0 lo = 0 ∧ sIx items.size items.size hi = items.size) (h : Q (.ref t) s) : wpAny (model prog w) A (getItem (.ref t) (.ref sl)) Q E s := by
  obtain ⟨os, hos, hcs, hds⟩ := id hs
  have hTs : s.TypeIs (.ref sl) "slice" := ⟨os, hos, hcs⟩
  unfold getItem
  try with_reducible refine wpAny_holding ?_
  first | refine wpAny_bind (wpAny_pure ?_) | skip
  refine wpAny_bind (wpAny_sequenceKey ht.typeIs (by decide) ?_)
  refine wpAny_bind (wpAny_callSpecial?_slot (name := Str.ofString "__getitem__") ht.typeIs PyProof.Rows.slot_tuple_getitem
    (wpAny_call_entry PyProof.Rows.slot_tuple_getitem ht.typeIs entry_tuple_getitem ?_ (args_tuple_getitem _ _)))
  show wpAny _ _ (Builtin.Tuple.tupleItemsOf (.ref t) >>= _) _ _ s
  refine wpAny_bind (tupleItemsOf_ ht ?_)
  refine wpAny_bind (wpAny_typeOf hTs ?_)
  rw [if_pos (by decide)]
  refine wpAny_bind (sliceApplied_gen hs pl pu ?_)
  have hno : ((((sIx items.size 0 lo : Nat) : Int) == 0 && (1 : Int) == 1 && (sIx items.size items.size hi - sIx items.size 0 lo) == items.size) = true) := by
    rw [hw.1, hw.2]
    simp
  show wpAny _ _ (if (((sIx items.size 0 lo : Nat) : Int) == 0 && (1 : Int) == 1 && (sIx items.size items.size hi - sIx items.size 0 lo) == items.size) = true then _ else _) _ _ s
  rw [if_pos hno]
  refine wpAny_bind ?_
  unfold Builtin.Tuple.tupleIsExact
  refine wpAny_bind (wpAny_typeOf ht.typeIs (wpAny_pure ?_))
  rw [if_pos (by decide)]
  refine wpAny_bind (wpAny_rule ?_)
  first
    | exact wpAny_pure ⟨_, rfl, wpAny_pure h⟩
    | exact wpAny_bind (wpAny_pure (wpAny_pure ⟨_, rfl, wpAny_pure h⟩))
    | exact wpAny_pure (wpAny_pure ⟨_, rfl, wpAny_pure h⟩)
end
end HT
namespace L2
open PySem PySem.Spec PyProof.Rows
section
variable {X : Cx}
/-- t[lo:hi] -/
def rSlTA (K : PySem.W.Frag) : V → Option Int → Option Int → Hp → VK → Prop := fun x lo hi H Q => ∃ a xs, x = .ref a ∧ SqT K H a xs ∧
  ((HT.sIx xs.length 0 lo = 0 ∧ HT.sIx xs.length xs.length hi = xs.length) → Q (.ref a) H) ∧ (¬ (HT.sIx xs.length 0 lo = 0 ∧ HT.sIx xs.length xs.length hi = xs.length) → ∀ p, H p = none → Q (.ref p) (upd H p (.tup (cutV xs lo hi))))
theorem sl_tupA : SlR X (rSlTA X.K) := by
  intro pins s σ H x v vl vu lo hi sl Q I rx hs pl pu h
  obtain ⟨a, xs, rfl, hx, q1, q2⟩ := h
  by_cases hw : HT.sIx xs.length 0 lo = 0 ∧ HT.sIx xs.length xs.length hi = xs.length
  · cases rx
    obtain ⟨its, r, ht, hz⟩ := I.tuple hx
    have hlen : its.toArray.size = xs.length := by rw [List.size_toArray]; exact r.length.symm
    refine ⟨"tuple", _, PyProof.Rows.slot_tuple_getitem.lookup, ht.typeIs, ?_⟩
    exact HT.getItem_tuple_all ht hs pl pu (by rw [hlen]; exact hw) ⟨.ref a, H, I, rfl, q1 hw⟩
  · exact sl_tup pins s σ H (.ref a) v vl vu lo hi sl Q I rx hs pl pu ⟨a, xs, rfl, hx, hw, q2 hw⟩
end
theorem StAt.mono {H : Hp} {st d tl bl : Addr} {S : RS} {m m' : Nat} (h : StAt H st d tl bl S m) (le : m ≤ m') : StAt H st d tl bl S m' := by
  obtain ⟨h1, ⟨kvs, h2, h3, h4⟩, h5, h6, h7, h8⟩ := h
  exact ⟨h1, ⟨kvs, h2, h3, Nat.le_trans h4 le⟩, h5, h6, h7, Nat.le_trans h8.1 le, Nat.le_trans h8.2 (Nat.succ_le_succ le)⟩
theorem noL_ints : ∀ ns : List Int, noLists (ns.map PyData.int) = true
  | [] => rfl
  | n :: ns => by
    show (true && noLists (ns.map PyData.int)) = true
    rw [noL_ints ns]; rfl
/-- the law's walk -/
def spWalkL : Sp := fun vs H Q _ => ∃ (np : Addr) (plv : V) (n : Nat) (nums : List Int) (ps : List Piece), vs = [plv, .ref np, .int n] ∧ RdD H plv (dPlan ps) ∧ InPlan ps ∧ 0 < ps.length ∧ H np = some (.tup (nums.map V.int)) ∧ n ≤ 2000 ∧
  ∀ st d tl bl H', StAt H' st d tl bl (walkF ps nums n (start0 0 fun _ => 0)) n → Same H H' → Q (.ref st) H'
def spInputL : Sp := fun vs H Q _ => ∃ (b : Addr), vs = [.ref b] ∧ Bag H b ∧ ∀ (t : Addr) (nums : List Int) (H' : Hp), H' t = some (.tup (nums.map V.int)) → Bag H' b → Fix b H H' → Q (.ref t) H'
def spRightL : Sp := fun vs H Q _ => ∃ (np : Addr) (plv : V) (n : Nat) (nums : List Int) (ps : List Piece), vs = [plv, .ref np, .int n] ∧ RdD H plv (dPlan ps) ∧ InPlan ps ∧ 0 < ps.length ∧ H np = some (.tup (nums.map V.int)) ∧ n ≤ 2000 ∧
  ∀ H', Same H H' → Q (.bl true) H'
end L2

set_option Elab.async false
set_option linter.all false
set_option maxRecDepth 100000
namespace L2
open PySem PySem.Spec PyProof.Rows
section
variable {prog : Program} {w : World} {A : Around} {E : Value → Shared → Prop} {s : Shared}
end
section
variable {X : Cx}
end
end L2
namespace L2
open PySem PySem.Spec PyProof.Rows
section
variable {X : Cx}
def rSameD (neg : Bool) : R2 := fun x y H Q => ∃ a b kvs, x = .ref a ∧ y = .ref b ∧ H a = some (.dK kvs) ∧ H b = some (.dK kvs) ∧ (∀ p ∈ kvs, ∃ i, p.2 = V.int i) ∧ Q (.bl (!neg)) H
end
theorem sub_len {α : Type} [DecidableEq α] : ∀ {l m : List α}, l.Nodup → (∀ x ∈ l, x ∈ m) → l.length ≤ m.length
  | [], _, _, _ => Nat.zero_le _
  | x :: l, m, nd, h => by
    rw [List.nodup_cons] at nd
    have hx := h x (List.mem_cons_self ..)
    have h1 := sub_len (l := l) (m := m.erase x) nd.2 fun y hy => (List.mem_erase_of_ne (fun z => nd.1 (by rw [← z]; exact hy))).mpr (h y (List.mem_cons_of_mem _ hy))
    rw [List.length_erase_of_mem hx] at h1
    have h2 : 0 < m.length := List.length_pos_of_mem hx
    show l.length + 1 ≤ m.length
    omega
end L2
namespace L2
open PySem PySem.Spec PyProof.Rows
/-- keys texts out of xs, each once -/
def KOk (xs : List Str) (kvs : List (Key × V)) : Prop := ∃ ks : List Str, kvs.map (·.1) = ks.map Sum.inr ∧ ks.Nodup ∧ ∀ x ∈ ks, x ∈ xs
theorem putK_keys {kvs : List (Key × V)} {k : Key} {v : V} : (putK kvs k v).map (·.1) = kvs.map (·.1) ∧ k ∈ kvs.map (·.1) ∨ (putK kvs k v).map (·.1) = kvs.map (·.1) ++ [k] ∧ ¬ k ∈ kvs.map (·.1) := by
  unfold putK
  by_cases h : (kvs.any fun kv => decide (kv.1 = k)) = true
  · rw [if_pos h]
    refine .inl ⟨?_, ?_⟩
    · rw [List.map_map]
      refine List.map_congr_left fun p _ => ?_
      show (if p.1 = k then (p.1, v) else p).1 = p.1
      split <;> rfl
    · obtain ⟨p, hp, he⟩ := List.any_eq_true.mp h
      exact List.mem_map.mpr ⟨p, hp, of_decide_eq_true he⟩
  · rw [if_neg h]
    refine .inr ⟨by rw [List.map_append]; rfl, fun hm => h ?_⟩
    obtain ⟨p, hp, he⟩ := List.mem_map.mp hm
    exact List.any_eq_true.mpr ⟨p, hp, decide_eq_true he⟩
theorem KOk.put {xs : List Str} {kvs : List (Key × V)} (h : KOk xs kvs) {x : Str} (hx : x ∈ xs) (v : V) : KOk xs (putK kvs (Sum.inr x) v) := by
  obtain ⟨ks, e, nd, hm⟩ := h
  rcases putK_keys (kvs := kvs) (k := (Sum.inr x : Key)) (v := v) with ⟨e1, _⟩ | ⟨e1, hn⟩
  · exact ⟨ks, by rw [e1]; exact e, nd, hm⟩
  · have hx' : ¬ x ∈ ks := fun z => hn (by rw [e]; exact List.mem_map.mpr ⟨x, z, rfl⟩)
    refine ⟨ks ++ [x], by rw [e1, e, List.map_append]; rfl, ?_, fun y hy => ?_⟩
    · rw [List.nodup_append]
      refine ⟨nd, by simp, fun a ha b hb => ?_⟩
      rw [List.mem_singleton] at hb
      subst hb
      exact fun z => hx' (by rw [← z]; exact ha)
    · rcases List.mem_append.mp hy with hy | hy
      · exact hm y hy
      · rw [List.mem_singleton.mp hy]; exact hx
theorem KOk.len {xs : List Str} {kvs : List (Key × V)} (h : KOk xs kvs) : kvs.length ≤ xs.length := by
  obtain ⟨ks, e, nd, hm⟩ := h
  have h1 := sub_len nd hm
  have h2 := congrArg List.length e
  simp only [List.length_map] at h2
  omega
def nameD : Deed → Str
  | .put x _ => x
  | .copy x _ => x
  | .add x _ => x
  | .read x => x
  | .tell x => x
theorem DeedOk.name {xs : List Str} {dd : Deed} (h : DeedOk xs dd) : nameD dd ∈ xs := by
  cases dd with
  | put x n => exact h.1
  | copy x y => exact h.1
  | add x n => exact h.1
  | read x => exact h
  | tell x => exact h
/-- worths off a dict of numbers -/
def wOf (kvs : List (Key × V)) : Str → Int := fun x => match valV kvs (Sum.inr x : Key) with
  | some (.int i) => i
  | _ => 0
def IntsIn (kvs : List (Key × V)) : Prop := ∀ p ∈ kvs, ∃ i, p.2 = V.int i
theorem valV_from {kvs : List (Key × V)} {k : Key} {v : V} (h : valV kvs k = some v) : ∃ p ∈ kvs, p.2 = v := by
  unfold valV at h
  cases e : kvs.find? fun kv => decide (kv.1 = k) with
  | none => rw [e] at h; cases h
  | some p => rw [e] at h; exact ⟨p, List.mem_of_find?_eq_some e, Option.some.inj h⟩
theorem IntsIn.dw {kvs : List (Key × V)} (h : IntsIn kvs) : DW kvs (wOf kvs) := fun x => by
  unfold wOf
  cases e : valV kvs (Sum.inr x : Key) with
  | none => rfl
  | some v =>
    obtain ⟨p, hp, rfl⟩ := valV_from e
    obtain ⟨i, hi⟩ := h p hp
    rw [hi]
    rfl
theorem IntsIn.put {kvs : List (Key × V)} (h : IntsIn kvs) (k : Key) (i : Int) : IntsIn (putK kvs k (.int i)) := fun p hp => by
  unfold putK at hp
  split at hp
  · obtain ⟨q, hq, rfl⟩ := List.mem_map.mp hp
    split
    · exact ⟨i, rfl⟩
    · exact h q hq
  · rcases List.mem_append.mp hp with hp | hp
    · exact h p hp
    · rw [List.mem_singleton.mp hp]; exact ⟨i, rfl⟩
def spNamesIn : Sp := fun vs H Q _ => ∃ (plv : V) (ps : List Piece) (xs : List Str) (m : Nat), vs = [plv] ∧ RdD H plv (dPlan ps) ∧ PlanOk xs m ps ∧ xs.length ≤ 4 ∧
  ∀ (l : Addr) (ss : List Str) (H' : Hp), H' l = some (.lst (ss.map V.str)) → ss.length ≤ 63 → Same H H' → Q (.ref l) H'
theorem Bag.put {H : Hp} {b p : Addr} {o : HO} (h : Bag H b) (n : b ≠ p) : Bag (upd H p o) b := by
  obtain ⟨x, y, e, z⟩ := h
  exact ⟨x, y, by rw [upd_ne n]; exact e, z⟩
end L2
namespace L2
open PySem PySem.Spec PyProof.Rows
end L2

set_option Elab.async false
set_option linter.all false
set_option maxRecDepth 100000
namespace L2
open PySem PySem.Spec PyProof.Rows
section
variable {X : Cx}
def rExtendT (K : PySem.W.Frag) : V → List V → Hp → VK → Prop := fun x vs H Q => ∃ l b xs zs, x = .ref l ∧ vs = [.ref b] ∧ H l = some (.lst xs) ∧ SqT K H b zs ∧ xs.length + zs.length ≤ sizeLine ∧ Q .non (upd H l (.lst (xs ++ zs)))
end
end L2

namespace L2
open PySem PySem.Spec PyProof.Rows
end L2

set_option Elab.async false
set_option linter.all false
set_option maxRecDepth 100000
namespace L2
open PySem PySem.Spec PyProof.Rows
/-! ### the fields of a walker -/
def wfl (a0 a1 : V) : List (Str × V) := [("stand", a0), ("done", a1)]
section
variable {a0 a1 z : V}
end
structure WkT (K : PySem.W.Frag) (D : Addr) : Prop where
  cl : Cls K D
  stand : NoAttr K D "stand"
  done : NoAttr K D "done"
/-- the walker as it lies: its object at wp, the stand at p -/
structure WAt (C D : Addr) (H : Hp) (wp p pl d nl sl : Addr) (plv : V) (nums : List Int) (S : RS) (m : Nat) : Prop where
  ob : ∃ dx, H wp = some (.ins D dx (wfl (.ref p) (.int m)))
  st : SAt C H p pl d nl sl plv nums S m
  ne : wp ≠ p
def But6 (wp p pl d nl sl : Addr) (H H' : Hp) : Prop := ∀ c o, H c = some o → c ≠ wp → c ≠ p → c ≠ pl → c ≠ d → c ≠ nl → c ≠ sl → H' c = some o
theorem But6.refl (wp p pl d nl sl : Addr) (H : Hp) : But6 wp p pl d nl sl H H := fun _ _ h _ _ _ _ _ _ => h
theorem But6.trans {wp p pl d nl sl : Addr} {H H1 H2 : Hp} (a : But6 wp p pl d nl sl H H1) (b : But6 wp p pl d nl sl H1 H2) : But6 wp p pl d nl sl H H2 := fun c o h n1 n2 n3 n4 n5 n6 => b c o (a c o h n1 n2 n3 n4 n5 n6) n1 n2 n3 n4 n5 n6
section
variable {C D : Addr} {H H' : Hp} {wp p pl d nl sl : Addr} {plv : V} {nums : List Int} {S : RS} {m : Nat}
/-- the six stay -/
theorem SAt.keep (A : SAt C H p pl d nl sl plv nums S m) (k : ∀ c o, H c = some o → (c = p ∨ c = pl ∨ c = d ∨ c = nl ∨ c = sl) → H' c = some o) : SAt C H' p pl d nl sl plv nums S m := by
  obtain ⟨⟨dx, h1⟩, h2, h3, ⟨kvs, h4, h5⟩, h6, h7, h8, h9⟩ := A
  exact ⟨⟨dx, k _ _ h1 (.inl rfl)⟩, k _ _ h2 (.inr (.inl rfl)), h3, ⟨kvs, k _ _ h4 (.inr (.inr (.inl rfl))), h5⟩, k _ _ h6 (.inr (.inr (.inr (.inl rfl)))), k _ _ h7 (.inr (.inr (.inr (.inr rfl)))), h8, h9⟩
theorem WAt.keep (A : WAt C D H wp p pl d nl sl plv nums S m) (k : ∀ c o, H c = some o → (c = wp ∨ c = p ∨ c = pl ∨ c = d ∨ c = nl ∨ c = sl) → H' c = some o) : WAt C D H' wp p pl d nl sl plv nums S m := by
  obtain ⟨⟨dx, h1⟩, h2, h3⟩ := A
  exact ⟨⟨dx, k _ _ h1 (.inl rfl)⟩, h2.keep fun c o h z => k c o h (.inr z), h3⟩
theorem WAt.same (A : WAt C D H wp p pl d nl sl plv nums S m) (s : Same H H') : WAt C D H' wp p pl d nl sl plv nums S m := A.keep fun c o h _ => s c o h
/-- wp is none of the stand's -/
theorem WAt.nes (A : WAt C D H wp p pl d nl sl plv nums S m) : wp ≠ pl ∧ wp ≠ d ∧ wp ≠ nl ∧ wp ≠ sl := by
  obtain ⟨dx, h1⟩ := A.ob
  obtain ⟨kvs, h2, _⟩ := A.st.dict
  refine ⟨ne_of h1 A.st.passed ?_, ne_of h1 h2 ?_, ne_of h1 A.st.nums ?_, ne_of h1 A.st.spoken ?_⟩ <;> (intro z; cases z)
/-- numbers are handed in -/
theorem SAt.handed {more : List Int} (A : SAt C H p pl d nl sl plv nums S m) : SAt C (upd H nl (.lst (nums.map V.int ++ more.map V.int))) p pl d nl sl plv (nums ++ more) S m := by
  obtain ⟨n1, n2, n3, n4, n5, n6, n7⟩ := A.nes
  obtain ⟨dx, h1⟩ := A.ob
  obtain ⟨kvs, h4, h5⟩ := A.dict
  exact ⟨⟨dx, by rw [upd_ne n3]; exact h1⟩, by rw [upd_ne A.ne.1]; exact A.passed, A.last, ⟨kvs, by rw [upd_ne n6]; exact h4, h5⟩, by rw [upd_same, List.map_append], by rw [upd_ne A.ne.2.2.symm]; exact A.spoken, A.ne, A.few⟩
/-- what is a tuple stays a tuple -/
theorem WAt.tup {c : Addr} {xs : List V} (A : WAt C D H wp p pl d nl sl plv nums S m) (b : But6 wp p pl d nl sl H H') (h : H c = some (.tup xs)) : H' c = some (.tup xs) := by
  obtain ⟨dx0, h0⟩ := A.ob
  obtain ⟨dx, h1⟩ := A.st.ob
  obtain ⟨kvs, h2, _⟩ := A.st.dict
  refine b c _ h (ne_of h h0 ?_) (ne_of h h1 ?_) (ne_of h A.st.passed ?_) (ne_of h h2 ?_) (ne_of h A.st.nums ?_) (ne_of h A.st.spoken ?_) <;> (intro z; cases z)
theorem WAt.rd {x : V} {dd : PyData} (A : WAt C D H wp p pl d nl sl plv nums S m) (b : But6 wp p pl d nl sl H H') (r : RdD H x dd) (n : noList dd = true) : RdD H' x dd :=
  r.tups (fun c xs e => A.tup b e) n
end
/-- the word of a stand -/
def standF (ps : List Piece) (nums : List Int) (S : RS) : Str := if S.word = "stop" then "stop" else if lackB ps nums S = true then "dry" else "on"
def WordOk (S : RS) : Prop := S.word = "on" ∨ S.word = "stop"
/-! ### the promises of walkers.py -/
section
variable (C D : Addr)
def spWInit : Sp := fun vs H Q _ => ∃ (wp dx : Addr) (plv : V), vs = [.ref wp, plv] ∧ H wp = some (.ins D dx []) ∧
  ∀ (p pl d nl sl : Addr) (H' : Hp), WAt C D H' wp p pl d nl sl plv [] (start0 0 fun _ => 0) 0 → (∀ c o, H c = some o → c ≠ wp → H' c = some o) → H p = none → H pl = none → H d = none → H nl = none → H sl = none → Q .non H'
def spWHand : Sp := fun vs H Q _ => ∃ (wp p pl d nl sl t : Addr) (plv : V) (nums more : List Int) (S : RS) (m : Nat), vs = [.ref wp, .ref t] ∧ WAt C D H wp p pl d nl sl plv nums S m ∧ H t = some (.tup (more.map V.int)) ∧ nums.length + more.length ≤ 100000 ∧
  ∀ H', WAt C D H' wp p pl d nl sl plv (nums ++ more) S m → But6 wp p pl d nl sl H H' → Q .non H'
def spWGo : Sp := fun vs H Q _ => ∃ (wp p pl d nl sl : Addr) (plv : V) (nums : List Int) (S : RS) (m n : Nat) (ps : List Piece), vs = [.ref wp, .int n] ∧ WAt C D H wp p pl d nl sl plv nums S m ∧ RdD H plv (dPlan ps) ∧ InPlan ps ∧ S.piece < ps.length ∧ S.taken ≤ nums.length ∧ m + n ≤ 10000 ∧
  ∀ H', WAt C D H' wp p pl d nl sl plv nums (goF ps nums n S) (m + cntF ps nums n S) → But6 wp p pl d nl sl H H' → Q (.int (cntF ps nums n S : Nat)) H'
def spWWord : Sp := fun vs H Q _ => ∃ (wp p pl d nl sl : Addr) (plv : V) (nums : List Int) (S : RS) (m : Nat) (ps : List Piece), vs = [.ref wp] ∧ WAt C D H wp p pl d nl sl plv nums S m ∧ RdD H plv (dPlan ps) ∧ S.piece < ps.length ∧ Q (.str (standF ps nums S)) H
def spWPiece : Sp := fun vs H Q _ => ∃ (wp p pl d nl sl : Addr) (plv : V) (nums : List Int) (S : RS) (m : Nat), vs = [.ref wp] ∧ WAt C D H wp p pl d nl sl plv nums S m ∧ Q (.int S.piece) H
def spWTold : Sp := fun vs H Q _ => ∃ (wp p pl d nl sl : Addr) (plv : V) (nums : List Int) (S : RS) (m : Nat), vs = [.ref wp] ∧ WAt C D H wp p pl d nl sl plv nums S m ∧ ∀ t, H t = none → Q (.ref t) (upd H t (.tup (S.told.map V.int)))
def spWWorth : Sp := fun vs H Q _ => ∃ (wp p pl d nl sl : Addr) (plv : V) (nums : List Int) (S : RS) (m : Nat) (x : Str), vs = [.ref wp, .str x] ∧ WAt C D H wp p pl d nl sl plv nums S m ∧ Q (.int (S.w x)) H
def spWSteps : Sp := fun vs H Q _ => ∃ (wp p pl d nl sl : Addr) (plv : V) (nums : List Int) (S : RS) (m : Nat), vs = [.ref wp] ∧ WAt C D H wp p pl d nl sl plv nums S m ∧ Q (.int m) H
end
/-! ### the law's side -/
/-- the step, numbers in a list -/
def spStepL : Sp := fun vs H Q _ => ∃ (pv : V) (st np d tl bl : Addr) (ps : List Piece) (nums : List Int) (S : RS) (m : Nat), vs = [pv, .ref st, .ref np] ∧ RdD H pv (dPlan ps) ∧ InPlan ps ∧ H np = some (.lst (nums.map V.int)) ∧ StAt H st d tl bl S m ∧
  S.piece < ps.length ∧ S.taken ≤ nums.length ∧ m ≤ 10000 ∧ ∀ st' H', StAt H' st' d tl bl (stepF ps nums S) (m + 1) → But d tl bl H H' → Q (.ref st') H'
def spStandL : Sp := fun vs H Q _ => ∃ (pv : V) (st np d tl bl : Addr) (ps : List Piece) (nums : List Int) (S : RS) (m : Nat), vs = [pv, .ref st, .ref np] ∧ RdD H pv (dPlan ps) ∧ H np = some (.lst (nums.map V.int)) ∧ StAt H st d tl bl S m ∧ S.piece < ps.length ∧ WordOk S ∧ Q (.str (standF ps nums S)) H
def spGoneL : Sp := fun vs H Q _ => ∃ (pv : V) (st np d tl bl : Addr) (ps : List Piece) (nums : List Int) (S : RS) (m n : Nat), vs = [pv, .ref st, .ref np, .int n] ∧ RdD H pv (dPlan ps) ∧ InPlan ps ∧ H np = some (.lst (nums.map V.int)) ∧ StAt H st d tl bl S m ∧ np ≠ tl ∧ np ≠ bl ∧
  S.piece < ps.length ∧ S.taken ≤ nums.length ∧ WordOk S ∧ m + n ≤ 10000 ∧ ∀ st' r H', H' r = some (.tup [.ref st', .int (cntF ps nums n S : Nat)]) → StAt H' st' d tl bl (goF ps nums n S) (m + cntF ps nums n S) → But d tl bl H H' → Q (.ref r) H'
/-- the law's and the walker's parts apart -/
structure Sep (pl d nl sl d2 tl bl np : Addr) : Prop where
  d : d2 ≠ d
  t : tl ≠ pl ∧ tl ≠ nl ∧ tl ≠ sl
  b : bl ≠ pl ∧ bl ≠ nl ∧ bl ≠ sl
  n : np ≠ pl ∧ np ≠ nl ∧ np ≠ sl ∧ np ≠ tl ∧ np ≠ bl
section
variable {C D : Addr} {H H' : Hp} {wp p pl d nl sl st d2 tl bl np : Addr} {plv : V} {nums nums' : List Int} {S S' : RS} {m m' : Nat}
theorem StAt.keep (A : StAt H st d2 tl bl S m) (k : ∀ c o, H c = some o → (c = st ∨ c = d2 ∨ c = tl ∨ c = bl) → H' c = some o) : StAt H' st d2 tl bl S m := by
  obtain ⟨h1, ⟨kvs, h2, h3⟩, h4, h5, h6, h7⟩ := A
  exact ⟨k _ _ h1 (.inl rfl), ⟨kvs, k _ _ h2 (.inr (.inl rfl)), h3⟩, k _ _ h4 (.inr (.inr (.inl rfl))), k _ _ h5 (.inr (.inr (.inr rfl))), h6, h7⟩
theorem StAt.tup {c : Addr} {xs : List V} (A : StAt H st d2 tl bl S m) (b : But d2 tl bl H H') (h : H c = some (.tup xs)) : H' c = some (.tup xs) := by
  obtain ⟨a1, ⟨kvs2, a2, a3⟩, a4, a5, a6, a7⟩ := A
  refine b _ _ h (ne_of h a2 ?_) (ne_of h a4 ?_) (ne_of h a5 ?_) <;> (intro z; cases z)
theorem StAt.rd {x : V} {dd : PyData} (A : StAt H st d2 tl bl S m) (b : But d2 tl bl H H') (r : RdD H x dd) (n : noList dd = true) : RdD H' x dd :=
  r.tups (fun c xs e => A.tup b e) n
theorem StAt.same (A : StAt H st d2 tl bl S m) (s : Same H H') : StAt H' st d2 tl bl S m := A.keep fun c o h _ => s c o h
/-- the walker did something: the law's state stays -/
theorem StAt.but6 (A : StAt H st d2 tl bl S' m') (W : WAt C D H wp p pl d nl sl plv nums S m) (z : Sep pl d nl sl d2 tl bl np) (b : But6 wp p pl d nl sl H H') : StAt H' st d2 tl bl S' m' := by
  obtain ⟨dx0, h0⟩ := W.ob
  obtain ⟨dx, h1⟩ := W.st.ob
  obtain ⟨kvs, h2, _⟩ := W.st.dict
  obtain ⟨a1, ⟨kvs2, a2, a3⟩, a4, a5, a6, a7⟩ := A
  refine ⟨W.tup b a1, ⟨kvs2, ?_, a3⟩, ?_, ?_, a6, a7⟩
  · refine b _ _ a2 (ne_of a2 h0 ?_) (ne_of a2 h1 ?_) (ne_of a2 W.st.passed ?_) z.d (ne_of a2 W.st.nums ?_) (ne_of a2 W.st.spoken ?_) <;> (intro z; cases z)
  · refine b _ _ a4 (ne_of a4 h0 ?_) (ne_of a4 h1 ?_) z.t.1 (ne_of a4 h2 ?_) z.t.2.1 z.t.2.2 <;> (intro z; cases z)
  · refine b _ _ a5 (ne_of a5 h0 ?_) (ne_of a5 h1 ?_) z.b.1 (ne_of a5 h2 ?_) z.b.2.1 z.b.2.2 <;> (intro z; cases z)
theorem np_but6 (a : H np = some (.lst (nums'.map V.int))) (W : WAt C D H wp p pl d nl sl plv nums S m) (z : Sep pl d nl sl d2 tl bl np) (b : But6 wp p pl d nl sl H H') : H' np = some (.lst (nums'.map V.int)) := by
  obtain ⟨dx0, h0⟩ := W.ob
  obtain ⟨dx, h1⟩ := W.st.ob
  obtain ⟨kvs, h2, _⟩ := W.st.dict
  refine b _ _ a (ne_of a h0 ?_) (ne_of a h1 ?_) z.n.1 (ne_of a h2 ?_) z.n.2.1 z.n.2.2.1 <;> (intro z; cases z)
/-- the law did something: the walker stays -/
theorem WAt.but (W : WAt C D H wp p pl d nl sl plv nums S m) (A : StAt H st d2 tl bl S' m') (z : Sep pl d nl sl d2 tl bl np) (b : But d2 tl bl H H') : WAt C D H' wp p pl d nl sl plv nums S m := by
  obtain ⟨dx0, h0⟩ := W.ob
  obtain ⟨dx, h1⟩ := W.st.ob
  obtain ⟨kvs, h2, h2'⟩ := W.st.dict
  obtain ⟨a1, ⟨kvs2, a2, a3⟩, a4, a5, a6, a7⟩ := A
  refine ⟨⟨dx0, b _ _ h0 (ne_of h0 a2 ?_) (ne_of h0 a4 ?_) (ne_of h0 a5 ?_)⟩, ⟨⟨dx, b _ _ h1 (ne_of h1 a2 ?_) (ne_of h1 a4 ?_) (ne_of h1 a5 ?_)⟩, b _ _ W.st.passed (ne_of W.st.passed a2 ?_) z.t.1.symm z.b.1.symm, W.st.last,
    ⟨kvs, b _ _ h2 z.d.symm (ne_of h2 a4 ?_) (ne_of h2 a5 ?_), h2'⟩, b _ _ W.st.nums (ne_of W.st.nums a2 ?_) z.t.2.1.symm z.b.2.1.symm, b _ _ W.st.spoken (ne_of W.st.spoken a2 ?_) z.t.2.2.symm z.b.2.2.symm, W.st.ne, W.st.few⟩, W.ne⟩ <;> (intro z; cases z)
theorem np_but (a : H np = some (.lst (nums'.map V.int))) (A : StAt H st d2 tl bl S' m') (z : Sep pl d nl sl d2 tl bl np) (b : But d2 tl bl H H') : H' np = some (.lst (nums'.map V.int)) := by
  obtain ⟨a1, ⟨kvs2, a2, a3⟩, a4, a5, a6, a7⟩ := A
  refine b _ _ a (ne_of a a2 ?_) z.n.2.2.2.1 z.n.2.2.2.2 <;> (intro z; cases z)
/-- the law's numbers are written -/
theorem WAt.put_np {o : HO} (W : WAt C D H wp p pl d nl sl plv nums S m) (a : H np = some (.lst (nums'.map V.int))) (z : Sep pl d nl sl d2 tl bl np) : WAt C D (upd H np o) wp p pl d nl sl plv nums S m := by
  obtain ⟨dx0, h0⟩ := W.ob
  obtain ⟨dx, h1⟩ := W.st.ob
  obtain ⟨kvs, h2, h2'⟩ := W.st.dict
  refine W.keep fun c u h e => ?_
  rw [upd_ne ?_]
  · exact h
  · rcases e with rfl | rfl | rfl | rfl | rfl | rfl
    · exact ne_of h0 a (by intro z; cases z)
    · exact ne_of h1 a (by intro z; cases z)
    · exact z.n.1.symm
    · exact ne_of h2 a (by intro z; cases z)
    · exact z.n.2.1.symm
    · exact z.n.2.2.1.symm
theorem StAt.put_np {o : HO} (A : StAt H st d2 tl bl S m) (a : H np = some (.lst (nums'.map V.int))) (z : Sep pl d nl sl d2 tl bl np) : StAt (upd H np o) st d2 tl bl S m := by
  obtain ⟨a1, ⟨kvs2, a2, a3⟩, a4, a5, a6, a7⟩ := A
  exact ⟨by rw [upd_ne (ne_of a1 a (by intro z; cases z))]; exact a1, ⟨kvs2, by rw [upd_ne (ne_of a2 a (by intro z; cases z))]; exact a2, a3⟩, by rw [upd_ne z.n.2.2.2.1.symm]; exact a4, by rw [upd_ne z.n.2.2.2.2.symm]; exact a5, a6, a7⟩
end
section
variable (C D : Addr)
def spTellsL : Sp := fun vs H Q _ => ∃ (wp p pl d nl sl st np d2 tl bl : Addr) (plv : V) (ps : List Piece) (xs : List Str) (k : Nat) (nums : List Int) (S : RS) (m : Nat), vs = [.ref wp, plv, .ref st, .ref np, .int m] ∧ WAt C D H wp p pl d nl sl plv nums S m ∧ StAt H st d2 tl bl S m ∧ H np = some (.lst (nums.map V.int)) ∧ RdD H plv (dPlan ps) ∧ PlanOk xs k ps ∧ xs.length ≤ 4 ∧ S.piece < ps.length ∧ WordOk S ∧ m ≤ 10000 ∧
  ∀ H', Same H H' → Q (.bl true) H'
end
/-! ### both together -/
structure Fr10 (H0 : Hp) (wp p pl d nl sl d2 tl bl np : Addr) : Prop where
  wp : H0 wp = none
  p : H0 p = none
  pl : H0 pl = none
  d : H0 d = none
  nl : H0 nl = none
  sl : H0 sl = none
  d2 : H0 d2 = none
  tl : H0 tl = none
  bl : H0 bl = none
  np : H0 np = none
structure Joint (C D : Addr) (H : Hp) (wp p pl d nl sl st d2 tl bl np : Addr) (plv : V) (nums : List Int) (S : RS) (m : Nat) : Prop where
  w : WAt C D H wp p pl d nl sl plv nums S m
  l : StAt H st d2 tl bl S m
  n : H np = some (.lst (nums.map V.int))
  z : Sep pl d nl sl d2 tl bl np
section
variable {C D : Addr} {H0 H H1 H2 : Hp} {wp p pl d nl sl st st' d2 tl bl np b : Addr} {plv : V} {nums more : List Int} {S S' : RS} {m m' : Nat}
theorem Fr10.but6 (f : Fr10 H0 wp p pl d nl sl d2 tl bl np) (b : But6 wp p pl d nl sl H H1) {c : Addr} {o : HO} (e : H0 c = some o) (h : H c = some o) : H1 c = some o :=
  b c o h (ne_of_none e f.wp) (ne_of_none e f.p) (ne_of_none e f.pl) (ne_of_none e f.d) (ne_of_none e f.nl) (ne_of_none e f.sl)
theorem Fr10.but (f : Fr10 H0 wp p pl d nl sl d2 tl bl np) (b : But d2 tl bl H H1) {c : Addr} {o : HO} (e : H0 c = some o) (h : H c = some o) : H1 c = some o :=
  b c o h (ne_of_none e f.d2) (ne_of_none e f.tl) (ne_of_none e f.bl)
theorem Joint.same (J : Joint C D H wp p pl d nl sl st d2 tl bl np plv nums S m) (s : Same H H1) : Joint C D H1 wp p pl d nl sl st d2 tl bl np plv nums S m :=
  ⟨J.w.same s, J.l.same s, s _ _ J.n, J.z⟩
/-- numbers are handed to both -/
theorem Joint.handed (J : Joint C D H wp p pl d nl sl st d2 tl bl np plv nums S m) (W : WAt C D H1 wp p pl d nl sl plv (nums ++ more) S m) (b : But6 wp p pl d nl sl H H1) :
    H1 np = some (.lst (nums.map V.int)) ∧ Joint C D (upd H1 np (.lst (nums.map V.int ++ more.map V.int))) wp p pl d nl sl st d2 tl bl np plv (nums ++ more) S m := by
  have n1 := np_but6 J.n J.w J.z b
  exact ⟨n1, W.put_np n1 J.z, (J.l.but6 J.w J.z b).put_np n1 J.z, by rw [upd_same, List.map_append], J.z⟩
/-- both went on -/
theorem Joint.went (J : Joint C D H wp p pl d nl sl st d2 tl bl np plv nums S m) (A1 : StAt H1 st' d2 tl bl S' m') (b1 : But d2 tl bl H H1) (W2 : WAt C D H2 wp p pl d nl sl plv nums S' m') (b2 : But6 wp p pl d nl sl H1 H2) :
    Joint C D H2 wp p pl d nl sl st' d2 tl bl np plv nums S' m' := by
  have W1 := J.w.but J.l J.z b1
  have n1 := np_but J.n J.l J.z b1
  exact ⟨W2, A1.but6 W1 J.z b2, np_but6 n1 W1 J.z b2, J.z⟩
end
/-- what is asked of a walker next -/
def spCallL : Sp := fun vs H Q _ => ∃ (b : Addr) (left : Nat), vs = [.ref b, .int left] ∧ Bag H b ∧ left ≤ 600 ∧
  ((∀ t t2 (ns : List Int) H', H' t2 = some (.tup [.str "hand", .ref t]) → H' t = some (.tup (ns.map V.int)) → ns.length ≤ left → Bag H' b → Fix b H H' → Q (.ref t2) H') ∧
   (∀ t2 (n : Nat) H', H' t2 = some (.tup [.str "go", .int n]) → n ≤ 2000 → Bag H' b → Fix b H H' → Q (.ref t2) H'))
end L2

set_option Elab.async false
set_option linter.all false
set_option maxRecDepth 100000
namespace L2
open PySem PySem.Spec PyProof.Rows
section
variable {X : Cx}
/-- t + u of any two tuples -/
def rCatI : R2 := fun x y H Q => ∃ a b xs ys, x = .ref a ∧ y = .ref b ∧ H a = some (.tup xs) ∧ H b = some (.tup ys) ∧ xs.length + ys.length ≤ sizeLine ∧ ∀ t H', H' t = some (.tup (xs ++ ys)) → Same H H' → Q (.ref t) H'
theorem op_catI : OpR X (binaryOp .Add) rCatI := by
  intro pins s σ H x y v u Q I rx ry h
  obtain ⟨a, b, xs, ys, rfl, rfl, ha, hb, hz, q⟩ := h
  cases rx
  cases ry
  obtain ⟨its, r1, p1, _⟩ := I.tuple (SqT.of ha)
  obtain ⟨its2, r2, p2, _⟩ := I.tuple (SqT.of hb)
  by_cases hx : xs = []
  · subst hx
    have hi : its = [] := r1.nil_iff.mpr rfl
    subst hi
    obtain ⟨⟨cls, dd, data, sl⟩, ho, hc, n, hd⟩ := id p1
    obtain ⟨⟨cls2, dd2, data2, sl2⟩, ho2, hc2, n2, hd2⟩ := id p2
    simp only at hc hd hc2 hd2
    subst hc hd hc2 hd2
    exact concat_meets ⟨_, ho, rfl⟩ ⟨_, ho2, rfl⟩ noFill_tuple_add seq_tuple_add PySem.F.slot_tuple_add PySem.F.entry_tuple_add (PySem.F.args_tuple_add_2 _ _)
      (tuple_addW0 a b [].toArray its2.toArray n n2 dd dd2 sl sl2 (by simp)) ⟨ho, ho2, ⟨.ref b, H, I, rfl, q b H hb (Same.refl H)⟩⟩
  · refine HT.cat_tup p1 p2 (fun z => hx (r1.nil_iff.mp z)) (fun z => ⟨.ref a, H, I, rfl, q a H (by rw [r2.nil_iff.mp z, List.append_nil]; exact ha) (Same.refl H)⟩) (fun z => ?_) (by rw [← r1.length, ← r2.length]; exact hz)
    have fr := I.hok.fresh (a := s.heap.objs.size) (Nat.le_refl _)
    refine ⟨.ref s.heap.objs.size, _, I.laid (t' := s.toks) (o := .tup (xs ++ ys)) (fun b ob q => Heap.get?_push_of_some _ q) (Nat.le_refl _) ?_, rfl, q _ _ upd_same (Same.new fr)⟩
    exact ⟨by rw [List.length_append]; exact hz, _, r1.append r2, ⟨_, Heap.get?_push_size _ rfl, rfl, _, rfl, rfl⟩⟩
end
/-! ### bit by bit -/
section
variable {ps : List Piece} {nums more : List Int} {S S0 : RS} {m n : Nat}
theorem lack_more (h : lackB ps nums S = false) (ht : S.taken ≤ nums.length) : lackB ps (nums ++ more) S = false ∧ stepF ps (nums ++ more) S = stepF ps nums S := by
  unfold lackB at h ⊢
  unfold stepF
  cases hx : ps[S.piece]? with
  | none => exact ⟨rfl, rfl⟩
  | some pc =>
    obtain ⟨ds, e⟩ := pc
    rw [hx] at h
    dsimp only at h ⊢
    cases hd : ds[S.place]? with
    | none => exact ⟨rfl, rfl⟩
    | some dd =>
      rw [hd] at h
      dsimp only at h ⊢
      cases dd with
      | read x =>
        have hne : ¬ S.taken = nums.length := of_decide_eq_false (by simpa [isRead] using h)
        have hlt : S.taken < nums.length := by omega
        refine ⟨?_, ?_⟩
        · show (true && decide (S.taken = (nums ++ more).length)) = false
          rw [Bool.true_and]
          refine decide_eq_false ?_
          rw [List.length_append]
          omega
        · show stepD (nums ++ more) S (.read x) = stepD nums S (.read x)
          unfold stepD
          rw [List.getElem?_append_left hlt]
      | put x n => exact ⟨rfl, rfl⟩
      | copy x y => exact ⟨rfl, rfl⟩
      | add x n => exact ⟨rfl, rfl⟩
      | tell x => exact ⟨rfl, rfl⟩
theorem held_more (h : heldB ps nums S = false) (ht : S.taken ≤ nums.length) : heldB ps (nums ++ more) S = false ∧ stepF ps (nums ++ more) S = stepF ps nums S := by
  unfold heldB at h ⊢
  rw [Bool.or_eq_false_iff] at h
  have l := lack_more (more := more) h.2 ht
  rw [h.1, l.1]
  exact ⟨rfl, l.2⟩
theorem cnt_full : ∀ {n : Nat}, cntF ps nums (n + 1) S = n + 1 → heldB ps nums (goF ps nums n S) = false ∧ cntF ps nums n S = n := by
  intro n h
  have l := cnt_le (ps := ps) (nums := nums) (S := S) n
  cases hh : heldB ps nums (goF ps nums n S) with
  | true =>
    have := (go_held hh 1).2
    rw [h] at this
    omega
  | false =>
    have := (go_not hh).2
    rw [h] at this
    exact ⟨rfl, by omega⟩
theorem go_more (hin : InPlan ps) (hpc : S.piece < ps.length) (ht : S.taken ≤ nums.length) : ∀ {n : Nat}, cntF ps nums n S = n → goF ps (nums ++ more) n S = goF ps nums n S ∧ cntF ps (nums ++ more) n S = n
  | 0, _ => ⟨rfl, rfl⟩
  | n + 1, h => by
    obtain ⟨h1, h2⟩ := cnt_full h
    have ih := go_more hin hpc ht h2
    have gi := go_in (ps := ps) (nums := nums) (S := S) hin hpc ht n
    have l := held_more (more := more) h1 gi.2
    rw [← ih.1] at l
    have g := go_not l.1
    have g' := go_not h1
    refine ⟨?_, ?_⟩
    · rw [g.1, g'.1, l.2, ih.1]
    · rw [g.2, ih.2]
theorem go_add : ∀ n, goF ps nums (m + n) S = goF ps nums n (goF ps nums m S) ∧ cntF ps nums (m + n) S = cntF ps nums m S + cntF ps nums n (goF ps nums m S)
  | 0 => ⟨rfl, rfl⟩
  | n + 1 => by
    have ih := go_add n
    cases hh : heldB ps nums (goF ps nums (m + n) S) with
    | true =>
      have g := go_held hh 1
      have hh2 := hh
      rw [ih.1] at hh2
      have g2 := go_held hh2 1
      exact ⟨by rw [show m + (n + 1) = m + n + 1 by omega, g.1, g2.1]; exact ih.1, by rw [show m + (n + 1) = m + n + 1 by omega, g.2, g2.2]; exact ih.2⟩
    | false =>
      have g := go_not hh
      have hh2 := hh
      rw [ih.1] at hh2
      have g2 := go_not hh2
      exact ⟨by rw [show m + (n + 1) = m + n + 1 by omega, g.1, g2.1, ih.1], by rw [show m + (n + 1) = m + n + 1 by omega, g.2, g2.2, ih.2]; omega⟩
theorem cnt_not : ∀ {n : Nat}, heldB ps nums (goF ps nums n S) = false → cntF ps nums n S = n
  | 0, _ => rfl
  | n + 1, h => by
    cases hh : heldB ps nums (goF ps nums n S) with
    | true => rw [(go_held hh 1).1, hh] at h; cases h
    | false => rw [(go_not hh).2, cnt_not hh]
theorem go_cnt : ∀ n, goF ps nums (cntF ps nums n S) S = goF ps nums n S ∧ cntF ps nums (cntF ps nums n S) S = cntF ps nums n S
  | 0 => ⟨rfl, rfl⟩
  | n + 1 => by
    cases hh : heldB ps nums (goF ps nums n S) with
    | true =>
      have g := go_held hh 1
      rw [g.1, g.2]
      exact go_cnt n
    | false =>
      have c := cnt_not hh
      have g := go_not hh
      have e : cntF ps nums (n + 1) S = n + 1 := by rw [g.2, c]
      rw [e]
      exact ⟨rfl, e⟩
end
def S00 : RS := start0 0 fun _ => 0
/-- reached in so many steps, by all numbers so far -/
structure Rch (ps : List Piece) (nums : List Int) (m : Nat) (S : RS) : Prop where
  go : goF ps nums m S00 = S
  cnt : cntF ps nums m S00 = m
section
variable {ps : List Piece} {nums more : List Int} {S : RS} {m n : Nat}
theorem Rch.handed (h : Rch ps nums m S) (hin : InPlan ps) (hpc : 0 < ps.length) : Rch ps (nums ++ more) m S := by
  have g := go_more (more := more) (S := S00) hin hpc (Nat.zero_le _) h.cnt
  exact ⟨g.1.trans h.go, g.2⟩
theorem Rch.went (h : Rch ps nums m S) : Rch ps nums (m + cntF ps nums n S) (goF ps nums n S) := by
  have a := go_add (ps := ps) (nums := nums) (m := m) (S := S00) (cntF ps nums n S)
  have c := go_cnt (ps := ps) (nums := nums) (S := S) n
  rw [h.go, h.cnt] at a
  exact ⟨a.1.trans c.1, by rw [a.2, c.2]⟩
/-- what was told is what the run tells -/
theorem Rch.told (h : Rch ps nums m S) (hin : InPlan ps) (hpc : 0 < ps.length) : (walkF ps nums m S00).told = S.told := by
  rcases go_walk (ps := ps) (nums := nums) (S := S00) hin hpc (Nat.zero_le _) rfl m with ⟨g1, g2, g3⟩ | ⟨g1, g2⟩ | ⟨g1, g2, g3, g4⟩
  · rw [← g2, h.go]
  · rw [← g2, h.go]
  · rw [g1, h.go]
end
/-! ### calls -/
inductive Call where
  | hand (ns : List Int)
  | go (n : Nat)
def dCall : Call → PyData
  | .hand ns => .tuple [.str "hand", .tuple (ns.map PyData.int)]
  | .go n => .tuple [.str "go", .int n]
structure WSt where
  S : RS
  nums : List Int
  m : Nat
def callF (ps : List Piece) (x : WSt) : Call → WSt
  | .hand ns => ⟨x.S, x.nums ++ ns, x.m⟩
  | .go n => ⟨goF ps x.nums n x.S, x.nums, x.m + cntF ps x.nums n x.S⟩
def W00 : WSt := ⟨S00, [], 0⟩
def CallOk : Call → Prop
  | .hand ns => ns.length ≤ 9
  | .go n => n ≤ 40
theorem noL_call (c : Call) : noList (dCall c) = true := by
  cases c with
  | hand ns => show (true && (noLists (ns.map PyData.int) && true)) = true; rw [noL_ints]; rfl
  | go n => rfl
theorem noLs_calls : ∀ cs : List Call, noLists (cs.map dCall) = true
  | [] => rfl
  | c :: cs => by show (noList (dCall c) && noLists (cs.map dCall)) = true; rw [noL_call, noLs_calls cs]; rfl
structure WOk (ps : List Piece) (x : WSt) (i : Nat) : Prop where
  r : Rch ps x.nums x.m x.S
  m : x.m ≤ 40 * i
  n : x.nums.length ≤ 9 * i
theorem WOk.zero {ps : List Piece} : WOk ps W00 0 := ⟨⟨rfl, rfl⟩, Nat.le_refl _, Nat.le_refl _⟩
theorem WOk.call {ps : List Piece} {x : WSt} {i : Nat} {c : Call} (h : WOk ps x i) (hin : InPlan ps) (hpc : 0 < ps.length) (hc : CallOk c) : WOk ps (callF ps x c) (i + 1) := by
  obtain ⟨r, m, n⟩ := h
  cases c with
  | hand ns =>
    refine ⟨r.handed hin hpc, by show x.m ≤ _; omega, ?_⟩
    show (x.nums ++ ns).length ≤ _
    have : ns.length ≤ 9 := hc
    rw [List.length_append]
    omega
  | go k =>
    have : k ≤ 40 := hc
    have l := cnt_le (ps := ps) (nums := x.nums) (S := x.S) k
    exact ⟨r.went, by show x.m + cntF ps x.nums k x.S ≤ _; omega, by show x.nums.length ≤ _; omega⟩
theorem WOk.mono {ps : List Piece} {x : WSt} {i j : Nat} (h : WOk ps x i) (l : i ≤ j) : WOk ps x j := ⟨h.r, by have := h.m; omega, by have := h.n; omega⟩
/-! ### walkers side by side -/
structure WA where
  wp : Addr
  p : Addr
  pl : Addr
  d : Addr
  nl : Addr
  sl : Addr
def WAtA (C D : Addr) (H : Hp) (w : WA) (plv : V) (x : WSt) : Prop := WAt C D H w.wp w.p w.pl w.d w.nl w.sl plv x.nums x.S x.m
def ButA (w : WA) (H H' : Hp) : Prop := But6 w.wp w.p w.pl w.d w.nl w.sl H H'
def Out (w : WA) (c : Addr) : Prop := c ≠ w.wp ∧ c ≠ w.p ∧ c ≠ w.pl ∧ c ≠ w.d ∧ c ≠ w.nl ∧ c ≠ w.sl
def FrA (H : Hp) (w : WA) : Prop := H w.wp = none ∧ H w.p = none ∧ H w.pl = none ∧ H w.d = none ∧ H w.nl = none ∧ H w.sl = none
def Apart (x y : WA) : Prop := Out x y.wp ∧ Out x y.p ∧ Out x y.pl ∧ Out x y.d ∧ Out x y.nl ∧ Out x y.sl
section
variable {C D : Addr} {H H' H0 : Hp} {x y : WA} {pv pv' : V} {s s' : WSt} {c : Addr} {o : HO}
theorem WAtA.six (W : WAtA C D H x pv s) : (∃ o, H x.wp = some o) ∧ (∃ o, H x.p = some o) ∧ (∃ o, H x.pl = some o) ∧ (∃ o, H x.d = some o) ∧ (∃ o, H x.nl = some o) ∧ (∃ o, H x.sl = some o) := by
  obtain ⟨⟨d0, h0⟩, ⟨⟨d1, h1⟩, h2, h3, ⟨kvs, h4, _⟩, h5, h6, _⟩, _⟩ := W
  exact ⟨⟨_, h0⟩, ⟨_, h1⟩, ⟨_, h2⟩, ⟨_, h4⟩, ⟨_, h5⟩, ⟨_, h6⟩⟩
theorem WAtA.out (W : WAtA C D H x pv s) (h : H c = none) : Out x c := by
  obtain ⟨⟨_, h0⟩, ⟨_, h1⟩, ⟨_, h2⟩, ⟨_, h3⟩, ⟨_, h4⟩, ⟨_, h5⟩⟩ := W.six
  exact ⟨(ne_of_none h0 h).symm, (ne_of_none h1 h).symm, (ne_of_none h2 h).symm, (ne_of_none h3 h).symm, (ne_of_none h4 h).symm, (ne_of_none h5 h).symm⟩
theorem FrA.out (f : FrA H x) (h : H c = some o) : Out x c := by
  obtain ⟨f1, f2, f3, f4, f5, f6⟩ := f
  exact ⟨ne_of_none h f1, ne_of_none h f2, ne_of_none h f3, ne_of_none h f4, ne_of_none h f5, ne_of_none h f6⟩
theorem WAtA.apart (W : WAtA C D H x pv s) (f : FrA H y) : Apart x y := by
  obtain ⟨f1, f2, f3, f4, f5, f6⟩ := f
  exact ⟨W.out f1, W.out f2, W.out f3, W.out f4, W.out f5, W.out f6⟩
theorem Apart.symm (a : Apart x y) : Apart y x := by
  obtain ⟨⟨a1, a2, a3, a4, a5, a6⟩, ⟨b1, b2, b3, b4, b5, b6⟩, ⟨c1, c2, c3, c4, c5, c6⟩, ⟨d1, d2, d3, d4, d5, d6⟩, ⟨e1, e2, e3, e4, e5, e6⟩, ⟨f1, f2, f3, f4, f5, f6⟩⟩ := a
  exact ⟨⟨a1.symm, b1.symm, c1.symm, d1.symm, e1.symm, f1.symm⟩, ⟨a2.symm, b2.symm, c2.symm, d2.symm, e2.symm, f2.symm⟩, ⟨a3.symm, b3.symm, c3.symm, d3.symm, e3.symm, f3.symm⟩, ⟨a4.symm, b4.symm, c4.symm, d4.symm, e4.symm, f4.symm⟩, ⟨a5.symm, b5.symm, c5.symm, d5.symm, e5.symm, f5.symm⟩, ⟨a6.symm, b6.symm, c6.symm, d6.symm, e6.symm, f6.symm⟩⟩
theorem ButA.at_ (b : ButA x H H') (n : Out x c) (h : H c = some o) : H' c = some o := b c o h n.1 n.2.1 n.2.2.1 n.2.2.2.1 n.2.2.2.2.1 n.2.2.2.2.2
theorem WAtA.other (V : WAtA C D H y pv s) (ap : Apart x y) (b : ButA x H H') : WAtA C D H' y pv s :=
  WAt.keep V fun c o h e => by
    obtain ⟨a1, a2, a3, a4, a5, a6⟩ := ap
    rcases e with rfl | rfl | rfl | rfl | rfl | rfl
    · exact b.at_ a1 h
    · exact b.at_ a2 h
    · exact b.at_ a3 h
    · exact b.at_ a4 h
    · exact b.at_ a5 h
    · exact b.at_ a6 h
theorem WAtA.same (W : WAtA C D H x pv s) (k : Same H H') : WAtA C D H' x pv s := WAt.same W k
theorem WAtA.put (W : WAtA C D H x pv s) (n : Out x c) : WAtA C D (upd H c o) x pv s :=
  WAt.keep W fun a u h e => by
    rw [upd_ne ?_]
    · exact h
    · obtain ⟨n1, n2, n3, n4, n5, n6⟩ := n
      rcases e with rfl | rfl | rfl | rfl | rfl | rfl
      · exact n1.symm
      · exact n2.symm
      · exact n3.symm
      · exact n4.symm
      · exact n5.symm
      · exact n6.symm
theorem WAtA.rd {v : V} {dd : PyData} (W : WAtA C D H x pv s) (b : ButA x H H') (r : RdD H v dd) (n : noList dd = true) : RdD H' v dd := WAt.rd W b r n
theorem WAtA.tup {a : Addr} {xs : List V} (W : WAtA C D H x pv s) (b : ButA x H H') (h : H a = some (.tup xs)) : H' a = some (.tup xs) := WAt.tup W b h
end
/-! ### the promises -/
def dSo (ps : List Piece) (x : WSt) : PyData := .tuple [.str (standF ps x.nums x.S), .int x.S.piece, .tuple (x.S.told.map PyData.int), .int x.m]
def vSo (ps : List Piece) (x : WSt) (t : Addr) : List V := [.str (standF ps x.nums x.S), .int x.S.piece, .ref t, .int x.m]
section
variable (C D : Addr)
def spSo : Sp := fun vs H Q _ => ∃ (w : WA) (plv : V) (ps : List Piece) (x : WSt), vs = [.ref w.wp] ∧ WAtA C D H w plv x ∧ RdD H plv (dPlan ps) ∧ x.S.piece < ps.length ∧
  ∀ r t H', H' r = some (.tup (vSo ps x t)) → H' t = some (.tup (x.S.told.map V.int)) → Same H H' → Q (.ref r) H'
def spCalledL : Sp := fun vs H Q _ => ∃ (w : WA) (plv cv : V) (ps : List Piece) (x : WSt) (c : Call) (i : Nat), vs = [.ref w.wp, cv] ∧ WAtA C D H w plv x ∧ RdD H plv (dPlan ps) ∧ InPlan ps ∧ 0 < ps.length ∧ WOk ps x i ∧ i ≤ 60 ∧ RdD H cv (dCall c) ∧ CallOk c ∧
  ∀ r t H1 H', WAtA C D H1 w plv (callF ps x c) → ButA w H H1 → Same H1 H' → H' r = some (.tup (vSo ps (callF ps x c) t)) → H' t = some (.tup ((callF ps x c).S.told.map V.int)) → Q (.ref r) H'
end
end L2
namespace L2
open PySem PySem.Spec PyProof.Rows
/-! ### three walkers and the law's lists -/
structure TriG (H0 : Hp) (w0 w1 w2 : WA) (wl cl nb : Addr) : Prop where
  p01 : Apart w0 w1
  p02 : Apart w0 w2
  p12 : Apart w1 w2
  ol : Out w0 wl ∧ Out w1 wl ∧ Out w2 wl
  oc : Out w0 cl ∧ Out w1 cl ∧ Out w2 cl
  on : Out w0 nb ∧ Out w1 nb ∧ Out w2 nb
  f : FrA H0 w0 ∧ FrA H0 w1 ∧ FrA H0 w2
  ne : wl ≠ cl ∧ wl ≠ nb ∧ cl ≠ nb
  fl : H0 wl = none ∧ H0 cl = none ∧ H0 nb = none
structure Tri (C D : Addr) (H0 H : Hp) (w0 w1 w2 : WA) (wl cl nb : Addr) (plv ov : V) (x0 x1 x2 : WSt) (n0 n1 : List Int) (vs : List V) (cs : List Call) : Prop where
  a0 : WAtA C D H w0 plv x0
  a1 : WAtA C D H w1 ov x1
  a2 : WAtA C D H w2 plv x2
  l : H wl = some (.lst [.ref w0.wp, .ref w1.wp, .ref w2.wp])
  c : H cl = some (.lst vs)
  r : RdDs H vs (cs.map dCall)
  n : ∃ t0 t1, H nb = some (.lst [.ref t0, .ref t1]) ∧ H t0 = some (.tup (n0.map V.int)) ∧ H t1 = some (.tup (n1.map V.int))
  s : Same H0 H
section
variable {C D : Addr} {H0 H H1 : Hp} {w0 w1 w2 : WA} {wl cl nb : Addr} {plv ov : V} {x0 x1 x2 x' : WSt} {n0 n1 n' : List Int} {vs : List V} {cs : List Call}
theorem RdDs.tups' {H H' : Hp} {xs : List V} {ds : List PyData} (r : RdDs H xs ds) (k : ∀ p ys, H p = some (.tup ys) → H' p = some (.tup ys)) (n : noLists ds = true) : RdDs H' xs ds := RdDs.tups k r n
theorem Tri.same (T : Tri C D H0 H w0 w1 w2 wl cl nb plv ov x0 x1 x2 n0 n1 vs cs) (s : Same H H1) : Tri C D H0 H1 w0 w1 w2 wl cl nb plv ov x0 x1 x2 n0 n1 vs cs := by
  obtain ⟨t0, t1, h1, h2, h3⟩ := T.n
  exact ⟨T.a0.same s, T.a1.same s, T.a2.same s, s _ _ T.l, s _ _ T.c, T.r.same s (noLs_calls cs), ⟨t0, t1, s _ _ h1, s _ _ h2, s _ _ h3⟩, T.s.trans s⟩
/-- a call is kept -/
theorem Tri.app {v : V} {c : Call} (T : Tri C D H0 H w0 w1 w2 wl cl nb plv ov x0 x1 x2 n0 n1 vs cs) (G : TriG H0 w0 w1 w2 wl cl nb) (e : RdD H v (dCall c)) :
    Tri C D H0 (upd H cl (.lst (vs ++ [v]))) w0 w1 w2 wl cl nb plv ov x0 x1 x2 n0 n1 (vs ++ [v]) (cs ++ [c]) := by
  obtain ⟨t0, t1, h1, h2, h3⟩ := T.n
  have k : ∀ p ys, H p = some (.tup ys) → (upd H cl (.lst (vs ++ [v]))) p = some (.tup ys) := fun p ys e => by rw [upd_ne (ne_of e T.c (by intro z; cases z))]; exact e
  refine ⟨T.a0.put G.oc.1, T.a1.put G.oc.2.1, T.a2.put G.oc.2.2, by rw [upd_ne G.ne.1]; exact T.l, upd_same, ?_, ⟨t0, t1, by rw [upd_ne G.ne.2.2.symm]; exact h1, k _ _ h2, k _ _ h3⟩, T.s.put G.fl.2.1⟩
  rw [List.map_append]
  exact (T.r.tups' k (noLs_calls cs)).app (e.tups k (noL_call c))
end
end L2

set_option Elab.async false
set_option linter.all false
set_option maxRecDepth 100000
namespace PySem
section
variable {prog : Program} {w : World} {A : Around} {E : Value → Shared → Prop} {s : Shared}
end
end PySem
namespace PySem
section
variable {prog : Program} {w : World} {K : Type} [DecidableEq K] {knd : KeyKind prog w K} {A : Around} {s : Shared}
/-- the pair at q -/
def PairAt (knd : KeyKind prog w K) (h : Heap) (q : Addr) (p : K × Value) : Prop := ∃ key n sl, h.get? q = some { cls := .type "tuple", dict := none, data := .seq #[key, p.2] n, slots := sl } ∧ knd.is p.1 key = true
end
end PySem

set_option Elab.async false
set_option linter.all false
set_option maxRecDepth 100000
namespace L2
open PySem PySem.Spec PyProof.Rows
section
variable {X : Cx}
end
end L2

set_option Elab.async false
set_option linter.all false
set_option maxRecDepth 100000
namespace L2
open PySem PySem.Spec PyProof.Rows
/-! ### texts in order -/
def leS (a b : Str) : Prop := a.cps.toList ≤ b.cps.toList
structure Srt (ss : List Str) : Prop where
  pw : ss.Pairwise leS
  nd : ss.Nodup
theorem Srt.filter {l : List Str} (h : Srt l) (p : Str → Bool) : Srt (l.filter p) := ⟨h.pw.filter p, h.nd.filter p⟩
/-! ### tables of stretches -/
abbrev Sx := Option Int × Option Int
def allS : Sx := (none, none)
/-- the tuple that stands for ALL in the text -/
structure AllG (K : PySem.W.Frag) (mg : Str → Option Value) (aA : Addr) : Prop where
  mg_ : mg "ALL" = some (.ref aA)
  at_ : ∃ dc n sl, K.lookup aA = some ⟨.type "tuple", dc, .seq #[.none, .none] n, sl⟩
def SH (H : Hp) (v : V) (s : Sx) : Prop := ∃ q, v = .ref q ∧ H q = some (.tup [vO s.1, vO s.2])
def SV (aA : Addr) (H : Hp) (v : V) (s : Sx) : Prop := SH H v s ∨ (v = .ref aA ∧ s = allS)
def dS (s : Sx) : PyData := .tuple [dO s.1, dO s.2]
theorem SH.rd {H : Hp} {v : V} {s : Sx} (h : SH H v s) : RdD H v (dS s) := by
  obtain ⟨q, rfl, e⟩ := h
  exact .tup e (.cons (rd_o _) (.cons (rd_o _) .nil))
theorem SH.tups {H H' : Hp} {v : V} {s : Sx} (h : SH H v s) (k : ∀ p xs, H p = some (.tup xs) → H' p = some (.tup xs)) : SH H' v s := by
  obtain ⟨q, e, h⟩ := h
  exact ⟨q, e, k _ _ h⟩
theorem SV.tups {aA : Addr} {H H' : Hp} {v : V} {s : Sx} (h : SV aA H v s) (k : ∀ p xs, H p = some (.tup xs) → H' p = some (.tup xs)) : SV aA H' v s := h.elim (fun h => .inl (h.tups k)) .inr
theorem rdo_inv {H : Hp} {v : V} {o : Option Int} (h : RdD H v (dO o)) : v = vO o := by
  cases o with
  | none => cases h; rfl
  | some i => exact h.int_inv
/-- a dict of stretches: what each name's stretch is by it, all numbers where it has none -/
structure Tb (aA : Addr) (H : Hp) (kvs : List (Key × V)) (ks : List Str) (T : Str → Sx) : Prop where
  keys : kvs.map (·.1) = ks.map Sum.inr
  nd : ks.Nodup
  val : ∀ x : Str, (valV kvs (Sum.inr x) = none ∧ T x = allS ∧ ¬ x ∈ ks) ∨ (∃ v, valV kvs (Sum.inr x) = some v ∧ SV aA H v (T x) ∧ x ∈ ks)
def setT (T : Str → Sx) (x : Str) (s : Sx) : Str → Sx := fun y => if y = x then s else T y
theorem Tb.tups {aA : Addr} {H H' : Hp} {kvs : List (Key × V)} {ks : List Str} {T : Str → Sx} (h : Tb aA H kvs ks T) (k : ∀ p xs, H p = some (.tup xs) → H' p = some (.tup xs)) : Tb aA H' kvs ks T :=
  ⟨h.keys, h.nd, fun x => (h.val x).elim .inl fun ⟨v, e, s, m⟩ => .inr ⟨v, e, s.tups k, m⟩⟩
theorem Tb.put {aA : Addr} {H : Hp} {kvs : List (Key × V)} {ks : List Str} {T : Str → Sx} (h : Tb aA H kvs ks T) {v : V} {s : Sx} (x : Str) (hv : SV aA H v s) :
    ∃ ks', Tb aA H (putK kvs (Sum.inr x) v) ks' (setT T x s) ∧ ks'.length ≤ ks.length + 1 ∧ ∀ y, y ∈ ks' ↔ y ∈ ks ∨ y = x := by
  have vals : ∀ (ks' : List Str), (∀ y, y ∈ ks' ↔ y ∈ ks ∨ y = x) → ∀ y : Str, (valV (putK kvs (Sum.inr x) v) (Sum.inr y) = none ∧ setT T x s y = allS ∧ ¬ y ∈ ks') ∨ (∃ u, valV (putK kvs (Sum.inr x) v) (Sum.inr y) = some u ∧ SV aA H u (setT T x s y) ∧ y ∈ ks') := by
    intro ks' hk y
    rw [valV_put]
    unfold setT
    by_cases e : y = x
    · subst e
      rw [if_pos rfl, if_pos rfl]
      exact .inr ⟨v, rfl, hv, (hk y).mpr (.inr rfl)⟩
    · rw [if_neg (fun z => e (Sum.inr.inj z)), if_neg e]
      rcases h.val y with ⟨a, b, c⟩ | ⟨u, a, b, c⟩
      · exact .inl ⟨a, b, fun z => ((hk y).mp z).elim c e⟩
      · exact .inr ⟨u, a, b, (hk y).mpr (.inl c)⟩
  rcases putK_keys (kvs := kvs) (k := (Sum.inr x : Key)) (v := v) with ⟨e1, hm⟩ | ⟨e1, hn⟩
  · have hx : x ∈ ks := by
      rw [h.keys] at hm
      obtain ⟨y, hy, e⟩ := List.mem_map.mp hm
      cases e
      exact hy
    have hk : ∀ y, y ∈ ks ↔ y ∈ ks ∨ y = x := fun y => ⟨.inl, fun z => z.elim id fun e => by rw [e]; exact hx⟩
    exact ⟨ks, ⟨by rw [e1]; exact h.keys, h.nd, vals ks hk⟩, Nat.le_succ _, hk⟩
  · have hx : ¬ x ∈ ks := fun z => hn (by rw [h.keys]; exact List.mem_map.mpr ⟨x, z, rfl⟩)
    have hk : ∀ y, y ∈ ks ++ [x] ↔ y ∈ ks ∨ y = x := fun y => by simp
    refine ⟨ks ++ [x], ⟨by rw [e1, h.keys, List.map_append]; rfl, ?_, vals _ hk⟩, by simp, hk⟩
    rw [List.nodup_append]
    refine ⟨h.nd, by simp, fun a ha b hb => ?_⟩
    rw [List.mem_singleton] at hb
    subst hb
    exact fun z => hx (by rw [← z]; exact ha)
/-- facts as they lie -/
def dF (T : Str → Sx) (x : Str) : PyData := .tuple [.str x, dS (T x)]
def FV (H : Hp) (v : V) (T : Str → Sx) : Prop := ∃ (p : Addr) (xs : List V) (ss : List Str), v = .ref p ∧ H p = some (.tup xs) ∧ Srt ss ∧ (∀ x, x ∈ ss ↔ T x ≠ allS) ∧ RdDs H xs (ss.map (dF T))
def dFacts (T : Str → Sx) (ss : List Str) : PyData := .tuple (ss.map (dF T))
theorem noL_f (T : Str → Sx) : ∀ ss : List Str, noLists (ss.map (dF T)) = true
  | [] => rfl
  | x :: ss => by
    show (noList (dF T x) && noLists (ss.map (dF T))) = true
    rw [noL_f T ss]
    show ((true && ((noList (dO (T x).1) && (noList (dO (T x).2) && true)) && true)) && true) = true
    cases (T x).1 <;> cases (T x).2 <;> rfl
theorem FV.tups {H H' : Hp} {v : V} {T : Str → Sx} (h : FV H v T) (k : ∀ p xs, H p = some (.tup xs) → H' p = some (.tup xs)) : FV H' v T := by
  obtain ⟨p, xs, ss, e, hp, hs, hm, r⟩ := h
  exact ⟨p, xs, ss, e, k _ _ hp, hs, hm, r.tups k (noL_f T ss)⟩
theorem FV.same {H H' : Hp} {v : V} {T : Str → Sx} (h : FV H v T) (s : Same H H') : FV H' v T := h.tups fun p xs e => s _ _ e
/-- the pairs of facts make a dict -/
theorem FV.tb {H : Hp} {xs : List V} {T : Str → Sx} {ss : List Str} (aA : Addr) (hs : Srt ss) (hm : ∀ x, x ∈ ss ↔ T x ≠ allS) (r : RdDs H xs (ss.map (dF T))) :
    ∃ kvs : List (Key × V), xs.length = kvs.length ∧ (∀ (i : Nat) (k : Key) (v : V), kvs[i]? = some (k, v) → ∃ q, xs[i]? = some (.ref q) ∧ H q = some (.tup [kV k, v])) ∧ (kvs.map (·.1)).Nodup ∧ Tb aA H kvs ss T := by
  have go : ∀ (ss : List Str) (xs : List V), RdDs H xs (ss.map (dF T)) → ∃ kvs : List (Key × V), xs.length = kvs.length ∧ (∀ (i : Nat) (k : Key) (v : V), kvs[i]? = some (k, v) → ∃ q, xs[i]? = some (.ref q) ∧ H q = some (.tup [kV k, v])) ∧
      kvs.map (·.1) = ss.map Sum.inr ∧ ∀ x : Str, (valV kvs (Sum.inr x) = none ∧ ¬ x ∈ ss) ∨ (∃ v, valV kvs (Sum.inr x) = some v ∧ SH H v (T x) ∧ x ∈ ss) := by
    intro ss
    induction ss with
    | nil =>
      intro xs r
      have z := RdDs.nil_inv r
      subst z
      exact ⟨[], rfl, fun i k v e => by simp at e, rfl, fun x => .inl ⟨rfl, by simp⟩⟩
    | cons y ss ih =>
      intro xs r
      obtain ⟨x1, t1, rfl, h1, r⟩ := RdDs.cons_inv r
      obtain ⟨kvs, l1, l2, l3, l4⟩ := ih t1 r
      obtain ⟨q, zs, rfl, hq, rz⟩ := RdD.tup_inv h1
      obtain ⟨z1, t2, rfl, g1, rz⟩ := rz.cons_inv
      obtain ⟨z2, t3, rfl, g2, rz⟩ := rz.cons_inv
      have z := rz.nil_inv
      subst z
      obtain ⟨q2, ws, rfl, hq2, rw2⟩ := RdD.tup_inv g2
      obtain ⟨w1, t4, rfl, f1, rw2⟩ := rw2.cons_inv
      obtain ⟨w2, t5, rfl, f2, rw2⟩ := rw2.cons_inv
      have z := rw2.nil_inv
      subst z
      have e1 : w1 = vO (T y).1 := rdo_inv f1
      have e2 : w2 = vO (T y).2 := rdo_inv f2
      subst e1 e2
      rw [g1.str_inv] at hq
      refine ⟨(Sum.inr y, .ref q2) :: kvs, by simp [l1], fun i k v e => ?_, by simp [l3], fun x => ?_⟩
      · cases i with
        | zero => cases (Option.some.inj e); exact ⟨q, rfl, hq⟩
        | succ i =>
          obtain ⟨q', a, b⟩ := l2 i k v (by simpa using e)
          exact ⟨q', by simpa using a, b⟩
      · by_cases e : x = y
        · subst e
          exact .inr ⟨_, valV_pos rfl, ⟨q2, rfl, hq2⟩, List.mem_cons_self ..⟩
        · rw [valV_neg (fun z => e (Sum.inr.inj z).symm)]
          rcases l4 x with ⟨a, b⟩ | ⟨v, a, b, c⟩
          · exact .inl ⟨a, fun z => (List.mem_cons.mp z).elim e b⟩
          · exact .inr ⟨v, a, b, List.mem_cons_of_mem _ c⟩
  obtain ⟨kvs, l1, l2, l3, l4⟩ := go ss xs r
  refine ⟨kvs, l1, l2, ?_, ⟨l3, hs.nd, fun x => ?_⟩⟩
  · rw [l3]
    exact List.Pairwise.map _ (fun a b n z => n (Sum.inr.inj z)) hs.nd
  · rcases l4 x with ⟨a, b⟩ | ⟨v, a, b, c⟩
    · refine .inl ⟨a, ?_, b⟩
      exact Classical.byContradiction fun z => b ((hm x).mpr z)
    · exact .inr ⟨v, a, .inl b, c⟩
/-! ### comparing with ALL -/
section
variable {X : Cx}
end
/-! ### the promises of facts.py -/
def spFactsOf (aA : Addr) : Sp := fun vs H Q _ => ∃ (d : Addr) (kvs : List (Key × V)) (ks : List Str) (T : Str → Sx), vs = [.ref d] ∧ H d = some (.dK kvs) ∧ Tb aA H kvs ks T ∧ ks.length < 64 ∧ ∀ v H', FV H' v T → Same H H' → Q v H'
def mvO (o : Option Int) (n : Int) : Option Int := o.map (· + n)
def mvS (s : Sx) (n : Int) : Sx := (mvO s.1 n, mvO s.2 n)
/-- the stretch of the deed's name behind it -/
def behS (T : Str → Sx) : Deed → Sx
  | .put _ n => (some n, some n)
  | .copy _ y => T y
  | .add x n => mvS (T x) n
  | .read _ => allS
  | .tell x => T x
def behT (T : Str → Sx) (d : Deed) : Str → Sx := setT T (nameD d) (behS T d)
def behTs (T : Str → Sx) : List Deed → (Str → Sx) := fun ds => ds.foldl behT T
def spMoved (K : PySem.W.Frag) : Sp := fun vs H Q _ => ∃ (q : Addr) (s : Sx) (n : Int), vs = [.ref q, .int n] ∧ SqT K H q [vO s.1, vO s.2] ∧ ∀ v H', SH H' v (mvS s n) → Same H H' → Q v H'
def spStBehind (aA : Addr) : Sp := fun vs H Q _ => ∃ (d q : Addr) (kvs : List (Key × V)) (ks : List Str) (T : Str → Sx) (dd : Deed), vs = [.ref d, .ref q] ∧ H d = some (.dK kvs) ∧ Tb aA H kvs ks T ∧ H q = some (.tup (vDeed dd)) ∧ ∀ v H', SV aA H' v (behS T dd) → Same H H' → Q v H'
def spBehind : Sp := fun vs H Q _ => ∃ (fv : V) (p : Addr) (ws : List V) (ds : List Deed) (T : Str → Sx) (m : Nat), vs = [fv, .ref p] ∧ FV H fv T ∧ H p = some (.tup ws) ∧ RdDs H ws (ds.map dDeed) ∧ (∀ ss : List Str, (∀ x ∈ ss, T x ≠ allS) → ss.Nodup → ss.length ≤ m) ∧ m + ds.length < 64 ∧ ∀ v H', FV H' v (behTs T ds) → Same H H' → Q v H'
/-- the facts hold for worths -/
def holdsB (T : Str → Sx) (w : Str → Int) (ss : List Str) : Bool := ss.all fun x => liesB (w x) (T x).1 (T x).2
def spHolds : Sp := fun vs H Q _ => ∃ (fv : V) (d : Addr) (kvs : List (Key × V)) (w : Str → Int) (T : Str → Sx), vs = [fv, .ref d] ∧ FV H fv T ∧ H d = some (.dK kvs) ∧ DW kvs w ∧ (∀ x, T x ≠ allS → liesB (w x) (T x).1 (T x).2 = true) ∧ (∀ ss : List Str, (∀ x ∈ ss, T x ≠ allS) → ss.Nodup → ss.length ≤ 63) ∧ ∀ H', Same H H' → Q (.bl true) H'
end L2
namespace L2
open PySem PySem.Spec PyProof.Rows
theorem Tb.getD {aA : Addr} {H : Hp} {kvs : List (Key × V)} {ks : List Str} {T : Str → Sx} (h : Tb aA H kvs ks T) (x : Str) : ∃ v, (valV kvs (Sum.inr x)).getD (.ref aA) = v ∧ SV aA H v (T x) := by
  rcases h.val x with ⟨a, b, _⟩ | ⟨v, a, b, _⟩
  · exact ⟨_, by rw [a]; rfl, .inr ⟨rfl, b⟩⟩
  · exact ⟨v, by rw [a]; rfl, b⟩
end L2

set_option Elab.async false
set_option linter.all false
set_option maxRecDepth 100000
namespace L2
open PySem PySem.Spec PyProof.Rows
/-! ### zip of two tuples -/
section
variable {prog : Program} {w : World} {A : Around} {E : Value → Shared → Prop} {s : Shared}
theorem nx_tup {j t : Addr} {n : Nat} {its : Array Value} {x : Value} {Q : Value → Shared → Prop} (hj : s.heap.IsTupleIter j t n) (ht : s.heap.IsTuple t its) (hx : its[n]? = some x)
    (hQ : ∀ g, g.IsTupleIter j t (n + 1) → Heap.SameBut j s.heap g → Q x { s with heap := g }) : wpAny (model prog w) A (Builtin.SmallTypes.nextOf (.ref j)) Q E s := by
  obtain ⟨ob, eo, ec, ed⟩ := id hj
  obtain ⟨ot, et, _, k, ek⟩ := ht
  unfold Builtin.SmallTypes.nextOf
  refine wpAny_bind (wpAny_callSpecial?_slot (name := Str.ofString "__next__") hj.typeIs F.slot_tuple_iterator_next (wpAny_call_entry F.slot_tuple_iterator_next hj.typeIs F.entry_tuple_iterator_next ?_ (F.args_tuple_iterator_next_1 _)))
  show wpAny _ _ (field (.ref j) 0 >>= _) _ _ s
  refine wpAny_bind (wpAny_field eo ed (x := .ref t) rfl ?_)
  show wpAny _ _ (if (Value.ref t == Value.none) = true then _ else _) _ _ s
  refine (if_neg (c := (Value.ref t == Value.none) = true) Bool.false_ne_true) ▸ ?_
  show wpAny _ _ (field (.ref j) 1 >>= _) _ _ s
  refine wpAny_bind (wpAny_field eo ed (x := .int n 0) rfl (wpAny_bind (wpAny_seqItems et ek ?_)))
  simp only [hx, Int.toNat_natCast]
  refine wpAny_bind (wpAny_setField eo ed (by simp) (wpAny_pure ⟨x, rfl, wpAny_pure (hQ _ ⟨_, Heap.get?_update_self _ eo (Obj.isFreed_of_fields (Obj.data_mapFields ed _)), (Obj.cls_mapFields ..).trans ec, ?_⟩ (Heap.SameBut.update ..))⟩))
  rw [Obj.data_mapFields ed]; simp [rawInt]
theorem nx_tupE {j t : Addr} {n : Nat} {its : Array Value} {Q : Value → Shared → Prop} (ha : A.handled = none) (hj : s.heap.IsTupleIter j t n) (ht : s.heap.IsTuple t its) (hx : its[n]? = none)
    (hE : ∀ g e, Heap.ExtBut j s.heap g → (∃ o, g.get? e = some o ∧ o.cls = .type "StopIteration") → E (.ref e) { s with heap := g }) : wpAny (model prog w) A (Builtin.SmallTypes.nextOf (.ref j)) Q E s := by
  obtain ⟨ob, eo, ec, ed⟩ := id hj
  obtain ⟨ot, et, _, k, ek⟩ := ht
  unfold Builtin.SmallTypes.nextOf
  refine wpAny_bind (wpAny_callSpecial?_slot (name := Str.ofString "__next__") hj.typeIs F.slot_tuple_iterator_next (wpAny_call_entry F.slot_tuple_iterator_next hj.typeIs F.entry_tuple_iterator_next ?_ (F.args_tuple_iterator_next_1 _)))
  show wpAny _ _ (field (.ref j) 0 >>= _) _ _ s
  refine wpAny_bind (wpAny_field eo ed (x := .ref t) rfl ?_)
  show wpAny _ _ (if (Value.ref t == Value.none) = true then _ else _) _ _ s
  refine (if_neg (c := (Value.ref t == Value.none) = true) Bool.false_ne_true) ▸ ?_
  show wpAny _ _ (field (.ref j) 1 >>= _) _ _ s
  refine wpAny_bind (wpAny_field eo ed (x := .int n 0) rfl (wpAny_bind (wpAny_seqItems et ek ?_)))
  simp only [hx, Int.toNat_natCast]
  refine wpAny_bind (wpAny_rule (wpAny_bind (wpAny_setField eo ed (by simp) ?_)))
  show wpAny _ _ (newExc (.type "StopIteration") [] >>= fun _ => _) _ _ _
  refine wpAny_bind ?_
  simp only [newTuple, newExc]
  refine wpAny_bind (wpAny_newObj_type (wpAny_bind (m := firstArgMember _ _) (wpAny_of_eq (a := Value.none) (by first | rfl | (simp only [firstArgMember]; rfl)) (wpAny_newObj_type ?_ (by size_fits)))) (by size_fits))
  simp only [raiseNew]
  refine wpAny_bind (wpAny_handled (by
    first | rw [show A.in1.handled = none from ha] | rw [ha]
    exact wpAny_bind (wpAny_pure (wpAny_throw (hE _ _ (((Heap.SameBut.update ..).extBut.push _).push _) ⟨_, Heap.get?_push_size _ rfl, rfl⟩)))))
structure ZAp (z p q j k a b : Addr) : Prop where
  pz : p ≠ z
  qz : q ≠ z
  jz : j ≠ z
  kz : k ≠ z
  pq : p ≠ q
  pj : p ≠ j
  pk : p ≠ k
  qj : q ≠ j
  qk : q ≠ k
  jk : j ≠ k
  az : a ≠ z
  aq : a ≠ q
  aj : a ≠ j
  ak : a ≠ k
  bz : b ≠ z
  bq : b ≠ q
  bj : b ≠ j
  bk : b ≠ k
theorem tupleAt {h g : Heap} {a : Addr} {xs : Array Value} (x : h.IsTuple a xs) (k : ∀ o, h.get? a = some o → g.get? a = some o) : g.IsTuple a xs := by
  obtain ⟨o, e, r⟩ := x
  exact ⟨o, k o e, r⟩
theorem zt_item {z p q j k a b : Addr} {m n : Nat} {xs ys : Array Value} {x y u v : Value} {Q : Value → Shared → Prop} (D : ZAp z p q j k a b)
    (gz : IsZip s.heap z p q .none) (gp : IsPair s.heap p (.ref j) (.ref k)) (gq : IsPair s.heap q u v)
    (gj : s.heap.IsTupleIter j a m) (gk : s.heap.IsTupleIter k b n) (ga : s.heap.IsTuple a xs) (gb : s.heap.IsTuple b ys) (hx : xs[m]? = some x) (hy : ys[n]? = some y)
    (hQ : ∀ g, IsZip g z p q (rawInt s.heap.objs.size) → IsPair g q x y → g.IsTupleIter j a (m + 1) → g.IsTupleIter k b (n + 1) → IsPair g s.heap.objs.size x y → g.objs.size = s.heap.objs.size + 1 →
      (∀ c o, c ≠ z → c ≠ q → c ≠ j → c ≠ k → s.heap.get? c = some o → g.get? c = some o) → Q (.ref s.heap.objs.size) { s with heap := g }) :
    wpAny (model prog w) A (Builtin.«zip.__next__» ⟨[.ref z], []⟩) (fun fin s' => ∃ v, fin = .done (.ret v) ∧ Q v s') E s := by
  show wpAny _ _ (field (.ref z) 2 >>= fun _ => _) _ _ _
  refine wpAny_bind (wpAny_field gz rfl (x := .bool false) rfl ?_)
  show wpAny _ _ (field (.ref z) 3 >>= fun _ => _) _ _ _
  refine wpAny_bind (wpAny_field gz rfl (x := .ref p) rfl (wpAny_bind (wpAny_seqItems gp rfl ?_)))
  show wpAny _ _ (Builtin.SmallTypes.ownedTupleIsFree (.ref z) >>= fun _ => _) _ _ _
  refine wpAny_bind ?_
  unfold Builtin.SmallTypes.ownedTupleIsFree
  refine wpAny_bind (wpAny_field gz rfl (x := .none) rfl (wpAny_pure ?_))
  simp only [if_true]
  refine wpAny_bind (wpAny_rule (wpAny_bind (wpAny_field gz rfl (x := .ref q) rfl (wpAny_bind (wpAny_setField_rec gz (by simp) fun g1 gz1 t1 => ?_)))))
  replace gz1 : IsZip g1 z p q .ellipsis := gz1
  refine wpAny_bind ?_
  simp only [List.forIn_cons, List.forIn_nil, List.zipIdx_cons, List.zipIdx_nil]
  refine wpAny_bind (wpAny_bind (wpAny_onRaise ?_))
  show wpAny _ _ (Builtin.SmallTypes.nextOf (.ref j) >>= fun _ => _) _ _ _
  refine wpAny_bind (nx_tup (gj.extBut t1.extBut D.jz) (tupleAt ga fun o e => t1.extBut _ _ D.az e) hx fun g2 gj2 t2 => wpAny_pure ?_)
  have gq2 : IsPair g2 q u v := t2.extBut _ _ D.qj (t1.extBut _ _ D.qz gq)
  refine wpAny_bind (wpAny_seqItems gq2 rfl (wpAny_bind (wpAny_updateSeq_pair gq2 fun g3 gq3 t3 => ?_)))
  replace gq3 : IsPair g3 q x v := gq3
  refine wpAny_bind (wpAny_letGo (wpAny_pure (wpAny_bind (wpAny_bind (wpAny_onRaise ?_)))))
  show wpAny _ _ (Builtin.SmallTypes.nextOf (.ref k) >>= fun _ => _) _ _ _
  refine wpAny_bind (nx_tup (((gk.extBut t1.extBut D.kz).extBut t2.extBut D.jk.symm).extBut t3.extBut D.qk.symm) (tupleAt gb fun o e => t3.extBut _ _ D.bq (t2.extBut _ _ D.bj (t1.extBut _ _ D.bz e))) hy fun g4 gk4 t4 => wpAny_pure ?_)
  have gq4 : IsPair g4 q x v := t4.extBut _ _ D.qk gq3
  refine wpAny_bind (wpAny_seqItems gq4 rfl (wpAny_bind (wpAny_updateSeq_pair gq4 fun g5 gq5 t5 => ?_)))
  replace gq5 : IsPair g5 q x y := gq5
  refine wpAny_bind (wpAny_letGo (wpAny_pure (wpAny_pure (wpAny_bind (wpAny_seqItems gq5 rfl (wpAny_bind (wpAny_newTuple ?_)))))))
  have ez : g5.objs.size = s.heap.objs.size := by rw [t5.1, t4.1, t3.1, t2.1, t1.1]
  have gz5 : IsZip g5 z p q .ellipsis := t5.extBut _ _ D.qz.symm (t4.extBut _ _ D.kz.symm (t3.extBut _ _ D.qz.symm (t2.extBut _ _ D.jz.symm gz1)))
  have k5 : ∀ c o, c ≠ z → c ≠ q → c ≠ j → c ≠ k → s.heap.get? c = some o → g5.get? c = some o := fun c o c1 c2 c3 c4 e => t5.extBut _ _ c2 (t4.extBut _ _ c4 (t3.extBut _ _ c2 (t2.extBut _ _ c3 (t1.extBut _ _ c1 e))))
  have gj5 : g5.IsTupleIter j a (m + 1) := ((gj2.extBut t3.extBut D.qj.symm).extBut t4.extBut D.jk).extBut t5.extBut D.qj.symm
  have gk5 : g5.IsTupleIter k b (n + 1) := gk4.extBut t5.extBut D.qk.symm
  have lz : z < g5.objs.size := Heap.lt_size gz5
  show wpAny _ _ (Builtin.SmallTypes.ownedTupleHandOut (.ref z) (.ref g5.objs.size) >>= fun _ => _) _ _ _
  refine wpAny_bind ?_
  unfold Builtin.SmallTypes.ownedTupleHandOut
  have gz6 : IsZip (g5.push { cls := .type "tuple", data := .seq #[x, y] }) z p q .ellipsis := Heap.get?_push_of_some _ gz5
  refine wpAny_bind (wpAny_setField_rec gz6 (by simp) fun g7 gz7 t7 => ?_)
  replace gz7 : IsZip g7 z p q (rawInt g5.objs.size) := gz7
  refine wpAny_setField_rec gz7 (by simp) fun g8 gz8 t8 => ?_
  replace gz8 : IsZip g8 z p q (rawInt g5.objs.size) := gz8
  have up : ∀ c o, c ≠ z → g5.get? c = some o → g8.get? c = some o := fun c o c1 e => t8.extBut _ _ c1 (t7.extBut _ _ c1 (Heap.get?_push_of_some _ e))
  have gT : IsPair g8 g5.objs.size x y := t8.extBut _ _ (Nat.ne_of_gt lz) (t7.extBut _ _ (Nat.ne_of_gt lz) (Heap.get?_push_size _ rfl))
  have e8 : g8.objs.size = g5.objs.size + 1 := by rw [t8.1, t7.1, Heap.size_push]
  rw [ez] at gz8 gT e8
  refine wpAny_pure ⟨_, rfl, ?_⟩
  show Q (.ref g5.objs.size) _
  rw [ez]
  refine hQ g8 gz8 (up _ _ D.qz gq5) ?_ ?_ gT e8 fun c o c1 c2 c3 c4 e => up c o c1 (k5 c o c1 c2 c3 c4 e)
  · obtain ⟨o, e, r⟩ := gj5
    exact ⟨o, up _ _ D.jz e, r⟩
  · obtain ⟨o, e, r⟩ := gk5
    exact ⟨o, up _ _ D.kz e, r⟩
theorem zt_end {z p q j k a b : Addr} {m n : Nat} {xs ys : Array Value} {u v : Value} {Q : Fin → Shared → Prop} (ha : A.handled = none) (D : ZAp z p q j k a b)
    (gz : IsZip s.heap z p q .none) (gp : IsPair s.heap p (.ref j) (.ref k)) (gq : IsPair s.heap q u v)
    (gj : s.heap.IsTupleIter j a m) (gk : s.heap.IsTupleIter k b n) (ga : s.heap.IsTuple a xs) (gb : s.heap.IsTuple b ys) (hend : xs[m]? = none ∨ ys[n]? = none)
    (hE : ∀ g e, (∀ c o, c ≠ z → c ≠ q → c ≠ j → c ≠ k → s.heap.get? c = some o → g.get? c = some o) → (∃ o, g.get? e = some o ∧ o.cls = .type "StopIteration") → E (.ref e) { s with heap := g }) :
    wpAny (model prog w) A (Builtin.«zip.__next__» ⟨[.ref z], []⟩) Q E s := by
  show wpAny _ _ (field (.ref z) 2 >>= fun _ => _) _ _ _
  refine wpAny_bind (wpAny_field gz rfl (x := .bool false) rfl ?_)
  show wpAny _ _ (field (.ref z) 3 >>= fun _ => _) _ _ _
  refine wpAny_bind (wpAny_field gz rfl (x := .ref p) rfl (wpAny_bind (wpAny_seqItems gp rfl ?_)))
  show wpAny _ _ (Builtin.SmallTypes.ownedTupleIsFree (.ref z) >>= fun _ => _) _ _ _
  refine wpAny_bind ?_
  unfold Builtin.SmallTypes.ownedTupleIsFree
  refine wpAny_bind (wpAny_field gz rfl (x := .none) rfl (wpAny_pure ?_))
  simp only [if_true]
  refine wpAny_bind (wpAny_rule (wpAny_bind (wpAny_field gz rfl (x := .ref q) rfl (wpAny_bind (wpAny_setField_rec gz (by simp) fun g1 gz1 t1 => ?_)))))
  replace gz1 : IsZip g1 z p q .ellipsis := gz1
  refine wpAny_bind ?_
  simp only [List.forIn_cons, List.forIn_nil, List.zipIdx_cons, List.zipIdx_nil]
  refine wpAny_bind (wpAny_bind (wpAny_onRaise ?_))
  show wpAny _ _ (Builtin.SmallTypes.nextOf (.ref j) >>= fun _ => _) _ _ _
  cases hx : xs[m]? with
  | none =>
    refine wpAny_bind (nx_tupE ha (gj.extBut t1.extBut D.jz) (tupleAt ga fun o e => t1.extBut _ _ D.az e) hx fun g2 e t2 he => ?_)
    obtain ⟨oe, eoe, ce⟩ := he
    have gz2 : IsZip g2 z p q .ellipsis := t2 _ _ D.jz.symm gz1
    have ne : e ≠ z := fun x => by subst x; rw [gz2] at eoe; cases eoe; simp at ce
    exact wpAny_setField_rec gz2 (by simp) fun g3 _ t3 => hE g3 e (fun c o c1 _ c3 _ x => t3.extBut _ _ c1 (t2 _ _ c3 (t1.extBut _ _ c1 x))) ⟨oe, t3.extBut _ _ ne eoe, ce⟩
  | some x =>
    have hy : ys[n]? = none := hend.elim (fun h => by rw [hx] at h; cases h) id
    refine wpAny_bind (nx_tup (gj.extBut t1.extBut D.jz) (tupleAt ga fun o e => t1.extBut _ _ D.az e) hx fun g2 gj2 t2 => wpAny_pure ?_)
    have gq2 : IsPair g2 q u v := t2.extBut _ _ D.qj (t1.extBut _ _ D.qz gq)
    refine wpAny_bind (wpAny_seqItems gq2 rfl (wpAny_bind (wpAny_updateSeq_pair gq2 fun g3 gq3 t3 => ?_)))
    refine wpAny_bind (wpAny_letGo (wpAny_pure (wpAny_bind (wpAny_bind (wpAny_onRaise ?_)))))
    show wpAny _ _ (Builtin.SmallTypes.nextOf (.ref k) >>= fun _ => _) _ _ _
    refine wpAny_bind (nx_tupE ha (((gk.extBut t1.extBut D.kz).extBut t2.extBut D.jk.symm).extBut t3.extBut D.qk.symm) (tupleAt gb fun o e => t3.extBut _ _ D.bq (t2.extBut _ _ D.bj (t1.extBut _ _ D.bz e))) hy fun g4 e t4 he => ?_)
    obtain ⟨oe, eoe, ce⟩ := he
    have gz4 : IsZip g4 z p q .ellipsis := t4 _ _ D.kz.symm (t3.extBut _ _ D.qz.symm (t2.extBut _ _ D.jz.symm gz1))
    have ne : e ≠ z := fun x => by subst x; rw [gz4] at eoe; cases eoe; simp at ce
    exact wpAny_setField_rec gz4 (by simp) fun g5 _ t5 => hE g5 e (fun c o c1 c2 c3 c4 x => t5.extBut _ _ c1 (t4 _ _ c4 (t3.extBut _ _ c2 (t2.extBut _ _ c3 (t1.extBut _ _ c1 x))))) ⟨oe, t5.extBut _ _ ne eoe, ce⟩
theorem zt_next {z p q j k a b : Addr} {m n : Nat} {xs ys : Array Value} {x y u v : Value} {Q : Option Value → Shared → Prop} (D : ZAp z p q j k a b)
    (gz : IsZip s.heap z p q .none) (gp : IsPair s.heap p (.ref j) (.ref k)) (gq : IsPair s.heap q u v)
    (gj : s.heap.IsTupleIter j a m) (gk : s.heap.IsTupleIter k b n) (ga : s.heap.IsTuple a xs) (gb : s.heap.IsTuple b ys) (hx : xs[m]? = some x) (hy : ys[n]? = some y)
    (hQ : ∀ g, IsZip g z p q (rawInt s.heap.objs.size) → IsPair g q x y → g.IsTupleIter j a (m + 1) → g.IsTupleIter k b (n + 1) → IsPair g s.heap.objs.size x y → g.objs.size = s.heap.objs.size + 1 →
      (∀ c o, c ≠ z → c ≠ q → c ≠ j → c ≠ k → s.heap.get? c = some o → g.get? c = some o) → Q (some (.ref s.heap.objs.size)) { s with heap := g }) :
    wpAny (model prog w) A (pyNext (.ref z)) Q E s := by
  have ty : s.TypeIs (.ref z) "zip" := ⟨_, gz, rfl⟩
  unfold pyNext
  exact wpAny_bind (wpAny_attempt (wpAny_callSpecial?_slot (name := Str.ofString "__next__") ty F.slot_zip_next (wpAny_call_entry F.slot_zip_next ty F.entry_zip_next
      (zt_item D gz gp gq gj gk ga gb hx hy fun g a1 a2 a3 a4 a5 a6 a7 => wpAny_pure (hQ g a1 a2 a3 a4 a5 a6 a7)) (F.args_zip_next_1 _))))
theorem zt_stop {z p q j k a b : Addr} {m n : Nat} {xs ys : Array Value} {u v : Value} {Q : Option Value → Shared → Prop} (ha : A.handled = none) (D : ZAp z p q j k a b)
    (gz : IsZip s.heap z p q .none) (gp : IsPair s.heap p (.ref j) (.ref k)) (gq : IsPair s.heap q u v)
    (gj : s.heap.IsTupleIter j a m) (gk : s.heap.IsTupleIter k b n) (ga : s.heap.IsTuple a xs) (gb : s.heap.IsTuple b ys) (hend : xs[m]? = none ∨ ys[n]? = none)
    (hQ : ∀ g, (∀ c o, c ≠ z → c ≠ q → c ≠ j → c ≠ k → s.heap.get? c = some o → g.get? c = some o) → Q none { s with heap := g }) : wpAny (model prog w) A (pyNext (.ref z)) Q E s := by
  have ty : s.TypeIs (.ref z) "zip" := ⟨_, gz, rfl⟩
  unfold pyNext
  refine wpAny_bind (wpAny_attempt (wpAny_callSpecial?_slot (name := Str.ofString "__next__") ty F.slot_zip_next (wpAny_call_entry F.slot_zip_next ty F.entry_zip_next
      (zt_end ha D gz gp gq gj gk ga gb hend fun g e hk he => ?_) (F.args_zip_next_1 _))))
  obtain ⟨o, eo, ec⟩ := he
  exact wpAny_bind (wpAny_isInstance (T := "StopIteration") (b := true) ⟨o, eo, ec⟩ isSubtype_stop (wpAny_pure (hQ _ hk)))
abbrev zg1 (h : Heap) (a : Addr) : Heap := h.push { cls := .type "tuple_iterator", data := .fields #[.ref a, .int 0 0] }
abbrev zg2 (h : Heap) (a b : Addr) : Heap := (zg1 h a).push { cls := .type "tuple_iterator", data := .fields #[.ref b, .int 0 0] }
abbrev zg3 (h : Heap) (a b : Addr) : Heap := (zg2 h a b).push { cls := .type "tuple", data := .seq #[.ref h.objs.size, .ref (zg1 h a).objs.size] }
abbrev zg4 (h : Heap) (a b : Addr) : Heap := (zg3 h a b).push { cls := .type "tuple", data := .seq #[.none, .none] }
abbrev zg5 (h : Heap) (a b : Addr) : Heap := (zg4 h a b).push { cls := .type "zip", data := .fields #[.none, .bool false, .bool false, .ref (zg2 h a b).objs.size, .ref (zg3 h a b).objs.size] }
theorem zt_new (a b : Addr) (xs ys : Array Value) : Meets (Builtin.«zip.__new__» ⟨[.type "zip", .ref a, .ref b], []⟩) (fun _ R s => s.heap.IsTuple a xs ∧ s.heap.IsTuple b ys ∧
      R (.ok (.ret (.ref (zg4 s.heap a b).objs.size))) { s with heap := zg5 s.heap a b }) :=
  .of_wp fun P w' A' R' s' hh => by
    obtain ⟨hp, g, d, tk, os⟩ := s'
    obtain ⟨ga, gb, hh⟩ := hh
    have hsub := sub_zip
    have la : Heap.IsTuple (Shared.heap ⟨hp, g, d, tk, os⟩) a xs := ga
    have lb : Heap.IsTuple (Shared.heap ⟨zg1 hp a, g, d, tk, os⟩) b ys := tupleAt gb fun o e => Heap.get?_push_of_some _ e
    wp_walk using wpAny_pyIter_tuple la, wpAny_pyIter_tuple lb
    exact ⟨_, rfl, hh⟩
theorem zt_call {a b : Addr} {xs ys : Array Value} {Q : Value → Shared → Prop} (ga : s.heap.IsTuple a xs) (gb : s.heap.IsTuple b ys)
    (h : ∀ g, IsZip g (s.heap.objs.size + 4) (s.heap.objs.size + 2) (s.heap.objs.size + 3) .none → IsPair g (s.heap.objs.size + 2) (.ref s.heap.objs.size) (.ref (s.heap.objs.size + 1)) →
      IsPair g (s.heap.objs.size + 3) .none .none → g.IsTupleIter s.heap.objs.size a 0 → g.IsTupleIter (s.heap.objs.size + 1) b 0 →
      (∀ c o, s.heap.get? c = some o → g.get? c = some o) → Q (.ref (s.heap.objs.size + 4)) { s with heap := g }) :
    wpAny (model prog w) A (call (.type "zip") [.ref a, .ref b]) Q E s := by
  refine callType_new F.called_zip (by decide) (F.typeCall_zip_2 _ _) (F.newCall_zip_2 _ _) (fun obj => F.args_object_init_3 obj _ _) F.entry_zip_new (zt_new a b xs ys) ⟨ga, gb, ?_⟩
  have z1 : (zg1 s.heap a).objs.size = s.heap.objs.size + 1 := Heap.size_push ..
  have z2 : (zg2 s.heap a b).objs.size = s.heap.objs.size + 2 := by rw [Heap.size_push, z1]
  have z3 : (zg3 s.heap a b).objs.size = s.heap.objs.size + 3 := by rw [Heap.size_push, z2]
  have z4 : (zg4 s.heap a b).objs.size = s.heap.objs.size + 4 := by rw [Heap.size_push, z3]
  have up : ∀ {h : Heap} {c : Addr} {o o' : Obj}, h.get? c = some o → (h.push o').get? c = some o := fun e => Heap.get?_push_of_some _ e
  have q5 : (zg5 s.heap a b).get? (zg4 s.heap a b).objs.size = some _ := Heap.get?_push_size _ rfl
  have q4 : (zg5 s.heap a b).get? (zg3 s.heap a b).objs.size = some _ := up (Heap.get?_push_size _ rfl)
  have q3 : (zg5 s.heap a b).get? (zg2 s.heap a b).objs.size = some _ := up (up (Heap.get?_push_size _ rfl))
  have q2 : (zg5 s.heap a b).get? (zg1 s.heap a).objs.size = some _ := up (up (up (Heap.get?_push_size _ rfl)))
  have q1 : (zg5 s.heap a b).get? s.heap.objs.size = some _ := up (up (up (up (Heap.get?_push_size _ rfl))))
  show _ ∧ _
  rw [z2, z3, z4] at q5
  rw [z1, z2] at q3
  rw [z3] at q4
  rw [z1] at q2
  rw [z4]
  exact ⟨⟨_, q5, rfl⟩, h _ q5 q3 q4 ⟨_, q1, rfl, rfl⟩ ⟨_, q2, rfl, rfl⟩ fun c o x => up (up (up (up (up x))))⟩
end
section
variable {X : Cx} {pins : List (Addr × Obj)} {σ : List (Option V)} {H H' : Hp} {s : Shared} {h' : Heap}
/-- several untracked records of ours have turned -/
theorem Inv.turnedL {t' : Nat} {fp : List Addr} (I : Inv X pins σ H s) (k : ∀ b o, b ∉ fp → s.heap.get? b = some o → h'.get? b = some o) (f : ∀ b ∈ fp, FpOk X pins H b) : Inv X pins σ H { s with heap := h', toks := t' } := by
  have nit : ∀ b u, H b = some u → b ∉ fp := fun b u e z => by rw [(f b z).1] at e; cases e
  refine I.step (g' := s.gens) (d' := s.drawn) (ch := fp) (fun b hb => ?_) (fun b o _ _ hc e _ => k b o hc e) (fun b o _ _ hc e _ => ⟨o.slots, k b o hc e⟩) (fun _ _ _ _ n => n)
    (fun b o hc e => ⟨o, k b o hc e⟩) (fun _ _ e => e) (fun _ _ _ e => e) (fun b ps e => ⟨#[], by rw [e]; simp⟩) (fun m hm => ?_) (fun b u e => ?_) I.bare
  · obtain ⟨f0, f1, f2, f3, f4, f5⟩ := f b hb
    exact ⟨f3, f1, f4, f5⟩
  · obtain ⟨o, es, ep, ho, r⟩ := hm
    exact ⟨o, es, ep, k _ o (fun z => (f _ z).2.1 rfl) ho, r⟩
  · refine (I.hok b u e).stay (fun c v hc q => k c v ?_ q) (fun _ q => q) fun _ _ q => q
    rcases hc with z | z
    · rw [z]; exact nit b u e
    · exact nit c _ z
/-- pairs of two tuples -/
def Itz (K : PySem.W.Frag) (a b : Addr) : It :=
  ⟨fun i H => ∃ xs ys x y, SqT K H a xs ∧ SqT K H b ys ∧ xs[i]? = some x ∧ ys[i]? = some y,
   fun i H v H' => ∃ t x y, v = .ref t ∧ H t = none ∧ H' = upd H t (.tup [x, y]) ∧ ∀ xs ys, SqT K H a xs → SqT K H b ys → xs[i]? = some x ∧ ys[i]? = some y,
   fun i H => ∃ xs ys, SqT K H a xs ∧ SqT K H b ys ∧ (xs.length ≤ i ∨ ys.length ≤ i)⟩
theorem turn_zip {P : Program} {w : World} {K : PySem.W.Frag} {elts : List Expr} {kk : Nat} {pos : Pos} (a b z p q j k : Addr) (D : ZAp z p q j k a b) :
    Turn P w K (.Tuple elts kk pos) (Itz K a b) [z, p, q, j, k] z (fun i h => IsZip h z p q .none ∧ IsPair h p (.ref j) (.ref k) ∧ (∃ u v, IsPair h q u v) ∧ h.IsTupleIter j a i ∧ h.IsTupleIter k b i) where
  mem := by simp
  obj := fun i h st c hc => by
    obtain ⟨gz, gp, ⟨u, v, gq⟩, ⟨oj, ej, cj, dj⟩, ⟨ok, ek, ck, dk⟩⟩ := st
    simp only [List.mem_cons, List.not_mem_nil, or_false] at hc
    rcases hc with rfl | rfl | rfl | rfl | rfl
    · exact ⟨_, gz, fun v e => by cases e⟩
    · exact ⟨_, gp, fun v e => by cases e⟩
    · exact ⟨_, gq, fun v e => by cases e⟩
    · exact ⟨oj, ej, fun v e => by rw [dj] at e; cases e⟩
    · exact ⟨ok, ek, fun v e => by rw [dk] at e; cases e⟩
  keep := fun i h g st kp => by
    obtain ⟨gz, gp, ⟨u, v, gq⟩, ⟨oj, ej, rj⟩, ⟨ok, ek, rk⟩⟩ := st
    exact ⟨kp z (by simp) _ gz, kp p (by simp) _ gp, ⟨u, v, kp q (by simp) _ gq⟩, ⟨oj, kp j (by simp) _ ej, rj⟩, ⟨ok, kp k (by simp) _ ek, rk⟩⟩
  item := by
    intro X hP hw hK hc i pins s σ H E I hf st hg
    subst hP hw hK
    obtain ⟨gz, gp, ⟨u, v, gq⟩, gj, gk⟩ := st
    obtain ⟨xs, ys, x, y, ha, hb, hx, hy⟩ := hg
    obtain ⟨is, ra, pa, _⟩ := I.tuple ha
    obtain ⟨js, rb, pb, _⟩ := I.tuple hb
    obtain ⟨xv, hxv, rx⟩ := ra.get hx
    obtain ⟨yv, hyv, ry⟩ := rb.get hy
    have sz : ∀ c ∈ [z, p, q, j, k], c ≠ s.heap.objs.size := fun c hc e => by
      subst e
      simp only [List.mem_cons, List.not_mem_nil, or_false] at hc
      rcases hc with e | e | e | e | e
      · exact absurd (Heap.lt_size gz) (by rw [← e]; exact Nat.lt_irrefl _)
      · exact absurd (Heap.lt_size gp) (by rw [← e]; exact Nat.lt_irrefl _)
      · exact absurd (Heap.lt_size gq) (by rw [← e]; exact Nat.lt_irrefl _)
      · obtain ⟨oj, ej, _⟩ := gj
        exact absurd (Heap.lt_size ej) (by rw [← e]; exact Nat.lt_irrefl _)
      · obtain ⟨ok, ek, _⟩ := gk
        exact absurd (Heap.lt_size ek) (by rw [← e]; exact Nat.lt_irrefl _)
    refine zt_next D gz gp gq gj gk (show s.heap.IsTuple a is.toArray from pa) (show s.heap.IsTuple b js.toArray from pb) (x := xv) (y := yv) (by simpa using hxv) (by simpa using hyv) fun g a1 a2 a3 a4 a5 a6 hk => ?_
    refine ⟨.ref s.heap.objs.size, rfl, wpAny_letOwnedTupleGo_zip a1 fun g' gz' sb => ?_⟩
    have fr := I.hok.fresh (a := s.heap.objs.size) (Nat.le_refl _)
    have I1 : Inv X pins σ (upd H s.heap.objs.size (.tup [x, y])) { s with heap := s.heap.push { cls := .type "tuple", data := .seq #[xv, yv] }, toks := s.toks } :=
      I.laid (fun _ _ e => Heap.get?_push_of_some _ e) (Nat.le_refl _) ⟨by show 2 ≤ sizeLine; decide, [xv, yv], .cons rx (.cons ry .nil), by first | exact IsTup.new _ _ | exact ⟨_, Heap.get?_push_size _ rfl, rfl, _, rfl, rfl⟩⟩
    have f1 : ∀ c ∈ [z, p, q, j, k], FpOk X pins (upd H s.heap.objs.size (.tup [x, y])) c := fun c hc => by
      obtain ⟨f0, fr'⟩ := hf c hc
      exact ⟨by rw [upd_ne (sz c hc)]; exact f0, fr'⟩
    have I2 : Inv X pins σ (upd H s.heap.objs.size (.tup [x, y])) { s with heap := g', toks := s.toks } := Inv.turnedL (s := { s with heap := s.heap.push { cls := .type "tuple", data := .seq #[xv, yv] }, toks := s.toks }) (fp := [z, p, q, j, k]) (h' := g') (t' := s.toks) I1 (fun c o hc e => by
      simp only [List.mem_cons, List.not_mem_nil, or_false, not_or] at hc
      refine sb.extBut _ _ hc.1 ?_
      rcases Heap.get?_push_cases e with ⟨rfl, rfl⟩ | e
      · exact a5
      · exact hk c o hc.1 hc.2.2.1 hc.2.2.2.1 hc.2.2.2.2 e) f1
    refine ⟨.ref s.heap.objs.size, _, I2, rfl, ⟨_, x, y, rfl, fr, rfl, fun xs' ys' h1 h2 => ?_⟩, ⟨gz', sb.extBut _ _ D.pz (hk _ _ D.pz D.pq D.pj D.pk gp), ⟨xv, yv, sb.extBut _ _ D.qz a2⟩, a3.extBut sb.extBut D.jz, a4.extBut sb.extBut D.kz⟩, fun c hc => (f1 c hc).1⟩
    rw [I.tuple_inj h1 ha, I.tuple_inj h2 hb]
    exact ⟨hx, hy⟩
  done := by
    intro X hP hw hK hc i pins s σ H E I hf st hg
    subst hP hw hK
    obtain ⟨gz, gp, ⟨u, v, gq⟩, gj, gk⟩ := st
    obtain ⟨xs, ys, ha, hb, hl⟩ := hg
    obtain ⟨is, ra, pa, _⟩ := I.tuple ha
    obtain ⟨js, rb, pb, _⟩ := I.tuple hb
    have la := ra.length
    have lb := rb.length
    have he : is.toArray[i]? = none ∨ js.toArray[i]? = none := by
      rcases hl with h | h
      · exact .inl (by simp; omega)
      · exact .inr (by simp; omega)
    exact zt_stop (I.ok.hd hc) D gz gp gq gj gk (show s.heap.IsTuple a is.toArray from pa) (show s.heap.IsTuple b js.toArray from pb) he fun g hk => ⟨rfl, I.turnedL (fp := [z, p, q, j, k]) (t' := s.toks) (fun c o hc e => by
      simp only [List.mem_cons, List.not_mem_nil, or_false, not_or] at hc
      exact hk c o hc.1 hc.2.2.1 hc.2.2.2.1 hc.2.2.2.2 e) hf⟩
  self := fun _ _ _ _ _ st h => wpAny_pyIter_zip st.1 h
theorem zap {N a b : Nat} (ha : a < N) (hb : b < N) : ZAp (N + 4 : Nat) (N + 2 : Nat) (N + 3 : Nat) N (N + 1 : Nat) a b :=
  have ne : ∀ {u v : Nat}, u < v → ¬ (u = v) := fun h e => by omega
  have ne' : ∀ {u v : Nat}, v < u → ¬ (u = v) := fun h e => by omega
  ⟨ne (by omega), ne (by omega), ne (by omega), ne (by omega), ne (by omega), ne' (by omega), ne' (by omega), ne' (by omega), ne' (by omega), ne (by omega), ne (by omega), ne (by omega), ne (by omega), ne (by omega), ne (by omega), ne (by omega), ne (by omega), ne (by omega)⟩
theorem bt_zip : bootBuiltins "zip" = some (.type "zip") := by decide +kernel
def iZip (K : PySem.W.Frag) (ta : TA) : TI := fun σ H R => ta σ H fun vs H1 => ∃ a b, vs = [.ref a, .ref b] ∧ (∃ xs, SqT K H1 a xs) ∧ (∃ ys, SqT K H1 b ys) ∧ R (Itz K a b) H1
theorem pi_zip {a b : Expr} {ta : TA} {p pos tp : Pos} {elts : List Expr} {kk : Nat} (hg : Gl X "zip") (hm : X.mg "zip" = none) (ha : PA X [a, b] ta) (hs : starEach [a, b] X.env = [(false, eval a X.env), (false, eval b X.env)] := by rfl) (hs2 : starEach [b] X.env = [(false, eval b X.env)] := by rfl) :
    PI X (.Tuple elts kk tp) (.Call (.Name "zip" p) [a, b] [] pos) (iZip X.K ta) := by
  intro pins s σ H R I h
  refine Call_ (ld_blt I hg hm bt_zip (PyProof.Rows.callWith_type1 (thn (ha pos pins s σ H _ I h) fun us s1 ⟨vs, H1, I1, r1, q1⟩ => ?_) (by rw [hs, hs2]) (by rw [hs2]; rfl)))
  obtain ⟨x, y, e, ⟨xs, hx⟩, ⟨ys, hy⟩, q⟩ := q1
  subst e
  cases r1 with
  | cons r rr =>
    cases rr with
    | cons r' rr =>
      cases rr
      cases r
      cases r'
      obtain ⟨is, rx, px, _⟩ := I1.tuple hx
      obtain ⟨js, ry, py, _⟩ := I1.tuple hy
      have lx : x < s1.heap.objs.size := px.lt
      have ly : y < s1.heap.objs.size := py.lt
      refine zt_call (show s1.heap.IsTuple x is.toArray from px) (show s1.heap.IsTuple y js.toArray from py) fun g gz gp gq gj gk up => ?_
      refine wpAny_pyIter_zip gz ?_
      have I2 : Inv X pins σ H1 { s1 with heap := g } := I1.kept (t' := s1.toks) up
      refine ⟨_, [s1.heap.objs.size + 4, s1.heap.objs.size + 2, s1.heap.objs.size + 3, s1.heap.objs.size, s1.heap.objs.size + 1], _, Itz X.K x y, H1, rfl, I2, turn_zip x y _ _ _ _ _ ?_, ⟨gz, gp, ⟨_, _, gq⟩, gj, gk⟩, fun c hc => ?_, q⟩
      · exact zap lx ly
      · have le : s1.heap.objs.size ≤ c := by
          simp only [List.mem_cons, List.not_mem_nil, or_false] at hc
          rcases hc with rfl | rfl | rfl | rfl | rfl
          · exact Nat.le_add_right _ _
          · exact Nat.le_add_right _ _
          · exact Nat.le_add_right _ _
          · exact Nat.le_refl _
          · exact Nat.le_add_right _ _
        exact I1.fpOk le (I1.hok.fresh le)
/-- a list of a zip's pairs -/
theorem lc_zip {K : PySem.W.Frag} {a b acc : Addr} {xs ys : List V} {n : Nat} {js : List Nat} {g : TG} {ct : TT} {te : TE} {σ : St} {H1 : Hp} {Q : VK} (Pv : Nat → List V → St → Hp → Prop) (h0 : Pv 0 [] (blk n js σ) (upd H1 acc (.lst [])))
    (hl : ∀ i zs τ H, i ≤ min xs.length ys.length → Pv i zs τ H → SqT K H a xs ∧ SqT K H b ys ∧ H acc = some (.lst zs) ∧ zs.length < sizeLine)
    (hs : ∀ i x y zs τ H t, xs[i]? = some x → ys[i]? = some y → H t = none → Pv i zs τ H → g (.ref t) τ (upd H t (.tup [x, y])) fun τ1 H4 => ct τ1 H4 fun b H5 => if b = true then te τ1 H5 fun v H6 => H6 acc = some (.lst zs) ∧ Pv (i + 1) (zs ++ [v]) τ1 (upd H6 acc (.lst (zs ++ [v]))) else Pv (i + 1) zs τ1 H5)
    (hd : ∀ zs τ H, Pv (min xs.length ys.length) zs τ H → Q (.ref acc) H) :
    LcG (Itz K a b) n js g ct te acc σ H1 Q := by
  refine ⟨fun i m zs τ H => m = min xs.length ys.length - i ∧ i ≤ min xs.length ys.length ∧ Pv i zs τ H, ⟨min xs.length ys.length, by simp, Nat.zero_le _, h0⟩, ?_⟩
  rintro i m zs τ H ⟨rfl, hi, p⟩
  obtain ⟨qa, qb, q2, q3⟩ := hl i zs τ H hi p
  refine ⟨q2, q3, ?_⟩
  by_cases hlt : i < min xs.length ys.length
  · have l1 : i < xs.length := by omega
    have l2 : i < ys.length := by omega
    refine .inr ⟨⟨xs, ys, xs[i], ys[i], qa, qb, by simp [l1], by simp [l2]⟩, Pv (i + 1), fun zs' τ' H' p' => ⟨min xs.length ys.length - (i + 1), by omega, rfl, hlt, p'⟩, fun v H' y => ?_⟩
    obtain ⟨t, x, y, rfl, ht, rfl, h⟩ := y
    obtain ⟨h1, h2⟩ := h xs ys qa qb
    exact hs i x y zs τ H t h1 h2 ht p
  · have e : i = min xs.length ys.length := by omega
    subst e
    refine .inl ⟨⟨xs, ys, qa, qb, ?_⟩, hd zs τ H p⟩
    rcases Nat.le_total xs.length ys.length with h | h
    · exact .inl (by omega)
    · exact .inr (by omega)
end
end L2

set_option Elab.async false
set_option linter.all false
set_option maxRecDepth 100000
namespace L2
open PySem PySem.Spec PyProof.Rows
/-! ### a module's dict from texts to tuples -/
structure TabG (K : PySem.W.Frag) (mg : Str → Option Value) (nm : Str) (a : Addr) (D : List (Str × Addr)) : Prop where
  mg_ : mg nm = some (.ref a)
  lk : ∃ es ep, K.lookup a = some ⟨.type "dict", none, .dict es ep, #[]⟩ ∧ KTD.Rows (fun d v => v = Value.ref d) es.toList D
section
variable {prog : Program} {w : World} {A : Around} {E : Value → Shared → Prop} {s : Shared}
theorem tab_dget {a d : Addr} {o : Obj} {es : Array DictEntry} {ep : Nat} {k : Str} {t : Tok} {D : List (Str × Addr)} {Q : Option Value → Shared → Prop} (ho : s.heap.get? a = some o) (hd : o.data = .dict es ep)
    (hr : KTD.Rows (fun d v => v = Value.ref d) es.toList D) (ha : KTD.datumAt k D = some d) (q : Q (some (.ref d)) { s with toks := s.toks + 1 }) : wpAny (model prog w) A (dictGet a (.str k t)) Q E s := by
  unfold dictGet
  try with_reducible refine wpAny_holding ?_
  refine wpAny_bind (wpAny_pyHash_str (wpAny_bind (KTD.kt_dictFind_strs (s := { s with toks := s.toks + 1 }) ho hd (by have := hr.exact; obtain ⟨l⟩ := es; simpa using this) ?_)))
  have hq : Q (findBy (fun k v => v.isStr k) es k) { s with toks := s.toks + 1 } := by
    obtain ⟨v, hv, rfl⟩ := hr.find_some ha
    have e : findBy (fun k v => v.isStr k) es k = some (.ref d) := by
      rw [← hv]
      obtain ⟨l⟩ := es
      simp [findBy]
    rw [e]
    exact q
  rw [findBy_of_findIdx?] at hq
  cases hi : es.findIdx? fun e => e.key.isStr k with
  | some i => rw [hi] at hq; exact wpAny_bind (wpAny_dictEntries (s := { s with toks := s.toks + 1 }) ho hd (wpAny_pure hq))
  | none => rw [hi] at hq; exact wpAny_pure hq
theorem tab_item {a d : Addr} {o : Obj} {es : Array DictEntry} {ep : Nat} {k : Str} {t : Tok} {D : List (Str × Addr)} {Q : Value → Shared → Prop} (ty : s.TypeIs (.ref a) "dict") (ho : s.heap.get? a = some o) (hd : o.data = .dict es ep)
    (hr : KTD.Rows (fun d v => v = Value.ref d) es.toList D) (ha : KTD.datumAt k D = some d) (q : Q (.ref d) { s with toks := s.toks + 1 }) : wpAny (model prog w) A (getItem (.ref a) (.str k t)) Q E s := by
  unfold getItem
  try with_reducible refine wpAny_holding ?_
  refine wpAny_bind (wpAny_sequenceKey ty (by decide) (wpAny_bind (wpAny_callSpecial?_slot (name := Str.ofString "__getitem__") ty slot_dict_getitem (wpAny_call_entry slot_dict_getitem ty entry_dict_getitem ?_ (args_dict_getitem _ _)))))
  show wpAny _ _ (dictGet a (.str k t) >>= fun _ => _) _ _ s
  exact wpAny_bind (tab_dget ho hd hr ha (wpAny_pure ⟨_, rfl, wpAny_pure q⟩))
end
section
variable {X : Cx}
theorem pe_tget {nm : Str} {a : Addr} {D : List (Str × Addr)} {i : Expr} {p pos : Pos} {ty : TE} (G : TabG X.K X.mg nm a D) (hg : Gl X nm) (hi : PE X i ty) (hs : NoSl i) (hdb : (nm == ("__debug__" : Str)) = false := by decide) :
    PE X (.Subscript (.Name nm p) i pos) (fun σ H Q => ty σ H fun y H1 => ∃ x d, y = .str x ∧ KTD.datumAt x D = some d ∧ Q (.ref d) H1) := by
  intro pins s σ H Q I h
  obtain ⟨es, ep, hk, hr⟩ := G.lk
  refine subD_of PySem.F.slot_dict_getitem.lookup hs (thn (pe_glob (v := .ref a) hg G.mg_ rfl hdb pins s σ H (fun x H1 => x = .ref a ∧ ty σ H1 fun y H1 => ∃ x d, y = .str x ∧ KTD.datumAt x D = some d ∧ Q (.ref d) H1) I ⟨rfl, h⟩) fun u s1 ⟨x, H1, I1, rx, ex, q1⟩ => ?_)
  subst ex
  obtain rfl : u = Value.ref a := rx
  refine thn (hi pins s1 σ H1 _ I1 q1) fun iv s2 ⟨y, H2, I2, ry, k, d, ey, hd, q2⟩ => ?_
  subst ey
  obtain ⟨t, rfl⟩ := (show ∃ t, iv = Value.str k t from ry)
  have ho := I2.kIn a _ hk
  exact ⟨⟨_, ho, rfl⟩, tab_item ⟨_, ho, rfl⟩ ho rfl hr hd ⟨.ref d, H2, I2.tok _, rfl, q2⟩⟩
end
end L2

set_option Elab.async false
set_option linter.all false
set_option maxRecDepth 100000
namespace L2
open PySem PySem.Spec PyProof.Rows
/-! ### parts by their kinds, ways on -/
def pick (w : Str) (xs : List V) (ks : List Str) : List V := ((xs.zip ks).filter fun p => decide (p.2 = w)).map (·.1)
def pickN (w : Str) (xs : List V) (ks : List Str) (i : Nat) : List V := (((xs.zip ks).take i).filter fun p => decide (p.2 = w)).map (·.1)
theorem pickN_succ {w : Str} {xs : List V} {ks : List Str} {i : Nat} {x : V} {k : Str} (hx : xs[i]? = some x) (hk : ks[i]? = some k) : pickN w xs ks (i + 1) = pickN w xs ks i ++ (if k = w then [x] else []) := by
  have hz : (xs.zip ks)[i]? = some (x, k) := by rw [List.getElem?_zip_eq_some]; exact ⟨hx, hk⟩
  unfold pickN
  rw [List.take_add_one, hz, List.filter_append, List.map_append]
  congr 1
  by_cases h : k = w
  · rw [if_pos h]; simp [h]
  · rw [if_neg h]; simp [h]
theorem pickN_all {w : Str} {xs : List V} {ks : List Str} : pickN w xs ks (min xs.length (ks.map V.str).length) = pick w xs ks := by
  unfold pickN pick
  rw [List.length_map, List.take_of_length_le (by rw [List.length_zip]; exact Nat.le_refl _)]
theorem pickN_len {w : Str} {xs : List V} {ks : List Str} {i : Nat} : (pickN w xs ks i).length ≤ i := by
  unfold pickN
  rw [List.length_map]
  exact Nat.le_trans (List.length_filter_le ..) (by rw [List.length_take]; exact Nat.min_le_left ..)
theorem SqT.same {K : PySem.W.Frag} {H H' : Hp} {a : Addr} {xs : List V} (h : SqT K H a xs) (s : Same H H') : SqT K H' a xs := by
  rcases h with h | h
  · rcases h with h | h
    · exact .inl (.inl (s _ _ h))
    · obtain ⟨b, hb⟩ := h
      exact .inl (.inr ⟨b, s _ _ hb⟩)
  · exact .inr h
def spParts (K : PySem.W.Frag) : Sp := fun vs H Q _ => ∃ (t s : Addr) (v0 : V) (xs : List V) (ks : List Str) (w : Str), vs = [.ref t, .ref s, .str w] ∧ H t = some (.tup (v0 :: xs)) ∧ SqT K H s (ks.map V.str) ∧ xs.length ≤ 1000 ∧
  ∀ l H', H' l = some (.lst (pick w xs ks)) → Same H H' → Q (.ref l) H'
def KTup (K : PySem.W.Frag) (a : Addr) (ks : List Str) : Prop := ∃ (o : Obj) (its : Array Value) (n : Nat), K.lookup a = some o ∧ o.cls = .type "tuple" ∧ o.data = .seq its n ∧ its.size ≤ sizeLine ∧ Vals (ks.map V.str) its.toList
structure EndG (K : PySem.W.Frag) (mg : Str → Option Value) (aE s0 s1 s2 s3 : Addr) : Prop where
  tab : TabG K mg "END_PARTS" aE [("stop", s0), ("go", s1), ("less", s2), ("is", s3)]
  q0 : KTup K s0 []
  q1 : KTup K s1 ["piece"]
  q2 : KTup K s2 ["name", "number", "piece", "piece"]
  q3 : KTup K s3 ["name", "number", "piece", "piece"]
def waysE : End → List Nat
  | .stop => []
  | .go p => [p]
  | .tst _ _ _ p q => [p, q]
def kE : End → List Str
  | .stop => []
  | .go _ => ["piece"]
  | .tst .. => ["name", "number", "piece", "piece"]
def wE : End → Str
  | .stop => "stop"
  | .go _ => "go"
  | .tst b .. => wT b
theorem vEnd_cons (e : End) : ∃ xs, vEnd e = .str (wE e) :: xs ∧ xs.length ≤ 1000 ∧ pick "piece" xs (kE e) = (waysE e).map fun k => V.int (k : Nat) := by
  cases e with
  | stop => exact ⟨[], rfl, by decide, rfl⟩
  | go p => exact ⟨_, rfl, by show 1 ≤ 1000; decide, by simp [pick, kE, waysE]⟩
  | tst b x n p q =>
    refine ⟨_, rfl, by show 4 ≤ 1000; decide, ?_⟩
    have h1 : ¬ ("name" : Str) = "piece" := by decide +kernel
    have h2 : ¬ ("number" : Str) = "piece" := by decide +kernel
    simp [pick, kE, waysE, h1, h2]
theorem EndG.at_ {K : PySem.W.Frag} {mg : Str → Option Value} {aE s0 s1 s2 s3 : Addr} (G : EndG K mg aE s0 s1 s2 s3) (e : End) : ∃ s, KTD.datumAt (wE e) [(("stop" : Str), s0), ("go", s1), ("less", s2), ("is", s3)] = some s ∧ KTup K s (kE e) := by
  have hit : ∀ {k : Str} {d : Addr} {D : List (Str × Addr)}, KTD.datumAt k ((k, d) :: D) = some d := fun {k d D} => by
    show (if decide (k = k) = true then some d else KTD.datumAt k D) = some d
    rw [if_pos (decide_eq_true rfl)]
  have miss : ∀ {k x : Str} {d : Addr} {D : List (Str × Addr)} {o : Option Addr}, ¬ k = x → KTD.datumAt k D = o → KTD.datumAt k ((x, d) :: D) = o := fun {k x d D o} h e => by
    show (if decide (k = x) = true then some d else KTD.datumAt k D) = o
    rw [if_neg (by rw [decide_eq_false h]; decide)]
    exact e
  cases e with
  | stop => exact ⟨s0, hit, G.q0⟩
  | go p => exact ⟨s1, miss (show ¬ (("go" : Str) = "stop") by decide +kernel) hit, G.q1⟩
  | tst b x n p q =>
    cases b with
    | true => exact ⟨s2, miss (show ¬ (("less" : Str) = "stop") by decide +kernel) (miss (show ¬ (("less" : Str) = "go") by decide +kernel) hit), G.q2⟩
    | false => exact ⟨s3, miss (show ¬ (("is" : Str) = "stop") by decide +kernel) (miss (show ¬ (("is" : Str) = "go") by decide +kernel) (miss (show ¬ (("is" : Str) = "less") by decide +kernel) hit)), G.q3⟩
def spWays : Sp := fun vs H Q _ => ∃ (ea : Addr) (e : End), vs = [.ref ea] ∧ H ea = some (.tup (vEnd e)) ∧ ∀ t H', H' t = some (.tup ((waysE e).map fun k => V.int (k : Nat))) → Same H H' → Q (.ref t) H'
end L2

set_option Elab.async false
set_option linter.all false
set_option maxRecDepth 100000
namespace LS
open PySem
/-! ### the table of a set: its places rise, where it is plain -/
def Up (xs : Array Nat) : Prop := ∀ (i j : Nat) (a b : Nat), i < j → xs[i]? = some a → xs[j]? = some b → a < b
theorem below_go {xs : Array Nat} {j : Nat} (up : Up xs) : ∀ (fuel lo hi : Nat), hi - lo ≤ fuel → lo ≤ hi → hi ≤ xs.size →
    (∀ i a, i < lo → xs[i]? = some a → a < j) → (∀ i a, hi ≤ i → xs[i]? = some a → j ≤ a) →
    (∀ i a, i < SetTable.below.go xs j fuel lo hi → xs[i]? = some a → a < j) ∧ (∀ i a, SetTable.below.go xs j fuel lo hi ≤ i → xs[i]? = some a → j ≤ a) ∧ SetTable.below.go xs j fuel lo hi ≤ xs.size := by
  intro fuel
  induction fuel with
  | zero =>
    intro lo hi h1 h2 h3 h4 h5
    have e : lo = hi := by omega
    subst e
    unfold SetTable.below.go
    exact ⟨h4, h5, h3⟩
  | succ f ih =>
    intro lo hi h1 h2 h3 h4 h5
    unfold SetTable.below.go
    by_cases hl : lo < hi
    · rw [if_pos hl]
      dsimp only
      have hm : (lo + hi) / 2 < hi := by omega
      have hm2 : lo ≤ (lo + hi) / 2 := by omega
      generalize (lo + hi) / 2 = mid at hm hm2
      have hs : mid < xs.size := by omega
      have hg : xs[mid]? = some xs[mid] := by simp [hs]
      have hd : xs.getD mid j = xs[mid] := by simp [Array.getD, hs]
      rw [hd]
      by_cases hc : xs[mid] < j
      · rw [if_pos hc]
        refine ih (mid + 1) hi (by omega) (by omega) h3 (fun i a hi' he => ?_) h5
        by_cases e : i = mid
        · subst e; rw [hg] at he; cases he; exact hc
        · have := up i mid a _ (by omega) he hg; omega
      · rw [if_neg hc]
        refine ih lo mid (by omega) hm2 (by omega) h4 (fun i a hi' he => ?_)
        by_cases e : i = mid
        · subst e; rw [hg] at he; cases he; omega
        · have := up mid i _ a (by omega) hg he; omega
    · rw [if_neg hl]
      have e : lo = hi := by omega
      subst e
      exact ⟨h4, h5, h3⟩
theorem below_of {xs : Array Nat} {j : Nat} (up : Up xs) :
    (∀ i a, i < SetTable.below xs j → xs[i]? = some a → a < j) ∧ (∀ i a, SetTable.below xs j ≤ i → xs[i]? = some a → j ≤ a) ∧ SetTable.below xs j ≤ xs.size :=
  below_go up xs.size 0 xs.size (by omega) (Nat.zero_le _) (Nat.le_refl _) (fun _ _ h => absurd h (Nat.not_lt_zero _)) (fun i a h e => by
    have : xs[i]? = none := by simp; omega
    rw [this] at e; cases e)
theorem insertAt_get {α : Type} {xs : Array α} {p : Nat} {x : α} (hp : p ≤ xs.size) (i : Nat) :
    (SetTable.insertAt xs p x)[i]? = if i < p then xs[i]? else if i = p then some x else xs[i - 1]? := by
  unfold SetTable.insertAt
  have h1 : (xs.extract 0 p).size = p := by simp; omega
  rw [Array.getElem?_append]
  have h2 : ((xs.extract 0 p).push x).size = p + 1 := by simp; omega
  rw [h2]
  by_cases a : i < p
  · rw [if_pos (by omega), if_pos a, Array.getElem?_push, h1, if_neg (by omega)]
    rw [Array.getElem?_extract]
    simp; omega
  · rw [if_neg a]
    by_cases b : i = p
    · subst b
      rw [if_pos (by omega), if_pos rfl, Array.getElem?_push, h1, if_pos rfl]
    · rw [if_neg (by omega), if_neg b]
      rw [Array.getElem?_extract]
      have : p + (i - (p + 1)) = i - 1 := by omega
      rw [this]
      by_cases c : i - 1 < xs.size
      · simp; omega
      · have : xs[i - 1]? = none := by simp; omega
        rw [this]; simp
theorem Up.insert {xs : Array Nat} {j : Nat} (up : Up xs) (hn : xs[SetTable.below xs j]? ≠ some j) : Up (SetTable.insertAt xs (SetTable.below xs j) j) := by
  obtain ⟨h1, h2, h3⟩ := below_of (j := j) up
  generalize SetTable.below xs j = p at h1 h2 h3 hn
  have h2' : ∀ i a, p ≤ i → xs[i]? = some a → j < a := fun i a hi e => by
    have q := h2 i a hi e
    by_cases z : i = p
    · subst z
      rcases Nat.lt_or_ge j a with c | c
      · exact c
      · have : a = j := by omega
        subst this; exact absurd e hn
    · have hps : p < xs.size := by
        have : i < xs.size := by
          rcases Nat.lt_or_ge i xs.size with c | c
          · exact c
          · have : xs[i]? = none := by simp; omega
            rw [this] at e; cases e
        omega
      have e1 : xs[p]? = some xs[p] := by simp [hps]
      have q1 := h2 p _ (Nat.le_refl _) e1
      have q2 := up p i _ _ (by omega) e1 e
      omega
  intro a b x y hab ha hb
  rw [insertAt_get h3] at ha hb
  by_cases c1 : a < p
  · rw [if_pos c1] at ha
    by_cases d1 : b < p
    · rw [if_pos d1] at hb; exact up a b _ _ hab ha hb
    · rw [if_neg d1] at hb
      by_cases d2 : b = p
      · rw [if_pos d2] at hb; cases hb; exact h1 a _ c1 ha
      · rw [if_neg d2] at hb
        exact Nat.lt_trans (h1 a _ c1 ha) (h2' (b - 1) _ (by omega) hb)
  · rw [if_neg c1] at ha
    by_cases c2 : a = p
    · rw [if_pos c2] at ha; cases ha
      rw [if_neg (by omega), if_neg (by omega)] at hb
      exact h2' (b - 1) _ (by omega) hb
    · rw [if_neg c2] at ha
      rw [if_neg (by omega), if_neg (by omega)] at hb
      exact up (a - 1) (b - 1) _ _ (by omega) ha hb
/-- a plain table's places rise -/
def Rp (t : SetTable) : Prop := t.plain = true → Up t.place
theorem probe_go {t : SetTable} {f : Nat → Int} {h : Int} : ∀ (fuel : Nat) (p : SetTable.Probe) (j : Nat) (d : Option Nat), (∀ x, p.dummy = some x → t.place[SetTable.below t.place x]? ≠ some x) →
    SetTable.probe.go t f h fuel p = some (.empty j d) → t.place[SetTable.below t.place (d.getD j)]? ≠ some (d.getD j) := by
  intro fuel
  induction fuel with
  | zero => intro p j d _ e; unfold SetTable.probe.go at e; cases e
  | succ n ih =>
    intro p j d hd e
    unfold SetTable.probe.go at e
    have adv : ∀ q : SetTable.Probe, (t.advance q).dummy = q.dummy := fun q => by unfold SetTable.advance; split <;> rfl
    cases hs : t.slot p.j with
    | empty =>
      rw [hs] at e
      dsimp only at e
      injection e with e
      injection e with e1 e2
      subst e1; subst e2
      unfold SetTable.slot at hs
      dsimp only at hs
      split at hs
      · cases hs
      · rename_i hne
        cases hdm : p.dummy with
        | none => intro z; exact hne (by rw [show (none : Option Nat).getD p.j = p.j from rfl] at z; simpa using z)
        | some x => exact hd x hdm
    | dummy =>
      rw [hs] at e
      dsimp only at e
      refine ih _ j d (fun x hx => ?_) e
      rw [adv] at hx
      injection hx with hx
      subst hx
      unfold SetTable.slot at hs
      dsimp only at hs
      split at hs
      · cases hs
      · rename_i hne
        intro z; exact hne (by simpa using z)
    | live i =>
      rw [hs] at e
      dsimp only at e
      split at e
      · cases e
      · exact ih _ j d (fun x hx => hd x (by rw [adv] at hx; exact hx)) e
theorem freeSlot_off {t : SetTable} {h : Int} {j : Nat} {b : Bool} (e : t.freeSlot h = some (j, b)) : t.place[SetTable.below t.place j]? ≠ some j := by
  unfold SetTable.freeSlot at e
  split at e
  · rename_i j' d hp
    injection e with e
    injection e with e1 e2
    subst e1
    unfold SetTable.probe at hp
    exact probe_go _ _ _ _ (fun x hx => by cases hx) hp
  · cases e
theorem Rp.standIn (t : SetTable) (n : Nat) : Rp (t.standIn n) := fun h => by cases h
theorem Rp.layNew {t : SetTable} (r : Rp t) (es : Array (Int × Value)) (h : Int) (x : Value) : Rp (layNew t es h x).2.1 ∧ (layNew t es h x).2.1.led = t.led := by
  unfold PySem.layNew
  split
  · rename_i j b e
    dsimp only
    unfold SetTable.orStandIn
    split
    · refine ⟨fun hp => ?_, rfl⟩
      exact (r hp).insert (freeSlot_off e)
    · exact ⟨Rp.standIn _ _, rfl⟩
  · exact ⟨Rp.standIn _ _, rfl⟩
theorem up_range (n : Nat) (f : Nat → Option Nat) : Up (((List.range n).filterMap fun j => (f j).map fun k => (j, k)).map (·.1)).toArray := by
  have hs : List.Pairwise (· < ·) (((List.range n).filterMap fun j => (f j).map fun k => (j, k)).map (·.1)) := by
    have hl : List.Sublist (((List.range n).filterMap fun j => (f j).map fun k => (j, k)).map (·.1)) (List.range n) := by
      generalize List.range n = l
      induction l with
      | nil => exact List.Sublist.refl _
      | cons a l ih =>
        rw [List.filterMap_cons]
        cases e : f a with
        | none => exact ih.cons a
        | some k => exact ih.cons₂ a
    exact List.Pairwise.sublist hl List.pairwise_lt_range
  intro i j a b hij ha hb
  rw [List.getElem?_toArray] at ha hb
  have hi : i < _ := (List.getElem?_eq_some_iff.mp ha).1
  have hj : j < _ := (List.getElem?_eq_some_iff.mp hb).1
  have := List.pairwise_iff_getElem.mp hs i j hi hj hij
  rw [(List.getElem?_eq_some_iff.mp ha).2, (List.getElem?_eq_some_iff.mp hb).2] at this
  exact this
theorem Rp.relayAll (t : SetTable) (es : Array (Int × Value)) (n : Nat) : Rp (relayAll t es n).2.1 ∧ (relayAll t es n).2.1.led = t.led := by
  unfold PySem.relayAll
  split
  · rename_i t' order e
    dsimp only
    split
    · unfold SetTable.relaid SetTable.laid at e
      simp only [bind, Option.bind] at e
      split at e
      · cases e
      · rename_i owner _
        injection e with e
        injection e with e1 _
        subst e1
        exact ⟨fun _ => up_range _ _, rfl⟩
    · exact ⟨Rp.standIn _ _, rfl⟩
  · exact ⟨Rp.standIn _ _, rfl⟩
theorem Up.few {xs : Array Nat} (h : xs.size ≤ 1) : Up xs := fun i j a b hij ha hb => by
  have := (Array.getElem?_eq_some_iff.mp hb).1; omega
end LS

set_option Elab.async false
set_option linter.all false
set_option maxRecDepth 100000
namespace LS
open PySem PySem.Spec PyProof.Rows
section
variable {prog : Program} {w : World} {K : Type} [DecidableEq K] {knd : KeyKind prog w K}
variable {A : Around} {E : Value → Shared → Prop} {s : Shared}
/-- an entry of the set is that of the key -/
def Ent (knd : KeyKind prog w K) (e : Int × Value) (k : K) : Prop := knd.is k e.2 = true ∧ e.1 = knd.hash k ∧ e.2.scannable = true
/-- a set with these keys, each once, in some order -/
structure SAt (knd : KeyKind prog w K) (h : Heap) (a : Addr) (ks : List K) (o : Obj) (es : Array (Int × Value)) (ep : Nat) (t : SetTable) : Prop where
  at_ : h.get? a = some o
  ex : o.ExactSet
  data : o.data = .set es ep t
  ents : ∃ ls : List K, ls.Perm ks ∧ Paired (Ent knd) es.toList ls
  nd : ks.Nodup
  few : es.size < scanBound
  fits : t.fits es.size = true
  led : t.led = !(w.params.followText "set-order")
  up : Rp t
def SetK (knd : KeyKind prog w K) (h : Heap) (a : Addr) (ks : List K) : Prop := ∃ o es ep t, SAt knd h a ks o es ep t
theorem paired_perm {α β : Type} {F : α → β → Prop} : ∀ {l l' : List α}, l.Perm l' → ∀ {m' : List β}, Paired F l' m' → ∃ m, m.Perm m' ∧ Paired F l m := by
  intro l l' p
  induction p with
  | nil => intro m' h; exact ⟨m', .refl _, h⟩
  | cons x p ih =>
    intro m' h
    cases h with
    | cons r t => obtain ⟨m, q, e⟩ := ih t; exact ⟨_, q.cons _, .cons r e⟩
  | swap x y l =>
    intro m' h
    cases h with
    | cons r t => cases t with
      | cons r' t' => exact ⟨_, .swap _ _ _, .cons r' (.cons r t')⟩
  | trans p q ih1 ih2 =>
    intro m' h
    obtain ⟨m1, a1, b1⟩ := ih2 h
    obtain ⟨m2, a2, b2⟩ := ih1 b1
    exact ⟨m2, a2.trans a1, b2⟩
theorem paired_mem {α β : Type} {F : α → β → Prop} : ∀ {l : List α} {m : List β}, Paired F l m → (∀ x ∈ l, ∃ y ∈ m, F x y) ∧ (∀ y ∈ m, ∃ x ∈ l, F x y)
  | _, _, .nil => ⟨(fun _ h => nomatch h), (fun _ h => nomatch h)⟩
  | _, _, .cons r t => by
    obtain ⟨h1, h2⟩ := paired_mem t
    refine ⟨fun x hx => ?_, fun y hy => ?_⟩
    · rcases List.mem_cons.mp hx with rfl | hx
      · exact ⟨_, List.mem_cons_self .., r⟩
      · obtain ⟨y, hy, f⟩ := h1 x hx; exact ⟨y, List.mem_cons_of_mem _ hy, f⟩
    · rcases List.mem_cons.mp hy with rfl | hy
      · exact ⟨_, List.mem_cons_self .., r⟩
      · obtain ⟨x, hx, f⟩ := h2 y hy; exact ⟨x, List.mem_cons_of_mem _ hx, f⟩
theorem paired_snoc {α β : Type} {F : α → β → Prop} {x : α} {y : β} (f : F x y) : ∀ {l : List α} {m : List β}, Paired F l m → Paired F (l ++ [x]) (m ++ [y])
  | _, _, .nil => .cons f .nil
  | _, _, .cons r t => .cons r (paired_snoc f t)
variable {a : Addr} {ks : List K} {o : Obj} {es : Array (Int × Value)} {ep : Nat} {t : SetTable} {h h' : Heap}
theorem SAt.elems (S : SAt knd h a ks o es ep t) : ElemsOf knd es.toList := fun e he => by
  obtain ⟨ls, _, p⟩ := S.ents
  obtain ⟨k, _, f⟩ := (paired_mem p).1 e he
  exact ⟨⟨k, f.1, f.2.1⟩, f.2.2⟩
theorem SAt.len (S : SAt knd h a ks o es ep t) : es.size = ks.length := by
  obtain ⟨ls, q, p⟩ := S.ents
  rw [← Array.length_toList, p.length, q.length_eq]
theorem SAt.mem (S : SAt knd h a ks o es ep t) (k : K) : k ∈ ks ↔ ∃ e ∈ es.toList, knd.is k e.2 = true := by
  obtain ⟨ls, q, p⟩ := S.ents
  rw [← q.mem_iff]
  constructor
  · intro hk
    obtain ⟨e, he, f⟩ := (paired_mem p).2 k hk
    exact ⟨e, he, f.1⟩
  · rintro ⟨e, he, f⟩
    obtain ⟨k', hk', f'⟩ := (paired_mem p).1 e he
    rw [knd.inj e.2 k k' f f'.1]; exact hk'
theorem SAt.setOf (S : SAt knd h a ks o es ep t) : h.SetOf knd a (fun k => decide (k ∈ ks)) ks.length :=
  ⟨o, es, ep, t, S.at_, S.ex, S.data, S.elems, fun k => by rw [decide_eq_true_eq]; exact S.mem k, S.few, S.fits, S.len⟩
theorem SAt.keep (S : SAt knd h a ks o es ep t) (k : ∀ o, h.get? a = some o → h'.get? a = some o) : SAt knd h' a ks o es ep t := { S with at_ := k _ S.at_ }
theorem SetK.keep (S : SetK knd h a ks) (k : ∀ o, h.get? a = some o → h'.get? a = some o) : SetK knd h' a ks := let ⟨o, es, ep, t, S⟩ := S; ⟨o, es, ep, t, S.keep k⟩
theorem SetK.setOf (S : SetK knd h a ks) : h.SetOf knd a (fun k => decide (k ∈ ks)) ks.length := let ⟨_, _, _, _, S⟩ := S; S.setOf
theorem put_data {o : Obj} {es es' : Array (Int × Value)} {ep : Nat} {t t' : SetTable} (hd : o.data = .set es ep t) : Obj.putSet es' t' o = { o with data := .set es' (ep + 1) t' } := putSet_of es' t' hd
theorem SAt.store {es' : Array (Int × Value)} {t' : SetTable} {ks' : List K} (S : SAt knd h a ks o es ep t) (he : ∃ ls : List K, ls.Perm ks' ∧ Paired (Ent knd) es'.toList ls) (nd : ks'.Nodup) (few : es'.size < scanBound)
    (fits : t'.fits es'.size = true) (led : t'.led = t.led) (up : Rp t') : SAt knd (h.update a (Obj.putSet es' t')) a ks' { o with data := .set es' (ep + 1) t' } es' (ep + 1) t' where
  at_ := by
    have q := Heap.get?_update_self (Obj.putSet es' t') S.at_ (by rw [put_data S.data]; rfl)
    rw [put_data S.data] at q
    exact q
  ex := S.ex
  data := rfl
  ents := he
  nd := nd
  few := few
  fits := fits
  led := led.trans S.led
  up := up
theorem add_tail {g : Bool → Sem Unit} (hg : ∀ (b : Bool) (s₁ : Shared) (Q' : Unit → Shared → Prop), Q' () s₁ → wpAny (model prog w) A (g b) Q' E s₁) {es1 : Array (Int × Value)} {t2 : SetTable} {ks' : List K}
    (S : SAt knd s.heap a ks o es ep t) (he : ∃ ls : List K, ls.Perm ks' ∧ Paired (Ent knd) es1.toList ls) (nd : ks'.Nodup) (few : es1.size < scanBound) (fits : t2.fits es1.size = true) (led : t2.led = t.led) (up : Rp t2) {wd : Bool}
    {R : Option Bool → Shared → Prop} (q : ∀ h', Heap.SameBut a s.heap h' → SetK knd h' a ks' → R (some true) { s with heap := h' }) :
    wpAny (model prog w) A (storeSet a es1 t2 >>= fun _ => if (!wd && t2.tooFull) = true then g (relayAll t2 es1 (SetTable.grown es1.size)).2.2 >>= fun _ =>
      storeSet a (relayAll t2 es1 (SetTable.grown es1.size)).1 (relayAll t2 es1 (SetTable.grown es1.size)).2.1 >>= fun _ => pure (some true) else pure (some true)) R E s := by
  refine wpAny_bind (wpAny_storeSet_of S.at_ S.data ?_ (fits_of_scanBound few))
  have S1 := S.store he nd few fits led up
  have b1 := Heap.SameBut.update s.heap a (Obj.putSet es1 t2)
  by_cases hc : (!wd && t2.tooFull) = true
  · rw [if_pos hc]
    have p1 := relayAll_perm t2 es1 (SetTable.grown es1.size)
    have p2 := relayAll_fits t2 es1 (SetTable.grown es1.size)
    have p3 := Rp.relayAll t2 es1 (SetTable.grown es1.size)
    generalize relayAll t2 es1 (SetTable.grown es1.size) = R3 at p1 p2 p3
    obtain ⟨es3, t3, gv⟩ := R3
    obtain ⟨ls, l1, l2⟩ := he
    obtain ⟨ls3, l3, l4⟩ := paired_perm p1 l2
    have z : es3.size = es1.size := by rw [← Array.length_toList, p1.length_eq, Array.length_toList]
    have few3 : es3.size < scanBound := by rw [z]; exact few
    refine wpAny_bind (hg _ _ _ ?_)
    refine wpAny_bind (wpAny_storeSet_of S1.at_ S1.data ?_ (fits_of_scanBound few3))
    exact wpAny_pure (q _ (b1.trans (Heap.SameBut.update _ a _)) ⟨_, _, _, _, S1.store ⟨ls3, l3.trans l1, l4⟩ nd few3 p2 p3.2 p3.1⟩)
  · rw [if_neg hc]
    exact wpAny_pure (q _ b1 ⟨_, _, _, _, S1⟩)
theorem add_hashed {k : K} {x : Value} {Q : Bool → Shared → Prop} (hk : knd.is k x = true) (hsc : x.scannable = true) (S : SetK knd s.heap a ks) (room : ks.length + 1 < scanBound)
    (q : ∀ h', Heap.SameBut a s.heap h' → SetK knd h' a (if k ∈ ks then ks else ks ++ [k]) → Q (!decide (k ∈ ks)) { s with heap := h' }) :
    wpAny (model prog w) A (setAddHashed a x (knd.hash k)) Q E s := by
  obtain ⟨o, es, ep, t, S⟩ := S
  have few1 : es.size + 1 < scanBound := by rw [S.len]; exact room
  unfold setAddHashed setAddHashedIn
  refine wpAny_holding (wpAny_bind (wpAny_setState_of S.at_ S.data S.fits ?_))
  dsimp only
  rw [byScan_of hsc S.few S.elems]
  simp only [↓reduceIte]
  unfold setAddByScan
  refine wpAny_bind (wpAny_bind (wpAny_rule ?_))
  refine wpAny_bind (wpAny_setScan_of hk S.at_ S.data S.fits S.elems ?_)
  cases hr : List.findIdx? (fun e => knd.is k e.2) es.toList with
  | some j =>
    obtain ⟨hj, hpj, _⟩ := List.findIdx?_eq_some_iff_getElem.mp hr
    have hin : k ∈ ks := (S.mem k).mpr ⟨es.toList[j], List.getElem_mem hj, hpj⟩
    refine wpAny_pure (wpAny_pure ?_)
    have := q s.heap (Heap.SameBut.refl a s.heap) (by rw [if_pos hin]; exact ⟨o, es, ep, t, S⟩)
    rw [decide_eq_true hin] at this
    exact this
  | none =>
    have hin : ¬ k ∈ ks := fun z => by
      obtain ⟨e, he, hp⟩ := (S.mem k).mp z
      have := List.findIdx?_eq_none_iff.mp hr e he
      rw [hp] at this; exact Bool.noConfusion this
    rw [if_neg hin, decide_eq_false hin] at q
    have p1 := layNew_perm t es (knd.hash k) x
    have p2 := layNew_fits t es (knd.hash k) x
    have p3 := S.up.layNew es (knd.hash k) x
    dsimp only
    generalize layNew t es (knd.hash k) x = L at p1 p2 p3 ⊢
    obtain ⟨es1, t1, wd, gv⟩ := L
    dsimp only at p1 p2 p3 ⊢
    rw [Array.toList_push] at p1
    have hE : ∃ ls : List K, ls.Perm (ks ++ [k]) ∧ Paired (Ent knd) es1.toList ls := by
      obtain ⟨ls, l1, l2⟩ := S.ents
      obtain ⟨m, m1, m2⟩ := paired_perm p1 (paired_snoc (F := Ent knd) (x := (knd.hash k, x)) (y := k) ⟨hk, rfl, hsc⟩ l2)
      exact ⟨m, m1.trans (l1.append_right _), m2⟩
    have nd1 : (ks ++ [k]).Nodup := by
      rw [List.nodup_append]
      exact ⟨S.nd, by simp, fun y hy z hz e => hin (by rw [List.mem_singleton] at hz; rw [← hz, ← e]; exact hy)⟩
    have few2 : es1.size < scanBound := by rw [← Array.length_toList, p1.length_eq, List.length_append, Array.length_toList]; simpa using few1
    have gw : ∀ (b : Bool) (s₁ : Shared) (Q' : Unit → Shared → Prop), Q' () s₁ → wpAny (model prog w) A (match b with | true => rule "set.scan.the-table-gave-way" | false => pure ()) Q' E s₁ := fun b s₁ Q' hq => by
      cases b
      · exact wpAny_pure hq
      · exact wpAny_rule hq
    refine wpAny_bind (gw _ _ _ ?_)
    by_cases hp : t1.plain = true
    · rw [if_pos hp]
      refine wpAny_bind ?_
      rw [hashByValue_scannable 8 hsc]
      refine wpAny_pure ?_
      by_cases hv : plainKind x = true
      · rw [if_pos hv]
        exact add_tail gw S hE nd1 few2 p2 p3.2 p3.1 fun h' b Sk => wpAny_pure (q h' b Sk)
      · rw [if_neg hv]
        exact add_tail gw S hE nd1 few2 (SetTable.fits_plain_off p2) p3.2 (fun z => by cases z) fun h' b Sk => wpAny_pure (q h' b Sk)
    · rw [if_neg hp]
      refine wpAny_bind (wpAny_pure ?_)
      rw [if_pos rfl]
      exact add_tail gw S hE nd1 few2 p2 p3.2 p3.1 fun h' b Sk => wpAny_pure (q h' b Sk)
theorem fresh_set {led : Bool} (hl : led = !(w.params.followText "set-order")) (at_ : h.get? a = some { cls := .type "set", dict := none, data := .set #[] 0 (.fresh 0 0 led) }) : SetK knd h a [] :=
  ⟨_, #[], 0, _, at_, ⟨rfl, rfl, rfl⟩, rfl, ⟨[], .refl _, .nil⟩, List.nodup_nil, by decide, by rfl, hl, fun _ => Up.few (Nat.zero_le _)⟩
end
end LS

set_option Elab.async false
set_option linter.all false
set_option maxRecDepth 100000
namespace LS
open PySem PySem.Spec PyProof.Rows
section
variable {prog : Program} {w : World} {A : Around} {E : Value → Shared → Prop} {s : Shared}
end
section
variable {prog : Program} {w : World} {K : Type} [DecidableEq K] {knd : KeyKind prog w K}
variable {A : Around} {E : Value → Shared → Prop} {s : Shared} {a : Addr} {ks : List K} {o : Obj} {es : Array (Int × Value)} {ep : Nat} {t : SetTable}
/-! ### the iterator -/
end
end LS

set_option Elab.async false
set_option linter.all false
set_option maxRecDepth 100000
namespace LS
open PySem PySem.Spec PyProof.Rows
def IsSit (h : Heap) (I : Addr) (first : Value) (i : Nat) (a : Addr) (n ep : Nat) : Prop :=
  ∃ oI, h.get? I = some oI ∧ oI.cls = .type "set_iterator" ∧ oI.data = .fields #[first, .int i 0, .ref a, .int n 0, .int ep 0]
theorem IsSit.type {s : Shared} {I : Addr} {first : Value} {i : Nat} {a : Addr} {n ep : Nat} (h : IsSit s.heap I first i a n ep) : s.TypeIs (.ref I) "set_iterator" := let ⟨o, e, c, _⟩ := h; ⟨o, e, c⟩
theorem IsSit.keep {h h' : Heap} {I : Addr} {first : Value} {i : Nat} {a : Addr} {n ep : Nat} (x : IsSit h I first i a n ep) (k : ∀ o, h.get? I = some o → h'.get? I = some o) : IsSit h' I first i a n ep :=
  let ⟨o, e, c⟩ := x; ⟨o, k _ e, c⟩
section
variable {prog : Program} {w : World} {K : Type} [DecidableEq K] {knd : KeyKind prog w K}
variable {A : Around} {E : Value → Shared → Prop} {s : Shared} {a I : Addr} {ks : List K} {o : Obj} {es : Array (Int × Value)} {ep : Nat} {t : SetTable}
def slotP (t : SetTable) : Nat → Nat
  | 0 => 0
  | i + 1 => t.place.getD i 0 + 1
theorem mem2 {b x y : Addr} (h : b ∈ [x, y]) : b = x ∨ b = y := by simpa using h
/-! ### the set itself is walked -/
theorem SAt.typeIs (S : SAt knd s.heap a ks o es ep t) : s.TypeIs (.ref a) "set" := ⟨o, S.at_, S.ex.1⟩
/-- what a walk gives: the values of the entries, in some order -/
def Comes (es : Array (Int × Value)) (P : Nat → Value → Prop) : Prop := ∃ l : List (Int × Value), l.Perm es.toList ∧ P = fun i v => ∃ e, l[i]? = some e ∧ e.2 = v
end
end LS

set_option Elab.async false
set_option linter.all false
set_option maxRecDepth 100000
namespace LS
open PySem PySem.Spec PyProof.Rows PySem.Calls PySem.W
section
variable {prog : Program} {w : World} {K : Type} [DecidableEq K] {knd : KeyKind prog w K}
variable {A : Around} {E : Value → Shared → Prop} {s : Shared} {a : Addr} {ks : List K} {o : Obj} {es : Array (Int × Value)} {ep : Nat} {t : SetTable}
end
end LS

set_option Elab.async false
set_option linter.all false
set_option maxRecDepth 100000
namespace L2
open PySem PySem.Spec PyProof.Rows LS
def strsK (m : List Key) : List Str := m.filterMap fun k => match k with | .inr x => some x | .inl _ => none
def intsK (m : List Key) : List Int := m.filterMap fun k => match k with | .inl x => some x | .inr _ => none
section
variable {prog : Program} {w : World} {A : Around} {E : Value → Shared → Prop} {s : Shared} {a : Addr} {ks : List Key} {o : Obj} {es : Array (Int × Value)} {ep : Nat} {t : SetTable}
end
/-! ### the set as it is tracked -/
def setO (P : Program) (w : World) (a : Addr) (ks : List Key) : HO := .ext fun h => SetK (mixKind P w) h a ks
theorem setO_ok {P : Program} {w : World} {H : Hp} {h : Heap} {a : Addr} {ks : List Key} (S : SetK (mixKind P w) h a ks) : ObjOk P w H h a (setO P w a ks) :=
  ⟨S, let ⟨o, _, _, _, S⟩ := S; ⟨o, S.at_⟩, fun h1 h2 S k => S.keep k⟩
section
variable {X : Cx} {pins : List (Addr × Obj)} {σ : List (Option V)} {H : Hp} {s : Shared}
theorem Inv.setK {a : Addr} {ks : List Key} (I : Inv X pins σ H s) (h : H a = some (setO X.prog X.w a ks)) : SetK (mixKind X.prog X.w) s.heap a ks := (I.hok a _ h).1
end
end L2

set_option Elab.async false
set_option linter.all false
set_option maxRecDepth 100000
namespace LS
open PySem PySem.Spec PyProof.Rows L2
/-! each once, as they come -/
section
variable {K : Type} [DecidableEq K]
def putIn (acc : List K) (k : K) : List K := if k ∈ acc then acc else acc ++ [k]
def onceK (ms : List K) : List K := ms.foldl putIn []
theorem putIn_mem {acc : List K} {k x : K} : x ∈ putIn acc k ↔ x ∈ acc ∨ x = k := by
  unfold putIn
  split
  · rename_i h
    exact ⟨.inl, fun z => z.elim id (fun e => e ▸ h)⟩
  · simp
theorem putIn_len (acc : List K) (k : K) : (putIn acc k).length ≤ acc.length + 1 := by unfold putIn; split <;> simp
theorem fold_mem : ∀ (ms acc : List K) (x : K), x ∈ ms.foldl putIn acc ↔ x ∈ acc ∨ x ∈ ms
  | [], acc, x => by simp
  | k :: ms, acc, x => by
    rw [List.foldl_cons, fold_mem ms, putIn_mem]
    simp [or_assoc]
theorem fold_len : ∀ (ms acc : List K), (ms.foldl putIn acc).length ≤ acc.length + ms.length
  | [], acc => by simp
  | k :: ms, acc => by
    rw [List.foldl_cons]
    have := fold_len ms (putIn acc k)
    have := putIn_len acc k
    simp only [List.length_cons]; omega
end
section
variable {prog : Program} {w : World} {A : Around} {E : Value → Shared → Prop} {s : Shared}
theorem key_scan {k : Key} {v : Value} (h : (mixKind prog w).is k v = true) : v.scannable = true := by
  rcases keyIs_shape (show keyIs k v = true from h) with ⟨j, t, _, rfl⟩ | ⟨x, t, _, rfl⟩ <;> rfl
theorem add_key {a : Addr} {ks : List Key} {k : Key} {v : Value} {Q : Bool → Shared → Prop} (hk : (mixKind prog w).is k v = true) (S : SetK (mixKind prog w) s.heap a ks) (room : ks.length + 1 < scanBound)
    (q : ∀ h', Heap.SameBut a s.heap h' → SetK (mixKind prog w) h' a (putIn ks k) → ∀ c : Bool, Q c { s with heap := h', toks := s.toks + 1 }) : wpAny (model prog w) A (setAdd a v) Q E s := by
  unfold setAdd
  refine wpAny_holding ?_
  refine wpAny_bind ((mixKind prog w).pyHash hk ?_)
  exact add_hashed (s := { s with toks := s.toks + 1 }) hk (key_scan hk) S room fun h' b S' => q h' b S' _
theorem add_call {a : Addr} {ks : List Key} {k : Key} {v : Value} {Q : Value → Shared → Prop} (hk : (mixKind prog w).is k v = true) (S : SetK (mixKind prog w) s.heap a ks) (room : ks.length + 1 < scanBound)
    (q : ∀ h', Heap.SameBut a s.heap h' → SetK (mixKind prog w) h' a (putIn ks k) → Q .none { s with heap := h', toks := s.toks + 1 }) : wpAny (model prog w) A (call (.builtin "set.add") [.ref a, v]) Q E s := by
  refine wpAny_call_entry PySem.F.slot_set_add S.setOf.typeIs PySem.F.entry_set_add ?_ (PySem.F.args_set_add_2 _ _)
  unfold Builtin.«set.add» Builtin.Frozenset.oneOther
  simp only [List.isEmpty_nil, bind_assoc]
  unfold Builtin.Frozenset.addrOf
  refine wpAny_bind (wpAny_pure ?_)
  refine wpAny_bind (wpAny_pure ?_)
  refine wpAny_bind (add_key hk S room fun h' b S' _ => ?_)
  exact wpAny_pure ⟨_, rfl, q h' b S'⟩
theorem fill_loop {I L : Addr} {fp wr : List Addr} {G : Array GenState → Array GenState → Prop} {n : Nat} {P : Nat → Value → Prop} {St : Nat → Shared → Prop} {R : Result → Shared → Prop} (W : WalksS prog w A.in1 I fp wr G n P St) (hLf : L ∉ fp)
    (ms : List Key) (hl : ms.length = n) (hm : ∀ i v, P i v → ∃ k, ms[i]? = some k ∧ (mixKind prog w).is k v = true) (hb : n + 1 < scanBound) :
    ∀ (k i : Nat) (s : Shared), n - i = k → i ≤ n → St i s → SetK (mixKind prog w) s.heap L (onceK (ms.take i)) →
      (∀ s', Moved (L :: wr) G s s' → SetK (mixKind prog w) s'.heap L (onceK ms) → R (.ok (.ret .none)) s') →
      codeAny (model prog w) A (.builtin "set.update.loop" ⟨[.ref L, .ref I], []⟩) R s := by
  have hLw : L ∉ wr := fun h => hLf (W.sub _ h)
  intro k
  induction k with
  | zero =>
    intro i s hk hi st S q
    have e : i = n := by omega
    subst e
    refine codeAny_builtin PyProof.Rows.F.entry_set_update_loop ?_
    rw [Around.under_plainId PyProof.Rows.F.plain_set_update_loop _]
    show wpAny _ A.in1 (pyNext (.ref I) >>= _) _ _ s
    refine wpAny_bind (W.done s _ _ st fun s' mv => ?_)
    refine wpAny_pure (q s' (mv.mono fun b hb => List.mem_cons_of_mem _ hb) ?_)
    rw [List.take_of_length_le (by omega)] at S
    exact S.keep fun o e => mv.heap L _ hLw e
  | succ k ih =>
    intro i s hk hi st S q
    have hlt : i < n := by omega
    refine codeAny_builtin PyProof.Rows.F.entry_set_update_loop ?_
    rw [Around.under_plainId PyProof.Rows.F.plain_set_update_loop _]
    show wpAny _ A.in1 (pyNext (.ref I) >>= _) _ _ s
    refine wpAny_bind (W.item i s _ _ hlt st fun v s' hP st' mv => ?_)
    obtain ⟨key, hkey, his⟩ := hm i v hP
    have S' : SetK (mixKind prog w) s'.heap L (onceK (ms.take i)) := S.keep fun o e => mv.heap L _ hLw e
    refine wpAny_bind (wpAny_holding (add_key his S' ?_ fun h' sb S2 _ => ?_))
    · have h1 := fold_len (ms.take i) []
      have h2 : (ms.take i).length ≤ i := by rw [List.length_take]; omega
      have h3 : (onceK (ms.take i)).length ≤ 0 + (ms.take i).length := h1
      omega
    · have e1 : putIn (onceK (ms.take i)) key = onceK (ms.take (i + 1)) := by
        unfold onceK
        rw [List.take_add_one, hkey, List.foldl_append]; rfl
      rw [e1] at S2
      refine wpAny_pure ⟨plainId_quiet PyProof.Rows.F.plain_set_update_loop _, ih (i + 1) _ (by omega) hlt (W.frame _ s' _ _ st' (Nat.le_succ _) fun b hb o e => ?_) S2 fun s'' mv2 S3 => ?_⟩
      · rw [sb.2 b (fun h : b = L => hLf (by rw [← h]; exact hb))]; exact e
      · refine q s'' (Moved.trans W.gtrans ((mv.mono fun b hb => List.mem_cons_of_mem _ hb).then_heap (Nat.le_succ _) fun b o hb e => ?_) mv2) S3
        rw [sb.2 b (fun h : b = L => hb (by rw [h]; exact List.mem_cons_self))]; exact e
end
end LS

set_option Elab.async false
set_option linter.all false
set_option maxRecDepth 100000
namespace LS
open PySem PySem.Spec PyProof.Rows L2
theorem paired_get {α β : Type} {F : α → β → Prop} : ∀ {l : List α} {m : List β}, Paired F l m → ∀ {i : Nat} {x : α}, l[i]? = some x → ∃ y, m[i]? = some y ∧ F x y
  | _, _, .nil, i, x, e => by simp at e
  | _, _, .cons r _, 0, x, e => by simp at e; subst e; exact ⟨_, rfl, r⟩
  | _, _, .cons _ t, i + 1, x, e => by simpa using paired_get t (i := i) (x := x) (by simpa using e)
/-- an empty set, as this world makes it -/
def freshO (w : World) : Obj := { cls := .type "set", dict := none, data := .set #[] 0 (.fresh 0 0 (!(w.params.followText "set-order"))) }
section
variable {prog : Program} {w : World} {A : Around} {E : Value → Shared → Prop} {s : Shared}
theorem new_exact (rest : List Value) (hc : checkBuiltinCall "set.__new__" ⟨.type "set" :: rest, []⟩ = pure ()) {Q : Value → Shared → Prop} (q : Q (.ref s.heap.objs.size) { s with heap := s.heap.push (freshO w) }) :
    codeAny (model prog w) A (.call (.builtin "set.__new__") ⟨.type "set" :: rest, []⟩) (wants Q E) s := by
  refine codeAny_of_tree ?_
  show wpAny _ A.in1 (checkBuiltinCall "set.__new__" ⟨.type "set" :: rest, []⟩ >>= fun _ => again (.builtin "set.__new__" ⟨.type "set" :: rest, []⟩)) _ _ s
  refine wpAny_bind (wpAny_of_eq hc (wpAny_pure ⟨plainId_quiet PySem.F.plain_set_new _, codeAny_builtin PySem.F.entry_set_new ?_⟩))
  rw [Around.under_plainId PySem.F.plain_set_new _]
  unfold Builtin.«set.__new__» Builtin.Frozenset.newClass
  have hsub := sub_set_self
  obtain ⟨hp, g, d, tk, os⟩ := s
  dsimp only
  wp_walk
  refine wpAny_askSetting (wpAny_pure ?_)
  dsimp only
  simp only [newObj]
  refine wpAny_bind (wpAny_alloc (wpAny_pure ?_))
  exact wpAny_pure q
/-- set(..): the new object, then what __init__ makes of it -/
theorem call_any {rest : List Value} {Q : Value → Shared → Prop} (hct : checkTypeCall "set" ⟨rest, []⟩ = pure ()) (hcn : checkBuiltinCall "set.__new__" ⟨.type "set" :: rest, []⟩ = pure ())
    (hci : ∀ (M : Model) (A : Around) (E : Value → Shared → Prop) (s' : Shared) (Q' : Unit → Shared → Prop), s'.TypeIs (.ref s.heap.objs.size) "set" → Q' () s' → wpAny M A (checkBuiltinCall "set.__init__" ⟨.ref s.heap.objs.size :: rest, []⟩) Q' E s')
    (init : ∀ (R : Result → Shared → Prop), (∀ h' tk, (∀ b o, s.heap.get? b = some o → h'.get? b = some o) → Q (.ref s.heap.objs.size) { s with heap := h', toks := tk } → R (.ok (.ret .none)) { s with heap := h', toks := tk }) →
      wpAny (model prog w) A.in1.in1 (Builtin.«set.__init__» ⟨.ref s.heap.objs.size :: rest, []⟩) (fun fin s' => match fin with | .done f => R (.ok f) s' | .again c' => c'.quiet = true ∧ codeAny (model prog w) A.in1 c' R s') (fun e s' => R (.error e) s')
        { s with heap := s.heap.push (freshO w) }) :
    wpAny (model prog w) A (call (.type "set") rest) Q E s := by
  obtain ⟨c, tl, hmro⟩ := PySem.F.called_set.mro
  have hmade := PySem.F.called_set.made
  have hsub := PySem.F.called_set.sub
  refine wpAny_call (codeAny_of_tree ?_)
  show wpAny _ _ (callAny (.type "set") _) _ _ _
  refine wpAny_pure ⟨Code.quiet_builtin _ (by decide +kernel), codeAny_builtin PySem.F.entry_type_call ?_⟩
  rw [Around.under_plain (weight_type_call_type "set" rest []) rfl]
  have h1 := PySem.F.called_set.notType
  have h2 := PySem.F.called_set.canCreate
  repeat (any_goals (first | assumption | wp_step))
  refine codeAny_mono (new_exact (w := w) rest hcn (E := E) (Q := fun obj s₁ => obj = .ref s.heap.objs.size ∧ s₁ = { s with heap := s.heap.push (freshO w) }) ⟨rfl, rfl⟩) fun r s₁ hr => ?_
  cases r with
  | error e => exact hr
  | ok fl =>
    cases fl with
    | ret obj =>
      obtain ⟨rfl, rfl⟩ := hr
      have hS : (s.heap.push (freshO w)).get? s.heap.objs.size = some (freshO w) := Heap.get?_push_size _ rfl
      have hT : Shared.TypeIs { s with heap := s.heap.push (freshO w) } (.ref s.heap.objs.size) "set" := ⟨_, hS, rfl⟩
      have hli := PySem.F.called_set.init.lookup
      have hbi := PySem.F.called_set.init.bind (.ref s.heap.objs.size)
      repeat (any_goals (first | assumption | wp_step))
      refine codeAny_mono (codeAny_call_builtin (R := wants (fun r s₂ => r = .none ∧ Q (.ref s.heap.objs.size) s₂) E) PySem.F.called_set.init.plain PySem.F.entry_set_init (hci _ _ _ _ _ hT (init _ fun h' tk _ q => ⟨rfl, q⟩))) fun r₂ s₂ hr₂ => ?_
      cases r₂ with
      | error e => exact hr₂
      | ok fl₂ =>
        cases fl₂ with
        | ret r =>
          obtain ⟨rfl, hq⟩ := hr₂
          repeat (any_goals (first | assumption | wp_step))
        | _ => exact hr₂.elim
    | _ => exact hr.elim
theorem set_empty {Q : Value → Shared → Prop} (q : ∀ h', SetK (mixKind prog w) h' s.heap.objs.size [] → (∀ b o, s.heap.get? b = some o → h'.get? b = some o) → Q (.ref s.heap.objs.size) { s with heap := h' }) : wpAny (model prog w) A (call (.type "set") []) Q E s := by
  refine call_any PySem.F.typeCall_set_0 PySem.F.newCall_set_0 (fun M A E s' Q' hT q' => check_set_init hT q') fun R fin => ?_
  have hS : (s.heap.push (freshO w)).get? s.heap.objs.size = some (freshO w) := Heap.get?_push_size _ rfl
  have hT : Shared.TypeIs { s with heap := s.heap.push (freshO w) } (.ref s.heap.objs.size) "set" := ⟨_, hS, rfl⟩
  unfold freshO at hS hT ⊢
  unfold Builtin.«set.__init__» noKeywords
  wp_walk
  exact fin _ s.toks (fun b o e => Heap.get?_push_of_some _ e) (q _ (fresh_set rfl hS) fun b o e => Heap.get?_push_of_some _ e)
theorem set_list {l : Addr} {items : Array Value} {ms : List Key} {Q : Value → Shared → Prop} (hh : A.handled = none) (hl : s.heap.IsList l items) (hm : Paired (fun v k => (mixKind prog w).is k v = true) items.toList ms) (hb : items.size + 1 < scanBound)
    (q : ∀ h' tk, SetK (mixKind prog w) h' s.heap.objs.size (onceK ms) → (∀ b o, s.heap.get? b = some o → h'.get? b = some o) → Q (.ref s.heap.objs.size) { s with heap := h', toks := tk }) : wpAny (model prog w) A (call (.type "set") [.ref l]) Q E s := by
  refine call_any (PySem.F.typeCall_set_1 _) (PySem.F.newCall_set_1 _) (fun M A E s' Q' hT q' => check_set_init_1 hT q') fun R fin => ?_
  have hS : (s.heap.push (freshO w)).get? s.heap.objs.size = some (freshO w) := Heap.get?_push_size _ rfl
  have hT : Shared.TypeIs { s with heap := s.heap.push (freshO w) } (.ref s.heap.objs.size) "set" := ⟨_, hS, rfl⟩
  have hz : (s.heap.push (freshO w)).objs.size = s.heap.objs.size + 1 := Heap.size_push _ _
  obtain ⟨ol, hol, hcl, nl, hdl⟩ := id hl
  obtain ⟨ocls, odict, odata, oslots⟩ := ol
  simp only at hcl hdl
  subst hcl
  subst hdl
  have hol' : (s.heap.push (freshO w)).get? l = some { cls := .type "list", dict := odict, data := .seq items nl, slots := oslots } := Heap.get?_push_of_some _ hol
  have hsls := PySem.F.sub_list_set
  have hslf := PySem.F.sub_list_frozenset
  have hne : (Value.type "list" == Value.type "dict") = false := by decide
  have hl1 : (s.heap.push (freshO w)).IsList l items := ⟨_, hol', rfl, nl, rfl⟩
  have hlS : l < s.heap.objs.size := Heap.lt_size hol
  unfold freshO at hS hT hz hol' hl1 ⊢
  unfold Builtin.«set.__init__» noKeywords Builtin.Frozenset.updateFrom
  generalize hPI : pyIter = PI
  wp_walk
  subst hPI
  refine wpAny_pyIter_list hl1 ?_
  refine wpAny_bind (wpAny_runValue ?_)
  have hh3 : A.in1.in1.in1.handled = none := by simp [hh]
  refine fill_loop (L := s.heap.objs.size) ((Walks.list hh3 _ l ?_ items).toS) ?_ ms ?_ (fun i v hv => ?_) hb (items.size - 0) 0 _ (by omega) (Nat.zero_le _) ⟨⟨_, Heap.get?_push_size _ rfl, rfl, rfl⟩, (hl1.push _)⟩ ?_ fun s' mv S' => ?_
  · rw [hz]; exact Nat.ne_of_lt (Nat.lt_succ_of_lt hlS)
  · rw [hz]
    intro hmem
    rcases mem2 hmem with e | e
    · exact absurd e (Nat.ne_of_lt (Nat.lt_succ_self _))
    · exact absurd e (Nat.ne_of_gt hlS)
  · rw [← hm.length, Array.length_toList]
  · have hv' : items.toList[i]? = some v := by rw [Array.getElem?_toList]; exact hv
    exact paired_get hm hv'
  · exact fresh_set rfl (Heap.get?_push_of_some _ hS)
  · obtain ⟨h', g', d', tk', os'⟩ := s'
    have eg : g' = s.gens := mv.gens
    have ed : d' = s.drawn := mv.drawn
    have eo : os' = s.os := mv.os
    subst eg; subst ed; subst eo
    have kp : ∀ b o, s.heap.get? b = some o → h'.get? b = some o := fun b o e => mv.heap b o (fun hm => by
      rcases mem2 hm with e' | e'
      · exact absurd e' (Nat.ne_of_lt (Heap.lt_size e))
      · rw [hz] at e'; exact absurd e' (Nat.ne_of_lt (Nat.lt_succ_of_lt (Heap.lt_size e)))) (Heap.get?_push_of_some _ (Heap.get?_push_of_some _ e))
    show wpAny _ _ _ _ _ _
    refine wpAny_pure ?_
    exact wpAny_pure (fin h' tk' kp (q h' tk' S' kp))
end
end LS

set_option Elab.async false
set_option linter.all false
set_option maxRecDepth 100000
namespace L2
open PySem PySem.Spec PyProof.Rows LS
theorem bt_set : bootBuiltins "set" = some (.type "set") := by decide +kernel
theorem dec_mem {K : Type} [DecidableEq K] {k : K} {ks : List K} : decide (k ∈ ks) = true ↔ k ∈ ks := decide_eq_true_iff
theorem rel_key {P : Program} {w : World} {k : Key} {v : Value} (r : RelV (kV k) v) : (mixKind P w).is k v = true := by
  cases k with
  | inl i => obtain ⟨t, rfl⟩ := r; exact mixKind_int P w i t
  | inr x => obtain ⟨t, rfl⟩ := r; exact mixKind_str P w x t
section
variable {X : Cx}
theorem Inv.tk1 {pins : List (Addr × Obj)} {σ : List (Option V)} {H : Hp} {s : Shared} {n : Nat} (I : Inv X pins σ H s) : Inv X pins σ H { s with toks := n } := ⟨I.ok, I.os, I.bare, I.base, I.loc, I.cell, I.free, I.freeC, I.pin, I.hok, I.len⟩
/-- set() -/
theorem call_set0 : CallR X (.type "set") (fun vs H Q => vs = [] ∧ ∀ l, H l = none → Q (.ref l) (upd H l (setO X.prog X.w l []))) := by
  intro pins s σ H xs us Q I r h
  obtain ⟨rfl, q⟩ := h
  cases r
  refine set_empty fun h' S kp => ?_
  exact ⟨.ref s.heap.objs.size, _, I.laid (t' := s.toks) kp (Nat.le_refl _) (setO_ok S), rfl, q _ I.fresh⟩
def rInS (P : Program) (w : World) (neg : Bool) : R2 := fun x y H Q => ∃ a ks k, y = .ref a ∧ H a = some (setO P w a ks) ∧ x = kV k ∧ ∀ b : Bool, (b = true ↔ k ∈ ks) → Q (.bl (if neg then !b else b)) H
theorem op_inS : OpR X (compareOp .In) (rInS X.prog X.w false) := by
  intro pins s σ H x y v u Q I rx ry h
  obtain ⟨a, ks, k, rfl, ha, rfl, q⟩ := h
  cases ry
  have hk : (mixKind X.prog X.w).is k v = true := rel_key rx
  have S := (I.setK ha).setOf
  exact wpAny_inSet_of hk (key_scan hk) S ⟨.bl _, H, I.tk1, rfl, q _ dec_mem⟩
def tBMS (P : Program) (w : World) (r : V → List V → Hp → VK → Prop) (to : TE) (t : TA) : TE := fun σ H Q => to σ H fun x H1 => (∃ a ks, x = .ref a ∧ H1 a = some (setO P w a ks)) ∧ t σ H1 fun xs H2 => r x xs H2 Q
variable {o e : Expr} {es : List Expr} {to : TE} {t : TA} {name : Str} {apos cpos : Pos} {id : String} {r : V → List V → Hp → VK → Prop}
theorem pe_bmS (slot : Slot "set" name id) (hty : typeOf (.builtin id) = pure (.type "method_descriptor")) (hm : MtM X id r) (ho : PE X o to) (ha : PA X (e :: es) t)
    (hbase : attributeBase o name X.env (eval o X.env) = eval o X.env := by rfl)
    (hfew : ((backTo cpos (starEach (e :: es) X.env)).all (fun x => !x.1) && (backToKw cpos (keywordEach [] X.env)).all (fun x => x.1.isSome)
      && decide ((e :: es).length + ([] : List Keyword).length + (if ([] : List Keyword).isEmpty then 0 else 1) < 30)) = true := by rfl)
    (hline : (apos.endLine == cpos.line) = true := by rfl) (hs : starEach (e :: es) X.env = (false, eval e X.env) :: starEach es X.env := by rfl) (hplain : (backTo cpos (starEach es X.env)).any (·.1) = false := by rfl) :
    PE X (.Call (.Attribute o name apos) (e :: es) [] cpos) (tBMS X.prog X.w r to t) := by
  intro pins s σ H Q I h
  refine wpAny_Call_method_late hbase hfew hline rfl (thn (ho pins s σ H _ I h) fun v s1 ⟨x, H1, I1, r1, ty, q1⟩ => ?_)
  obtain ⟨a, ks, rfl, hset⟩ := ty
  cases (show v = Value.ref a from r1)
  have S := (I1.setK hset).setOf
  refine ⟨"set", id, PySem.F.plainAttrs_set, slot, hty, S.typeIs, S.noDict, ?_⟩
  have hA := ha cpos pins s1 σ H1 _ I1 q1
  rw [hs] at hA ⊢
  refine Calls.callWith_builtin (by show (false || (backTo cpos (starEach es X.env)).any (·.1)) = false; rw [hplain] <;> rfl) (Calls.evalArgs_plain ?_)
  exact thn hA fun us s2 ⟨vs, H2, I2, r2, q2⟩ => hm pins s2 σ H2 (.ref a) vs (.ref a) us Q I2 rfl r2 q2
def rAddS (P : Program) (w : World) : V → List V → Hp → VK → Prop := fun x vs H Q => ∃ a ks k, x = .ref a ∧ vs = [kV k] ∧ H a = some (setO P w a ks) ∧ ks.length + 1 < scanBound ∧ Q .non (upd H a (setO P w a (putIn ks k)))
theorem mt_addS : MtM X "set.add" (rAddS X.prog X.w) := by
  intro pins s σ H x xs v us Q I rx r h
  obtain ⟨a, ks, k, rfl, rfl, ha, hz, q⟩ := h
  cases (show v = Value.ref a from rx)
  obtain ⟨u, rfl, ru⟩ := vals1 r
  refine add_call (rel_key ru) (I.setK ha) hz fun h' b S' => ?_
  refine ⟨.non, _, I.write (t' := s.toks + 1) (x := a) (e := a) (by rw [ha]; exact trivial) (.inl rfl) (fun c u' hc hu => b.extBut c u' hc hu) ?_ (setO_ok S'), rfl, q⟩
  obtain ⟨o, _, _, _, So⟩ := S'
  exact ⟨o, So.at_⟩
end
end L2

set_option Elab.async false
set_option linter.all false
set_option maxRecDepth 100000
namespace L2
open PySem PySem.Spec PyProof.Rows LS
/-! ### the names in a plan -/
structure DeedG (K : PySem.W.Frag) (mg : Str → Option Value) (aD d0 d1 d2 d3 d4 : Addr) : Prop where
  tab : TabG K mg "DEED_PARTS" aD [("put", d0), ("copy", d1), ("add", d2), ("read", d3), ("tell", d4)]
  q0 : KTup K d0 ["name", "number"]
  q1 : KTup K d1 ["name", "name"]
  q2 : KTup K d2 ["name", "number"]
  q3 : KTup K d3 ["name"]
  q4 : KTup K d4 ["name"]
def dNames : Deed → List Str
  | .put x _ => [x]
  | .copy x y => [x, y]
  | .add x _ => [x]
  | .read x => [x]
  | .tell x => [x]
def eNames : End → List Str
  | .tst _ x _ _ _ => [x]
  | _ => []
def pNames (p : Piece) : List Str := p.1.flatMap dNames ++ eNames p.2
def allNames (ps : List Piece) : List Str := ps.flatMap pNames
def kD : Deed → List Str
  | .put .. => ["name", "number"]
  | .copy .. => ["name", "name"]
  | .add .. => ["name", "number"]
  | .read .. => ["name"]
  | .tell .. => ["name"]
def wD : Deed → Str
  | .put .. => "put"
  | .copy .. => "copy"
  | .add .. => "add"
  | .read .. => "read"
  | .tell .. => "tell"
theorem tab_hit {k : Str} {d : Addr} {D : List (Str × Addr)} : KTD.datumAt k ((k, d) :: D) = some d := by
  show (if decide (k = k) = true then some d else KTD.datumAt k D) = some d
  rw [if_pos (decide_eq_true rfl)]
theorem tab_miss {k x : Str} {d : Addr} {D : List (Str × Addr)} {o : Option Addr} (h : ¬ k = x) (e : KTD.datumAt k D = o) : KTD.datumAt k ((x, d) :: D) = o := by
  show (if decide (k = x) = true then some d else KTD.datumAt k D) = o
  rw [if_neg (by rw [decide_eq_false h]; decide)]
  exact e
theorem DeedG.at_ {K : PySem.W.Frag} {mg : Str → Option Value} {aD d0 d1 d2 d3 d4 : Addr} (G : DeedG K mg aD d0 d1 d2 d3 d4) (d : Deed) :
    ∃ s, KTD.datumAt (wD d) [(("put" : Str), d0), ("copy", d1), ("add", d2), ("read", d3), ("tell", d4)] = some s ∧ KTup K s (kD d) := by
  cases d with
  | put x n => exact ⟨d0, tab_hit, G.q0⟩
  | copy x y => exact ⟨d1, tab_miss (show ¬ (("copy" : Str) = "put") by decide +kernel) tab_hit, G.q1⟩
  | add x n => exact ⟨d2, tab_miss (show ¬ (("add" : Str) = "put") by decide +kernel) (tab_miss (show ¬ (("add" : Str) = "copy") by decide +kernel) tab_hit), G.q2⟩
  | read x => exact ⟨d3, tab_miss (show ¬ (("read" : Str) = "put") by decide +kernel) (tab_miss (show ¬ (("read" : Str) = "copy") by decide +kernel) (tab_miss (show ¬ (("read" : Str) = "add") by decide +kernel) tab_hit)), G.q3⟩
  | tell x => exact ⟨d4, tab_miss (show ¬ (("tell" : Str) = "put") by decide +kernel) (tab_miss (show ¬ (("tell" : Str) = "copy") by decide +kernel) (tab_miss (show ¬ (("tell" : Str) = "add") by decide +kernel) (tab_miss (show ¬ (("tell" : Str) = "read") by decide +kernel) tab_hit))), G.q4⟩
def spNamesOf : Sp := fun vs H Q _ => ∃ (plv : V) (ps : List Piece) (xs : List Str) (m : Nat), vs = [plv] ∧ RdD H plv (dPlan ps) ∧ PlanOk xs m ps ∧ xs.length < 64 ∧ (allNames ps).length ≤ 4000 ∧
  ∀ (t : Addr) (ss : List Str) (H' : Hp), H' t = some (.tup (ss.map V.str)) → ss.Perm (onceK (allNames ps)) → sortedS ss = true → ss.length < 64 → Same H H' → Q (.ref t) H'
end L2

set_option Elab.async false
set_option linter.all false
set_option maxRecDepth 100000
namespace L2
open PySem PySem.Spec PyProof.Rows
/-! ### a part of a tuple of numbers -/
theorem cut_ints_end {nums : List Int} {at_ : Nat} (h : at_ ≤ nums.length) : cutV (nums.map V.int) (some (at_ : Int)) none = (nums.drop at_).map V.int := by
  unfold cutV
  rw [HT.sIx_nat, HT.sIx_none, List.length_map]
  rw [← List.map_drop, ← List.map_take]
  congr 1
  rw [show min at_ nums.length = at_ by omega]
  exact List.take_of_length_le (by rw [List.length_drop]; omega)
/-! ### two walkers of one plan -/
structure DuoG (H0 : Hp) (w0 w1 : WA) : Prop where
  ap : Apart w0 w1
  f0 : FrA H0 w0
  f1 : FrA H0 w1
structure Duo (C D : Addr) (H0 H : Hp) (w0 w1 : WA) (plv : V) (x0 x1 : WSt) : Prop where
  a0 : WAtA C D H w0 plv x0
  a1 : WAtA C D H w1 plv x1
  s : Same H0 H
section
variable {C D : Addr} {H0 H H1 : Hp} {w0 w1 : WA} {plv : V} {x0 x1 x' : WSt}
theorem Duo.same (T : Duo C D H0 H w0 w1 plv x0 x1) (s : Same H H1) : Duo C D H0 H1 w0 w1 plv x0 x1 := ⟨T.a0.same s, T.a1.same s, T.s.trans s⟩
end
def spInputB : Sp := fun vs H Q _ => ∃ (b : Addr), vs = [.ref b] ∧ Bag H b ∧ ∀ (t : Addr) (nums : List Int) (H' : Hp), H' t = some (.tup (nums.map V.int)) → nums.length ≤ 200 → Bag H' b → Fix b H H' → Q (.ref t) H'
theorem WAtA.fix {C D : Addr} {H H' : Hp} {x : WA} {pv : V} {s : WSt} {b : Addr} (W : WAtA C D H x pv s) (n : Out x b) (f : Fix b H H') : WAtA C D H' x pv s :=
  WAt.keep W fun c o h e => f c o h (by
    obtain ⟨n1, n2, n3, n4, n5, n6⟩ := n
    rcases e with rfl | rfl | rfl | rfl | rfl | rfl
    · exact n1.symm
    · exact n2.symm
    · exact n3.symm
    · exact n4.symm
    · exact n5.symm
    · exact n6.symm)
def dWpt (ps : List Piece) (x : WSt) : PyData := .tuple [.str (standF ps x.nums x.S), .int x.S.piece, .tuple (x.S.told.map PyData.int)]
end L2

set_option Elab.async false
set_option linter.all false
set_option maxRecDepth 100000
namespace L2
open PySem PySem.Spec PyProof.Rows LS
theorem intsAre_at : ∀ {us : List Value} {ns : List Int}, IntsAre us ns → ∀ m (hm : m < us.length), ∃ (hm' : m < ns.length) (t : Tok), us[m] = .int ns[m] t
  | _, _, .nil, m, hm => absurd hm (Nat.not_lt_zero _)
  | _, _, .cons n t h, 0, hm => ⟨Nat.succ_pos _, t, rfl⟩
  | _, _, .cons n t h, m + 1, hm => by
    obtain ⟨hm', t', e⟩ := intsAre_at h m (Nat.lt_of_succ_lt_succ hm)
    exact ⟨Nat.succ_lt_succ hm', t', e⟩
section
variable {X : Cx}
/-- min of a list of ints -/
def rMinL (K : PySem.W.Frag) : List V → Hp → VK → Prop := fun vs H Q => ∃ (p : Addr) (ns : List Int), vs = [.ref p] ∧ SqL K H p (ns.map V.int) ∧ 0 < ns.length ∧ ∀ M, M ∈ ns → (∀ a, a ∈ ns → M ≤ a) → Q (.int M) H
theorem call_minL (hc : X.calm = true) : CallR X (.builtin "min") (rMinL X.K) := by
  intro pins s σ H xs us Q I r h
  obtain ⟨p, ns, rfl, hS, hn, q⟩ := h
  obtain ⟨u, rfl, ru⟩ := vals1 r
  cases (show u = Value.ref p from ru)
  obtain ⟨its, rv, pl, hz⟩ := I.list hS
  have hi : IntsAre its ns := intsAre_of rv
  have hl := pl.isList
  obtain ⟨zs, e⟩ := hi.allInts.items
  have hns : ns = zs.toList.map (·.1) := by rw [← hi.numsOf, ← nums_intItems, ← e]
  have hsz : 0 < zs.size := by
    have h3 := hn
    rw [hns, List.length_map, Array.length_toList] at h3
    exact h3
  rw [e] at hl
  refine min_intList (I.ok.hd hc) hl hsz fun v h' tk hv hk => ?_
  obtain ⟨t, rfl⟩ := intItems_at hv
  obtain ⟨h1, h2⟩ := argBest_lt (numAt zs) (zs.size - 1)
  refine ⟨.int _, H, I.kept hk, ⟨_, rfl⟩, q _ ?_ fun a ha => ?_⟩
  · rw [hns, numAt_eq]; exact getD_mem (by rw [List.length_map, Array.length_toList]; omega)
  · rw [hns] at ha
    obtain ⟨j, hj, rfl⟩ := mem_getD ha
    rw [List.length_map, Array.length_toList] at hj
    rw [← numAt_eq]; exact h2 j (by omega)
/-- the place of a number in a list of numbers -/
def rIndex : V → List V → Hp → VK → Prop := fun x vs H Q => ∃ (l : Addr) (ns : List Int) (a : Int), x = .ref l ∧ vs = [.int a] ∧ H l = some (.lst (ns.map V.int)) ∧ a ∈ ns ∧ Q (.int (ns.idxOf a : Nat)) H
theorem mt_index : MtM X "list.index" rIndex := by
  intro pins s σ H x vs v us Q I rx rv h
  obtain ⟨l, ns, a, rfl, rfl, hH, ha, q⟩ := h
  cases rx
  obtain ⟨u, rfl, ru⟩ := rv.one
  obtain ⟨z, its, n, r, hl, e⟩ := I.lstM hH
  have fs : (ns.map V.int).all flatV = true := by rw [List.all_eq_true]; intro v hv; obtain ⟨k, _, rfl⟩ := List.mem_map.mp hv; rfl
  have hlen : ns.length = its.length := by have := r.length; rw [List.length_map] at this; exact this
  have hj : ns.idxOf a < ns.length := List.idxOf_lt_length_of_mem ha
  have hi := intsAre_of r
  refine call_meets F.slot_list_index ⟨_, e, rfl⟩ F.entry_list_index (F.args_list_index_2 _ _)
    (SeqAt.list_indexAt l its.toArray n none #[] u (eqU (.int a)) (ns.idxOf a) (by rw [List.size_toArray]; omega) (by have := z; rw [List.length_map] at this; have := line63; omega) ?_ ?_) ⟨e, fun y hy => mem_eqAt ru rfl r fs y (by simpa using hy), ?_⟩
  · obtain ⟨hm', t, e1⟩ := intsAre_at hi (ns.idxOf a) (by omega)
    rw [show its.toArray[ns.idxOf a]'(by rw [List.size_toArray]; omega) = its[ns.idxOf a]'(by omega) from rfl, e1, List.getElem_idxOf]
    exact beq_self_eq_true a
  · intro m hm hlt
    obtain ⟨hm', t, e1⟩ := intsAre_at hi m (by rw [List.size_toArray] at hm; exact hm)
    rw [show its.toArray[m] = its[m]'(by rw [List.size_toArray] at hm; exact hm) from rfl, e1]
    exact List.not_of_lt_findIdx hlt
  · exact ⟨.int _, H, I.tk1, ⟨_, rfl⟩, q⟩
end
/-! ### a row of things, told once each -/
def rofl (a0 a1 : V) : List (Str × V) := [("members", a0), ("places", a1)]
section
variable {a0 a1 z : V}
theorem lk_members : (rofl a0 a1).lookup ("members" : Str) = some a0 := lk_h
theorem lk_places : (rofl a0 a1).lookup ("places" : Str) = some a1 := (lk_t (by decide +kernel) lk_h)
theorem mk_members : putF "members" a0 ([] : List (Str × V)) = ([("members", a0)] : List (Str × V)) := pf_n
theorem mk_places : putF "places" a1 ([("members", a0)] : List (Str × V)) = rofl a0 a1 := (pf_t (by decide +kernel) pf_n)
theorem rno_place_of : (rofl a0 a1).lookup ("place_of" : Str) = none := (lk_t (by decide +kernel) (lk_t (by decide +kernel) rfl))
end
structure RowT (K : PySem.W.Frag) (C : Addr) : Prop where
  cl : Cls K C
  members : NoAttr K C "members"
  places : NoAttr K C "places"
abbrev vN (ms : List Nat) : List V := ms.map fun k => V.int (k : Nat)
structure RAt (C : Addr) (H : Hp) (r m d : Addr) (ms : List Nat) : Prop where
  ob : ∃ dx, H r = some (.ins C dx (rofl (.ref m) (.ref d)))
  mem : H m = some (.lst (vN ms))
  plc : ∃ kvs, H d = some (.dK kvs) ∧ kvs.length ≤ ms.length ∧ ∀ k : Nat, valV kvs (Sum.inl (k : Int) : Key) = if k ∈ ms then some (.int (ms.idxOf k : Nat)) else none
def But2 (m d : Addr) (H H' : Hp) : Prop := ∀ c o, H c = some o → c ≠ m → c ≠ d → H' c = some o
theorem But2.refl {m d : Addr} {H : Hp} : But2 m d H H := fun _ _ h _ _ => h
theorem But2.trans {m d : Addr} {H H1 H2 : Hp} (a : But2 m d H H1) (b : But2 m d H1 H2) : But2 m d H H2 := fun c o h n1 n2 => b c o (a c o h n1 n2) n1 n2
theorem But2.of_same {m d : Addr} {H H' : Hp} (h : Same H H') : But2 m d H H' := fun c o e _ _ => h c o e
section
variable {C r m d : Addr} {H H' : Hp} {ms : List Nat}
theorem RAt.nes (A : RAt C H r m d ms) : r ≠ m ∧ r ≠ d ∧ d ≠ m := by
  obtain ⟨dx, h1⟩ := A.ob
  obtain ⟨kvs, h2, _⟩ := A.plc
  refine ⟨ne_of h1 A.mem ?_, ne_of h1 h2 ?_, ne_of h2 A.mem ?_⟩ <;> (intro z; cases z)
theorem RAt.same (A : RAt C H r m d ms) (s : Same H H') : RAt C H' r m d ms := by
  obtain ⟨⟨dx, h1⟩, h2, kvs, h3, h4⟩ := A
  exact ⟨⟨dx, s _ _ h1⟩, s _ _ h2, kvs, s _ _ h3, h4⟩
theorem RAt.keep (A : RAt C H r m d ms) (k : ∀ c o, H c = some o → (c = r ∨ c = m ∨ c = d) → H' c = some o) : RAt C H' r m d ms := by
  obtain ⟨⟨dx, h1⟩, h2, kvs, h3, h4⟩ := A
  exact ⟨⟨dx, k _ _ h1 (.inl rfl)⟩, k _ _ h2 (.inr (.inl rfl)), kvs, k _ _ h3 (.inr (.inr rfl)), h4⟩
theorem RAt.tup {c : Addr} {xs : List V} (A : RAt C H r m d ms) (b : But2 m d H H') (h : H c = some (.tup xs)) : H' c = some (.tup xs) := by
  obtain ⟨kvs, h2, _⟩ := A.plc
  refine b c _ h (ne_of h A.mem ?_) (ne_of h h2 ?_) <;> (intro z; cases z)
end
theorem idx_app {ms : List Nat} {k : Nat} (h : ¬ k ∈ ms) : (ms ++ [k]).idxOf k = ms.length := by
  rw [List.idxOf_append, if_neg h]; simp
theorem idx_old {ms : List Nat} {k j : Nat} (h : j ∈ ms) : (ms ++ [k]).idxOf j = ms.idxOf j := by
  rw [List.idxOf_append, if_pos h]
section
variable (C : Addr)
def spRowInit : Sp := fun vs H Q _ => ∃ (r dx : Addr) (k : Nat), vs = [.ref r, .int (k : Nat)] ∧ H r = some (.ins C dx []) ∧
  ∀ (m d : Addr) (H' : Hp), RAt C H' r m d [k] → (∀ c o, H c = some o → c ≠ r → H' c = some o) → H m = none → H d = none → Q .non H'
def spPlaceOf : Sp := fun vs H Q _ => ∃ (r m d : Addr) (k : Nat) (ms : List Nat), vs = [.ref r, .int (k : Nat)] ∧ RAt C H r m d ms ∧ ms.length ≤ 1000 ∧
  ∀ H', RAt C H' r m d (LS.putIn ms k) → But2 m d H H' → Q (.int ((LS.putIn ms k).idxOf k : Nat)) H'
end
/-! ### ways followed through what is idle -/
def idleB : Piece → Bool
  | ([], .go _) => true
  | _ => false
def minN (l : List Nat) : Nat := l.min?.getD 0
def folN (ps : List Piece) : Nat → Nat → List Nat → Nat
  | 0, at_, _ => at_
  | f + 1, at_, passed => match ps[at_]? with
    | some ([], .go n) => if at_ ∈ passed then minN (passed.drop (passed.idxOf at_)) else folN ps f n (passed ++ [at_])
    | _ => at_
def folF (ps : List Piece) (at_ : Nat) : Nat := folN ps (ps.length + 1) at_ []
theorem folN_idle {ps : List Piece} {f at_ n : Nat} {passed : List Nat} (h : ps[at_]? = some ([], .go n)) : folN ps (f + 1) at_ passed = if at_ ∈ passed then minN (passed.drop (passed.idxOf at_)) else folN ps f n (passed ++ [at_]) := by
  show (match ps[at_]? with
    | some ([], .go n) => if at_ ∈ passed then minN (passed.drop (passed.idxOf at_)) else folN ps f n (passed ++ [at_])
    | _ => at_) = _
  rw [h]
theorem idle_is {pc : Piece} (h : idleB pc = true) : ∃ n, pc = ([], .go n) := by
  obtain ⟨ds, e⟩ := pc
  cases ds with
  | nil => cases e with
    | go n => exact ⟨n, rfl⟩
    | _ => cases h
  | cons _ _ => cases h
theorem folN_not {ps : List Piece} {f at_ : Nat} {pc : Piece} {passed : List Nat} (h : ps[at_]? = some pc) (hi : idleB pc = false) : folN ps (f + 1) at_ passed = at_ := by
  show (match ps[at_]? with
    | some ([], .go n) => if at_ ∈ passed then minN (passed.drop (passed.idxOf at_)) else folN ps f n (passed ++ [at_])
    | _ => at_) = _
  rw [h]
  obtain ⟨ds, e⟩ := pc
  cases ds with
  | nil => cases e with
    | go n => cases hi
    | _ => rfl
  | cons _ _ => rfl
theorem minN_is {l : List Nat} {M : Int} (h1 : M ∈ l.map fun k : Nat => (k : Int)) (h2 : ∀ a, a ∈ (l.map fun k : Nat => (k : Int)) → M ≤ a) : M = (minN l : Nat) := by
  obtain ⟨k, hk, rfl⟩ := List.mem_map.mp h1
  have : l.min? = some k := List.min?_eq_some_iff.mpr ⟨hk, fun b hb => by have := h2 _ (List.mem_map.mpr ⟨b, hb, rfl⟩); omega⟩
  unfold minN
  rw [this]
  rfl
theorem minN_mem {l : List Nat} (h : l ≠ []) : minN l ∈ l := by
  unfold minN
  cases e : l.min? with
  | none => exact absurd (List.min?_eq_none_iff.mp e) h
  | some k => exact (List.min?_eq_some_iff.mp e).1
theorem folN_lt {ps : List Piece} (hin : InPlan ps) : ∀ (f at_ : Nat) (passed : List Nat), at_ < ps.length → (∀ x ∈ passed, x < ps.length) → folN ps f at_ passed < ps.length
  | 0, at_, _, h, _ => h
  | f + 1, at_, passed, h, hp => by
    have hat : ps[at_]? = some ps[at_] := by simp [h]
    cases hi : idleB ps[at_] with
    | false => rw [folN_not hat hi]; exact h
    | true =>
      obtain ⟨n, e⟩ := idle_is hi
      have hn : n < ps.length := by
        have := hin _ (List.getElem_mem h)
        rw [e] at this
        exact this
      rw [folN_idle (n := n) (by rw [hat, e])]
      by_cases hm : at_ ∈ passed
      · rw [if_pos hm]
        refine hp _ (List.mem_of_mem_drop (minN_mem (l := passed.drop (passed.idxOf at_)) fun z => ?_))
        have h1 := congrArg List.length z
        rw [List.length_drop] at h1
        have := List.idxOf_lt_length_of_mem hm
        simp at h1
        omega
      · rw [if_neg hm]
        refine folN_lt hin f n _ hn fun x hx => ?_
        rcases List.mem_append.mp hx with hx | hx
        · exact hp x hx
        · rw [List.mem_singleton.mp hx]; exact h
theorem folF_lt {ps : List Piece} (hin : InPlan ps) {k : Nat} (h : k < ps.length) : folF ps k < ps.length := folN_lt hin _ _ _ h fun _ h => nomatch h
/-- nodup and below n: at most n -/
theorem few_below {l : List Nat} {n : Nat} (nd : l.Nodup) (h : ∀ x ∈ l, x < n) : l.length ≤ n := by
  have := sub_len nd (m := List.range n) fun x hx => List.mem_range.mpr (h x hx)
  simpa using this
/-! ### a plan with other pieces in the stead of its own -/
def headE : End → List V
  | .stop => [.str "stop"]
  | .go _ => [.str "go"]
  | .tst b x n _ _ => [.str (wT b), .str x, .int n]
def newE : End → List Nat → End
  | .go _, [a] => .go a
  | .tst b x n _ _, [a, c] => .tst b x n a c
  | e, _ => e
theorem vEnd_head (e : End) : vEnd e = headE e ++ vN (waysE e) := by cases e <;> rfl
theorem vEnd_new {e : End} {ns : List Nat} (h : ns.length = (waysE e).length) : vEnd (newE e ns) = headE e ++ vN ns := by
  cases e with
  | stop => match ns, h with | [], _ => rfl
  | go p => match ns, h with | [a], _ => rfl
  | tst b x n p q => match ns, h with | [a, c], _ => rfl
theorem end_rd {H : Hp} {t : Addr} {e : End} (h : H t = some (.tup (vEnd e))) : RdD H (.ref t) (dEnd e) := by
  cases e with
  | stop => exact .tup h (.cons (.str _) .nil)
  | go p => exact .tup h (.cons (.str _) (.cons (.int _) .nil))
  | tst b x n p q => exact .tup h (.cons (.str _) (.cons (.str _) (.cons (.int _) (.cons (.int _) (.cons (.int _) .nil)))))
def putAll (ms : List Nat) (ks : List Nat) : List Nat := ks.foldl LS.putIn ms
def outP (pc : Piece) (ks ms : List Nat) : Piece := (pc.1, newE pc.2 (ks.map ms.idxOf))
def loopR (ps : List Piece) (st : Nat → Nat) : Nat → List Nat → List Piece → List Nat × List Piece
  | 0, ms, outs => (ms, outs)
  | f + 1, ms, outs => match ms[outs.length]? with
    | none => (ms, outs)
    | some k => match ps[k]? with
      | none => (ms, outs)
      | some pc => loopR ps st f (putAll ms ((waysE pc.2).map st)) (outs ++ [outP pc ((waysE pc.2).map st) (putAll ms ((waysE pc.2).map st))])
theorem loopR_step {ps : List Piece} {st : Nat → Nat} {f k : Nat} {ms : List Nat} {outs : List Piece} {pc : Piece} (h : ms[outs.length]? = some k) (hp : ps[k]? = some pc) :
    loopR ps st (f + 1) ms outs = loopR ps st f (putAll ms ((waysE pc.2).map st)) (outs ++ [outP pc ((waysE pc.2).map st) (putAll ms ((waysE pc.2).map st))]) := by
  show (match ms[outs.length]? with
    | none => (ms, outs)
    | some k => match ps[k]? with
      | none => (ms, outs)
      | some pc => loopR ps st f (putAll ms ((waysE pc.2).map st)) (outs ++ [outP pc ((waysE pc.2).map st) (putAll ms ((waysE pc.2).map st))])) = _
  rw [h]
  show (match ps[k]? with
      | none => (ms, outs)
      | some pc => loopR ps st f (putAll ms ((waysE pc.2).map st)) (outs ++ [outP pc ((waysE pc.2).map st) (putAll ms ((waysE pc.2).map st))])) = _
  rw [hp]
theorem loopR_end {ps : List Piece} {st : Nat → Nat} {ms : List Nat} {outs : List Piece} (h : ms[outs.length]? = none) : ∀ f, loopR ps st f ms outs = (ms, outs)
  | 0 => rfl
  | f + 1 => by
    show (match ms[outs.length]? with
    | none => (ms, outs)
    | some k => match ps[k]? with
      | none => (ms, outs)
      | some pc => loopR ps st f (putAll ms ((waysE pc.2).map st)) (outs ++ [outP pc ((waysE pc.2).map st) (putAll ms ((waysE pc.2).map st))])) = _
    rw [h]
theorem putIn_nd {ms : List Nat} {k : Nat} (h : ms.Nodup) : (LS.putIn ms k).Nodup := by
  unfold LS.putIn
  split
  · exact h
  · next hk =>
    rw [List.nodup_append]
    refine ⟨h, by simp, fun x hx y hy z => ?_⟩
    rw [List.mem_singleton.mp hy] at z
    exact hk (z ▸ hx)
theorem putAll_nd : ∀ {ks ms : List Nat}, ms.Nodup → (putAll ms ks).Nodup
  | [], _, h => h
  | k :: ks, ms, h => putAll_nd (ks := ks) (putIn_nd h)
theorem putAll_below {n : Nat} : ∀ {ks ms : List Nat}, (∀ x ∈ ms, x < n) → (∀ x ∈ ks, x < n) → ∀ x ∈ putAll ms ks, x < n
  | [], _, h, _ => h
  | k :: ks, ms, h, hk => putAll_below (ks := ks) (ms := LS.putIn ms k) (fun x hx => by
      rcases LS.putIn_mem.mp hx with hx | hx
      · exact h x hx
      · rw [hx]; exact hk k (List.mem_cons_self ..)) fun x hx => hk x (List.mem_cons_of_mem _ hx)
theorem putAll_pre : ∀ (ks ms : List Nat), ∃ more, putAll ms ks = ms ++ more
  | [], ms => ⟨[], by simp [putAll]⟩
  | k :: ks, ms => by
    obtain ⟨more, e⟩ := putAll_pre ks (LS.putIn ms k)
    have e' : putAll ms (k :: ks) = putAll (LS.putIn ms k) ks := rfl
    rw [e', e]
    unfold LS.putIn
    split
    · exact ⟨more, rfl⟩
    · exact ⟨k :: more, by simp⟩
theorem putAll_snoc (ms ks : List Nat) (k : Nat) : putAll ms (ks ++ [k]) = LS.putIn (putAll ms ks) k := by unfold putAll; rw [List.foldl_append]; rfl
/-- the places told one by one are the places at the end -/
theorem idx_stays {ms ks : List Nat} {i k : Nat} (h : ks[i]? = some k) : (LS.putIn (putAll ms (ks.take i)) k).idxOf k = (putAll ms ks).idxOf k := by
  have e1 : ks = (ks.take i ++ [k]) ++ ks.drop (i + 1) := by
    have h2 := List.take_append_drop (i + 1) ks
    rw [List.take_add_one, h] at h2
    exact h2.symm
  have e2 : putAll ms ks = putAll (LS.putIn (putAll ms (ks.take i)) k) (ks.drop (i + 1)) := by
    conv => lhs; rw [e1]
    rw [← putAll_snoc]
    unfold putAll
    rw [List.foldl_append]
  obtain ⟨more, e3⟩ := putAll_pre (ks.drop (i + 1)) (LS.putIn (putAll ms (ks.take i)) k)
  rw [e2, e3, List.idxOf_append, if_pos (LS.putIn_mem.mpr (.inr rfl))]
def stF (ss : List Nat) (k : Nat) : Nat := ss.getD k 0
def dNat (k : Nat) : PyData := .int (k : Nat)
def dShort (p : List Nat × List Piece) : PyData := .tuple [.tuple (p.2.map dPiece), .tuple (p.1.map dNat)]
def spWithout : Sp := fun vs H Q _ => ∃ (ea : Addr) (e : End), vs = [.ref ea] ∧ H ea = some (.tup (vEnd e)) ∧ ∀ t H', H' t = some (.tup (headE e)) → Same H H' → Q (.ref t) H'
def spSteads : Sp := fun vs H Q _ => ∃ (plv : V) (l : Addr) (ps : List Piece) (ss : List Nat), vs = [plv, .ref l] ∧ RdD H plv (dPlan ps) ∧ InPlan ps ∧ H l = some (.lst (vN ss)) ∧ ss.length = ps.length ∧ 0 < ps.length ∧ ps.length ≤ 1000 ∧ (∀ k ∈ ss, k < ps.length) ∧
  ∀ v H', RdD H' v (dShort (loopR ps (stF ss) ps.length [stF ss 0] [])) → Same H H' → Q v H'
def spIdle : Sp := fun vs H Q _ => ∃ (pc da ea : Addr) (ws : List V) (ds : List Deed) (e : End), vs = [.ref pc] ∧ H pc = some (.tup [.ref da, .ref ea]) ∧ H da = some (.tup ws) ∧ RdDs H ws (ds.map dDeed) ∧ H ea = some (.tup (vEnd e)) ∧ Q (.bl (idleB (ds, e))) H
def spFollowed : Sp := fun vs H Q _ => ∃ (plv : V) (ps : List Piece) (k : Nat), vs = [plv, .int (k : Nat)] ∧ RdD H plv (dPlan ps) ∧ InPlan ps ∧ k < ps.length ∧ ps.length ≤ 1000 ∧ ∀ H', Same H H' → Q (.int (folF ps k : Nat)) H'
def folsF (ps : List Piece) : List Nat := (List.range ps.length).map (folF ps)
def shortF (ps : List Piece) : List Nat × List Piece := loopR ps (stF (folsF ps)) ps.length [stF (folsF ps) 0] []
def spShort : Sp := fun vs H Q _ => ∃ (plv : V) (ps : List Piece), vs = [plv] ∧ RdD H plv (dPlan ps) ∧ InPlan ps ∧ 0 < ps.length ∧ ps.length ≤ 1000 ∧ ∀ v H', RdD H' v (dShort (shortF ps)) → Same H H' → Q v H'
def spLWays : Sp := fun vs H Q _ => ∃ (ea : Addr) (e : End), vs = [.ref ea] ∧ H ea = some (.tup (vEnd e)) ∧ ∀ l H', H' l = some (.lst (vN (waysE e))) → Same H H' → Q (.ref l) H'
def spIdlePlan : Sp := fun vs H Q _ => ∃ (b : Addr) (c : Nat), vs = [.ref b, .int c] ∧ Bag H b ∧ 0 < c ∧ c ≤ 1000 ∧ ∀ v xs ps H', RdD H' v (dPlan ps) → ps.length = c → PlanOk xs 2 ps → ((∀ x ∈ xs, NameOk x) ∧ xs.length ≤ 4) → Bag H' b → Fix b H H' → Q v H'
theorem stF_fols {ps : List Piece} {k : Nat} (h : k < ps.length) : stF (folsF ps) k = folF ps k := by
  unfold stF folsF
  rw [List.getD_eq_getElem?_getD, List.getElem?_map, List.getElem?_range h]
  rfl
theorem rd_natsS {H : Hp} : ∀ ms : List Nat, RdDs H (vN ms) (ms.map dNat)
  | [] => .nil
  | _ :: ms => .cons (.int _) (rd_natsS ms)
theorem ix_listK {X : Cx} {K : PySem.W.Frag} (h : X.K = K) : IxR X (rIxL K) := by subst h; exact ix_list
/-! ### a plan can be laid -/
theorem lay_tup : ∀ ds : List PyData, (∀ d ∈ ds, d.canLay0 = true) → (PyData.tuple ds).canLay0 = true
  | [], _ => rfl
  | d :: ds, h => by
    have ih := lay_tup ds fun x hx => h x (List.mem_cons_of_mem _ hx)
    show (d.canLay0 && (PyData.tuple ds).canLay0) = true
    rw [h d (List.mem_cons_self ..), ih]
    rfl
theorem dep_all {m : Nat} : ∀ ds : List PyData, (∀ d ∈ ds, d.depth ≤ m) → PyData.depthAll ds ≤ m
  | [], _ => Nat.zero_le _
  | d :: ds, h => by
    have ih := dep_all ds fun x hx => h x (List.mem_cons_of_mem _ hx)
    have h1 := h d (List.mem_cons_self ..)
    show max d.depth (PyData.depthAll ds) ≤ m
    omega
theorem dep_deed (d : Deed) : (dDeed d).depth ≤ 1 := by cases d <;> exact Nat.le_refl 1
theorem dep_end (e : End) : (dEnd e).depth ≤ 1 := by cases e <;> exact Nat.le_refl 1
theorem dep_piece (p : Piece) : (dPiece p).depth ≤ 3 := by
  have h1 := dep_all (p.1.map dDeed) fun d hd => by obtain ⟨x, _, rfl⟩ := List.mem_map.mp hd; exact dep_deed x
  have h2 := dep_end p.2
  show max (PyData.depthAll (p.1.map dDeed) + 1) (max (dEnd p.2).depth 0) + 1 ≤ 3
  omega
theorem dep_short (p : List Nat × List Piece) : (dShort p).depth ≤ 60 := by
  have h1 := dep_all (p.2.map dPiece) fun d hd => by obtain ⟨x, _, rfl⟩ := List.mem_map.mp hd; exact dep_piece x
  have h2 := dep_all (m := 0) (p.1.map dNat) fun d hd => by obtain ⟨x, _, rfl⟩ := List.mem_map.mp hd; exact Nat.le_refl 0
  show max (PyData.depthAll (p.2.map dPiece) + 1) (max (PyData.depthAll (p.1.map dNat) + 1) 0) + 1 ≤ 60
  omega
theorem lay_name' {x : Str} (h : NameOk x) : PyData.canLay0 (.str x) = true := by
  show (x.cps.all fun c => decide (c < 0x110000)) = true
  rw [← Array.all_toList, List.all_eq_true]
  intro c hc
  have := h.az c hc
  exact decide_eq_true (by omega)
theorem lay_deed {xs : List Str} (hx : ∀ x ∈ xs, NameOk x) {d : Deed} (h : DeedOk xs d) : (dDeed d).canLay0 = true := by
  cases d with
  | put x n =>
    refine lay_tup _ fun y hy => ?_
    rcases List.mem_cons.mp hy with rfl | hy
    · decide +kernel
    rcases List.mem_cons.mp hy with rfl | hy
    · exact lay_name' (hx _ h.1)
    rw [List.mem_singleton.mp hy]; rfl
  | copy x z =>
    refine lay_tup _ fun y hy => ?_
    rcases List.mem_cons.mp hy with rfl | hy
    · decide +kernel
    rcases List.mem_cons.mp hy with rfl | hy
    · exact lay_name' (hx _ h.1)
    rw [List.mem_singleton.mp hy]; exact lay_name' (hx _ h.2)
  | add x n =>
    refine lay_tup _ fun y hy => ?_
    rcases List.mem_cons.mp hy with rfl | hy
    · decide +kernel
    rcases List.mem_cons.mp hy with rfl | hy
    · exact lay_name' (hx _ h.1)
    rw [List.mem_singleton.mp hy]; rfl
  | read x =>
    refine lay_tup _ fun y hy => ?_
    rcases List.mem_cons.mp hy with rfl | hy
    · decide +kernel
    rw [List.mem_singleton.mp hy]; exact lay_name' (hx _ h)
  | tell x =>
    refine lay_tup _ fun y hy => ?_
    rcases List.mem_cons.mp hy with rfl | hy
    · decide +kernel
    rw [List.mem_singleton.mp hy]; exact lay_name' (hx _ h)
theorem lay_end {xs : List Str} (hx : ∀ x ∈ xs, NameOk x) {c : Nat} {e : End} (h : EndOk xs c e) : (dEnd e).canLay0 = true := by
  cases e with
  | stop =>
    refine lay_tup _ fun y hy => ?_
    rw [List.mem_singleton.mp hy]; decide +kernel
  | go p =>
    refine lay_tup _ fun y hy => ?_
    rcases List.mem_cons.mp hy with rfl | hy
    · decide +kernel
    rw [List.mem_singleton.mp hy]; rfl
  | tst b x n p q =>
    refine lay_tup _ fun y hy => ?_
    rcases List.mem_cons.mp hy with rfl | hy
    · cases b <;> decide +kernel
    rcases List.mem_cons.mp hy with rfl | hy
    · exact lay_name' (hx _ h.1)
    rcases List.mem_cons.mp hy with rfl | hy
    · rfl
    rcases List.mem_cons.mp hy with rfl | hy
    · rfl
    rw [List.mem_singleton.mp hy]; rfl
def LayD (ps : List Piece) : Prop := ∀ p ∈ ps, (PyData.tuple (p.1.map dDeed)).canLay0 = true ∧ (dEnd p.2).canLay0 = true
theorem lay_plan {xs : List Str} (hx : ∀ x ∈ xs, NameOk x) {m : Nat} {ps : List Piece} (ok : PlanOk xs m ps) : LayD ps := fun p hp =>
  ⟨lay_tup _ fun d hd => by obtain ⟨x, hx', rfl⟩ := List.mem_map.mp hd; exact lay_deed hx ((ok.deeds p hp).2 x hx'), lay_end hx (ok.ends p hp)⟩
theorem lay_new {e : End} {ns : List Nat} (h : (dEnd e).canLay0 = true) : (dEnd (newE e ns)).canLay0 = true := by
  cases e with
  | stop => exact h
  | go p => match ns with | [] => exact h | [a] => exact h | _ :: _ :: _ => exact h
  | tst b x n p q => match ns with | [] => exact h | [a] => exact h | [a, c] => exact h | _ :: _ :: _ :: _ => exact h
theorem lay_out {ps : List Piece} (h : LayD ps) {pc : Piece} (hp : pc ∈ ps) (ks ms : List Nat) : (dPiece (outP pc ks ms)).canLay0 = true := by
  show ((PyData.tuple (pc.1.map dDeed)).canLay0 && ((dEnd (newE pc.2 (ks.map ms.idxOf))).canLay0 && true)) = true
  rw [(h pc hp).1, lay_new (h pc hp).2]
  rfl
theorem lay_short {p : List Nat × List Piece} (h : ∀ q ∈ p.2, (dPiece q).canLay0 = true) : (dShort p).canLay0 = true := by
  show ((PyData.tuple (p.2.map dPiece)).canLay0 && ((PyData.tuple (p.1.map dNat)).canLay0 && true)) = true
  rw [lay_tup _ (fun d hd => by obtain ⟨x, hx, rfl⟩ := List.mem_map.mp hd; exact h x hx), lay_tup _ (fun d hd => by obtain ⟨x, hx, rfl⟩ := List.mem_map.mp hd; rfl)]
  rfl
theorem inV_nat (k : Nat) : ∀ ms : List Nat, inV (.int (k : Nat)) (vN ms) = decide (k ∈ ms)
  | [] => rfl
  | m :: ms => by
    have ih := inV_nat k ms
    show ((((m : Nat) : Int) == ((k : Nat) : Int)) || inV (.int (k : Nat)) (vN ms)) = _
    rw [ih]
    by_cases e : m = k
    · subst e; simp
    · have e' : ¬ (m : Int) = (k : Int) := by omega
      rw [beq_false_of_ne e', Bool.false_or]
      have : k ∈ m :: ms ↔ k ∈ ms := by rw [List.mem_cons]; exact ⟨fun h => h.resolve_left fun z => e z.symm, .inr⟩
      simp only [this]
theorem flat_vN (ms : List Nat) : (vN ms).all flatV = true := by rw [List.all_eq_true]; intro v hv; obtain ⟨k, _, rfl⟩ := List.mem_map.mp hv; rfl
theorem eqv_nil (ds : List Deed) : PyData.eqv (.tuple (ds.map dDeed)) (.tuple []) = ds.isEmpty := by cases ds <;> rfl
def spLFollowed : Sp := fun vs H Q _ => ∃ (plv : V) (ps : List Piece) (k : Nat), vs = [plv, .int (k : Nat)] ∧ RdD H plv (dPlan ps) ∧ InPlan ps ∧ LayD ps ∧ k < ps.length ∧ ps.length ≤ 1000 ∧ ∀ H', Same H H' → Q (.int (folF ps k : Nat)) H'
theorem idx_int {passed : List Nat} {at_ : Nat} : (passed.map fun k : Nat => (k : Int)).idxOf (at_ : Int) = passed.idxOf at_ := by
  induction passed with
  | nil => rfl
  | cons x l ih =>
    rw [List.map_cons, List.idxOf_cons, List.idxOf_cons]
    by_cases e : x = at_
    · subst e; simp
    · have e' : ¬ (x : Int) = (at_ : Int) := by omega
      simp only [beq_false_of_ne e, beq_false_of_ne e', cond_false]; rw [ih]
theorem vN_int (ms : List Nat) : vN ms = (ms.map fun k : Nat => (k : Int)).map V.int := by rw [List.map_map]; rfl
theorem slice_head {K : PySem.W.Frag} {H : Hp} {ea : Addr} {e : End} {Q : VK} (he : H ea = some (.tup (vEnd e))) (q : ∀ t H', H' t = some (.tup (headE e)) → Same H H' → Q (.ref t) H') : rSlTA K (.ref ea) none (some ((headE e).length : Nat)) H Q := by
  have ec : cutV (vEnd e) none (some ((headE e).length : Nat)) = headE e := by
    unfold cutV
    rw [HT.sIx_none, HT.sIx_nat]
    cases e <;> rfl
  refine ⟨ea, _, rfl, SqT.of he, fun hw => ?_, fun _ p hp => ?_⟩
  · unfold cutV at ec
    rw [hw.1, hw.2] at ec
    refine q ea H ?_ (Same.refl H)
    rw [he, ← ec]
    simp
  · rw [ec]
    exact q p _ upd_same (Same.new hp)
theorem noL_natsS : ∀ ms : List Nat, noLists (ms.map dNat) = true
  | [] => rfl
  | _ :: ms => noL_natsS ms
theorem noL_short (p : List Nat × List Piece) : noList (dShort p) = true := by
  show (noLists (p.2.map dPiece) && (noLists (p.1.map dNat) && true)) = true
  rw [noLists_pieces, noL_natsS]; rfl
theorem pe_bmK {X : Cx} {K : PySem.W.Frag} {o e : Expr} {es : List Expr} {to : TE} {t : TA} {name : Str} {apos cpos : Pos} {T id : String} {r : V → List V → Hp → VK → Prop} (hK : X.K = K) (pa : PlainAttrs T) (slot : Slot T name id) (hty : typeOf (.builtin id) = pure (.type "method_descriptor")) (hm : MtR X id r) (ho : PE X o to) (ha : PA X (e :: es) t)
    (hbase : attributeBase o name X.env (eval o X.env) = eval o X.env := by rfl)
    (hfew : ((backTo cpos (starEach (e :: es) X.env)).all (fun x => !x.1) && (backToKw cpos (keywordEach [] X.env)).all (fun x => x.1.isSome)
      && decide ((e :: es).length + ([] : List Keyword).length + (if ([] : List Keyword).isEmpty then 0 else 1) < 30)) = true := by rfl)
    (hline : (apos.endLine == cpos.line) = true := by rfl) (hs : starEach (e :: es) X.env = (false, eval e X.env) :: starEach es X.env := by rfl) (hplain : (backTo cpos (starEach es X.env)).any (·.1) = false := by rfl) :
    PE X (.Call (.Attribute o name apos) (e :: es) [] cpos) (tBM K T r to t) := by
  subst hK
  exact pe_bm pa slot hty hm ho ha hbase hfew hline hs hplain
end L2

set_option Elab.async false
set_option linter.all false
set_option maxRecDepth 100000
namespace My
open PySem PySem.Spec PyProof.Rows L2
def top (i : Nat) : Stmt := PySem.Challenge.pw_ledpast_k18_short_by_hand.main.body.getD i (.Pass ⟨0, 0, 0, 0⟩)
structure Bl (mg : Str → Option Value) : Prop where
  len : mg "len" = none
  zip : mg "zip" = none
  tuple : mg "tuple" = none
  set : mg "set" = none
  min : mg "min" = none
  range : mg "range" = none
  list : mg "list" = none
  int : mg "int" = none
abbrev s_parts_of_kind : Stmt := top 2
theorem sc_parts_of_kind : FnScope ["thing", "kinds", "wanted"] ["thing", "kinds", "wanted"] (defScope s_parts_of_kind) := ⟨rfl, rfl, rfl, by decide +kernel, rfl, by decide +kernel, by decide +kernel⟩
abbrev s_ways_on : Stmt := top 3
theorem sc_ways_on : FnScope ["end"] ["end"] (defScope s_ways_on) := ⟨rfl, rfl, rfl, by decide +kernel, rfl, by decide +kernel, by decide +kernel⟩
abbrev s_without_ways : Stmt := top 4
theorem sc_without_ways : FnScope ["end"] ["end"] (defScope s_without_ways) := ⟨rfl, rfl, rfl, by decide +kernel, rfl, by decide +kernel, by decide +kernel⟩
abbrev s_Row___init__ : Stmt := inClass (top 5) 0
theorem sc_Row___init__ : FnScope ["self", "first"] ["self", "first"] (defScope s_Row___init__) := ⟨rfl, rfl, rfl, by decide +kernel, rfl, by decide +kernel, by decide +kernel⟩
abbrev s_Row_place_of : Stmt := inClass (top 5) 1
theorem sc_Row_place_of : FnScope ["self", "thing"] ["self", "thing"] (defScope s_Row_place_of) := ⟨rfl, rfl, rfl, by decide +kernel, rfl, by decide +kernel, by decide +kernel⟩
abbrev s_with_steads : Stmt := top 6
theorem sc_with_steads : FnScope ["plan", "steads", "row", "pieces", "deeds", "end", "ways"] ["plan", "steads"] (defScope s_with_steads) := ⟨rfl, rfl, rfl, by decide +kernel, rfl, by decide +kernel, by decide +kernel⟩
abbrev s_is_idle : Stmt := top 8
theorem sc_is_idle : FnScope ["piece", "deeds", "end"] ["piece"] (defScope s_is_idle) := ⟨rfl, rfl, rfl, by decide +kernel, rfl, by decide +kernel, by decide +kernel⟩
abbrev s_followed : Stmt := top 9
theorem sc_followed : FnScope ["plan", "at", "passed", "found"] ["plan", "at"] (defScope s_followed) := ⟨rfl, rfl, rfl, by decide +kernel, rfl, by decide +kernel, by decide +kernel⟩
abbrev s_short : Stmt := top 10
theorem sc_short : FnScope ["plan"] ["plan"] (defScope s_short) := ⟨rfl, rfl, rfl, by decide +kernel, rfl, by decide +kernel, by decide +kernel⟩
abbrev s_law_bag : Stmt := top 12
theorem sc_law_bag : FnScope ["script", "k", "cell"] ["script", "k"] (defScope s_law_bag) := ⟨rfl, rfl, rfl, by decide +kernel, rfl, by decide +kernel, by decide +kernel⟩
abbrev s_law_take : Stmt := top 13
theorem sc_law_take : FnScope ["bag", "many", "found"] ["bag", "many"] (defScope s_law_take) := ⟨rfl, rfl, rfl, by decide +kernel, rfl, by decide +kernel, by decide +kernel⟩
abbrev s_law_names : Stmt := top 14
theorem sc_law_names : FnScope ["bag", "letters", "many", "base", "at", "names", "k", "name"] ["bag"] (defScope s_law_names) := ⟨rfl, rfl, rfl, by decide +kernel, rfl, by decide +kernel, by decide +kernel⟩
abbrev s_law_number : Stmt := top 15
theorem sc_law_number : FnScope ["bag"] ["bag"] (defScope s_law_number) := ⟨rfl, rfl, rfl, by decide +kernel, rfl, by decide +kernel, by decide +kernel⟩
abbrev s_law_deed : Stmt := top 16
theorem sc_law_deed : FnScope ["bag", "names", "word", "name"] ["bag", "names"] (defScope s_law_deed) := ⟨rfl, rfl, rfl, by decide +kernel, rfl, by decide +kernel, by decide +kernel⟩
abbrev s_law_end : Stmt := top 17
theorem sc_law_end : FnScope ["bag", "names", "count", "way", "word", "name"] ["bag", "names", "count"] (defScope s_law_end) := ⟨rfl, rfl, rfl, by decide +kernel, rfl, by decide +kernel, by decide +kernel⟩
abbrev s_law_plan : Stmt := top 18
theorem sc_law_plan : FnScope ["bag", "count", "most", "names", "pieces", "k", "many", "end"] ["bag", "count", "most"] (defScope s_law_plan) := ⟨rfl, rfl, rfl, by decide +kernel, rfl, by decide +kernel, by decide +kernel⟩
abbrev s_law_count : Stmt := top 19
theorem sc_law_count : FnScope ["bag", "most"] ["bag", "most"] (defScope s_law_count) := ⟨rfl, rfl, rfl, by decide +kernel, rfl, by decide +kernel, by decide +kernel⟩
abbrev s_law_ways : Stmt := top 20
theorem sc_law_ways : FnScope ["end"] ["end"] (defScope s_law_ways) := ⟨rfl, rfl, rfl, by decide +kernel, rfl, by decide +kernel, by decide +kernel⟩
abbrev s_law_idle_plan : Stmt := top 21
theorem sc_law_idle_plan : FnScope ["bag", "count", "plan", "some", "deeds", "end"] ["bag", "count"] (defScope s_law_idle_plan) := ⟨rfl, rfl, rfl, by decide +kernel, rfl, by decide +kernel, by decide +kernel⟩
abbrev s_law_followed : Stmt := top 22
theorem sc_law_followed : FnScope ["plan", "number", "path"] ["plan", "number"] (defScope s_law_followed) := ⟨rfl, rfl, rfl, by decide +kernel, rfl, by decide +kernel, by decide +kernel⟩
abbrev s_law : Stmt := top 23
theorem sc_law : FnScope ["script", "bag", "plan", "kept", "pieces", "deeds", "end", "ways", "there", "numbers"] ["script"] (defScope s_law) := ⟨rfl, rfl, rfl, by decide +kernel, rfl, by decide +kernel, by decide +kernel⟩

end My

set_option Elab.async false
set_option linter.all false
set_option maxRecDepth 100000
namespace My
open PySem PySem.Spec PyProof.Rows L2
section
variable {P : Program} {w : World} {K : PySem.W.Frag} {mg : Str → Option Value} {base : Heap}
set_option maxHeartbeats 4000000 in
theorem ok_parts_of_kind {f : Addr} {fd : FuncData} (F : Fun K "parts_of_kind" "parts_of_kind" s_parts_of_kind f fd) (Z : Bl mg)  : FnOk P w K mg base CX0 1 f fd ["thing", "kinds", "wanted"] (spParts K) := by
  refine F.ok (k := 0) sc_parts_of_kind (fun vs H Q E h => ?_) (fun cdv A outer s H vs Q E hr h => ?_)
  · obtain ⟨t, s, v0, xs, ks, w, rfl, _⟩ := h
    rfl
  · obtain ⟨t, s, v0, xs, ks, w, rfl, ht, hs, hl, q⟩ := h
    refine ⟨_, (pss_one (ps_ret (pe_lcomp ["part", "kind"] ["wanted"] [2] rfl (pi_zip rfl Z.zip (pa_cons (pe_slice sl_tupA (pv 0) (po_some pe_int) po_none) (pa_cons (pv 1) pa_nil))) rfl (by decide +kernel) (by decide +kernel) (by decide +kernel) ⟨⟨rfl, .inl rfl, rfl⟩, True.intro⟩ (fun _ _ _ _ => (pg_tupK (K := K) (n := 2) rfl (pg_tup (n := 2) rfl (pgs_cons (pg_name (i := 0) (show ((["part", "kind"] : List Str) ++ (["wanted"] : List Str)).Nodup by decide +kernel) rfl (Or.inl rfl) (hf := Or.inr rfl)) (pgs_cons (pg_name (i := 1) (show ((["part", "kind"] : List Str) ++ (["wanted"] : List Str)).Nodup by decide +kernel) rfl (Or.inl rfl) (hf := Or.inr rfl)) pgs_nil))))) (fun _ _ _ _ => (pts_one (pt_cmpR op_eq (pv 1) (pv 2) (nomark _)))) (fun _ _ _ _ => (pv 0))))), ?_⟩

    refine ⟨_, rfl, _, rfl, t, _, rfl, SqT.of ht, fun hw => ?_, fun _ p np => ?_⟩
    · exfalso
      obtain ⟨h1, _⟩ := hw
      simp [HT.sIx] at h1
    · have ec : cutV (v0 :: xs) (some 1) none = xs := by simp [cutV, HT.sIx]
      rw [ec]
      have sp := Same.new (o := .tup xs) np
      refine ⟨_, rfl, p, s, rfl, ⟨_, SqT.of upd_same⟩, ⟨_, hs.same sp⟩, fun acc na => ?_⟩
      refine lc_zip (K := K) (a := p) (b := s) (xs := xs) (ys := ks.map V.str) (fun i zs τ H' => ∃ (c1 c2 : Option V), τ = [c1, c2, some (.str w)] ∧ zs = pickN w xs ks i ∧ H' acc = some (.lst zs) ∧ H' p = some (.tup xs) ∧ Same H H') ?_ ?_ ?_ ?_
      · exact ⟨none, none, rfl, rfl, upd_same, Same.new na _ _ upd_same, sp.trans (Same.new na)⟩
      · rintro i zs τ H4 hi ⟨c1, c2, rfl, rfl, ha, hp4, s4⟩
        exact ⟨SqT.of hp4, hs.same s4, ha, small1000' (by have := pickN_len (w := w) (xs := xs) (ks := ks) (i := i); omega)⟩
      · rintro i x y zs τ H4 u hx hy hu ⟨c1, c2, rfl, rfl, ha, hp4, s4⟩
        obtain ⟨k, rfl, hk⟩ : ∃ k, y = V.str k ∧ ks[i]? = some k := by
          rw [List.getElem?_map] at hy
          cases e : ks[i]? with
          | none => rw [e] at hy; cases hy
          | some k => rw [e] at hy; exact ⟨k, (Option.some.inj hy).symm, rfl⟩
        have su := Same.new (o := .tup [x, .str k]) hu
        refine ⟨u, _, rfl, SqT.of upd_same, rfl, _, _, rfl, _, _, rfl, rfl, ?_⟩
        refine ⟨_, rfl, _, rfl, rfl, _, rfl, ?_⟩
        have hn := pickN_succ (w := w) hx hk
        by_cases hkw : k = w
        · rw [if_pos hkw] at hn
          refine iteTb (decide_eq_true (congrArg V.str hkw)) ?_
          refine ⟨_, rfl, su _ _ ha, _, _, rfl, hn.symm, upd_same, ?_, ?_⟩
          · rw [upd_ne (ne_of hp4 ha (by intro z; cases z))]
            exact su _ _ hp4
          · exact (s4.trans su).put (sp.free na)
        · rw [if_neg hkw, List.append_nil] at hn
          refine iteFb (decide_eq_false fun z => hkw (V.str.inj z)) ?_
          exact ⟨_, _, rfl, hn.symm, su _ _ ha, su _ _ hp4, s4.trans su⟩
      · rintro zs τ H4 ⟨c1, c2, rfl, rfl, ha, hp4, s4⟩
        rw [pickN_all] at ha
        exact q acc H4 ha s4
end
end My

set_option Elab.async false
set_option linter.all false
set_option maxRecDepth 100000
namespace My
open PySem PySem.Spec PyProof.Rows L2
section
variable {P : Program} {w : World} {K : PySem.W.Frag} {mg : Str → Option Value} {base : Heap}
set_option maxHeartbeats 4000000 in
theorem ok_ways_on {f : Addr} {fd : FuncData} (F : Fun K "ways_on" "ways_on" s_ways_on f fd) (Z : Bl mg) {aE s0 s1 s2 s3 : Addr} (GE : EndG K mg aE s0 s1 s2 s3) (O_parts_of_kind : Own P w K mg base "parts_of_kind" 1 ["thing", "kinds", "wanted"] (spParts K)) : FnOk P w K mg base CX0 3 f fd ["end"] spWays := by
  refine F.ok (k := 2) sc_ways_on (fun vs H Q E h => ?_) (fun cdv A outer s H vs Q E hr h => ?_)
  · obtain ⟨ea, e, rfl, _⟩ := h
    rfl
  · obtain ⟨ea, e, rfl, he, q⟩ := h
    refine ⟨_, (pss_one (ps_ret (pe_callTy call_tuple_of rfl Z.tuple bt_tuple (pa_cons (pe_own O_parts_of_kind (hr.mono (by decide)) rfl (pa_cons (pv 0) (pa_cons (pe_tget GE.tab rfl (pe_ix ix_tup (pv 0) pe_int (fun _ _ => rfl)) (fun _ _ => rfl)) (pa_cons pe_str pa_nil)))) pa_nil)))), ?_⟩

    obtain ⟨xs, ev, hl, hp⟩ := vEnd_cons e
    rw [ev] at he
    obtain ⟨s, hs, ks⟩ := GE.at_ e
    refine ⟨_, rfl, _, rfl, ea, _, 0, _, rfl, rfl, SqT.of he, at0, _, s, rfl, hs, ea, s, _, xs, kE e, "piece", rfl, he, .inr ks, hl, fun l H1 hl1 s1 => ?_⟩
    rw [hp] at hl1
    exact ⟨l, _, rfl, .inl ⟨SqL.of hl1, fun t ht => q t _ upd_same (s1.trans (Same.new ht))⟩⟩
end
end My

set_option Elab.async false
set_option linter.all false
set_option maxRecDepth 100000
namespace My
open PySem PySem.Spec PyProof.Rows L2
section
variable {P : Program} {w : World} {K : PySem.W.Frag} {mg : Str → Option Value} {base : Heap}
set_option maxHeartbeats 4000000 in
theorem ok_without_ways {f : Addr} {fd : FuncData} (F : Fun K "without_ways" "without_ways" s_without_ways f fd) (Z : Bl mg) (O_ways_on : Own P w K mg base "ways_on" 3 ["end"] spWays) : FnOk P w K mg base CX0 4 f fd ["end"] spWithout := by
  refine F.ok (k := 3) sc_without_ways (fun vs H Q E h => ?_) (fun cdv A outer s H vs Q E hr h => ?_)
  · obtain ⟨ea, e, rfl, _⟩ := h
    rfl
  · obtain ⟨ea, e, rfl, he, q⟩ := h
    refine ⟨_, (pss_one (ps_ret (pe_slice sl_tupA (pv 0) po_none (po_some (pe_op op_sub (pe_callB call_len_seq rfl Z.len bt_len (pa_cons (pv 0) pa_nil)) (pe_callB call_len_seq rfl Z.len bt_len (pa_cons (pe_own O_ways_on (hr.mono (by decide)) rfl (pa_cons (pv 0) pa_nil)) pa_nil))))))), ?_⟩

    refine ⟨_, rfl, _, rfl, ea, _, rfl, .inr (SqT.of he), _, rfl, ea, e, rfl, he, fun t H1 ht s1 => ⟨t, _, rfl, .inr (SqT.of ht), _, _, rfl, rfl, ?_⟩⟩
    have he1 := s1 _ _ he
    have el : ((vEnd e).length : Int) - (((waysE e).map fun k => V.int (k : Nat)).length : Int) = ((headE e).length : Nat) := by cases e <;> rfl
    have ec : cutV (vEnd e) none (some ((headE e).length : Nat)) = headE e := by
      unfold cutV
      rw [HT.sIx_none, HT.sIx_nat]
      cases e <;> rfl
    refine ⟨_, congrArg V.int el, ea, _, rfl, SqT.of he1, fun hw => ?_, fun _ p hp => ?_⟩
    · unfold cutV at ec
      rw [hw.1, hw.2] at ec
      refine q ea H1 ?_ s1
      rw [he1, ← ec]
      simp
    · rw [ec]
      exact q p _ upd_same (s1.trans (Same.new hp))
end
end My

set_option Elab.async false
set_option linter.all false
set_option maxRecDepth 100000
namespace My
open PySem PySem.Spec PyProof.Rows L2
section
variable {P : Program} {w : World} {K : PySem.W.Frag} {mg : Str → Option Value} {base : Heap}
set_option maxHeartbeats 4000000 in
theorem ok_Row___init__ {f : Addr} {fd : FuncData} (F : Fun K "__init__" "Row.__init__" s_Row___init__ f fd) (Z : Bl mg) {C : Addr} (T : RowT K C)  : FnOk P w K mg base CX0 1 f fd ["self", "first"] (spRowInit C) := by
  refine F.ok (k := 0) sc_Row___init__ (fun vs H Q E h => ?_) (fun cdv A outer s H vs Q E hr h => ?_)
  · obtain ⟨r, dx, k, rfl, _⟩ := h
    rfl
  · obtain ⟨r, dx, k, rfl, hr0, q⟩ := h
    refine ⟨_, (pss_cons (ps_fld (pv 0) (pe_lst (pa_cons (pv 1) pa_nil)) rfl)
      (pss_one (ps_fld (pv 0) (pe_disp (pps_cons (pv 1) pe_int pps_nil) rfl rfl (List.cons_ne_nil _ _) (by show 1 ≤ 15; decide)) rfl))), ?_⟩

    refine ⟨_, rfl, ln1, fun m nm => ?_⟩
    have s1 := Same.new (o := .lst [.int (k : Nat)]) nm
    have hm1 : (upd H m (.lst [.int (k : Nat)])) m = some (.lst [.int (k : Nat)]) := upd_same
    have nrm : r ≠ m := ne_of_none hr0 nm
    generalize (upd H m (.lst [.int (k : Nat)])) = H1 at s1 hm1
    refine ⟨_, rfl, r, C, dx, _, rfl, s1 _ _ hr0, T.cl, T.members, (by show 0 < 1000; decide), ?_⟩
    refine fun d nd => ?_
    have ndr : r ≠ d := fun z => by rw [← z, upd_same] at nd; cases nd
    have nd1 : H1 d = none := by rw [upd_ne ndr.symm] at nd; exact nd
    have ndm : d ≠ m := fun z => by rw [z, hm1] at nd1; cases nd1
    refine ⟨_, rfl, upd_same, [(Sum.inl (k : Int), .int 0)], rfl, (by show 1 ≤ 15; decide), ?_⟩
    refine ⟨_, rfl, r, C, dx, _, rfl, (by rw [upd_ne ndr, upd_ne ndr, upd_same]), T.cl, T.places, (by rw [mk_members]; show 1 < 1000; decide), ?_⟩
    refine q m d _ ⟨⟨dx, by rw [upd_same, mk_members, mk_places]⟩, ?_, ?_⟩ (fun c o e n => ?_) nm (s1.free nd1)
    · rw [upd_ne nrm.symm, upd_ne ndm.symm, upd_ne ndm.symm, upd_ne nrm.symm]; exact hm1
    · refine ⟨_, by rw [upd_ne ndr.symm, upd_same], ?_, ?_⟩
      · exact Nat.le_refl 1
      · intro j
        show valV [((Sum.inl (k : Int) : Key), V.int 0)] (Sum.inl (j : Int)) = _
        by_cases e : j = k
        · subst e
          rw [valV_pos rfl, if_pos (List.mem_singleton.mpr rfl)]
          simp
        · rw [valV_neg (fun z : (Sum.inl (k : Int) : Key) = Sum.inl (j : Int) => e (by have := Sum.inl.inj z; omega)), if_neg (fun z => e (List.mem_singleton.mp z))]
          rfl
    · rw [upd_ne n, upd_ne (ne_of_none (s1 _ _ e) nd1), upd_ne (ne_of_none (s1 _ _ e) nd1), upd_ne n]; exact s1 _ _ e
end
end My

set_option Elab.async false
set_option linter.all false
set_option maxRecDepth 100000
namespace My
open PySem PySem.Spec PyProof.Rows L2
section
variable {P : Program} {w : World} {K : PySem.W.Frag} {mg : Str → Option Value} {base : Heap}
set_option maxHeartbeats 4000000 in
theorem ok_Row_place_of {f : Addr} {fd : FuncData} (F : Fun K "place_of" "Row.place_of" s_Row_place_of f fd) (Z : Bl mg) {C : Addr} (T : RowT K C)  : FnOk P w K mg base CX0 1 f fd ["self", "thing"] (spPlaceOf C) := by
  refine F.ok (k := 0) sc_Row_place_of (fun vs H Q E h => ?_) (fun cdv A outer s H vs Q E hr h => ?_)
  · obtain ⟨r, m, d, k, ms, rfl, _⟩ := h
    rfl
  · obtain ⟨r, m, d, k, ms, rfl, A, hms, q⟩ := h
    refine ⟨_, (pss_cons (ps_if (pt_cmp (pc_dnotin (hu_of hr) (pv 1) (pe_fld (pv 0) rfl)))
      (pss_cons (ps_dput (hu_of hr) (pe_fld (pv 0) rfl) (pv 1) (pe_callB call_len_seq rfl Z.len bt_len (pa_cons (pe_fld (pv 0) rfl) pa_nil)) rfl)
      (pss_one (ps_expr (pe_bm PySem.F.plainAttrs_list PySem.F.slot_list_append PySem.F.type_list_append mt_append (pe_fld (pv 0) rfl) (pa_cons (pv 1) pa_nil)))))
      pss_nil)
      (pss_one (ps_ret (pe_dget (hu_of hr) (pe_fld (pv 0) rfl) (pv 1) (fun _ _ => rfl))))), ?_⟩

    obtain ⟨dx, hob⟩ := A.ob
    obtain ⟨kvs, hd, hkl, hval⟩ := A.plc
    obtain ⟨n1, n2, n3⟩ := A.nes
    have hml : (vN ms).length = ms.length := List.length_map ..
    refine ⟨_, rfl, _, rfl, r, C, dx, _, _, rfl, hob, T.cl, T.places, lk_places, d, _, rfl, DGet.k (k := Sum.inl (k : Int)) hd, _, rfl, ?_⟩
    rw [hval k]
    by_cases hk : k ∈ ms
    · rw [if_pos hk]
      refine iteF ?_
      have g := DGet.k (k := Sum.inl (k : Int)) hd
      rw [hval k, if_pos hk] at g
      have e : LS.putIn ms k = ms := by unfold LS.putIn; rw [if_pos hk]
      rw [e] at q
      exact ⟨_, rfl, r, C, dx, _, _, rfl, hob, T.cl, T.places, lk_places, _, rfl, d, _, rfl, g, q H A But2.refl⟩
    · rw [if_neg hk]
      refine iteT ?_
      refine ⟨_, rfl, r, C, dx, _, _, rfl, hob, T.cl, T.members, lk_members, m, _, rfl, .inl (SqL.of A.mem), _, rfl, r, C, dx, _, _, rfl, hob, T.cl, T.places, lk_places, _, rfl, d, _, rfl, DPut.k (k := Sum.inl (k : Int)) hd (small1000 (by omega)), ?_⟩
      have hob1 : (upd H d (.dK (putK kvs (Sum.inl (k : Int)) (.int ((vN ms).length : Nat))))) r = some (.ins C dx (rofl (.ref m) (.ref d))) := by rw [upd_ne n2]; exact hob
      have hm1 : (upd H d (.dK (putK kvs (Sum.inl (k : Int)) (.int ((vN ms).length : Nat))))) m = some (.lst (vN ms)) := by rw [upd_ne n3.symm]; exact A.mem
      refine ⟨_, rfl, r, C, dx, _, _, rfl, hob1, T.cl, T.members, lk_members, .inl ⟨rfl, _, SqL.of hm1⟩, _, rfl, m, _, _, rfl, rfl, hm1, small1000 (by omega), ?_⟩
      have e : LS.putIn ms k = ms ++ [k] := by unfold LS.putIn; rw [if_neg hk]
      rw [e] at q
      have hob2 : (upd (upd H d (.dK (putK kvs (Sum.inl (k : Int)) (.int ((vN ms).length : Nat))))) m (.lst (vN ms ++ [.int (k : Nat)]))) r = some (.ins C dx (rofl (.ref m) (.ref d))) := by rw [upd_ne n1]; exact hob1
      have hd2 : (upd (upd H d (.dK (putK kvs (Sum.inl (k : Int)) (.int ((vN ms).length : Nat))))) m (.lst (vN ms ++ [.int (k : Nat)]))) d = some (.dK (putK kvs (Sum.inl (k : Int)) (.int ((vN ms).length : Nat)))) := by rw [upd_ne n3, upd_same]
      have hval2 : ∀ j : Nat, valV (putK kvs (Sum.inl (k : Int)) (.int ((vN ms).length : Nat))) (Sum.inl (j : Int) : Key) = if j ∈ ms ++ [k] then some (.int ((ms ++ [k]).idxOf j : Nat)) else none := fun j => by
        rw [valV_put]
        by_cases ej : j = k
        · subst ej
          rw [if_pos rfl, if_pos (by simp), idx_app hk, hml]
        · rw [if_neg (fun z => ej (by have := Sum.inl.inj z; omega)), hval j]
          by_cases hj : j ∈ ms
          · rw [if_pos hj, if_pos (by simp [hj]), idx_old hj]
          · rw [if_neg hj, if_neg (by simp [hj, ej])]
      have g := DGet.k (k := Sum.inl (k : Int)) hd2
      rw [hval2 k, if_pos (by simp)] at g
      refine ⟨_, rfl, r, C, dx, _, _, rfl, hob2, T.cl, T.places, lk_places, _, rfl, d, _, rfl, g, q _ ⟨⟨dx, hob2⟩, by rw [upd_same]; show _ = some (HO.lst ((ms ++ [k]).map _)); rw [List.map_append]; rfl, _, hd2, ?_, hval2⟩ fun c o h c1 c2 => ?_⟩
      · have := length_putK kvs (Sum.inl (k : Int) : Key) (V.int ((vN ms).length : Nat))
        rw [List.length_append]
        show _ ≤ _ + 1
        omega
      · rw [upd_ne c1, upd_ne c2]; exact h
end
end My

set_option Elab.async false
set_option linter.all false
set_option maxRecDepth 100000
namespace My
open PySem PySem.Spec PyProof.Rows L2
section
variable {P : Program} {w : World} {K : PySem.W.Frag} {mg : Str → Option Value} {base : Heap}
set_option maxHeartbeats 4000000 in
theorem ok_with_steads {f : Addr} {fd : FuncData} (F : Fun K "with_steads" "with_steads" s_with_steads f fd) (Z : Bl mg) {C : Addr} (T : RowT K C) (O_Row___init__ : COwn P w K mg base C "Row" 1 ["self", "first"] (spRowInit C)) (O_Row_place_of : MOwn P w K mg base C "place_of" 1 ["self", "thing"] (spPlaceOf C)) (O_ways_on : Own P w K mg base "ways_on" 3 ["end"] spWays) (O_without_ways : Own P w K mg base "without_ways" 4 ["end"] spWithout) : FnOk P w K mg base CX0 5 f fd ["plan", "steads"] spSteads := by
  refine F.ok (k := 4) sc_with_steads (fun vs H Q E h => ?_) (fun cdv A outer s H vs Q E hr h => ?_)
  · obtain ⟨plv, l, ps, ss, rfl, _⟩ := h
    rfl
  · obtain ⟨plv, l, ps, ss, rfl, hp, hin, hl, hsl, hn0, hn, hss, q⟩ := h
    refine ⟨_, (pss_cons (ps_set (i := 2) sc_with_steads.nd rfl (Or.inr rfl) (pe_cown O_Row___init__ (hr.mono (by decide)) rfl (pa_cons (pe_ix (ix_listK (K := K) rfl) (pv 1) pe_int (fun _ _ => rfl)) pa_nil)))
      (pss_cons (ps_set (i := 3) sc_with_steads.nd rfl (Or.inl rfl) (pe_lst pa_nil))
      (pss_cons (ps_while PassesOwn.never (pt_cmpR op_lt (pe_callB call_len_seq rfl Z.len bt_len (pa_cons (pv 3) pa_nil)) (pe_callB call_len_seq rfl Z.len bt_len (pa_cons (pe_fld (pv 2) rfl) pa_nil)) (nomark _))
      (pss_cons (ps_asg (pe_ix ix_tup (pv 0) (pe_ix ix_list (pe_fld (pv 2) rfl) (pe_callB call_len_seq rfl Z.len bt_len (pa_cons (pv 3) pa_nil)) (fun _ _ => rfl)) (fun _ _ => rfl)) (pg_tup rfl (pgs_cons (pg_name (i := 4) sc_with_steads.nd rfl (Or.inl rfl)) (pgs_cons (pg_name (i := 5) sc_with_steads.nd rfl (Or.inl rfl)) pgs_nil))))
      (pss_cons (ps_setLC (i := 6) ["way"] ["row", "steads"] [2, 1] rfl sc_with_steads.nd rfl rfl rfl (pi_tup (pe_own O_ways_on (hr.mono (by decide)) rfl (pa_cons (pv 5) pa_nil))) rfl (by decide +kernel) (by decide +kernel) (by decide +kernel) ⟨⟨rfl, .inl rfl, rfl⟩, ⟨⟨rfl, .inl rfl, rfl⟩, True.intro⟩⟩ (fun _ _ _ _ => (pg_name (i := 0) (show ((["way"] : List Str) ++ (["row", "steads"] : List Str)).Nodup by decide +kernel) rfl (Or.inl rfl) (hf := Or.inr rfl))) (fun _ _ _ _ => pts_nil) (fun _ _ _ _ => (pe_mown O_Row_place_of (pv 1) (hr.mono (by decide)) (pa_cons (pe_ix (ix_listK (K := K) rfl) (pv 2) (pv 0) (fun _ _ => rfl)) pa_nil))))
      (pss_one (ps_expr (pe_bm PySem.F.plainAttrs_list PySem.F.slot_list_append PySem.F.type_list_append mt_append (pv 3) (pa_cons (pe_tup (pa_cons (pv 4) (pa_cons (pe_op op_catI (pe_own O_without_ways (hr.mono (by decide)) rfl (pa_cons (pv 5) pa_nil)) (pe_callTy call_tuple_of rfl Z.tuple bt_tuple (pa_cons (pv 6) pa_nil))) pa_nil))) pa_nil)))))))
      (pss_one (ps_ret (pe_tup (pa_cons (pe_callTy call_tuple_of rfl Z.tuple bt_tuple (pa_cons (pv 3) pa_nil)) (pa_cons (pe_callTy call_tuple_of rfl Z.tuple bt_tuple (pa_cons (pe_fld (pv 2) rfl) pa_nil)) pa_nil)))))))), ?_⟩
    obtain ⟨pp, vs, rfl, e1, r1⟩ := RdD.tup_inv hp
    have hvl := r1.len
    rw [List.length_map] at hvl

    have hst : ∀ {j : Nat}, j < ps.length → atI (vN ss) (j : Int) = some (V.int (stF ss j : Nat)) := fun {j} hj => atI_nat (by
      rw [List.getElem?_map, List.getElem?_eq_getElem (by omega : j < ss.length)]
      show _ = some (V.int ((ss.getD j 0 : Nat) : Int))
      rw [List.getD_eq_getElem?_getD, List.getElem?_eq_getElem (by omega : j < ss.length)]; rfl)
    have hsl' : ∀ {j : Nat}, j < ps.length → stF ss j < ps.length := fun {j} hj => by
      unfold stF
      rw [List.getD_eq_getElem?_getD, List.getElem?_eq_getElem (by omega : j < ss.length)]
      exact hss _ (List.getElem_mem _)
    refine ⟨_, rfl, l, _, 0, _, rfl, rfl, SqL.of hl, hst hn0, fun r dx nx ndx nex => ⟨r, dx, stF ss 0, rfl, upd_same, fun m d H1 A1 k1 nm nd => ⟨rfl, ?_⟩⟩⟩
    have s0 : Same H (upd (upd H dx (.own r)) r (.ins C dx [])) := fun b o e => by
      rw [upd_ne (ne_of_none e nx), upd_ne (ne_of_none e ndx)]
      exact e
    have s1 : Same H H1 := fun c o e => k1 c o (s0 c o e) (ne_of_none e nx)
    have nmH : H m = none := s0.free nm
    have ndH : H d = none := s0.free nd
    clear k1 nm nd s0
    refine ⟨(by show 0 ≤ sizeLine; decide), fun pz npz => ?_⟩
    have npzH : H pz = none := s1.free npz
    have s2 := s1.trans (Same.new (o := .lst []) npz)
    have A2 := A1.same (Same.new (o := .lst []) npz)
    have npm : pz ≠ m := (ne_of_none A1.mem npz).symm
    have npd : pz ≠ d := by obtain ⟨kvs, h, _⟩ := A1.plc; exact (ne_of_none h npz).symm
    have npr : pz ≠ r := by obtain ⟨dx, h⟩ := A1.ob; exact (ne_of_none h npz).symm
    have hz2 : (upd H1 pz (.lst [])) pz = some (.lst []) := upd_same
    generalize (upd H1 pz (.lst [])) = H2 at s2 A2 hz2
    clear A1 s1 npz
    refine ⟨fun fu σ H' => ∃ (ms : List Nat) (outs : List Piece) (zs : List V) (u1 u2 u3 : Option V), σ = [some (.ref pp), some (.ref l), some (.ref r), some (.ref pz), u1, u2, u3] ∧ RAt C H' r m d ms ∧ H' pz = some (.lst zs) ∧ RdDs H' zs (outs.map dPiece) ∧ loopR ps (stF ss) fu ms outs = loopR ps (stF ss) ps.length [stF ss 0] [] ∧ fu + outs.length = ps.length ∧ ms.Nodup ∧ (∀ x ∈ ms, x < ps.length) ∧ outs.length ≤ ms.length ∧ Same H H', ⟨ps.length, [stF ss 0], [], [], _, _, _, rfl, A2, hz2, .nil, rfl, rfl, by simp, (fun x hx => by rw [List.mem_singleton.mp hx]; exact hsl' hn0), Nat.zero_le _, s2⟩, ?_⟩
    rintro fu σ H3 ⟨ms, outs, zs, u1, u2, u3, rfl, A3, hz3, rz3, hloop, hfu, mnd, mb, hom, s3⟩
    obtain ⟨dx3, hob3⟩ := A3.ob
    have hzl : zs.length = outs.length := by have := rz3.len; rw [List.length_map] at this; exact this
    have hml : (vN ms).length = ms.length := List.length_map ..
    have hmn := few_below mnd mb
    refine ⟨_, rfl, pz, _, rfl, .inl (SqL.of hz3), _, rfl, r, C, dx3, _, _, rfl, hob3, T.cl, T.members, lk_members, m, _, rfl, .inl (SqL.of A3.mem), _, _, rfl, rfl, _, rfl, ?_⟩
    refine ite2 (fun hc => ?_) (fun hc => ?_)
    · have hlt : outs.length < ms.length := by have := of_decide_eq_true hc; omega
      obtain ⟨fu, rfl⟩ : ∃ f', fu = f' + 1 := ⟨fu - 1, by omega⟩
      have hms : ms[outs.length]? = some ms[outs.length] := by simp [hlt]
      have hkb : ms[outs.length] < ps.length := mb _ (List.getElem_mem _)
      generalize ms[outs.length] = kk at hms hkb
      have hps : ps[kk]? = some ps[kk] := by simp [hkb]
      generalize ps[kk] = pce at hps
      rw [loopR_step hms hps] at hloop
      obtain ⟨ds, e⟩ := pce
      obtain ⟨p', xs', pc, da, ea, ws, ep, e1', el', hx', e2, e3, r3, e4⟩ := rd_piece hp hps
      cases ep
      rw [e1] at e1'
      cases e1'
      refine ⟨_, fun σ' H' h => ⟨fu, Nat.lt_succ_self fu, h⟩, ?_⟩
      refine ⟨_, rfl, _, rfl, r, C, dx3, _, _, rfl, hob3, T.cl, T.members, lk_members, _, rfl, pz, _, rfl, .inl (SqL.of hz3), m, _, _, _, rfl, rfl, SqL.of A3.mem, atI_nat (j := zs.length) (by rw [hzl, List.getElem?_map, hms]; rfl), pp, _, _, _, rfl, rfl, SqT.of (s3 _ _ e1), atI_nat hx', pc, _, rfl, SqT.of (s3 _ _ e2), rfl, _, _, rfl, _, _, rfl, rfl, ?_⟩
      refine ⟨_, rfl, ea, e, rfl, s3 _ _ e4, fun wt H4 hw s4 => ⟨wt, rfl, ⟨_, SqT.of hw⟩, fun acc na => ?_⟩⟩
      have A4 := A3.same s4
      have hz4 := s4 _ _ hz3
      have nam : acc ≠ m := (ne_of_none A4.mem na).symm
      have nad : acc ≠ d := by obtain ⟨kvs, h, _⟩ := A4.plc; exact (ne_of_none h na).symm
      have naz : acc ≠ pz := (ne_of_none hz4 na).symm
      have nar : acc ≠ r := by obtain ⟨dx, h⟩ := A4.ob; exact (ne_of_none h na).symm
      have s24 := s3.trans s4
      have hwb : ∀ {j k : Nat}, (waysE e)[j]? = some k → k < ps.length := fun {j k} hj => by
        have h1 := hin _ (List.mem_of_getElem? hps)
        have h2 := List.mem_of_getElem? hj
        cases e with
        | stop => cases h2
        | go p => rw [List.mem_singleton.mp h2]; exact h1
        | tst b x n p p2 =>
          rcases List.mem_cons.mp h2 with z | z
          · rw [z]; exact h1.1
          · rw [List.mem_singleton.mp z]; exact h1.2
      have hwl : (waysE e).length ≤ 2 := by cases e <;> (show _ ≤ 2) <;> simp [waysE]
      generalize hks : (waysE e).map (stF ss) = ks at hloop
      have hksl : ks.length = (waysE e).length := by rw [← hks, List.length_map]
      refine lc_tup (K := K) (a := wt) (xs := (waysE e).map fun k => V.int (k : Nat)) (fun i ys τ H' => ∃ c : Option V, τ = [c, some (.ref r), some (.ref l)] ∧ RAt C H' r m d (putAll ms (ks.take i)) ∧ ys = vN ((ks.take i).map (putAll ms ks).idxOf) ∧ H' acc = some (.lst ys) ∧ But2 m d H4 H') ?_ ?_ ?_ ?_
      · exact ⟨none, rfl, A4.same (Same.new na), rfl, upd_same, But2.of_same (Same.new na)⟩
      · rintro i ys τ H5 hi ⟨c, rfl, A5, rfl, ha, b5⟩
        refine ⟨SqT.of (A4.tup b5 hw), ha, ?_⟩
        rw [List.length_map, List.length_map, List.length_take]
        rw [List.length_map] at hi
        exact small1000 (by omega)
      · rintro i y ys τ H5 hi ⟨c, rfl, A5, rfl, ha, b5⟩
        obtain ⟨k0, hk0, rfl⟩ : ∃ k, (waysE e)[i]? = some k ∧ y = V.int (k : Nat) := by
          rw [List.getElem?_map] at hi
          cases z : (waysE e)[i]? with
          | none => rw [z] at hi; cases hi
          | some k => rw [z] at hi; exact ⟨k, rfl, (Option.some.inj hi).symm⟩
        have hk0b := hwb hk0
        have hki : ks[i]? = some (stF ss k0) := by rw [← hks, List.getElem?_map, hk0]; rfl
        have hl5 : H5 l = some (.lst (vN ss)) := b5 _ _ (s24 _ _ hl) (ne_of_none hl nmH) (ne_of_none hl ndH)
        obtain ⟨dx5, hob5⟩ := A5.ob
        have hpl5 : (putAll ms (ks.take i)).length ≤ 1000 := by
          refine Nat.le_trans (few_below (putAll_nd mnd) (putAll_below mb fun x hx => ?_)) hn
          have hx' := List.mem_of_mem_take hx
          rw [← hks] at hx'
          obtain ⟨j, hj, rfl⟩ := List.mem_map.mp hx'
          obtain ⟨jj, hjj⟩ := List.getElem?_of_mem hj
          exact hsl' (hwb hjj)
        refine gname_ ?_
        refine yes_ ?_
        refine iteT ?_
        refine ⟨_, rfl, r, dx5, _, rfl, hob5, rno_place_of, _, rfl, _, rfl, l, _, _, _, rfl, rfl, SqL.of hl5, hst hk0b, r, m, d, stF ss k0, _, rfl, A5, hpl5, fun H6 A6 b6 => ?_⟩
        have ha6 : H6 acc = some (.lst (vN ((ks.take i).map (putAll ms ks).idxOf))) := b6 _ _ ha nam nad
        rw [idx_stays hki]
        refine ⟨ha6, _, rfl, ?_, ?_, upd_same, fun c' o h c1 c2 => ?_⟩
        · rw [List.take_add_one, hki]
          show RAt C _ r m d (putAll ms (ks.take i ++ [stF ss k0]))
          rw [L2.putAll_snoc]
          refine A6.keep fun x u h z => ?_
          rw [upd_ne ?_]
          · exact h
          · rcases z with rfl | rfl | rfl
            · exact nar.symm
            · exact nam.symm
            · exact nad.symm
        · rw [List.take_add_one, hki]
          show _ = ((ks.take i ++ [stF ss k0]).map _).map _
          rw [List.map_append, List.map_append]
          rfl
        · rw [upd_ne (ne_of_none h na)]
          exact (b5.trans b6) c' o h c1 c2
      rintro ys τ H5 ⟨c, rfl, A5, rfl, ha, b5⟩
      have htk : ks.take ((waysE e).map fun k => V.int (k : Nat)).length = ks := by rw [List.length_map, ← hksl, List.take_length]
      rw [htk] at A5 ha
      have hhl : (headE e).length ≤ 3 := by cases e <;> simp [headE]
      have hz5 : H5 pz = some (.lst zs) := b5 _ _ hz4 npm npd
      have kt5 : ∀ p xs, H4 p = some (.tup xs) → H5 p = some (.tup xs) := fun p xs h => A4.tup b5 h
      have s5 : Same H H5 := fun c o h => b5 c o (s24 c o h) (ne_of_none h nmH) (ne_of_none h ndH)
      refine ⟨_, rfl, .inl ⟨rfl, _, SqL.of hz5⟩, _, rfl, _, rfl, ea, e, rfl, s5 _ _ e4, fun t H6 ht s6 => ⟨_, rfl, acc, _, rfl, .inl ⟨SqL.of (s6 _ _ ha), fun t2 nt2 => ?_⟩⟩⟩
      have s7 := s6.trans (Same.new (o := .tup (vN (ks.map (putAll ms ks).idxOf))) nt2)
      have ht7 := Same.new (o := .tup (vN (ks.map (putAll ms ks).idxOf))) nt2 _ _ ht
      refine ⟨t, t2, _, _, rfl, rfl, ht7, upd_same, (by rw [List.length_map, List.length_map, hksl]; exact Nat.le_of_lt (small1000 (by omega))), fun t3 H8 ht3 s8 => ⟨ln2, fun t4 nt4 => ?_⟩⟩
      rw [← vEnd_new (by rw [List.length_map, hksl])] at ht3
      have s9 := (s7.trans s8).trans (Same.new (o := .tup [.ref da, .ref t3]) nt4)
      have ht9 := Same.new (o := .tup [.ref da, .ref t3]) nt4 _ _ ht3
      have h49 : (upd H8 t4 (.tup [.ref da, .ref t3])) t4 = some (.tup [.ref da, .ref t3]) := upd_same
      generalize (upd H8 t4 (.tup [.ref da, .ref t3])) = H9 at s9 ht9 h49
      have hz9 := s9 _ _ hz5
      refine ⟨pz, _, _, rfl, rfl, hz9, small1000 (by omega), ?_⟩
      have kt : ∀ p xs, H9 p = some (.tup xs) → (upd H9 pz (.lst (zs ++ [.ref t4]))) p = some (.tup xs) := fun p xs h => by rw [upd_ne (ne_of h hz9 (by intro z; cases z))]; exact h
      have s59 := s5.trans s9
      refine ⟨_, outs ++ [outP (ds, e) ks (putAll ms ks)], _, _, _, _, rfl, (A5.same s9).keep fun x u h z => ?_, upd_same, ?_, hloop, (by rw [List.length_append]; show fu + (_ + 1) = _; omega), putAll_nd mnd, putAll_below mb fun x hx => ?_, ?_, s59.put npzH⟩
      · rw [upd_ne ?_]
        · exact h
        · rcases z with rfl | rfl | rfl
          · exact npr.symm
          · exact npm.symm
          · exact npd.symm
      · rw [List.map_append]
        refine RdDs.app ((((rz3.same s4 (noLists_pieces outs)).tups kt5 (noLists_pieces outs)).same s9 (noLists_pieces outs)).tups kt (noLists_pieces outs)) ?_
        have rd4 : RdD H9 (.ref t4) (dPiece (outP (ds, e) ks (putAll ms ks))) := .tup h49 (.cons (.tup (s59 _ _ e3) (r3.same s59 (noLists_deeds ds))) (.cons (end_rd ht9) .nil))
        exact rd4.tups kt (noList_piece _)
      · rw [← hks] at hx
        obtain ⟨j, hj, rfl⟩ := List.mem_map.mp hx
        obtain ⟨jj, hjj⟩ := List.getElem?_of_mem hj
        exact hsl' (hwb hjj)
      · obtain ⟨more, em⟩ := putAll_pre ks ms
        rw [em, List.length_append, List.length_append]
        show _ + 1 ≤ _
        omega
    · have hnl : ¬ outs.length < ms.length := fun z => hc (decide_eq_true (by omega))
      rw [loopR_end (List.getElem?_eq_none (by omega))] at hloop
      rw [← hloop] at q
      refine ⟨_, rfl, pz, _, rfl, .inl ⟨SqL.of hz3, fun t1 n1 => ?_⟩⟩
      have q1 := Same.new (o := .tup zs) n1
      refine ⟨_, rfl, r, C, dx3, _, _, rfl, q1 _ _ hob3, T.cl, T.members, lk_members, m, _, rfl, .inl ⟨SqL.of (q1 _ _ A3.mem), fun t2 n2 => ⟨ln2, fun t3 n3 => ?_⟩⟩⟩
      have q2 := Same.new (o := .tup (vN ms)) n2
      have q3 := Same.new (o := .tup [.ref t1, .ref t2]) n3
      refine q (.ref t3) _ (.tup upd_same (.cons (.tup (q3 _ _ (q2 _ _ upd_same)) (rz3.same ((q1.trans q2).trans q3) (noLists_pieces outs))) (.cons (.tup (q3 _ _ upd_same) (rd_natsS ms)) .nil))) (s3.trans ((q1.trans q2).trans q3))
end
end My

set_option Elab.async false
set_option linter.all false
set_option maxRecDepth 100000
namespace My
open PySem PySem.Spec PyProof.Rows L2
section
variable {P : Program} {w : World} {K : PySem.W.Frag} {mg : Str → Option Value} {base : Heap}
set_option maxHeartbeats 4000000 in
theorem ok_is_idle {f : Addr} {fd : FuncData} (F : Fun K "is_idle" "is_idle" s_is_idle f fd) (Z : Bl mg)  : FnOk P w K mg base CX0 1 f fd ["piece"] spIdle := by
  refine F.ok (k := 0) sc_is_idle (fun vs H Q E h => ?_) (fun cdv A outer s H vs Q E hr h => ?_)
  · obtain ⟨pc, da, ea, ws, ds, e, rfl, _⟩ := h
    rfl
  · obtain ⟨pc, da, ea, ws, ds, e, rfl, hp, hd, hr0, he, q⟩ := h
    refine ⟨_, (pss_cons (ps_asg (pv 0) (pg_tup rfl (pgs_cons (pg_name (i := 1) sc_is_idle.nd rfl (Or.inl rfl)) (pgs_cons (pg_name (i := 2) sc_is_idle.nd rfl (Or.inl rfl)) pgs_nil))))
      (pss_one (ps_ret (pe_and (pe_cmpR op_eq (pe_callB call_len_seq rfl Z.len bt_len (pa_cons (pv 1) pa_nil)) pe_int (nomark _)) (pe_one (pe_cmpR op_eq (pe_ix ix_tup (pv 2) pe_int (fun _ _ => rfl)) pe_str (nomark _))))))), ?_⟩

    refine ⟨_, rfl, pc, _, rfl, SqT.of hp, rfl, _, _, rfl, _, _, rfl, rfl, ?_⟩
    have hl := hr0.len
    rw [List.length_map] at hl
    refine ⟨_, rfl, da, _, rfl, .inr (SqT.of hd), rfl, _, rfl, ?_⟩
    refine ite2 (fun hc => ?_) (fun hc => ?_)
    · have h0 : (ws.length : Int) = 0 := V.int.inj (of_decide_eq_true hc)
      have hds : ds = [] := List.length_eq_zero_iff.mp (by omega)
      subst hds
      refine ⟨_, rfl, ea, _, 0, _, rfl, rfl, SqT.of he, (by cases e <;> exact at0 : atI (vEnd e) 0 = some (V.str (wE e))), rfl, ?_⟩
      cases e with
      | stop =>
        rw [show decide (V.str (wE End.stop) = V.str "go") = false by decide +kernel]
        exact q
      | go p =>
        rw [show decide (V.str (wE (End.go p)) = V.str "go") = true from decide_eq_true rfl]
        exact q
      | tst b x n p p2 =>
        rw [show decide (V.str (wE (End.tst b x n p p2)) = V.str "go") = false from (show decide (V.str (wT b) = V.str "go") = false by cases b <;> decide +kernel)]
        exact q
    · have hds : ds ≠ [] := fun z => hc (decide_eq_true (by rw [hl, z]; rfl))
      cases ds with
      | nil => exact absurd rfl hds
      | cons _ _ => exact q
end
end My

set_option Elab.async false
set_option linter.all false
set_option maxRecDepth 100000
namespace My
open PySem PySem.Spec PyProof.Rows L2
section
variable {P : Program} {w : World} {K : PySem.W.Frag} {mg : Str → Option Value} {base : Heap}
set_option maxHeartbeats 4000000 in
theorem ok_followed {f : Addr} {fd : FuncData} (F : Fun K "followed" "followed" s_followed f fd) (Z : Bl mg) (O_is_idle : Own P w K mg base "is_idle" 1 ["piece"] spIdle) : FnOk P w K mg base CX0 3 f fd ["plan", "at"] spFollowed := by
  refine F.ok (k := 2) sc_followed (fun vs H Q E h => ?_) (fun cdv A outer s H vs Q E hr h => ?_)
  · obtain ⟨plv, ps, k, rfl, _⟩ := h
    rfl
  · obtain ⟨plv, ps, k, rfl, hp, hin, hk, hn, q⟩ := h
    refine ⟨_, (pss_cons (ps_set (i := 2) sc_followed.nd rfl (Or.inl rfl) (pe_lst pa_nil))
      (pss_cons (ps_set (i := 3) sc_followed.nd rfl (Or.inl rfl) (pe_callTy0 call_set0 rfl Z.set bt_set))
      (pss_cons (ps_while PassesOwn.never (pt_val (pe_own O_is_idle (hr.mono (by decide)) rfl (pa_cons (pe_ix ix_tup (pv 0) (pv 1) (fun _ _ => rfl)) pa_nil)))
      (pss_cons (ps_if (pt_cmpR op_inS (pv 1) (pv 3) (by with_unfolding_all rfl))
      (pss_one (ps_ret (pe_callB (call_minL rfl) rfl Z.min bt_min (pa_cons (pe_slice sl_list (pv 2) (po_some (pe_bm PySem.F.plainAttrs_list PySem.F.slot_list_index PySem.F.type_list_index mt_index (pv 2) (pa_cons (pv 1) pa_nil))) po_none) pa_nil))))
      pss_nil)
      (pss_cons (ps_expr (pe_bmS PySem.F.slot_set_add PySem.F.type_set_add mt_addS (pv 3) (pa_cons (pv 1) pa_nil)))
      (pss_cons (ps_expr (pe_bm PySem.F.plainAttrs_list PySem.F.slot_list_append PySem.F.type_list_append mt_append (pv 2) (pa_cons (pv 1) pa_nil)))
      (pss_one (ps_set (i := 1) sc_followed.nd rfl (Or.inl rfl) (pe_ix ix_tup (pe_ix ix_tup (pe_ix ix_tup (pv 0) (pv 1) (fun _ _ => rfl)) pe_int (fun _ _ => rfl)) pe_int (fun _ _ => rfl))))))))
      (pss_one (ps_ret (pv 1)))))), ?_⟩
    obtain ⟨pp, vs, rfl, e1, r1⟩ := RdD.tup_inv hp
    have hvl := r1.len
    rw [List.length_map] at hvl

    refine ⟨(by show 0 ≤ sizeLine; decide), fun pl npl => ⟨rfl, fun fs nfs => ?_⟩⟩
    have s1 := Same.new (o := .lst []) npl
    have hpl1 : (upd H pl (.lst [])) pl = some (.lst []) := upd_same
    generalize (upd H pl (.lst [])) = H1 at s1 hpl1 nfs
    change (_ : Hp → Prop) (upd H1 fs (setO P w fs []))
    have s2 := Same.new (o := setO P w fs []) nfs
    have hfs2 : (upd H1 fs (setO P w fs [])) fs = some (setO P w fs []) := upd_same
    have hpl2 := s2 _ _ hpl1
    have npf : pl ≠ fs := ne_of_none hpl1 nfs
    generalize (upd H1 fs (setO P w fs [])) = H2 at s2 hfs2 hpl2
    have kpl : ∀ {at_ i : Nat} {pc : Piece} {H' : Hp}, ps[at_]? = some pc → True := fun _ => trivial
    refine ⟨fun m σ H' => ∃ (at_ : Nat) (passed : List Nat), σ = [some (.ref pp), some (.int (at_ : Nat)), some (.ref pl), some (.ref fs)] ∧ H' pl = some (.lst (vN passed)) ∧ H' fs = some (setO P w fs (passed.map fun k : Nat => (Sum.inl (k : Int) : Key))) ∧ folN ps m at_ passed = folF ps k ∧ passed.Nodup ∧ (∀ x ∈ passed, x < ps.length) ∧ m + passed.length = ps.length + 1 ∧ at_ < ps.length ∧ Same H H', ⟨ps.length + 1, k, [], rfl, hpl2, hfs2, rfl, List.nodup_nil, (fun _ h => nomatch h), by simp, hk, s1.trans s2⟩, ?_⟩
    rintro m σ H3 ⟨at_, passed, rfl, h1, h2, hf, nd, hb', hm, hat, s3⟩
    have hps : ps[at_]? = some ps[at_] := by simp [hat]
    generalize hpc : ps[at_] = pc at hps
    obtain ⟨ds, e⟩ := pc
    obtain ⟨p', xs', pc, da, ea, ws, ep, e1', el', hx', e2, e3, r3, e4⟩ := rd_piece hp hps
    cases ep
    rw [e1] at e1'
    cases e1'
    have hfew := few_below nd hb'
    obtain ⟨m, rfl⟩ : ∃ m', m = m' + 1 := ⟨m - 1, by omega⟩
    refine ⟨_, rfl, _, rfl, pp, _, _, _, rfl, rfl, SqT.of (s3 _ _ e1), atI_nat hx', pc, da, ea, ws, ds, e, rfl, s3 _ _ e2, s3 _ _ e3, r3.same s3 (noLists_deeds ds), s3 _ _ e4, _, rfl, ?_⟩
    refine ite2 (fun hi => ?_) (fun hi => ?_)
    · obtain ⟨n, en⟩ := idle_is hi
      cases en
      rw [folN_idle hps] at hf
      refine ⟨_, fun σ' H' h => ⟨m, Nat.lt_succ_self m, h⟩, ?_⟩
      refine ⟨_, rfl, _, rfl, fs, _, Sum.inl (at_ : Int), rfl, h2, rfl, fun b hb => ⟨_, rfl, ?_⟩⟩
      have hbm : b = true ↔ at_ ∈ passed := by
        rw [hb, List.mem_map]
        constructor
        · rintro ⟨x, hx, e⟩
          have := Sum.inl.inj e
          rw [show at_ = x by omega]; exact hx
        · intro hx; exact ⟨at_, hx, rfl⟩
      refine ite2 (fun hc => ?_) (fun hc => ?_)
      · have hmem := hbm.mp hc
        rw [if_pos hmem] at hf
        have evn : vN passed = (passed.map fun k : Nat => (k : Int)).map V.int := by rw [List.map_map]; rfl
        have eix : (passed.map fun k : Nat => (k : Int)).idxOf (at_ : Int) = passed.idxOf at_ := by
          clear hf hb hbm nd hb' hm hfew h1 h2 evn
          induction passed with
          | nil => rfl
          | cons x l ih =>
            rw [List.map_cons, List.idxOf_cons, List.idxOf_cons]
            by_cases e : x = at_
            · subst e; simp
            · have e' : ¬ (x : Int) = (at_ : Int) := by omega
              rcases List.mem_cons.mp hmem with z | z
              · exact absurd z.symm e
              · simp only [beq_false_of_ne e, beq_false_of_ne e', cond_false]; rw [ih z]
        have hlt : passed.idxOf at_ < passed.length := List.idxOf_lt_length_of_mem hmem
        refine ⟨_, rfl, _, rfl, .inl ⟨rfl, _, SqL.of h1⟩, _, rfl, pl, passed.map (fun k : Nat => (k : Int)), (at_ : Int), rfl, rfl, by rw [h1, evn], List.mem_map.mpr ⟨at_, hmem, rfl⟩, _, rfl, pl, _, rfl, SqL.of h1, fun t nt => ?_⟩
        have ecut : cutV (vN passed) (some (((passed.map fun k : Nat => (k : Int)).idxOf (at_ : Int) : Nat) : Int)) none = ((passed.drop (passed.idxOf at_)).map fun k : Nat => (k : Int)).map V.int := by
          rw [evn, eix, cut_ints_end (by rw [List.length_map]; omega), ← List.map_drop]
        rw [ecut]
        refine ⟨t, _, rfl, SqL.of upd_same, (by rw [List.length_map, List.length_drop]; omega), fun M m1 m2 => ?_⟩
        rw [minN_is m1 m2, hf]
        exact q _ (s3.trans (Same.new nt))
      · have hmem : ¬ at_ ∈ passed := fun z => hc (hbm.mpr z)
        rw [if_neg hmem] at hf
        have hnk : ¬ (Sum.inl (at_ : Int) : Key) ∈ passed.map fun k : Nat => (Sum.inl (k : Int) : Key) := fun z => hc (hb.mpr z)
        refine ⟨_, rfl, ⟨fs, _, rfl, h2⟩, _, rfl, fs, _, Sum.inl (at_ : Int), rfl, rfl, h2, (by rw [List.length_map]; exact Nat.lt_of_le_of_lt (show passed.length + 1 ≤ 1002 by omega) (by decide)), ?_⟩
        have eput : LS.putIn (passed.map fun k : Nat => (Sum.inl (k : Int) : Key)) (Sum.inl (at_ : Int)) = (passed ++ [at_]).map fun k : Nat => (Sum.inl (k : Int) : Key) := by
          unfold LS.putIn; rw [if_neg hnk, List.map_append]; rfl
        rw [eput]
        change (_ : Hp → Prop) (upd H3 fs (setO P w fs ((passed ++ [at_]).map fun k : Nat => (Sum.inl (k : Int) : Key))))
        have h14 : (upd H3 fs (setO P w fs ((passed ++ [at_]).map fun k : Nat => (Sum.inl (k : Int) : Key)))) pl = some (.lst (vN passed)) := by rw [upd_ne npf]; exact h1
        refine ⟨_, rfl, .inl ⟨rfl, _, SqL.of h14⟩, _, rfl, pl, _, _, rfl, rfl, h14, small1000 (by rw [List.length_map]; omega), ?_⟩
        have s5 : Same H (upd (upd H3 fs (setO P w fs ((passed ++ [at_]).map fun k : Nat => (Sum.inl (k : Int) : Key)))) pl (.lst (vN passed ++ [.int (at_ : Nat)]))) := (s3.put (s1.free nfs)).put npl
        have hpl5 : (upd (upd H3 fs (setO P w fs ((passed ++ [at_]).map fun k : Nat => (Sum.inl (k : Int) : Key)))) pl (.lst (vN passed ++ [.int (at_ : Nat)]))) pl = some (.lst (vN (passed ++ [at_]))) := by rw [upd_same]; show _ = some (HO.lst ((passed ++ [at_]).map _)); rw [List.map_append]; rfl
        have hfs5 : (upd (upd H3 fs (setO P w fs ((passed ++ [at_]).map fun k : Nat => (Sum.inl (k : Int) : Key)))) pl (.lst (vN passed ++ [.int (at_ : Nat)]))) fs = some (setO P w fs ((passed ++ [at_]).map fun k : Nat => (Sum.inl (k : Int) : Key))) := by rw [upd_ne npf.symm, upd_same]
        generalize (upd (upd H3 fs (setO P w fs ((passed ++ [at_]).map fun k : Nat => (Sum.inl (k : Int) : Key)))) pl (.lst (vN passed ++ [.int (at_ : Nat)]))) = H5 at s5 hpl5 hfs5
        refine ⟨_, rfl, _, rfl, pp, _, _, _, rfl, rfl, SqT.of (s5 _ _ e1), atI_nat hx', pc, _, 1, _, rfl, rfl, SqT.of (s5 _ _ e2), at1, ea, _, 1, _, rfl, rfl, SqT.of (s5 _ _ e4), at1, ?_⟩
        have hnlt : n < ps.length := by
          have := hin _ (List.mem_of_getElem? hps)
          exact this
        refine ⟨n, passed ++ [at_], rfl, hpl5, hfs5, hf, ?_, ?_, (by rw [List.length_append]; show m + (_ + 1) = _; omega), hnlt, s5⟩
        · rw [List.nodup_append]
          refine ⟨nd, by simp, fun x hx y hy z => ?_⟩
          rw [List.mem_singleton.mp hy] at z
          exact hmem (z ▸ hx)
        · intro x hx
          rcases List.mem_append.mp hx with hx | hx
          · exact hb' x hx
          · rw [List.mem_singleton.mp hx]; exact hat
    · rw [folN_not hps (Bool.eq_false_iff.mpr hi)] at hf
      refine ⟨_, rfl, ?_⟩
      rw [hf]
      exact q _ s3
end
end My

set_option Elab.async false
set_option linter.all false
set_option maxRecDepth 100000
namespace My
open PySem PySem.Spec PyProof.Rows L2
section
variable {P : Program} {w : World} {K : PySem.W.Frag} {mg : Str → Option Value} {base : Heap}
set_option maxHeartbeats 4000000 in
theorem ok_short {f : Addr} {fd : FuncData} (F : Fun K "short" "short" s_short f fd) (Z : Bl mg) (O_followed : Own P w K mg base "followed" 3 ["plan", "at"] spFollowed) (O_with_steads : Own P w K mg base "with_steads" 5 ["plan", "steads"] spSteads) : FnOk P w K mg base CX0 6 f fd ["plan"] spShort := by
  refine F.ok (k := 5) sc_short (fun vs H Q E h => ?_) (fun cdv A outer s H vs Q E hr h => ?_)
  · obtain ⟨plv, ps, rfl, _⟩ := h
    rfl
  · obtain ⟨plv, ps, rfl, hp, hin, hn0, hn, q⟩ := h
    refine ⟨_, (pss_one (ps_ret (pe_own O_with_steads (hr.mono (by decide)) rfl (pa_cons (pv 0) (pa_cons (pe_lcomp ["at"] ["plan"] [0] rfl (pi_range1 rfl Z.range (pa_cons (pe_callB call_len_seq rfl Z.len bt_len (pa_cons (pv 0) pa_nil)) pa_nil)) rfl (by decide +kernel) (by decide +kernel) (by decide +kernel) ⟨⟨rfl, .inl rfl, rfl⟩, True.intro⟩ (fun _ _ _ _ => (pg_name (i := 0) (show ((["at"] : List Str) ++ (["plan"] : List Str)).Nodup by decide +kernel) rfl (Or.inl rfl) (hf := Or.inr rfl))) (fun _ _ _ _ => pts_nil) (fun _ _ _ _ => (pe_own O_followed (hr.mono (by decide)) rfl (pa_cons (pv 1) (pa_cons (pv 0) pa_nil))))) pa_nil))))), ?_⟩
    obtain ⟨pp, vs, rfl, e1, r1⟩ := RdD.tup_inv hp
    have hvl := r1.len
    rw [List.length_map] at hvl

    refine ⟨_, rfl, _, rfl, pp, _, rfl, .inr (SqT.of e1), _, rfl, (by omega), (by omega), fun acc na => ?_⟩
    refine lc_range (lo := 0) (fun i ys τ H' => ∃ v : Option V, τ = [v, some (.ref pp)] ∧ ys = vN ((folsF ps).take i) ∧ H' acc = some (.lst ys) ∧ Same H H') ?_ ?_ ?_ ?_
    · exact ⟨none, rfl, rfl, upd_same, Same.new na⟩
    · rintro i ys τ H1 hi ⟨v, rfl, rfl, ha, s1⟩
      refine ⟨ha, small1000 ?_⟩
      rw [List.length_map, List.length_take]
      omega
    · rintro i ys τ H1 hi ⟨v, rfl, rfl, ha, s1⟩
      refine gname_ ?_
      refine yes_ ?_
      refine iteT ?_
      refine ⟨_, rfl, _, rfl, _, ps, i, by rw [Int.zero_add]; rfl, hp.same s1 (noList_plan ps), hin, (by omega), hn, fun H2 s2 => ?_⟩
      refine ⟨s2 _ _ ha, _, rfl, ?_, upd_same, (s1.trans s2).put na⟩
      have : (folsF ps)[i]? = some (folF ps i) := by unfold folsF; rw [List.getElem?_map, List.getElem?_range (by omega)]; rfl
      rw [List.take_add_one, this]
      show _ = ((folsF ps).take i ++ [folF ps i]).map _
      rw [List.map_append]; rfl
    · rintro ys τ H1 ⟨v, rfl, rfl, ha, s1⟩
      have el : (folsF ps).length = ps.length := by unfold folsF; rw [List.length_map, List.length_range]
      rw [List.take_of_length_le (by omega)] at ha
      refine ⟨_, acc, ps, folsF ps, rfl, hp.same s1 (noList_plan ps), hin, ?_, el, hn0, hn, fun k hk => ?_, fun v H2 r2 s2 => q v H2 r2 (s1.trans s2)⟩
      · exact ha
      · unfold folsF at hk
        obtain ⟨j, hj, rfl⟩ := List.mem_map.mp hk
        exact folF_lt hin (List.mem_range.mp hj)
end
end My

set_option Elab.async false
set_option linter.all false
set_option maxRecDepth 100000
namespace My
open PySem PySem.Spec PyProof.Rows L2
section
variable {P : Program} {w : World} {K : PySem.W.Frag} {mg : Str → Option Value} {base : Heap}
set_option maxHeartbeats 4000000 in
theorem ok_law_bag {f : Addr} {fd : FuncData} (F : Fun K "_law_bag" "_law_bag" s_law_bag f fd) (Z : Bl mg)  : FnOk P w K mg base CX0 1 f fd ["script", "k"] (spBag K) := by
  refine F.ok (k := 0) sc_law_bag (fun vs H Q E h => ?_) (fun cdv A outer s H vs Q E hr h => ?_)
  · obtain ⟨a, ns, k, rfl, _⟩ := h
    rfl
  · obtain ⟨a, ns, k, rfl, hS, hk, q⟩ := h
    refine ⟨_, (pss_cons (ps_set (i := 2) sc_law_bag.nd rfl (Or.inl rfl) pe_int)
      (pss_cons (ps_if (pt_cmpR op_lt (pv 1) (pe_callB call_len_seq rfl Z.len bt_len (pa_cons (pv 0) pa_nil)) (nomark _))
      (pss_one (ps_set (i := 2) sc_law_bag.nd rfl (Or.inl rfl) (pe_op op_mod (pe_ix ix_list (pv 0) (pv 1) (fun _ _ => rfl)) (pe_op op_mulB (pe_op op_pow pe_int pe_int) (pe_op op_pow pe_int pe_int)))))
      pss_nil)
      (pss_cons (ps_if (pt_cmpR op_lt (pv 2) (pe_op op_pow pe_int pe_int) (nomark _))
      (pss_one (ps_ret (pe_lst (pa_cons pe_int (pa_cons (pe_op op_add pe_int (pe_op op_mod (pe_op op_add (pe_op op_mul (pv 2) pe_int) (pe_op op_mul pe_int (pv 1))) pe_int)) pa_nil)))))
      pss_nil)
      (pss_one (ps_ret (pe_lst (pa_cons (pv 2) (pa_cons (pe_op op_add pe_int (pe_op op_mod (pe_op op_add (pv 2) (pv 1)) pe_int)) pa_nil)))))))), ?_⟩

    refine ⟨_, rfl, _, rfl, _, _, rfl, .inl hS, _, _, rfl, rfl, _, rfl, ?_⟩
    refine ite2 (fun hc => ?_) (fun hc => ?_)
    · have hl : k < ((ns.map V.int).length : Nat) := of_decide_eq_true hc
      obtain ⟨v, hv, hm⟩ := at_in hk hl
      obtain ⟨z, _, rfl⟩ := List.mem_map.mp hm
      refine ⟨_, rfl, _, rfl, _, _, _, _, rfl, rfl, hS, hv, 10, 60, rfl, rfl, ⟨by decide, by decide, by decide⟩, 10, 60, rfl, rfl, ⟨by decide, by decide, by decide⟩, _, _, rfl, rfl, (by unfold IntMulOk; decide +kernel), _, _, rfl, rfl, (show (0 : Int) < 10 ^ (60 : Int).toNat * 10 ^ (60 : Int).toNat by decide +kernel), ?_⟩
      refine ⟨_, rfl, 10, 18, rfl, rfl, ⟨by decide, by decide, by decide⟩, _, _, rfl, rfl, _, rfl, ?_⟩
      refine ite2 (fun hd => ?_) (fun hd => ?_)
      · refine ⟨_, rfl, _, _, rfl, rfl, .inr ⟨by decide, by decide⟩, _, rfl, _, _, rfl, rfl, .inl ⟨by decide, by decide⟩, _, _, rfl, rfl, _, _, rfl, rfl, (show (0 : Int) < 2147483646 by decide), _, _, rfl, rfl, ln2, fun p hp => ?_⟩
        exact q p _ hp ⟨_, _, upd_same, by omega, by omega⟩ (Same.new hp)
      · refine ⟨_, rfl, _, rfl, _, rfl, _, _, rfl, rfl, _, _, rfl, rfl, (show (0 : Int) < 2147483646 by decide), _, _, rfl, rfl, ln2, fun p hp => ?_⟩
        exact q p _ hp ⟨_, _, upd_same, by omega, by omega⟩ (Same.new hp)
    · refine ⟨_, rfl, 10, 18, rfl, rfl, ⟨by decide, by decide, by decide⟩, _, _, rfl, rfl, _, rfl, ?_⟩
      refine ite2 (fun hd => ?_) (fun hd => ?_)
      · refine ⟨_, rfl, _, _, rfl, rfl, .inr ⟨by decide, by decide⟩, _, rfl, _, _, rfl, rfl, .inl ⟨by decide, by decide⟩, _, _, rfl, rfl, _, _, rfl, rfl, (show (0 : Int) < 2147483646 by decide), _, _, rfl, rfl, ln2, fun p hp => ?_⟩
        exact q p _ hp ⟨_, _, upd_same, by omega, by omega⟩ (Same.new hp)
      · refine ⟨_, rfl, _, rfl, _, rfl, _, _, rfl, rfl, _, _, rfl, rfl, (show (0 : Int) < 2147483646 by decide), _, _, rfl, rfl, ln2, fun p hp => ?_⟩
        exact q p _ hp ⟨_, _, upd_same, by omega, by omega⟩ (Same.new hp)
end
end My

set_option Elab.async false
set_option linter.all false
set_option maxRecDepth 100000
namespace My
open PySem PySem.Spec PyProof.Rows L2
section
variable {P : Program} {w : World} {K : PySem.W.Frag} {mg : Str → Option Value} {base : Heap}
set_option maxHeartbeats 4000000 in
theorem ok_law_take {f : Addr} {fd : FuncData} (F : Fun K "_law_take" "_law_take" s_law_take f fd) (Z : Bl mg)  : FnOk P w K mg base CX0 1 f fd ["bag", "many"] spTake := by
  refine F.ok (k := 0) sc_law_take (fun vs H Q E h => ?_) (fun cdv A outer s H vs Q E hr h => ?_)
  · obtain ⟨b, m, rfl, _⟩ := h
    rfl
  · obtain ⟨b, m, rfl, ⟨x, y, hb, h0, h1⟩, hm, q⟩ := h
    refine ⟨_, (pss_cons (ps_if (pt_cmpR op_gt (pe_ix ix_list (pv 0) pe_int (fun _ _ => rfl)) pe_int (nomark _))
      (pss_cons (ps_set (i := 2) sc_law_take.nd rfl (Or.inl rfl) (pe_op op_mod (pe_ix ix_list (pv 0) pe_int (fun _ _ => rfl)) (pv 1)))
      (pss_cons (ps_asg (pe_op op_fdivB (pe_ix ix_list (pv 0) pe_int (fun _ _ => rfl)) (pv 1)) (pg_sub (pv 0) pe_int set_list))
      (pss_one (ps_ret (pv 2)))))
      pss_nil)
      (pss_cons (ps_asg (pe_op op_mod (pe_op op_mul (pe_ix ix_list (pv 0) pe_int (fun _ _ => rfl)) pe_int) pe_int) (pg_sub (pv 0) pe_int set_list))
      (pss_one (ps_ret (pe_op op_mod (pe_op op_fdiv (pe_op op_mod (pe_op op_mul (pe_ix ix_list (pv 0) pe_int (fun _ _ => rfl)) (pe_ix ix_list (pv 0) pe_int (fun _ _ => rfl))) pe_int) pe_int) (pv 1)))))), ?_⟩

    refine ⟨_, rfl, b, _, 0, _, rfl, rfl, SqL.of hb, at0, _, _, rfl, rfl, _, rfl, ?_⟩
    refine ite2 (fun hc => ?_) (fun hc => ?_)
    · refine ⟨_, rfl, b, _, 0, _, rfl, rfl, SqL.of hb, at0, _, rfl, _, _, rfl, rfl, hm.1, ?_⟩
      refine ⟨_, rfl, b, _, 0, _, rfl, rfl, SqL.of hb, at0, _, rfl, _, _, rfl, rfl, hm, _, rfl, b, _, 0, 0, rfl, rfl, hb, rfl, ?_⟩
      refine ⟨_, rfl, ?_⟩
      exact q _ _ (Int.emod_nonneg _ (by have := hm.1; omega)) (Int.emod_lt_of_pos _ hm.1) ⟨_, _, upd_same, h0, h1⟩ Fix.upd_b
    · refine ⟨_, rfl, b, _, 1, _, rfl, rfl, SqL.of hb, at1, _, _, rfl, rfl, .inr ⟨by decide, by decide⟩, _, _, rfl, rfl, (show (0 : Int) < 2147483647 by decide), _, rfl, b, _, 1, 1, rfl, rfl, hb, rfl, ?_⟩
      refine ⟨_, rfl, b, _, 1, _, rfl, rfl, SqL.of upd_same, at1, _, rfl, b, _, 1, _, rfl, rfl, SqL.of upd_same, at1, _, _, rfl, rfl, .inl ⟨by omega, by omega⟩, _, _, rfl, rfl, (show (0 : Int) < 2147483629 by decide), _, _, rfl, rfl, ⟨by decide, by decide⟩, _, rfl, _, _, rfl, rfl, hm.1, ?_⟩
      exact q _ _ (Int.emod_nonneg _ (by have := hm.1; omega)) (Int.emod_lt_of_pos _ hm.1) ⟨_, _, upd_same, by omega, by omega⟩ Fix.upd_b
end
end My

set_option Elab.async false
set_option linter.all false
set_option maxRecDepth 100000
namespace My
open PySem PySem.Spec PyProof.Rows L2
section
variable {P : Program} {w : World} {K : PySem.W.Frag} {mg : Str → Option Value} {base : Heap}
set_option maxHeartbeats 4000000 in
theorem ok_law_names {f : Addr} {fd : FuncData} (F : Fun K "_law_names" "_law_names" s_law_names f fd) (Z : Bl mg) (O_law_take : Own P w K mg base "_law_take" 1 ["bag", "many"] spTake) : FnOk P w K mg base CX0 2 f fd ["bag"] spNames := by
  refine F.ok (k := 1) sc_law_names (fun vs H Q E h => ?_) (fun cdv A outer s H vs Q E hr h => ?_)
  · obtain ⟨b, rfl, _⟩ := h
    rfl
  · obtain ⟨b, rfl, hB, q⟩ := h
    refine ⟨_, (pss_cons (ps_set (i := 1) sc_law_names.nd rfl (Or.inr rfl) pe_str)
      (pss_cons (ps_set (i := 2) sc_law_names.nd rfl (Or.inl rfl) (pe_op op_add pe_int (pe_own O_law_take (hr.mono (by decide)) rfl (pa_cons (pv 0) (pa_cons pe_int pa_nil)))))
      (pss_cons (ps_setLC (i := 3) ["k"] ["letters", "bag"] [1, 0] rfl sc_law_names.nd rfl rfl rfl (pi_range1 rfl Z.range (pa_cons (pe_op op_add pe_int (pe_own O_law_take (hr.mono (by decide)) rfl (pa_cons (pv 0) (pa_cons pe_int pa_nil)))) pa_nil)) rfl (by decide +kernel) (by decide +kernel) (by decide +kernel) ⟨⟨rfl, .inl rfl, rfl⟩, ⟨⟨rfl, .inl rfl, rfl⟩, True.intro⟩⟩ (fun _ _ _ _ => (pg_name (i := 0) (show ((["k"] : List Str) ++ (["letters", "bag"] : List Str)).Nodup by decide +kernel) rfl (Or.inl rfl) (hf := Or.inr rfl))) (fun _ _ _ _ => pts_nil) (fun _ _ _ _ => (pe_ix ix_str (pv 1) (pe_own O_law_take (hr.mono (by decide)) rfl (pa_cons (pv 2) (pa_cons pe_int pa_nil))) (fun _ _ => rfl))))
      (pss_cons (ps_set (i := 4) sc_law_names.nd rfl (Or.inl rfl) (pe_own O_law_take (hr.mono (by decide)) rfl (pa_cons (pv 0) (pa_cons (pe_callB call_len_seq rfl Z.len bt_len (pa_cons (pv 3) pa_nil)) pa_nil))))
      (pss_cons (ps_set (i := 5) sc_law_names.nd rfl (Or.inl rfl) (pe_lst pa_nil))
      (pss_cons (ps_for PassesOwn.never rfl (pi_range1 rfl Z.range (pa_cons (pv 2) pa_nil)) (pg_name (i := 6) sc_law_names.nd rfl (Or.inl rfl))
      (pss_cons (ps_set (i := 7) sc_law_names.nd rfl (Or.inl rfl) (pe_callTy call_list_of rfl Z.list bt_list (pa_cons (pv 3) pa_nil)))
      (pss_cons (ps_asg (pe_ix ix_str (pv 1) (pe_own O_law_take (hr.mono (by decide)) rfl (pa_cons (pv 0) (pa_cons pe_int pa_nil))) (fun _ _ => rfl)) (pg_sub (pv 7) (pv 4) set_list))
      (pss_one (ps_if (pt_cmpR op_notIn_seq (pe_bm PySem.F.plainAttrs_str PySem.F.slot_str_join PySem.F.type_str_join mt_join pe_str (pa_cons (pv 7) pa_nil)) (pv 5) (by with_unfolding_all rfl))
      (pss_one (ps_expr (pe_bm PySem.F.plainAttrs_list PySem.F.slot_list_append PySem.F.type_list_append mt_append (pv 5) (pa_cons (pe_bm PySem.F.plainAttrs_str PySem.F.slot_str_join PySem.F.type_str_join mt_join pe_str (pa_cons (pv 7) pa_nil)) pa_nil))))
      pss_nil)))))
      (pss_one (ps_ret (pv 5))))))))), ?_⟩

    refine ⟨_, rfl, b, 4, rfl, hB, ⟨by decide, by decide +kernel⟩, fun m H1 m0 m1 B1 X1 => ⟨_, _, rfl, rfl, ?_⟩⟩
    -- base
    refine ⟨_, rfl, b, 8, rfl, B1, ⟨by decide, by decide +kernel⟩, fun k H2 k0 k1 B2 X2 => ⟨_, _, rfl, rfl, _, rfl, (by omega), (by omega), fun acc na => ?_⟩⟩
    refine lc_range (lo := 0) (fun i ys τ H' => ∃ (v : Option V) (cs : List Nat), τ = [v, some (.str abc), some (.ref b)] ∧ ys = (cs.map one).map V.str ∧ cs.length = i ∧ (∀ c ∈ cs, 97 ≤ c ∧ c ≤ 122) ∧ H' acc = some (.lst ys) ∧ Bag H' b ∧ Fix b H2 H') ?_ ?_ ?_ ?_
    · exact ⟨none, [], rfl, rfl, rfl, (fun _ h => nomatch h), upd_same, B2.new na, Fix.new na⟩
    · rintro i ys τ H' hi ⟨v, cs, rfl, rfl, hl, _, ha, _⟩
      refine ⟨ha, ?_⟩
      rw [List.length_map, List.length_map]
      exact small1000 (by omega)
    · rintro i ys τ H' hi ⟨v, cs, rfl, rfl, hl, hc, ha, B', X'⟩
      refine gname_ ?_
      refine yes_ ?_
      refine iteT ?_
      refine ⟨_, rfl, _, rfl, b, 26, rfl, B', ⟨by decide, by decide +kernel⟩, fun r H3 r0 r1 B3 X3 => ?_⟩
      obtain ⟨c, hat, c0, c1⟩ := abc_at r0 r1
      have hab : acc ≠ b := B2.ne_new na
      have ha3 := X3 acc _ ha hab
      refine ⟨abc, r, c, rfl, rfl, abc_len, hat, ha3, _, cs ++ [c], rfl, ?_, ?_, ?_, upd_same, ?_, ?_⟩
      · rw [List.map_append, List.map_append]; rfl
      · rw [List.length_append, hl]; rfl
      · intro d hd
        rcases List.mem_append.mp hd with hd | hd
        · exact hc d hd
        · rw [List.mem_singleton.mp hd]; exact ⟨c0, c1⟩
      · obtain ⟨x, y, e, z⟩ := B3
        exact ⟨x, y, by rw [upd_ne hab.symm]; exact e, z⟩
      · intro d o hd nd
        rw [upd_ne (ne_of_none hd na)]
        exact (X'.trans X3) d o hd nd
    · rintro ys τ H3 ⟨v, cs, rfl, rfl, hl, hc, ha, B3, X3⟩
      have hab : acc ≠ b := B2.ne_new na
      have hl1 : 1 ≤ cs.length := by omega
      have hl8 : cs.length ≤ 8 := by omega
      have F3 : Fix b H H3 := (X1.trans X2).trans X3
      have el : (((cs.map one).map V.str).length : Int) = cs.length := by simp
      -- at
      refine ⟨_, rfl, _, rfl, acc, _, rfl, .inl (SqL.of ha), b, _, rfl, B3, ⟨by omega, smallM (by omega) (by omega)⟩, fun at_ H4 t0 t1 B4 X4 => ?_⟩
      -- names = []
      refine ⟨(by show 0 ≤ sizeLine; decide), fun nl nn => ?_⟩
      have hnb : nl ≠ b := B4.ne_new nn
      have ha4 : H4 acc = some (.lst ((cs.map one).map V.str)) := X4 acc _ ha hab
      have hna : nl ≠ acc := fun z => by rw [z, ha4] at nn; cases nn
      have F4 : Fix b H H4 := F3.trans X4
      refine ⟨_, rfl, _, rfl, (by omega), (by omega), for_range (lo := 0) (fun i σ H' => ∃ (u1 u2 : Option V) (xs : List Str), σ = [some (.ref b), some (.str abc), some (.int (1 + m)), some (.ref acc), some (.int at_), some (.ref nl), u1, u2] ∧
        H' nl = some (.lst (xs.map V.str)) ∧ xs.length ≤ i ∧ (0 < i → xs ≠ []) ∧ (∀ x ∈ xs, NameOk x) ∧ H' acc = some (.lst ((cs.map one).map V.str)) ∧ Bag H' b ∧ Fix b H H') ?_ ?_ ?_⟩
      · exact ⟨_, _, [], rfl, upd_same, Nat.le_refl _, (fun h => absurd h (Nat.lt_irrefl _)), (fun _ h => nomatch h), (by rw [upd_ne hna.symm]; exact ha4), B4.new nn, F4.trans (Fix.new nn)⟩
      · rintro i σ H' hi ⟨u1, u2, xs, rfl, hn, hx, hx0, hok, ha', B', X'⟩
        -- name = list(base)
        refine ⟨_, rfl, acc, _, rfl, .inl (SqL.of ha'), fun nm mm => ?_⟩
        have nmb : nm ≠ b := B'.ne_new mm
        have nma : nm ≠ acc := fun z => by rw [z, ha'] at mm; cases mm
        have nmn : nm ≠ nl := fun z => by rw [z, hn] at mm; cases mm
        -- name[at] = letters[..]
        refine ⟨_, rfl, _, rfl, b, 26, rfl, B'.new mm, ⟨by decide, by decide +kernel⟩, fun r H5 r0 r1 B5 X5 => ?_⟩
        obtain ⟨c, hat, c0, c1⟩ := abc_at r0 r1
        have h5 : H5 nm = some (.lst ((cs.map one).map V.str)) := X5 nm _ upd_same nmb
        have hn5 : H5 nl = some (.lst (xs.map V.str)) := X5 nl _ (by rw [upd_ne nmn.symm]; exact hn) hnb
        have ha5 : H5 acc = some (.lst ((cs.map one).map V.str)) := X5 acc _ (by rw [upd_ne nma.symm]; exact ha') hab
        obtain ⟨j, rfl⟩ : ∃ j : Nat, at_ = j := ⟨at_.toNat, by omega⟩
        have hj : j < cs.length := by omega
        have hix : ixN ((cs.map one).map V.str).length (j : Int) = some j := by
          unfold ixN
          rw [if_pos (by omega), if_pos (by rw [el]; omega)]
          simp
        refine ⟨abc, r, c, rfl, rfl, abc_len, hat, _, rfl, _, rfl, nm, _, (j : Int), j, rfl, rfl, h5, hix, ?_⟩
        have eset : ((cs.map one).map V.str).set j (.str ⟨#[c]⟩) = ((cs.set j c).map one).map V.str := by
          rw [List.map_set, List.map_set]; rfl
        rw [eset]
        have hc' : ∀ d ∈ cs.set j c, 97 ≤ d ∧ d ≤ 122 := fun d hd => by
          rcases List.mem_or_eq_of_mem_set hd with hd | hd
          · exact hc d hd
          · rw [hd]; exact ⟨c0, c1⟩
        have hjl : (((cs.set j c).map one).map (·.length)).sum + ((cs.set j c).map one).length * (Str.ofString "").length ≤ 16777216 := by
          have e1 : (Str.ofString "").length = 0 := by decide +kernel
          have e2 : ∀ l : List Nat, ((l.map one).map (·.length)).sum = l.length := by
            intro l
            induction l with
            | nil => rfl
            | cons a l ih => simp only [List.map_cons, List.sum_cons, ih, List.length_cons]; show 1 + l.length = _; omega
          rw [e1, e2, List.length_set]
          omega
        have nk : NameOk (Txt.join (Str.ofString "") ((cs.set j c).map one)) := by
          rw [empty_is]
          have ej := L2.join_ones (cs.set j c)
          have eL : (Txt.join Str.empty ((cs.set j c).map one)).length = (cs.set j c).length := by
            have := congrArg List.length ej
            rw [Array.length_toList] at this
            exact this
          refine ⟨?_, ?_, ?_⟩
          · rw [eL, List.length_set]; exact hl1
          · rw [eL, List.length_set]; exact hl8
          · rw [ej]; exact hc'
        have n6 : upd H5 nm (.lst (((cs.set j c).map one).map V.str)) nl = some (.lst (xs.map V.str)) := by rw [upd_ne nmn.symm]; exact hn5
        have a6 : upd H5 nm (.lst (((cs.set j c).map one).map V.str)) acc = some (.lst ((cs.map one).map V.str)) := by rw [upd_ne nma.symm]; exact ha5
        have B6 : Bag (upd H5 nm (.lst (((cs.set j c).map one).map V.str))) b := by
          obtain ⟨x, y, e, z⟩ := B5
          exact ⟨x, y, by rw [upd_ne nmb.symm]; exact e, z⟩
        have F6 : Fix b H (upd H5 nm (.lst (((cs.set j c).map one).map V.str))) := fun d o hd nd => by
          have h1 := X' d o hd nd
          have nd' : d ≠ nm := fun z => by rw [z, mm] at h1; cases h1
          rw [upd_ne nd']
          exact X5 d o (by rw [upd_ne nd']; exact h1) nd
        have flat : (xs.map V.str).all flatV = true := by
          rw [List.all_eq_true]
          intro v hv
          obtain ⟨x, _, rfl⟩ := List.mem_map.mp hv
          rfl
        refine ⟨rfl, _, rfl, _, nm, _, rfl, rfl, SqL.of upd_same, hjl, _, rfl, nl, _, rfl, .inl (SqL.of n6), rfl, flat, _, rfl, ?_⟩
        refine ite2 (fun hin => ?_) (fun hin => ?_)
        · refine ⟨_, rfl, .inl ⟨rfl, _, SqL.of n6⟩, rfl, _, rfl, _, nm, _, rfl, rfl, SqL.of upd_same, hjl, nl, _, _, rfl, rfl, n6, ?_, ?_⟩
          · rw [List.length_map]
            have : i < 4 := by omega
            exact small1000 (by omega)
          · refine ⟨_, _, xs ++ [_], rfl, (by rw [upd_same, List.map_append]; rfl), (by rw [List.length_append]; exact Nat.succ_le_succ hx), (fun _ => by simp), ?_, (by rw [upd_ne hna.symm]; exact a6), ?_, ?_⟩
            · intro x hxm
              rcases List.mem_append.mp hxm with hxm | hxm
              · exact hok x hxm
              · rw [List.mem_singleton.mp hxm]; exact nk
            · obtain ⟨x, y, e, z⟩ := B6
              exact ⟨x, y, by rw [upd_ne hnb.symm]; exact e, z⟩
            · intro d o hd nd
              have h1 := F6 d o hd nd
              have nd' : d ≠ nl := fun z => by
                have h2 := F4 d o hd nd
                rw [z, nn] at h2
                cases h2
              rw [upd_ne nd']
              exact h1
        · have hx' : xs ≠ [] := by
            intro e
            subst e
            exact hin rfl
          exact ⟨_, _, xs, rfl, n6, Nat.le_succ_of_le hx, fun _ => hx', hok, a6, B6, F6⟩
      · rintro σ H' ⟨u1, u2, xs, rfl, hn, hx, hx0, hok, ha', B', X'⟩
        refine ⟨_, rfl, ?_⟩
        have hm : (1 + m).toNat ≤ 4 := by omega
        have hm0 : 0 < (1 + m).toNat := by omega
        exact q nl xs H' ⟨hn, hnb, hx0 hm0, by omega, hok⟩ (Nat.le_trans hx hm) B' X'
end
end My

set_option Elab.async false
set_option linter.all false
set_option maxRecDepth 100000
namespace My
open PySem PySem.Spec PyProof.Rows L2
section
variable {P : Program} {w : World} {K : PySem.W.Frag} {mg : Str → Option Value} {base : Heap}
set_option maxHeartbeats 4000000 in
theorem ok_law_number {f : Addr} {fd : FuncData} (F : Fun K "_law_number" "_law_number" s_law_number f fd) (Z : Bl mg) (O_law_take : Own P w K mg base "_law_take" 1 ["bag", "many"] spTake) : FnOk P w K mg base CX0 2 f fd ["bag"] spNumber := by
  refine F.ok (k := 1) sc_law_number (fun vs H Q E h => ?_) (fun cdv A outer s H vs Q E hr h => ?_)
  · obtain ⟨b, rfl, _⟩ := h
    rfl
  · obtain ⟨b, rfl, hB, q⟩ := h
    refine ⟨_, (pss_cons (ps_if (pt_cmpR op_eq (pe_own O_law_take (hr.mono (by decide)) rfl (pa_cons (pv 0) (pa_cons pe_int pa_nil))) pe_int (nomark _))
      (pss_one (ps_ret (pe_op op_mul (pe_op op_sub (pe_op op_sub (pe_op op_pow pe_int pe_int) pe_int) (pe_own O_law_take (hr.mono (by decide)) rfl (pa_cons (pv 0) (pa_cons pe_int pa_nil)))) (pe_op op_sub pe_int (pe_op op_mul pe_int (pe_own O_law_take (hr.mono (by decide)) rfl (pa_cons (pv 0) (pa_cons pe_int pa_nil))))))))
      pss_nil)
      (pss_one (ps_ret (pe_op op_sub (pe_own O_law_take (hr.mono (by decide)) rfl (pa_cons (pv 0) (pa_cons pe_int pa_nil))) pe_int)))), ?_⟩

    refine ⟨_, rfl, b, 8, rfl, hB, ⟨by decide, by decide +kernel⟩, fun r H1 r0 r1 B1 X1 => ⟨rfl, _, rfl, ?_⟩⟩
    refine ite2 (fun hc => ?_) (fun hc => ?_)
    · refine ⟨10, 40, rfl, rfl, ⟨by decide, by decide, by decide⟩, _, _, rfl, rfl, ?_⟩
      refine ⟨_, rfl, b, 3, rfl, B1, ⟨by decide, by decide +kernel⟩, fun r2 H2 r20 r21 B2 X2 => ⟨_, _, rfl, rfl, ?_⟩⟩
      refine ⟨_, rfl, b, 2, rfl, B2, ⟨by decide, by decide +kernel⟩, fun r3 H3 r30 r31 B3 X3 => ?_⟩
      refine ⟨_, _, rfl, rfl, .inl ⟨by decide, by decide⟩, _, _, rfl, rfl, _, _, rfl, rfl, .inr ⟨by omega, by omega⟩, ?_⟩
      refine q _ H3 ?_ B3 ((X1.trans X2).trans X3)
      have e : (10 : Int) ^ (40 : Int).toNat = 10 ^ 40 := by decide +kernel
      rw [e]
      obtain rfl | rfl : r3 = 0 ∨ r3 = 1 := by omega
      · rw [show (1 : Int) - 2 * 0 = 1 by decide, Int.mul_one]; unfold NumOk; omega
      · rw [show (1 : Int) - 2 * 1 = -1 by decide, Int.mul_neg, Int.mul_one]; unfold NumOk; omega
    · refine ⟨_, rfl, b, 8, rfl, B1, ⟨by decide, by decide +kernel⟩, fun r2 H2 r20 r21 B2 X2 => ⟨_, _, rfl, rfl, ?_⟩⟩
      exact q _ H2 (by unfold NumOk; omega) B2 (X1.trans X2)
end
end My

set_option Elab.async false
set_option linter.all false
set_option maxRecDepth 100000
namespace My
open PySem PySem.Spec PyProof.Rows L2
section
variable {P : Program} {w : World} {K : PySem.W.Frag} {mg : Str → Option Value} {base : Heap}
set_option maxHeartbeats 4000000 in
theorem ok_law_deed {f : Addr} {fd : FuncData} (F : Fun K "_law_deed" "_law_deed" s_law_deed f fd) (Z : Bl mg) (O_law_take : Own P w K mg base "_law_take" 1 ["bag", "many"] spTake) (O_law_number : Own P w K mg base "_law_number" 2 ["bag"] spNumber) : FnOk P w K mg base CX0 3 f fd ["bag", "names"] spDeed := by
  refine F.ok (k := 2) sc_law_deed (fun vs H Q E h => ?_) (fun cdv A outer s H vs Q E hr h => ?_)
  · obtain ⟨b, l, xs, rfl, _⟩ := h
    rfl
  · obtain ⟨b, l, xs, rfl, hB, hN, q⟩ := h
    refine ⟨_, (pss_cons (ps_set (i := 2) sc_law_deed.nd rfl (Or.inl rfl) (pe_ix ix_list (pe_lst (pa_cons pe_str (pa_cons pe_str (pa_cons pe_str (pa_cons pe_str (pa_cons pe_str (pa_cons pe_str (pa_cons pe_str pa_nil)))))))) (pe_own O_law_take (hr.mono (by decide)) rfl (pa_cons (pv 0) (pa_cons pe_int pa_nil))) (fun _ _ => rfl)))
      (pss_cons (ps_set (i := 3) sc_law_deed.nd rfl (Or.inl rfl) (pe_ix ix_list (pv 1) (pe_own O_law_take (hr.mono (by decide)) rfl (pa_cons (pv 0) (pa_cons (pe_callB call_len_seq rfl Z.len bt_len (pa_cons (pv 1) pa_nil)) pa_nil))) (fun _ _ => rfl)))
      (pss_cons (ps_if (pt_cmpR op_eq (pv 2) pe_str (nomark _))
      (pss_one (ps_ret (pe_tup (pa_cons (pv 2) (pa_cons (pv 3) (pa_cons (pe_ix ix_list (pv 1) (pe_own O_law_take (hr.mono (by decide)) rfl (pa_cons (pv 0) (pa_cons (pe_callB call_len_seq rfl Z.len bt_len (pa_cons (pv 1) pa_nil)) pa_nil))) (fun _ _ => rfl)) pa_nil))))))
      pss_nil)
      (pss_cons (ps_if (PW.pt (pw_or (pt_cmpR op_eq (pv 2) pe_str (nomark _)) (pw_or1 (pt_cmpR op_eq (pv 2) pe_str (nomark _)))))
      (pss_one (ps_ret (pe_tup (pa_cons (pv 2) (pa_cons (pv 3) (pa_cons (pe_own O_law_number (hr.mono (by decide)) rfl (pa_cons (pv 0) pa_nil)) pa_nil))))))
      pss_nil)
      (pss_one (ps_ret (pe_tup (pa_cons (pv 2) (pa_cons (pv 3) pa_nil))))))))), ?_⟩

    refine ⟨ln7, fun l0 m0 => ?_⟩
    refine ⟨_, rfl, b, 7, rfl, hB.new m0, ⟨by decide, by decide +kernel⟩, fun r H1 r0 r1 B1 X1 => ?_⟩
    have h0 : H1 l0 = some (.lst [.str "put", .str "copy", .str "add", .str "read", .str "tell", .str "tell", .str "add"]) := X1 l0 _ upd_same (hB.ne_new m0)
    have F1 : Fix b H H1 := (Fix.new m0).trans X1
    have N1 := hN.fix F1
    have hw : ∃ w : Str, (w = "put" ∨ w = "copy" ∨ w = "add" ∨ w = "read" ∨ w = "tell") ∧ atI [V.str "put", .str "copy", .str "add", .str "read", .str "tell", .str "tell", .str "add"] r = some (V.str w) := by
      obtain rfl | rfl | rfl | rfl | rfl | rfl | rfl : r = 0 ∨ r = 1 ∨ r = 2 ∨ r = 3 ∨ r = 4 ∨ r = 5 ∨ r = 6 := by omega
      · exact ⟨_, .inl rfl, atI_nat (j := 0) rfl⟩
      · exact ⟨_, .inr (.inl rfl), atI_nat (j := 1) rfl⟩
      · exact ⟨_, .inr (.inr (.inl rfl)), atI_nat (j := 2) rfl⟩
      · exact ⟨_, .inr (.inr (.inr (.inl rfl))), atI_nat (j := 3) rfl⟩
      · exact ⟨_, .inr (.inr (.inr (.inr rfl))), atI_nat (j := 4) rfl⟩
      · exact ⟨_, .inr (.inr (.inr (.inr rfl))), atI_nat (j := 5) rfl⟩
      · exact ⟨_, .inr (.inr (.inl rfl)), atI_nat (j := 6) rfl⟩
    obtain ⟨w, hw, hat⟩ := hw
    refine ⟨l0, _, r, _, rfl, rfl, SqL.of h0, hat, ?_⟩
    -- name
    obtain ⟨p0, p1⟩ := N1.pos
    refine ⟨_, rfl, _, rfl, _, rfl, l, _, rfl, .inl (SqL.of N1.at_), b, _, rfl, B1, ⟨p0, smallM p0 p1⟩, fun r2 H2 r20 r21 B2 X2 => ?_⟩
    have N2 := N1.fix X2
    obtain ⟨x, hx, hxm⟩ := names_at r20 r21
    refine ⟨l, _, r2, _, rfl, rfl, SqL.of N2.at_, hx, ?_⟩
    refine ⟨_, rfl, rfl, _, rfl, ?_⟩
    rcases hw with rfl | rfl | rfl | rfl | rfl
    · -- put
      rw [show decide (V.str "put" = V.str "copy") = false by decide +kernel]
      refine iteF ⟨_, rfl, rfl, _, rfl, ?_⟩
      rw [show decide (V.str "put" = V.str "put") = true by decide +kernel]
      refine iteT (iteT ⟨_, rfl, _, rfl, _, rfl, b, rfl, B2, fun n H3 nk B3 X3 => ⟨ln3, fun t mt => ?_⟩⟩)
      exact q _ (.put x n) _ (.tup upd_same (.cons (.str _) (.cons (.str _) (.cons (.int _) .nil)))) ⟨hxm, nk⟩ (B3.new mt) (((F1.trans X2).trans X3).trans (Fix.new mt))
    · -- copy
      rw [show decide (V.str "copy" = V.str "copy") = true by decide +kernel]
      obtain ⟨p0, p1⟩ := N2.pos
      refine iteT ⟨_, rfl, _, rfl, _, rfl, _, rfl, _, rfl, l, _, rfl, .inl (SqL.of N2.at_), b, _, rfl, B2, ⟨p0, smallM p0 p1⟩, fun r3 H3 r30 r31 B3 X3 => ?_⟩
      have N3 := N2.fix X3
      obtain ⟨y, hy, hym⟩ := names_at r30 r31
      refine ⟨l, _, r3, _, rfl, rfl, SqL.of N3.at_, hy, ln3, fun t mt => ?_⟩
      exact q _ (.copy x y) _ (.tup upd_same (.cons (.str _) (.cons (.str _) (.cons (.str _) .nil)))) ⟨hxm, hym⟩ (B3.new mt) (((F1.trans X2).trans X3).trans (Fix.new mt))
    · -- add
      rw [show decide (V.str "add" = V.str "copy") = false by decide +kernel]
      refine iteF ⟨_, rfl, rfl, _, rfl, ?_⟩
      rw [show decide (V.str "add" = V.str "put") = false by decide +kernel]
      refine iteF ⟨_, rfl, rfl, _, rfl, ?_⟩
      rw [show decide (V.str "add" = V.str "add") = true by decide +kernel]
      refine iteT ⟨_, rfl, _, rfl, _, rfl, b, rfl, B2, fun n H3 nk B3 X3 => ⟨ln3, fun t mt => ?_⟩⟩
      exact q _ (.add x n) _ (.tup upd_same (.cons (.str _) (.cons (.str _) (.cons (.int _) .nil)))) ⟨hxm, nk⟩ (B3.new mt) (((F1.trans X2).trans X3).trans (Fix.new mt))
    · -- read
      rw [show decide (V.str "read" = V.str "copy") = false by decide +kernel]
      refine iteF ⟨_, rfl, rfl, _, rfl, ?_⟩
      rw [show decide (V.str "read" = V.str "put") = false by decide +kernel]
      refine iteF ⟨_, rfl, rfl, _, rfl, ?_⟩
      rw [show decide (V.str "read" = V.str "add") = false by decide +kernel]
      refine iteF ⟨_, rfl, _, rfl, ln2, fun t mt => ?_⟩
      exact q _ (.read x) _ (.tup upd_same (.cons (.str _) (.cons (.str _) .nil))) hxm (B2.new mt) ((F1.trans X2).trans (Fix.new mt))
    · -- tell
      rw [show decide (V.str "tell" = V.str "copy") = false by decide +kernel]
      refine iteF ⟨_, rfl, rfl, _, rfl, ?_⟩
      rw [show decide (V.str "tell" = V.str "put") = false by decide +kernel]
      refine iteF ⟨_, rfl, rfl, _, rfl, ?_⟩
      rw [show decide (V.str "tell" = V.str "add") = false by decide +kernel]
      refine iteF ⟨_, rfl, _, rfl, ln2, fun t mt => ?_⟩
      exact q _ (.tell x) _ (.tup upd_same (.cons (.str _) (.cons (.str _) .nil))) hxm (B2.new mt) ((F1.trans X2).trans (Fix.new mt))
end
end My

set_option Elab.async false
set_option linter.all false
set_option maxRecDepth 100000
namespace My
open PySem PySem.Spec PyProof.Rows L2
section
variable {P : Program} {w : World} {K : PySem.W.Frag} {mg : Str → Option Value} {base : Heap}
set_option maxHeartbeats 4000000 in
theorem ok_law_end {f : Addr} {fd : FuncData} (F : Fun K "_law_end" "_law_end" s_law_end f fd) (Z : Bl mg) (O_law_take : Own P w K mg base "_law_take" 1 ["bag", "many"] spTake) (O_law_number : Own P w K mg base "_law_number" 2 ["bag"] spNumber) : FnOk P w K mg base CX0 3 f fd ["bag", "names", "count"] spEndP := by
  refine F.ok (k := 2) sc_law_end (fun vs H Q E h => ?_) (fun cdv A outer s H vs Q E hr h => ?_)
  · obtain ⟨b, l, xs, c, rfl, _⟩ := h
    rfl
  · obtain ⟨b, l, xs, c, rfl, hB, hN, c0, c1, q⟩ := h
    refine ⟨_, (pss_cons (ps_set (i := 3) sc_law_end.nd rfl (Or.inl rfl) (pe_own O_law_take (hr.mono (by decide)) rfl (pa_cons (pv 0) (pa_cons pe_int pa_nil))))
      (pss_cons (ps_if (pt_cmpR op_eq (pv 3) pe_int (nomark _))
      (pss_one (ps_ret (pe_tup (pa_cons pe_str pa_nil))))
      pss_nil)
      (pss_cons (ps_if (pt_cmpR op_lt (pv 3) pe_int (nomark _))
      (pss_one (ps_ret (pe_tup (pa_cons pe_str (pa_cons (pe_own O_law_take (hr.mono (by decide)) rfl (pa_cons (pv 0) (pa_cons (pv 2) pa_nil))) pa_nil)))))
      pss_nil)
      (pss_cons (ps_set (i := 4) sc_law_end.nd rfl (Or.inl rfl) (pe_ix ix_list (pe_lst (pa_cons pe_str (pa_cons pe_str pa_nil))) (pe_op op_fdiv (pe_own O_law_take (hr.mono (by decide)) rfl (pa_cons (pv 0) (pa_cons pe_int pa_nil))) pe_int) (fun _ _ => rfl)))
      (pss_cons (ps_set (i := 5) sc_law_end.nd rfl (Or.inl rfl) (pe_ix ix_list (pv 1) (pe_own O_law_take (hr.mono (by decide)) rfl (pa_cons (pv 0) (pa_cons (pe_callB call_len_seq rfl Z.len bt_len (pa_cons (pv 1) pa_nil)) pa_nil))) (fun _ _ => rfl)))
      (pss_one (ps_ret (pe_tup (pa_cons (pv 4) (pa_cons (pv 5) (pa_cons (pe_own O_law_number (hr.mono (by decide)) rfl (pa_cons (pv 0) pa_nil)) (pa_cons (pe_own O_law_take (hr.mono (by decide)) rfl (pa_cons (pv 0) (pa_cons (pv 2) pa_nil))) (pa_cons (pe_own O_law_take (hr.mono (by decide)) rfl (pa_cons (pv 0) (pa_cons (pv 2) pa_nil))) pa_nil))))))))))))), ?_⟩

    have ck : (0 : Int) < (c : Int) ∧ (c : Int).natAbs.log2 < 9000 := ⟨by omega, smallM (by omega) (by omega)⟩
    refine ⟨_, rfl, b, 9, rfl, hB, ⟨by decide, by decide +kernel⟩, fun r H1 r0 r1 B1 X1 => ?_⟩
    refine ⟨_, rfl, rfl, _, rfl, ?_⟩
    refine ite2 (fun hc => ?_) (fun hc => ?_)
    · refine ⟨ln1, fun t mt => ?_⟩
      exact q _ .stop _ (.tup upd_same (.cons (.str _) .nil)) True.intro (B1.new mt) (X1.trans (Fix.new mt))
    refine ⟨_, rfl, _, _, rfl, rfl, _, rfl, ?_⟩
    refine ite2 (fun hd => ?_) (fun hd => ?_)
    · refine ⟨_, rfl, _, rfl, b, _, rfl, B1, ck, fun p H2 p0 p1 B2 X2 => ⟨ln2, fun t mt => ?_⟩⟩
      obtain ⟨k, rfl⟩ : ∃ k : Nat, p = k := ⟨p.toNat, by omega⟩
      exact q _ (.go k) _ (.tup upd_same (.cons (.str _) (.cons (.int _) .nil))) (show k < c by omega) (B2.new mt) ((X1.trans X2).trans (Fix.new mt))
    · refine ⟨ln2, fun l0 m0 => ?_⟩
      refine ⟨_, rfl, b, 3, rfl, B1.new m0, ⟨by decide, by decide +kernel⟩, fun z H2 z0 z1 B2 X2 => ⟨_, _, rfl, rfl, ⟨by decide, by decide⟩, ?_⟩⟩
      have h0 : H2 l0 = some (.lst [.str "less", .str "is"]) := X2 l0 _ upd_same (B1.ne_new m0)
      have hw : ∃ w : Bool, atI [V.str "less", V.str "is"] (z / 2) = some (V.str (wT w)) := by
        obtain h | h : z / 2 = 0 ∨ z / 2 = 1 := by omega
        · rw [h]; exact ⟨true, at0⟩
        · rw [h]; exact ⟨false, at1⟩
      obtain ⟨w, hat⟩ := hw
      refine ⟨l0, _, _, _, rfl, rfl, SqL.of h0, hat, ?_⟩
      have F2 : Fix b H H2 := (X1.trans (Fix.new m0)).trans X2
      have N2 := hN.fix F2
      obtain ⟨p0, p1⟩ := N2.pos
      refine ⟨_, rfl, _, rfl, _, rfl, l, _, rfl, .inl (SqL.of N2.at_), b, _, rfl, B2, ⟨p0, smallM p0 p1⟩, fun r3 H3 r30 r31 B3 X3 => ?_⟩
      have N3 := N2.fix X3
      obtain ⟨x, hx, hxm⟩ := names_at r30 r31
      refine ⟨l, _, r3, _, rfl, rfl, SqL.of N3.at_, hx, ?_⟩
      refine ⟨_, rfl, _, rfl, _, rfl, b, rfl, B3, fun n H4 nk B4 X4 => ?_⟩
      refine ⟨_, rfl, _, rfl, b, _, rfl, B4, ck, fun p H5 p0 p1 B5 X5 => ?_⟩
      refine ⟨_, rfl, _, rfl, b, _, rfl, B5, ck, fun p' H6 p0' p1' B6 X6 => ⟨ln5, fun t mt => ?_⟩⟩
      obtain ⟨k, rfl⟩ : ∃ k : Nat, p = k := ⟨p.toNat, by omega⟩
      obtain ⟨k', rfl⟩ : ∃ k : Nat, p' = k := ⟨p'.toNat, by omega⟩
      exact q _ (.tst w x n k k') _ (.tup upd_same (.cons (.str _) (.cons (.str _) (.cons (.int _) (.cons (.int _) (.cons (.int _) .nil)))))) ⟨hxm, nk, by omega, by omega⟩ (B6.new mt) ((((F2.trans X3).trans X4).trans (X5.trans X6)).trans (Fix.new mt))
end
end My

set_option Elab.async false
set_option linter.all false
set_option maxRecDepth 100000
namespace My
open PySem PySem.Spec PyProof.Rows L2
section
variable {P : Program} {w : World} {K : PySem.W.Frag} {mg : Str → Option Value} {base : Heap}
set_option maxHeartbeats 4000000 in
theorem ok_law_plan {f : Addr} {fd : FuncData} (F : Fun K "_law_plan" "_law_plan" s_law_plan f fd) (Z : Bl mg) (O_law_take : Own P w K mg base "_law_take" 1 ["bag", "many"] spTake) (O_law_names : Own P w K mg base "_law_names" 2 ["bag"] spNames) (O_law_deed : Own P w K mg base "_law_deed" 3 ["bag", "names"] spDeed) (O_law_end : Own P w K mg base "_law_end" 3 ["bag", "names", "count"] spEndP) : FnOk P w K mg base CX0 4 f fd ["bag", "count", "most"] spPlan := by
  refine F.ok (k := 3) sc_law_plan (fun vs H Q E h => ?_) (fun cdv A outer s H vs Q E hr h => ?_)
  · obtain ⟨b, c, m, rfl, _⟩ := h
    rfl
  · obtain ⟨b, c, m, rfl, hB, c0, c1, hm, q⟩ := h
    refine ⟨_, (pss_cons (ps_set (i := 3) sc_law_plan.nd rfl (Or.inr rfl) (pe_own O_law_names (hr.mono (by decide)) rfl (pa_cons (pv 0) pa_nil)))
      (pss_cons (ps_set (i := 4) sc_law_plan.nd rfl (Or.inl rfl) (pe_lst pa_nil))
      (pss_cons (ps_for PassesOwn.never rfl (pi_range1 rfl Z.range (pa_cons (pv 1) pa_nil)) (pg_name (i := 5) sc_law_plan.nd rfl (Or.inl rfl))
      (pss_cons (ps_set (i := 6) sc_law_plan.nd rfl (Or.inl rfl) (pe_own O_law_take (hr.mono (by decide)) rfl (pa_cons (pv 0) (pa_cons (pe_op op_add (pv 2) pe_int) pa_nil))))
      (pss_cons (ps_set (i := 7) sc_law_plan.nd rfl (Or.inl rfl) (pe_own O_law_end (hr.mono (by decide)) rfl (pa_cons (pv 0) (pa_cons (pv 3) (pa_cons (pv 1) pa_nil)))))
      (pss_one (ps_expr (pe_bm PySem.F.plainAttrs_list PySem.F.slot_list_append PySem.F.type_list_append mt_append (pv 4) (pa_cons (pe_tup (pa_cons (pe_callTy call_tuple_of rfl Z.tuple bt_tuple (pa_cons (pe_lcomp ["j"] ["bag", "names"] [0, 3] rfl (pi_range1 rfl Z.range (pa_cons (pv 6) pa_nil)) rfl (by decide +kernel) (by decide +kernel) (by decide +kernel) ⟨⟨rfl, .inl rfl, rfl⟩, ⟨⟨rfl, .inl rfl, rfl⟩, True.intro⟩⟩ (fun _ _ _ _ => (pg_name (i := 0) (show ((["j"] : List Str) ++ (["bag", "names"] : List Str)).Nodup by decide +kernel) rfl (Or.inl rfl) (hf := Or.inr rfl))) (fun _ _ _ _ => pts_nil) (fun _ _ _ _ => (pe_own O_law_deed (hr.mono (by decide)) rfl (pa_cons (pv 1) (pa_cons (pv 2) pa_nil))))) pa_nil)) (pa_cons (pv 7) pa_nil))) pa_nil)))))))
      (pss_one (ps_ret (pe_callTy call_tuple_of rfl Z.tuple bt_tuple (pa_cons (pv 4) pa_nil))))))), ?_⟩

    refine ⟨_, rfl, b, rfl, hB, fun l xs H1 N1 x4 B1 X1 => ?_⟩
    refine ⟨(by show 0 ≤ sizeLine; decide), fun pl pn => ?_⟩
    have hpb : pl ≠ b := B1.ne_new pn
    refine ⟨_, rfl, _, rfl, (by omega), (by omega), for_range (lo := 0) (fun i σ H' => ∃ (u1 u2 u3 : Option V) (ps : List Piece) (vs : List V), σ = [some (.ref b), some (.int c), some (.int m), some (.ref l), some (.ref pl), u1, u2, u3] ∧
      H' pl = some (.lst vs) ∧ RdDs H' vs (ps.map dPiece) ∧ ps.length = i ∧ (∀ p ∈ ps, (p.1.length ≤ m ∧ ∀ d ∈ p.1, DeedOk xs d) ∧ EndOk xs c p.2) ∧ NamesAt H' b l xs ∧ Bag H' b ∧ Fix b H H' ∧ (∀ d o, H1 d = some o → d ≠ b → H' d = some o)) ?_ ?_ ?_⟩
    · exact ⟨_, _, _, [], [], rfl, upd_same, .nil, rfl, (fun _ h => nomatch h), N1.fix (Fix.new pn), B1.new pn, X1.trans (Fix.new pn), Fix.new pn⟩
    · rintro i σ H' hi ⟨u1, u2, u3, ps, vs, rfl, hp, hr, hl, hok, N', B', X', Y'⟩
      refine ⟨_, rfl, _, rfl, _, _, rfl, rfl, b, _, rfl, B', ⟨by omega, smallM (by omega) (by omega)⟩, fun k H2 k0 k1 B2 X2 => ?_⟩
      have N2 := N'.fix X2
      refine ⟨_, rfl, _, rfl, _, rfl, b, l, xs, c, rfl, B2, N2, c0, (by omega), fun ev e H3 re ek B3 X3 => ?_⟩
      have N3 := N2.fix X3
      have hp3 : H3 pl = some (.lst vs) := (X2.trans X3) pl _ hp hpb
      have hr3 : RdDs H3 vs (ps.map dPiece) := hr.fix B' (X2.trans X3) (noLists_pieces ps)
      -- pieces.append((tuple([..]), end))
      refine ⟨_, rfl, .inl ⟨rfl, _, SqL.of hp3⟩, _, rfl, _, rfl, (by omega), (by omega), fun acc na => ?_⟩
      have hab : acc ≠ b := B3.ne_new na
      refine lc_range (lo := 0) (fun i ys τ H' => ∃ (v : Option V) (ds : List Deed), τ = [v, some (.ref b), some (.ref l)] ∧ RdDs H' ys (ds.map dDeed) ∧ ds.length = i ∧ (∀ d ∈ ds, DeedOk xs d) ∧ H' acc = some (.lst ys) ∧ Bag H' b ∧ Fix b H3 H') ?_ ?_ ?_ ?_
      · exact ⟨none, [], rfl, .nil, rfl, (fun _ h => nomatch h), upd_same, B3.new na, Fix.new na⟩
      · rintro i' ys τ H4 hi' ⟨v, ds, rfl, rds, hl', _, ha, _⟩
        refine ⟨ha, ?_⟩
        rw [rds.len, List.length_map]
        exact small1000 (by omega)
      · rintro i' ys τ H4 hi' ⟨v, ds, rfl, rds, hl', hdk, ha, B4, X4⟩
        refine gname_ ?_
        refine yes_ ?_
        refine iteT ?_
        refine ⟨_, rfl, _, rfl, b, l, xs, rfl, B4, N3.fix X4, fun dv d H5 rd dk B5 X5 => ?_⟩
        have ha5 := X5 acc _ ha hab
        refine ⟨ha5, _, ds ++ [d], rfl, ?_, (by rw [List.length_append, hl']; rfl), ?_, upd_same, ?_, ?_⟩
        · rw [List.map_append]
          refine RdDs.app ((rds.fix B4 X5 (noLists_deeds ds)).put ha5 (noLists_deeds ds)) ?_
          exact rd.tups (fun p zs e => by rw [upd_ne (ne_of e ha5 (by intro z; cases z))]; exact e) (noList_deed d)
        · intro d' hd
          rcases List.mem_append.mp hd with hd | hd
          · exact hdk d' hd
          · rw [List.mem_singleton.mp hd]; exact dk
        · obtain ⟨x, y, e, z⟩ := B5
          exact ⟨x, y, by rw [upd_ne hab.symm]; exact e, z⟩
        · intro d' o hd nd
          rw [upd_ne (ne_of_none hd na)]
          exact (X4.trans X5) d' o hd nd
      · rintro ys τ H4 ⟨v, ds, rfl, rds, hl', hdk, ha, B4, X4⟩
        refine ⟨acc, ys, rfl, .inl ⟨SqL.of ha, fun tp tn => ?_⟩⟩
        refine ⟨_, rfl, ln2, fun pc pcn => ?_⟩
        have S6 : Same H4 (upd (upd H4 tp (.tup ys)) pc (.tup [.ref tp, ev])) := (Same.new tn).trans (Same.new pcn)
        have hp6 : (upd (upd H4 tp (.tup ys)) pc (.tup [.ref tp, ev])) pl = some (.lst vs) := S6 _ _ (X4 pl _ hp3 hpb)
        refine ⟨pl, _, _, rfl, rfl, hp6, ?_, ?_⟩
        · rw [hr.len, List.length_map, hl]
          exact small1000 (by omega)
        have hpiece : RdD (upd (upd H4 tp (.tup ys)) pc (.tup [.ref tp, ev])) (.ref pc) (dPiece (ds, e)) := by
          refine .tup upd_same (.cons (.tup (Same.new pcn _ _ upd_same) (rds.same S6 (noLists_deeds ds))) (.cons ?_ .nil))
          exact (re.fix B3 X4 (noList_end e)).same S6 (noList_end e)
        have F6 : Fix b H (upd (upd H4 tp (.tup ys)) pc (.tup [.ref tp, ev])) := ((X'.trans (X2.trans X3)).trans X4).trans (Fix.of_same S6)
        have plH : ∀ d o, H1 d = some o → d ≠ b → d ≠ pl := fun d o hd nd z => by rw [z, pn] at hd; cases hd
        refine ⟨_, _, _, ps ++ [(ds, e)], vs ++ [.ref pc], rfl, upd_same, ?_, (by rw [List.length_append, hl]; rfl), ?_, ?_, ?_, ?_, ?_⟩
        · rw [List.map_append]
          refine RdDs.app (((hr3.fix B3 X4 (noLists_pieces ps)).same S6 (noLists_pieces ps)).put hp6 (noLists_pieces ps)) ?_
          exact hpiece.tups (fun p zs e => by rw [upd_ne (ne_of e hp6 (by intro z; cases z))]; exact e) (noList_piece (ds, e))
        · intro p hpm
          rcases List.mem_append.mp hpm with hpm | hpm
          · exact hok p hpm
          · rw [List.mem_singleton.mp hpm]
            exact ⟨⟨by show ds.length ≤ m; omega, hdk⟩, ek⟩
        · have hll : l ≠ pl := fun z => by
            have := N1.at_
            rw [z, pn] at this
            cases this
          have N6 := (N3.fix X4).fix (Fix.of_same (b := b) S6)
          exact ⟨by rw [upd_ne hll]; exact N6.at_, N6.ne, N6.some_, N6.few, N6.ok⟩
        · obtain ⟨x, y, e', z⟩ := B4.same S6
          exact ⟨x, y, by rw [upd_ne hpb.symm]; exact e', z⟩
        · intro d o hd nd
          have h1 := X1 d o hd nd
          rw [upd_ne (plH d o h1 nd)]
          exact F6 d o hd nd
        · intro d o hd nd
          rw [upd_ne (plH d o hd nd)]
          exact S6 d o (X4 d o ((X2.trans X3) d o (Y' d o hd nd) nd) nd)
    · rintro σ H' ⟨u1, u2, u3, ps, vs, rfl, hp, hr, hl, hok, N', B', X', Y'⟩
      have hl' : ps.length = c := by rw [hl]; omega
      refine ⟨_, rfl, pl, _, rfl, .inl ⟨SqL.of hp, fun tp tn => ?_⟩⟩
      refine q (.ref tp) xs ps _ (.tup upd_same (hr.same (Same.new tn) (noLists_pieces ps))) hl' ⟨fun p hpm => (hok p hpm).1, fun p hpm => ?_⟩ ⟨N'.ok, x4⟩ (B'.new tn) (X'.trans (Fix.new tn))
      rw [hl']
      exact (hok p hpm).2
end
end My

set_option Elab.async false
set_option linter.all false
set_option maxRecDepth 100000
namespace My
open PySem PySem.Spec PyProof.Rows L2
section
variable {P : Program} {w : World} {K : PySem.W.Frag} {mg : Str → Option Value} {base : Heap}
set_option maxHeartbeats 4000000 in
theorem ok_law_count {f : Addr} {fd : FuncData} (F : Fun K "_law_count" "_law_count" s_law_count f fd) (Z : Bl mg) (O_law_take : Own P w K mg base "_law_take" 1 ["bag", "many"] spTake) : FnOk P w K mg base CX0 2 f fd ["bag", "most"] spCount := by
  refine F.ok (k := 1) sc_law_count (fun vs H Q E h => ?_) (fun cdv A outer s H vs Q E hr h => ?_)
  · obtain ⟨b, m, rfl, _⟩ := h
    rfl
  · obtain ⟨b, m, rfl, hB, m0, m1, q⟩ := h
    refine ⟨_, (pss_one (ps_ret (pe_ix ix_list (pe_lst (pa_cons (pe_op op_add pe_int (pe_own O_law_take (hr.mono (by decide)) rfl (pa_cons (pv 0) (pa_cons (pv 1) pa_nil)))) (pa_cons (pe_op op_add pe_int (pe_own O_law_take (hr.mono (by decide)) rfl (pa_cons (pv 0) (pa_cons (pe_callB (call_min2 rfl) rfl Z.min bt_min (pa_cons pe_int (pa_cons (pv 1) pa_nil))) pa_nil)))) (pa_cons (pv 1) pa_nil)))) (pe_own O_law_take (hr.mono (by decide)) rfl (pa_cons (pv 0) (pa_cons pe_int pa_nil))) (fun _ _ => rfl)))), ?_⟩

    refine ⟨_, rfl, _, rfl, b, _, rfl, hB, ⟨by omega, smallM (by omega) (by omega)⟩, fun r H1 r0 r1 B1 X1 => ⟨_, _, rfl, rfl, ?_⟩⟩
    refine ⟨_, rfl, _, rfl, _, _, rfl, b, _, rfl, B1, ⟨(by split <;> omega), smallM (by split <;> omega) (by split <;> omega)⟩, fun r2 H2 r20 r21 B2 X2 => ⟨_, _, rfl, rfl, ?_⟩⟩
    refine ⟨_, rfl, ln3, fun l0 n0 => ?_⟩
    refine ⟨_, rfl, b, 3, rfl, B2.new n0, ⟨by decide, by decide +kernel⟩, fun z H3 z0 z1 B3 X3 => ?_⟩
    have h0 : H3 l0 = some (.lst [.int (1 + r), .int (1 + r2), .int m]) := X3 l0 _ upd_same (B2.ne_new n0)
    have hr2 : r2 < 4 := by
      have := r21
      split at this <;> omega
    have F3 : Fix b H H3 := ((X1.trans X2).trans (Fix.new n0)).trans X3
    obtain rfl | rfl | rfl : z = 0 ∨ z = 1 ∨ z = 2 := by omega
    · refine ⟨l0, _, 0, _, rfl, rfl, SqL.of h0, at0, ?_⟩
      have e : (1 + r) = (((1 + r).toNat : Nat) : Int) := by omega
      rw [e]
      exact q _ H3 (by omega) (by omega) B3 F3
    · refine ⟨l0, _, 1, _, rfl, rfl, SqL.of h0, at1, ?_⟩
      have e : (1 + r2) = (((1 + r2).toNat : Nat) : Int) := by omega
      rw [e]
      exact q _ H3 (by omega) (by omega) B3 F3
    · refine ⟨l0, _, 2, _, rfl, rfl, SqL.of h0, at2, ?_⟩
      exact q _ H3 m0 (by omega) B3 F3
end
end My

set_option Elab.async false
set_option linter.all false
set_option maxRecDepth 100000
namespace My
open PySem PySem.Spec PyProof.Rows L2
section
variable {P : Program} {w : World} {K : PySem.W.Frag} {mg : Str → Option Value} {base : Heap}
set_option maxHeartbeats 4000000 in
theorem ok_law_ways {f : Addr} {fd : FuncData} (F : Fun K "_law_ways" "_law_ways" s_law_ways f fd) (Z : Bl mg)  : FnOk P w K mg base CX0 1 f fd ["end"] spLWays := by
  refine F.ok (k := 0) sc_law_ways (fun vs H Q E h => ?_) (fun cdv A outer s H vs Q E hr h => ?_)
  · obtain ⟨ea, e, rfl, _⟩ := h
    rfl
  · obtain ⟨ea, e, rfl, he, q⟩ := h
    refine ⟨_, (pss_cons (ps_if (pt_cmpR op_eq (pe_callB call_len_seq rfl Z.len bt_len (pa_cons (pv 0) pa_nil)) pe_int (nomark _))
      (pss_one (ps_ret (pe_lst (pa_cons (pe_ix ix_tup (pv 0) pe_int (fun _ _ => rfl)) (pa_cons (pe_ix ix_tup (pv 0) pe_int (fun _ _ => rfl)) pa_nil)))))
      pss_nil)
      (pss_one (ps_ret (pe_callTy call_list_of rfl Z.list bt_list (pa_cons (pe_slice sl_tupA (pv 0) (po_some pe_int) po_none) pa_nil))))), ?_⟩

    refine ⟨_, rfl, ea, _, rfl, .inr (SqT.of he), rfl, _, rfl, ?_⟩
    cases e with
    | stop =>
      refine iteFb (show decide (V.int ((1 : Nat) : Int) = V.int 5) = false by decide +kernel) ?_
      refine ⟨_, rfl, _, rfl, ea, _, rfl, SqT.of he, fun hw => absurd hw.1 (by decide), fun _ p hp => ⟨p, _, rfl, .inr (SqT.of upd_same), fun l nl => q l _ upd_same ((Same.new hp).trans (Same.new nl))⟩⟩
    | go p1 =>
      refine iteFb (show decide (V.int ((2 : Nat) : Int) = V.int 5) = false by decide +kernel) ?_
      refine ⟨_, rfl, _, rfl, ea, _, rfl, SqT.of he, fun hw => absurd hw.1 (by show ¬ HT.sIx 2 0 (some 1) = 0; decide), fun _ p hp => ⟨p, _, rfl, .inr (SqT.of upd_same), fun l nl => q l _ upd_same ((Same.new hp).trans (Same.new nl))⟩⟩
    | tst b x n p1 p2 =>
      refine iteTb (show decide (V.int ((5 : Nat) : Int) = V.int 5) = true by decide +kernel) ?_
      refine ⟨_, rfl, ea, _, 3, _, rfl, rfl, SqT.of he, atI_nat (j := 3) rfl, _, rfl, ea, _, 4, _, rfl, rfl, SqT.of he, atI_nat (j := 4) rfl, ln2, fun l nl => q l _ upd_same (Same.new nl)⟩
end
end My

set_option Elab.async false
set_option linter.all false
set_option maxRecDepth 100000
namespace My
open PySem PySem.Spec PyProof.Rows L2
section
variable {P : Program} {w : World} {K : PySem.W.Frag} {mg : Str → Option Value} {base : Heap}
set_option maxHeartbeats 4000000 in
theorem ok_law_idle_plan {f : Addr} {fd : FuncData} (F : Fun K "_law_idle_plan" "_law_idle_plan" s_law_idle_plan f fd) (Z : Bl mg) (O_law_plan : Own P w K mg base "_law_plan" 4 ["bag", "count", "most"] spPlan) (O_law_take : Own P w K mg base "_law_take" 1 ["bag", "many"] spTake) : FnOk P w K mg base CX0 8 f fd ["bag", "count"] spIdlePlan := by
  refine F.ok (k := 7) sc_law_idle_plan (fun vs H Q E h => ?_) (fun cdv A outer s H vs Q E hr h => ?_)
  · obtain ⟨b, c, rfl, _⟩ := h
    rfl
  · obtain ⟨b, c, rfl, hB, c0, cn, q⟩ := h
    refine ⟨_, (pss_cons (ps_set (i := 2) sc_law_idle_plan.nd rfl (Or.inl rfl) (pe_own O_law_plan (hr.mono (by decide)) rfl (pa_cons (pv 0) (pa_cons (pv 1) (pa_cons pe_int pa_nil)))))
      (pss_cons (ps_set (i := 3) sc_law_idle_plan.nd rfl (Or.inl rfl) (pe_lst pa_nil))
      (pss_cons (ps_for PassesOwn.never rfl (pi_tup (pv 2)) (pg_tup rfl (pgs_cons (pg_name (i := 4) sc_law_idle_plan.nd rfl (Or.inl rfl)) (pgs_cons (pg_name (i := 5) sc_law_idle_plan.nd rfl (Or.inl rfl)) pgs_nil)))
      (pss_cons (ps_cut (ps_if (pt_cmpR op_eq (pe_own O_law_take (hr.mono (by decide)) rfl (pa_cons (pv 0) (pa_cons pe_int pa_nil))) pe_int (nomark _))
      (pss_cons (ps_set (i := 4) sc_law_idle_plan.nd rfl (Or.inl rfl) (pe_tup pa_nil))
      (pss_one (ps_set (i := 5) sc_law_idle_plan.nd rfl (Or.inl rfl) (pe_tup (pa_cons pe_str (pa_cons (pe_own O_law_take (hr.mono (by decide)) rfl (pa_cons (pv 0) (pa_cons (pv 1) pa_nil))) pa_nil))))))
      pss_nil))
      (pss_one (ps_expr (pe_bm PySem.F.plainAttrs_list PySem.F.slot_list_append PySem.F.type_list_append mt_append (pv 3) (pa_cons (pe_tup (pa_cons (pv 4) (pa_cons (pv 5) pa_nil))) pa_nil))))))
      (pss_one (ps_ret (pe_callTy call_tuple_of rfl Z.tuple bt_tuple (pa_cons (pv 3) pa_nil))))))), ?_⟩

    have ck : (0 : Int) < (c : Int) ∧ (c : Int).natAbs.log2 < 9000 := ⟨by omega, smallM (by omega) (by omega)⟩
    refine ⟨_, rfl, _, rfl, b, c, 2, rfl, hB, c0, cn, (by decide), fun plv xs ps H1 r1 hc pok xok B1 X1 => ?_⟩
    obtain ⟨pp, vs, rfl, e1, rvs⟩ := RdD.tup_inv r1
    have hvl := rvs.len
    rw [List.length_map] at hvl
    refine ⟨(by show 0 ≤ sizeLine; decide), fun sl nsl => ?_⟩
    have hsb : sl ≠ b := B1.ne_new nsl
    have e1' := Same.new (o := .lst []) nsl _ _ e1
    refine ⟨_, rfl, pp, rfl, ⟨_, SqT.of e1'⟩, for_tup (K := K) (a := pp) (xs := vs) (fun i σ H' => ∃ (u1 u2 : Option V) (qs : List Piece) (zs : List V), σ = [some (.ref b), some (.int c), some (.ref pp), some (.ref sl), u1, u2] ∧ H' sl = some (.lst zs) ∧ RdDs H' zs (qs.map dPiece) ∧ qs.length = i ∧ (∀ p ∈ qs, (p.1.length ≤ 2 ∧ ∀ d ∈ p.1, DeedOk xs d) ∧ EndOk xs c p.2) ∧ Bag H' b ∧ Fix b H1 H') ?_ ?_ ?_ ?_⟩
    · exact ⟨_, _, [], [], rfl, upd_same, .nil, rfl, (fun _ h => nomatch h), B1.new nsl, Fix.new nsl⟩
    · rintro i σ H2 hi ⟨u1, u2, qs, zs, rfl, h2, rq, hql, hok, B2, X2⟩
      exact SqT.of (X2 _ _ e1 (B1.ne_tup e1))
    · rintro i x σ H2 hi ⟨u1, u2, qs, zs, rfl, h2, rq, hql, hok, B2, X2⟩
      have hlt : i < ps.length := by
        have := (List.getElem?_eq_some_iff.mp hi).1
        omega
      have hpi : ps[i]? = some ps[i] := by simp [hlt]
      generalize ps[i] = pe at hpi
      obtain ⟨ds, e⟩ := pe
      obtain ⟨p', xs', pc, da, ea, ws, ep, e1'', el', hx', e2, e3, r3, e4⟩ := rd_piece r1 hpi
      cases ep
      rw [e1] at e1''
      cases e1''
      rw [hi] at hx'
      cases hx'
      have kt : ∀ p zs, H1 p = some (.tup zs) → H2 p = some (.tup zs) := fun p zs h => X2 p _ h (B1.ne_tup h)
      have dok := pok.deeds _ (List.mem_of_getElem? hpi)
      have eok := pok.ends _ (List.mem_of_getElem? hpi)
      rw [hc] at eok
      refine ⟨pc, _, rfl, SqT.of (kt _ _ e2), rfl, _, _, rfl, _, _, rfl, rfl, ?_⟩
      refine ⟨fun σ' H' => ∃ (da ea : Addr) (ws : List V) (ds : List Deed) (e : L2.End), σ' = [some (.ref b), some (.int c), some (.ref pp), some (.ref sl), some (.ref da), some (.ref ea)] ∧ H' da = some (.tup ws) ∧ RdDs H' ws (ds.map dDeed) ∧ H' ea = some (.tup (vEnd e)) ∧ (ds.length ≤ 2 ∧ ∀ d ∈ ds, DeedOk xs d) ∧ EndOk xs c e ∧ H' sl = some (.lst zs) ∧ RdDs H' zs (qs.map dPiece) ∧ Bag H' b ∧ Fix b H1 H', ?_, ?_⟩
      · refine ⟨_, rfl, b, 2, rfl, B2, ⟨by decide, by decide⟩, fun r H3 r0 r1' B3 X3 => ⟨rfl, _, rfl, ?_⟩⟩
        have h3 := X3 _ _ h2 hsb
        have rq3 := rq.fix B2 X3 (noLists_pieces qs)
        refine ite2 (fun hcc => ?_) (fun hcc => ?_)
        · refine ⟨(by show 0 ≤ sizeLine; decide), fun t nt => ?_⟩
          refine ⟨_, rfl, _, rfl, b, _, rfl, B3.new nt, ck, fun p H4 p0 p1 B4 X4 => ⟨ln2, fun t2 nt2 => ?_⟩⟩
          obtain ⟨k, rfl⟩ : ∃ k : Nat, p = k := ⟨p.toNat, by omega⟩
          have X34 : Fix b H3 (upd H4 t2 (.tup [.str "go", .int (k : Nat)])) := ((Fix.new nt).trans X4).trans (Fix.new nt2)
          have ht4 : H4 t = some (.tup []) := X4 t _ upd_same (B3.ne_new nt)
          refine ⟨t, t2, [], [], .go k, rfl, Same.new nt2 _ _ ht4, .nil, upd_same, ⟨by simp, fun d hd => nomatch hd⟩, (show k < c by omega), X34 _ _ h3 hsb, rq3.fix B3 X34 (noLists_pieces qs), B4.new nt2, (X2.trans X3).trans X34⟩
        · have kt3 : ∀ p zs, H1 p = some (.tup zs) → H3 p = some (.tup zs) := fun p zs h => (X2.trans X3) p _ h (B1.ne_tup h)
          exact ⟨da, ea, ws, ds, e, rfl, kt3 _ _ e3, r3.tups kt3 (noLists_deeds ds), kt3 _ _ e4, dok, eok, h3, rq3, B3, X2.trans X3⟩
      rintro σ' H3 ⟨da, ea, ws, ds, e, rfl, a3, r3, a4, dok, eok, h3, rq3, B3, X3⟩
      refine ⟨_, rfl, .inl ⟨rfl, _, SqL.of h3⟩, _, rfl, _, rfl, ln2, fun t4 nt4 => ?_⟩
      have s4 := Same.new (o := .tup [.ref da, .ref ea]) nt4
      have h44 : (upd H3 t4 (.tup [.ref da, .ref ea])) t4 = some (.tup [.ref da, .ref ea]) := upd_same
      generalize (upd H3 t4 (.tup [.ref da, .ref ea])) = H4 at s4 h44
      have h34 := s4 _ _ h3
      have hzl : zs.length = qs.length := by have := rq3.len; rw [List.length_map] at this; exact this
      refine ⟨sl, _, _, rfl, rfl, h34, small1000 (by omega), ?_⟩
      have kt4 : ∀ p xs, H4 p = some (.tup xs) → (upd H4 sl (.lst (zs ++ [.ref t4]))) p = some (.tup xs) := fun p xs h => by rw [upd_ne (ne_of h h34 (by intro z; cases z))]; exact h
      refine ⟨_, _, qs ++ [(ds, e)], _, rfl, upd_same, ?_, (by rw [List.length_append, hql]; rfl), fun p hp => ?_, (B3.same s4).put hsb.symm, fun c' o h nb => ?_⟩
      · rw [List.map_append]
        have rd4 : RdD H4 (.ref t4) (dPiece (ds, e)) := .tup h44 (.cons (.tup (s4 _ _ a3) (r3.same s4 (noLists_deeds ds))) (.cons (end_rd (s4 _ _ a4)) .nil))
        exact RdDs.app ((rq3.same s4 (noLists_pieces qs)).tups kt4 (noLists_pieces qs)) (rd4.tups kt4 (noList_piece _))
      · rcases List.mem_append.mp hp with h | h
        · exact hok p h
        · rw [List.mem_singleton.mp h]; exact ⟨dok, eok⟩
      · rw [upd_ne (ne_of_none h nsl)]
        exact s4 c' o (X3 c' o h nb)
    · rintro σ H2 ⟨u1, u2, qs, zs, rfl, h2, rq, hql, hok, B2, X2⟩
      refine ⟨_, rfl, sl, _, rfl, .inl ⟨SqL.of h2, fun t nt => ?_⟩⟩
      have s3 := Same.new (o := .tup zs) nt
      have hqc : qs.length = c := by omega
      refine q (.ref t) xs qs _ (.tup upd_same (rq.same s3 (noLists_pieces qs))) hqc ⟨fun p hp => (hok p hp).1, fun p hp => by rw [hqc]; exact (hok p hp).2⟩ xok (B2.same s3) ((X1.trans X2).trans (Fix.of_same s3))
end
end My

set_option Elab.async false
set_option linter.all false
set_option maxRecDepth 100000
namespace My
open PySem PySem.Spec PyProof.Rows L2
section
variable {P : Program} {w : World} {K : PySem.W.Frag} {mg : Str → Option Value} {base : Heap}
set_option maxHeartbeats 4000000 in
theorem ok_law_followed {f : Addr} {fd : FuncData} (F : Fun K "_law_followed" "_law_followed" s_law_followed f fd) (Z : Bl mg)  : FnOk P w K mg base CX0 1 f fd ["plan", "number"] spLFollowed := by
  refine F.ok (k := 0) sc_law_followed (fun vs H Q E h => ?_) (fun cdv A outer s H vs Q E hr h => ?_)
  · obtain ⟨plv, ps, k, rfl, _⟩ := h
    rfl
  · obtain ⟨plv, ps, k, rfl, hp, hin, hlay, hk, hn, q⟩ := h
    refine ⟨_, (pss_cons (ps_set (i := 2) sc_law_followed.nd rfl (Or.inl rfl) (pe_lst pa_nil))
      (pss_cons (ps_while PassesOwn.never (PW.pt (pw_and (pt_cmpR (op_eqD hr.units) (pe_ix ix_tup (pe_ix ix_tup (pv 0) (pv 1) (fun _ _ => rfl)) pe_int (fun _ _ => rfl)) (pe_tup pa_nil) (nomark _)) (pw_and1 (pt_cmpR op_eq (pe_ix ix_tup (pe_ix ix_tup (pe_ix ix_tup (pv 0) (pv 1) (fun _ _ => rfl)) pe_int (fun _ _ => rfl)) pe_int (fun _ _ => rfl)) pe_str (nomark _)))))
      (pss_cons (ps_if (pt_cmpR op_in_seq (pv 1) (pv 2) (by with_unfolding_all rfl))
      (pss_one (ps_ret (pe_callB (call_minL rfl) rfl Z.min bt_min (pa_cons (pe_slice sl_list (pv 2) (po_some (pe_bm PySem.F.plainAttrs_list PySem.F.slot_list_index PySem.F.type_list_index mt_index (pv 2) (pa_cons (pv 1) pa_nil))) po_none) pa_nil))))
      pss_nil)
      (pss_cons (ps_expr (pe_bm PySem.F.plainAttrs_list PySem.F.slot_list_append PySem.F.type_list_append mt_append (pv 2) (pa_cons (pv 1) pa_nil)))
      (pss_one (ps_set (i := 1) sc_law_followed.nd rfl (Or.inl rfl) (pe_ix ix_tup (pe_ix ix_tup (pe_ix ix_tup (pv 0) (pv 1) (fun _ _ => rfl)) pe_int (fun _ _ => rfl)) pe_int (fun _ _ => rfl)))))))
      (pss_one (ps_ret (pv 1))))), ?_⟩
    obtain ⟨pp, vs, rfl, e1, r1⟩ := RdD.tup_inv hp
    have hvl := r1.len
    rw [List.length_map] at hvl

    refine ⟨(by show 0 ≤ sizeLine; decide), fun pl npl => ?_⟩
    have s1 := Same.new (o := .lst []) npl
    have hpl1 : (upd H pl (.lst [])) pl = some (.lst []) := upd_same
    generalize (upd H pl (.lst [])) = H1 at s1 hpl1
    refine ⟨fun m σ H' => ∃ (at_ : Nat) (passed : List Nat), σ = [some (.ref pp), some (.int (at_ : Nat)), some (.ref pl)] ∧ H' pl = some (.lst (vN passed)) ∧ folN ps m at_ passed = folF ps k ∧ passed.Nodup ∧ (∀ x ∈ passed, x < ps.length) ∧ m + passed.length = ps.length + 1 ∧ at_ < ps.length ∧ Same H H', ⟨ps.length + 1, k, [], rfl, hpl1, rfl, List.nodup_nil, (fun _ h => nomatch h), by simp, hk, s1⟩, ?_⟩
    rintro m σ H3 ⟨at_, passed, rfl, h1, hf, nd, hb', hm, hat, s3⟩
    have hps : ps[at_]? = some ps[at_] := by simp [hat]
    generalize hpc : ps[at_] = pc at hps
    obtain ⟨ds, e⟩ := pc
    obtain ⟨p', xs', pc, da, ea, ws, ep, e1', el', hx', e2, e3, r3, e4⟩ := rd_piece hp hps
    cases ep
    rw [e1] at e1'
    cases e1'
    have hfew := few_below nd hb'
    obtain ⟨m, rfl⟩ : ∃ m', m = m' + 1 := ⟨m - 1, by omega⟩
    have hly := (hlay _ (List.mem_of_getElem? hps)).1
    refine ⟨_, rfl, _, rfl, pp, _, _, _, rfl, rfl, SqT.of (s3 _ _ e1), atI_nat hx', pc, _, 0, _, rfl, rfl, SqT.of (s3 _ _ e2), at0, (by show 0 ≤ sizeLine; decide), fun t nt => ?_⟩
    have s4 := Same.new (o := .tup []) nt
    have ht4 : (upd H3 t (.tup [])) t = some (.tup []) := upd_same
    generalize (upd H3 t (.tup [])) = H4 at s4 ht4
    have s34 := s3.trans s4
    have h14 := s4 _ _ h1
    refine ⟨.tuple (ds.map dDeed), .tuple [], .tup (s34 _ _ e3) (r3.same s34 (noLists_deeds ds)), .tup ht4 .nil, hly, rfl, (by have : (PyData.tuple []).depth ≤ 1 := Nat.le_refl 1; omega), _, rfl, ?_⟩
    rw [eqv_nil]
    cases ds with
    | cons d ds' =>
      refine iteFb rfl (iteF ?_)
      rw [folN_not hps rfl] at hf
      refine ⟨_, rfl, ?_⟩
      rw [hf]
      exact q _ s34
    | nil =>
      refine iteTb rfl ?_
      refine ⟨_, rfl, _, rfl, pp, _, _, _, rfl, rfl, SqT.of (s34 _ _ e1), atI_nat hx', pc, _, 1, _, rfl, rfl, SqT.of (s34 _ _ e2), at1, ea, _, 0, _, rfl, rfl, SqT.of (s34 _ _ e4), (by cases e <;> exact at0 : atI (vEnd e) 0 = some (V.str (wE e))), rfl, _, rfl, ?_⟩
      cases e with
      | stop =>
        refine iteFb (show decide (V.str "stop" = V.str "go") = false by decide +kernel) ?_
        rw [folN_not hps rfl] at hf
        refine ⟨_, rfl, ?_⟩
        rw [hf]
        exact q _ s34
      | tst b x n p1 p2 =>
        refine iteFb (show decide (V.str (wT b) = V.str "go") = false by cases b <;> decide +kernel) ?_
        rw [folN_not hps rfl] at hf
        refine ⟨_, rfl, ?_⟩
        rw [hf]
        exact q _ s34
      | go n =>
        refine iteTb (show decide (V.str "go" = V.str "go") = true by decide +kernel) ?_
        rw [folN_idle hps] at hf
        refine ⟨_, fun σ' H' h => ⟨m, Nat.lt_succ_self m, h⟩, ?_⟩
        refine ⟨_, rfl, _, rfl, pl, _, rfl, .inl (SqL.of h14), rfl, flat_vN _, _, rfl, ?_⟩
        rw [show (if false = true then !inV (.int (at_ : Nat)) (vN passed) else inV (.int (at_ : Nat)) (vN passed)) = decide (at_ ∈ passed) from inV_nat at_ passed]
        refine ite2 (fun hc => ?_) (fun hc => ?_)
        · have hmem := of_decide_eq_true hc
          rw [if_pos hmem] at hf
          have hlt : passed.idxOf at_ < passed.length := List.idxOf_lt_length_of_mem hmem
          refine ⟨_, rfl, _, rfl, .inl ⟨rfl, _, SqL.of h14⟩, _, rfl, pl, passed.map (fun k : Nat => (k : Int)), (at_ : Int), rfl, rfl, by rw [h14, vN_int], List.mem_map.mpr ⟨at_, hmem, rfl⟩, _, rfl, pl, _, rfl, SqL.of h14, fun t nt => ?_⟩
          have ecut : cutV (vN passed) (some (((passed.map fun k : Nat => (k : Int)).idxOf (at_ : Int) : Nat) : Int)) none = ((passed.drop (passed.idxOf at_)).map fun k : Nat => (k : Int)).map V.int := by
            rw [vN_int, idx_int, cut_ints_end (by rw [List.length_map]; omega), ← List.map_drop]
          rw [ecut]
          refine ⟨t, _, rfl, SqL.of upd_same, (by rw [List.length_map, List.length_drop]; omega), fun M m1 m2 => ?_⟩
          rw [minN_is m1 m2, hf]
          exact q _ (s34.trans (Same.new nt))
        · have hmem : ¬ at_ ∈ passed := fun z => hc (decide_eq_true z)
          rw [if_neg hmem] at hf
          refine ⟨_, rfl, .inl ⟨rfl, _, SqL.of h14⟩, _, rfl, pl, _, _, rfl, rfl, h14, small1000 (by rw [List.length_map]; omega), ?_⟩
          have s5 : Same H (upd H4 pl (.lst (vN passed ++ [.int (at_ : Nat)]))) := s34.put npl
          have hpl5 : (upd H4 pl (.lst (vN passed ++ [.int (at_ : Nat)]))) pl = some (.lst (vN (passed ++ [at_]))) := by rw [upd_same]; show _ = some (HO.lst ((passed ++ [at_]).map _)); rw [List.map_append]; rfl
          generalize (upd H4 pl (.lst (vN passed ++ [.int (at_ : Nat)]))) = H5 at s5 hpl5
          refine ⟨_, rfl, _, rfl, pp, _, _, _, rfl, rfl, SqT.of (s5 _ _ e1), atI_nat hx', pc, _, 1, _, rfl, rfl, SqT.of (s5 _ _ e2), at1, ea, _, 1, _, rfl, rfl, SqT.of (s5 _ _ e4), at1, ?_⟩
          have hnlt : n < ps.length := hin _ (List.mem_of_getElem? hps)
          refine ⟨n, passed ++ [at_], rfl, hpl5, hf, ?_, ?_, (by rw [List.length_append]; show m + (_ + 1) = _; omega), hnlt, s5⟩
          · rw [List.nodup_append]
            refine ⟨nd, by simp, fun x hx y hy z => ?_⟩
            rw [List.mem_singleton.mp hy] at z
            exact hmem (z ▸ hx)
          · intro x hx
            rcases List.mem_append.mp hx with hx | hx
            · exact hb' x hx
            · rw [List.mem_singleton.mp hx]; exact hat
end
end My

set_option Elab.async false
set_option linter.all false
set_option maxRecDepth 100000
namespace My
open PySem PySem.Spec PyProof.Rows L2
section
variable {P : Program} {w : World} {K : PySem.W.Frag} {mg : Str → Option Value} {base : Heap}
set_option maxHeartbeats 4000000 in
theorem ok_law {f : Addr} {fd : FuncData} (F : Fun K "law" "law" s_law f fd) (Z : Bl mg) (O_law_bag : Own P w K mg base "_law_bag" 1 ["script", "k"] (spBag K)) (O_law_take : Own P w K mg base "_law_take" 1 ["bag", "many"] spTake) (O_law_count : Own P w K mg base "_law_count" 2 ["bag", "most"] spCount) (O_law_idle_plan : Own P w K mg base "_law_idle_plan" 8 ["bag", "count"] spIdlePlan) (O_law_followed : Own P w K mg base "_law_followed" 1 ["plan", "number"] spLFollowed) (O_law_ways : Own P w K mg base "_law_ways" 1 ["end"] spLWays) (O_short : Own P w K mg base "short" 6 ["plan"] spShort) : FnOk P w K mg base CX0 9 f fd ["script"] (spLaw K) := by
  refine F.ok (k := 8) sc_law (fun vs H Q E h => ?_) (fun cdv A outer s H vs Q E hr h => ?_)
  · obtain ⟨a, ns, rfl, _⟩ := h
    rfl
  · obtain ⟨a, ns, rfl, hS, hlen, q⟩ := h
    refine ⟨_, (pss_cons (ps_set (i := 1) sc_law.nd rfl (Or.inl rfl) (pe_own O_law_bag (hr.mono (by decide)) rfl (pa_cons (pv 0) (pa_cons pe_int pa_nil))))
      (pss_cons (ps_set (i := 2) sc_law.nd rfl (Or.inr rfl) (pe_own O_law_idle_plan (hr.mono (by decide)) rfl (pa_cons (pe_own O_law_bag (hr.mono (by decide)) rfl (pa_cons (pv 0) (pa_cons pe_int pa_nil))) (pa_cons (pe_ix ix_list (pe_lst (pa_cons (pe_own O_law_count (hr.mono (by decide)) rfl (pa_cons (pv 1) (pa_cons pe_int pa_nil))) (pa_cons pe_int pa_nil))) (pe_callTy call_int1 rfl Z.int bt_int (pa_cons (pe_cmpR op_eq (pe_own O_law_take (hr.mono (by decide)) rfl (pa_cons (pv 1) (pa_cons pe_int pa_nil))) pe_int (nomark _)) pa_nil)) (fun _ _ => rfl)) pa_nil))))
      (pss_cons (ps_set (i := 3) sc_law.nd rfl (Or.inr rfl) (pe_lst (pa_cons (pe_own O_law_followed (hr.mono (by decide)) rfl (pa_cons (pv 2) (pa_cons pe_int pa_nil))) pa_nil)))
      (pss_cons (ps_set (i := 4) sc_law.nd rfl (Or.inl rfl) (pe_lst pa_nil))
      (pss_cons (ps_while PassesOwn.never (pt_cmpR op_lt (pe_callB call_len_seq rfl Z.len bt_len (pa_cons (pv 4) pa_nil)) (pe_callB call_len_seq rfl Z.len bt_len (pa_cons (pv 3) pa_nil)) (nomark _))
      (pss_cons (ps_asg (pe_ix ix_tup (pv 2) (pe_ix ix_list (pv 3) (pe_callB call_len_seq rfl Z.len bt_len (pa_cons (pv 4) pa_nil)) (fun _ _ => rfl)) (fun _ _ => rfl)) (pg_tup rfl (pgs_cons (pg_name (i := 5) sc_law.nd rfl (Or.inl rfl)) (pgs_cons (pg_name (i := 6) sc_law.nd rfl (Or.inl rfl)) pgs_nil))))
      (pss_cons (ps_setLC (i := 7) ["there"] ["plan"] [2] rfl sc_law.nd rfl rfl rfl (pi_list (pe_own O_law_ways (hr.mono (by decide)) rfl (pa_cons (pv 6) pa_nil))) rfl (by decide +kernel) (by decide +kernel) (by decide +kernel) ⟨⟨rfl, .inl rfl, rfl⟩, True.intro⟩ (fun _ _ _ _ => (pg_name (i := 0) (show ((["there"] : List Str) ++ (["plan"] : List Str)).Nodup by decide +kernel) rfl (Or.inl rfl) (hf := Or.inr rfl))) (fun _ _ _ _ => pts_nil) (fun _ _ _ _ => (pe_own O_law_followed (hr.mono (by decide)) rfl (pa_cons (pv 1) (pa_cons (pv 0) pa_nil)))))
      (pss_cons (ps_for PassesOwn.never rfl (pi_list (pv 7)) (pg_name (i := 8) sc_law.nd rfl (Or.inl rfl))
      (pss_one (ps_if (pt_cmpR op_notIn_seq (pv 8) (pv 3) (by with_unfolding_all rfl))
      (pss_one (ps_expr (pe_bm PySem.F.plainAttrs_list PySem.F.slot_list_append PySem.F.type_list_append mt_append (pv 3) (pa_cons (pv 8) pa_nil))))
      pss_nil)))
      (pss_cons (ps_setLC (i := 9) ["there"] ["kept"] [3] rfl sc_law.nd rfl rfl rfl (pi_list (pv 7)) rfl (by decide +kernel) (by decide +kernel) (by decide +kernel) ⟨⟨rfl, .inl rfl, rfl⟩, True.intro⟩ (fun _ _ _ _ => (pg_name (i := 0) (show ((["there"] : List Str) ++ (["kept"] : List Str)).Nodup by decide +kernel) rfl (Or.inl rfl) (hf := Or.inr rfl))) (fun _ _ _ _ => pts_nil) (fun _ _ _ _ => (pe_bmK (K := K) rfl PySem.F.plainAttrs_list PySem.F.slot_list_index PySem.F.type_list_index mt_index (pv 1) (pa_cons (pv 0) pa_nil))))
      (pss_one (ps_expr (pe_bm PySem.F.plainAttrs_list PySem.F.slot_list_append PySem.F.type_list_append mt_append (pv 4) (pa_cons (pe_tup (pa_cons (pv 5) (pa_cons (pe_op op_catI (pe_slice sl_tupA (pv 6) po_none (po_some (pe_op op_sub (pe_callB call_len_seq rfl Z.len bt_len (pa_cons (pv 6) pa_nil)) (pe_callB call_len_seq rfl Z.len bt_len (pa_cons (pv 7) pa_nil))))) (pe_callTy call_tuple_of rfl Z.tuple bt_tuple (pa_cons (pv 9) pa_nil))) pa_nil))) pa_nil)))))))))
      (pss_one (ps_ret (pe_cmpR (op_eqD hr.units) (pe_own O_short (hr.mono (by decide)) rfl (pa_cons (pv 2) pa_nil)) (pe_tup (pa_cons (pe_callTy call_tuple_of rfl Z.tuple bt_tuple (pa_cons (pv 4) pa_nil)) (pa_cons (pe_callTy call_tuple_of rfl Z.tuple bt_tuple (pa_cons (pv 3) pa_nil)) pa_nil))) (nomark _))))))))), ?_⟩

    refine ⟨_, rfl, a, ns, 0, rfl, hS, (by decide), fun b H1 nb B1 s1 => ?_⟩
    refine ⟨_, rfl, a, ns, 1, rfl, s1.seq hS, (by decide), fun b2 H2 nb2 B2 s2 => ?_⟩
    have nbb : b2 ≠ b := B1.ne_new nb2
    refine ⟨_, rfl, b, 40, rfl, B1.same s2, (by omega), (by omega), fun c H3 c0 c1 B3 X3 => ?_⟩
    refine ⟨ln2, fun l0 n0 => ?_⟩
    refine ⟨_, rfl, b, 6, rfl, B3.new n0, ⟨by decide, by decide⟩, fun z H4 z0 z1 B4 X4 => ?_⟩
    have h0 : H4 l0 = some (.lst [.int c, .int 400]) := X4 l0 _ upd_same (B3.ne_new n0)
    refine ⟨rfl, .inr ⟨_, rfl, ?_⟩⟩
    have pk : ∃ g : Nat, atI [V.int c, V.int 400] (if decide (V.int z = V.int 0) = true then 1 else 0) = some (V.int g) ∧ 0 < g ∧ g ≤ 400 := by
      cases decide (V.int z = V.int 0)
      · exact ⟨c, at0, by omega, by omega⟩
      · exact ⟨400, at1, by decide, by decide⟩
    obtain ⟨g, hg, g0, g4⟩ := pk
    have F24 : Fix b H2 H4 := (X3.trans (Fix.new n0)).trans X4
    have B24 : Bag H4 b2 := by
      obtain ⟨x, y, e, zz⟩ := B2
      exact ⟨x, y, F24 _ _ e nbb, zz⟩
    refine ⟨l0, _, _, _, rfl, rfl, SqL.of h0, hg, b2, g, rfl, B24, g0, (by omega), fun plv xs ps H5 hp hc5 pok xok B5 X5 => ?_⟩
    clear B24 F24 hg h0 X4 X3 B3 B4 B2 B1 X5 B5
    obtain ⟨pp, vs, rfl, e1, rvs⟩ := RdD.tup_inv hp
    have hin := pok.inPlan
    have lay := lay_plan xok.1 pok
    have hn0 : 0 < ps.length := by omega
    have hn : ps.length ≤ 400 := by omega
    have est : ∀ {j : Nat}, j < ps.length → folF ps j = stF (folsF ps) j := fun hj => (stF_fols hj).symm
    have hstb : ∀ {j : Nat}, j < ps.length → stF (folsF ps) j < ps.length := fun hj => by rw [stF_fols hj]; exact folF_lt hin hj
    have hsh : shortF ps = loopR ps (stF (folsF ps)) ps.length [stF (folsF ps) 0] [] := rfl
    generalize stF (folsF ps) = st at est hstb hsh
    refine ⟨_, rfl, _, ps, 0, rfl, hp, hin, lay, hn0, (by omega), fun H6 s6 => ⟨ln1, fun kl nkl => ?_⟩⟩
    rw [est hn0]
    refine ⟨(by show 0 ≤ sizeLine; decide), fun pz npz => ?_⟩
    have t1 := Same.new (o := .lst [.int (st 0 : Nat)]) nkl
    have hk7 : (upd H6 kl (.lst [.int (st 0 : Nat)])) kl = some (.lst (vN [st 0])) := upd_same
    generalize (upd H6 kl (.lst [.int (st 0 : Nat)])) = H7 at t1 hk7 npz
    have t2 := Same.new (o := .lst []) npz
    have hz8 : (upd H7 pz (.lst [])) pz = some (.lst []) := upd_same
    have hk8 := t2 _ _ hk7
    have npk : pz ≠ kl := (ne_of_none hk7 npz).symm
    have nkH : H5 kl = none := s6.free nkl
    have npH : H5 pz = none := (s6.trans t1).free npz
    have s8 := (s6.trans t1).trans t2
    generalize (upd H7 pz (.lst [])) = H8 at t2 hz8 hk8 s8
    refine ⟨fun fu σ H' => ∃ (ms : List Nat) (outs : List Piece) (zs : List V) (u1 u2 u3 u4 u5 : Option V), σ = [some (.ref a), some (.ref b), some (.ref pp), some (.ref kl), some (.ref pz), u1, u2, u3, u4, u5] ∧ H' kl = some (.lst (vN ms)) ∧ H' pz = some (.lst zs) ∧ RdDs H' zs (outs.map dPiece) ∧ (∀ p ∈ outs, (dPiece p).canLay0 = true) ∧ loopR ps st fu ms outs = loopR ps st ps.length [st 0] [] ∧ fu + outs.length = ps.length ∧ ms.Nodup ∧ (∀ x ∈ ms, x < ps.length) ∧ outs.length ≤ ms.length ∧ Same H5 H', ⟨ps.length, [st 0], [], [], _, _, _, _, _, rfl, hk8, hz8, .nil, (fun _ h => nomatch h), rfl, rfl, by simp, (fun x hx => by rw [List.mem_singleton.mp hx]; exact hstb hn0), Nat.zero_le _, s8⟩, ?_⟩
    clear t1 hk7 t2 hz8 hk8 s8 s6 nkl npz
    rintro fu σ H3 ⟨ms, outs, zs, u1, u2, u3, u4, u5, rfl, hk3, hz3, rz3, hly, hloop, hfu, mnd, mb, hom, s3⟩
    have hzl : zs.length = outs.length := by have := rz3.len; rw [List.length_map] at this; exact this
    have hml : (vN ms).length = ms.length := List.length_map ..
    have hmn := few_below mnd mb
    refine ⟨_, rfl, pz, _, rfl, .inl (SqL.of hz3), _, rfl, kl, _, rfl, .inl (SqL.of hk3), _, _, rfl, rfl, _, rfl, ?_⟩
    refine ite2 (fun hc => ?_) (fun hc => ?_)
    · have hlt : outs.length < ms.length := by have := of_decide_eq_true hc; omega
      obtain ⟨fu, rfl⟩ : ∃ f', fu = f' + 1 := ⟨fu - 1, by omega⟩
      have hms : ms[outs.length]? = some ms[outs.length] := by simp [hlt]
      have hkb : ms[outs.length] < ps.length := mb _ (List.getElem_mem _)
      generalize ms[outs.length] = kk at hms hkb
      have hps : ps[kk]? = some ps[kk] := by simp [hkb]
      generalize ps[kk] = pce at hps
      rw [loopR_step hms hps] at hloop
      obtain ⟨ds, e⟩ := pce
      obtain ⟨p', xs', pc, da, ea, ws, ep, e1', el', hx', e2, e3, r3, e4⟩ := rd_piece hp hps
      cases ep
      rw [e1] at e1'
      cases e1'
      refine ⟨_, fun σ' H' h => ⟨fu, Nat.lt_succ_self fu, h⟩, ?_⟩
      refine ⟨_, rfl, _, rfl, _, rfl, pz, _, rfl, .inl (SqL.of hz3), kl, _, _, _, rfl, rfl, SqL.of hk3, atI_nat (j := zs.length) (by rw [hzl, List.getElem?_map, hms]; rfl), pp, _, _, _, rfl, rfl, SqT.of (s3 _ _ e1), atI_nat hx', pc, _, rfl, SqT.of (s3 _ _ e2), rfl, _, _, rfl, _, _, rfl, rfl, ?_⟩
      refine ⟨_, rfl, ea, e, rfl, s3 _ _ e4, fun wl H4 hw s4 => ⟨wl, rfl, ⟨_, SqL.of hw⟩, fun acc na => ?_⟩⟩
      have hk4 := s4 _ _ hk3
      have hz4 := s4 _ _ hz3
      have nak : acc ≠ kl := (ne_of_none hk4 na).symm
      have naz : acc ≠ pz := (ne_of_none hz4 na).symm
      have s34 := s3.trans s4
      have hwb : ∀ {j k : Nat}, (waysE e)[j]? = some k → k < ps.length := fun {j k} hj => by
        have h1 := hin _ (List.mem_of_getElem? hps)
        have h2 := List.mem_of_getElem? hj
        cases e with
        | stop => cases h2
        | go p => rw [List.mem_singleton.mp h2]; exact h1
        | tst b x n p p2 =>
          rcases List.mem_cons.mp h2 with z | z
          · rw [z]; exact h1.1
          · rw [List.mem_singleton.mp z]; exact h1.2
      have hwl : (waysE e).length ≤ 2 := by cases e <;> (show _ ≤ 2) <;> simp [waysE]
      have hhl : (headE e).length ≤ 3 := by cases e <;> simp [headE]
      have hkall : ∀ x ∈ (waysE e).map st, x < ps.length := fun x hx => by
        obtain ⟨j, hj, rfl⟩ := List.mem_map.mp hx
        obtain ⟨jj, hjj⟩ := List.getElem?_of_mem hj
        exact hstb (hwb hjj)
      generalize hks : (waysE e).map st = ks at hloop hkall
      have hksl : ks.length = (waysE e).length := by rw [← hks, List.length_map]
      refine lc_list (K := K) (a := wl) (xs := vN (waysE e)) (fun i ys τ H' => ∃ c : Option V, τ = [c, some (.ref pp)] ∧ ys = vN (ks.take i) ∧ H' acc = some (.lst ys) ∧ Same H4 H') ?_ ?_ ?_ ?_
      · exact ⟨none, rfl, rfl, upd_same, Same.new na⟩
      · rintro i ys τ H5' hi ⟨c, rfl, rfl, ha, s5⟩
        refine ⟨SqL.of (s5 _ _ hw), ha, ?_⟩
        rw [List.length_map, List.length_take]
        rw [List.length_map] at hi
        exact small1000 (by omega)
      · rintro i y ys τ H5' hi ⟨c, rfl, rfl, ha, s5⟩
        obtain ⟨k0, hk0, rfl⟩ : ∃ k, (waysE e)[i]? = some k ∧ y = V.int (k : Nat) := by
          rw [List.getElem?_map] at hi
          cases z : (waysE e)[i]? with
          | none => rw [z] at hi; cases hi
          | some k => rw [z] at hi; exact ⟨k, rfl, (Option.some.inj hi).symm⟩
        have hk0b := hwb hk0
        have hki : ks[i]? = some (st k0) := by rw [← hks, List.getElem?_map, hk0]; rfl
        refine gname_ ?_
        refine yes_ ?_
        refine iteT ?_
        refine ⟨_, rfl, _, rfl, _, ps, k0, rfl, hp.same (s34.trans s5) (noList_plan ps), hin, lay, hk0b, (by omega), fun H6 s6 => ?_⟩
        rw [est hk0b]
        refine ⟨s6 _ _ ha, _, rfl, ?_, upd_same, (s5.trans s6).put na⟩
        rw [List.take_add_one, hki]
        show _ = (ks.take i ++ [st k0]).map _
        rw [List.map_append]
        rfl
      rintro ys τ H6 ⟨c, rfl, rfl, ha, s46⟩
      have htk : ks.take (vN (waysE e)).length = ks := by rw [List.length_map, ← hksl, List.take_length]
      rw [htk] at ha
      have hk6 := s46 _ _ hk4
      -- for there in ways
      refine ⟨_, rfl, acc, rfl, ⟨_, SqL.of ha⟩, for_list (K := K) (a := acc) (xs := vN ks) (fun i σ H' => ∃ (u4' : Option V), σ = [some (.ref a), some (.ref b), some (.ref pp), some (.ref kl), some (.ref pz), some (.ref da), some (.ref ea), some (.ref acc), u4', u5] ∧ H' kl = some (.lst (vN (putAll ms (ks.take i)))) ∧ (∀ c o, H6 c = some o → c ≠ kl → H' c = some o)) ?_ ?_ ?_ ?_⟩
      · exact ⟨_, rfl, hk6, fun c o h _ => h⟩
      · rintro i σ H7 hi ⟨u4', rfl, hk7, b7⟩
        exact SqL.of (b7 _ _ ha nak)
      · rintro i y σ H7 hi ⟨u4', rfl, hk7, b7⟩
        obtain ⟨k0, hk0, rfl⟩ : ∃ k, ks[i]? = some k ∧ y = V.int (k : Nat) := by
          rw [List.getElem?_map] at hi
          cases z : ks[i]? with
          | none => rw [z] at hi; cases hi
          | some k => rw [z] at hi; exact ⟨k, rfl, (Option.some.inj hi).symm⟩
        have hnx : putAll ms (ks.take (i + 1)) = LS.putIn (putAll ms (ks.take i)) k0 := by rw [List.take_add_one, hk0]; exact L2.putAll_snoc _ _ _
        refine gname_ ?_
        refine ⟨_, rfl, _, rfl, kl, _, rfl, .inl (SqL.of hk7), rfl, flat_vN _, _, rfl, ?_⟩
        rw [show (if true = true then !inV (.int (k0 : Nat)) (vN (putAll ms (ks.take i))) else inV (.int (k0 : Nat)) (vN (putAll ms (ks.take i)))) = !decide (k0 ∈ putAll ms (ks.take i)) from congrArg (!·) (inV_nat k0 _)]
        by_cases hm : k0 ∈ putAll ms (ks.take i)
        · refine iteFb (by rw [decide_eq_true hm]; rfl) ?_
          refine ⟨_, rfl, ?_, b7⟩
          rw [hnx]
          unfold LS.putIn
          rw [if_pos hm]
          exact hk7
        · refine iteTb (by rw [decide_eq_false hm]; rfl) ?_
          have hfew : (putAll ms (ks.take i)).length ≤ 400 := Nat.le_trans (few_below (putAll_nd mnd) (putAll_below mb fun x hx => hkall x (List.mem_of_mem_take hx))) hn
          refine ⟨_, rfl, .inl ⟨rfl, _, SqL.of hk7⟩, _, rfl, kl, _, _, rfl, rfl, hk7, small1000 (by rw [List.length_map]; omega), ?_⟩
          refine ⟨_, rfl, ?_, fun c o h n => by rw [upd_ne n]; exact b7 c o h n⟩
          rw [upd_same, hnx]
          unfold LS.putIn
          rw [if_neg hm]
          show _ = some (HO.lst ((putAll ms (ks.take i) ++ [k0]).map _))
          rw [List.map_append]
          rfl
      rintro σ H7 ⟨u4', rfl, hk7, b7⟩
      rw [show (vN ks).length = ks.length from List.length_map .., List.take_length] at hk7
      have ha7 := b7 _ _ ha nak
      have hz7 := b7 _ _ (s46 _ _ hz4) npk
      have s7 : Same H5 H7 := fun c o h => b7 c o (s46 c o (s34 c o h)) (ne_of_none h nkH)
      have kt7 : ∀ p xs, H3 p = some (.tup xs) → H7 p = some (.tup xs) := fun p xs h => b7 _ _ (s46 _ _ (s4 _ _ h)) (ne_of h hk3 (by intro z; cases z))
      -- numbers
      refine ⟨_, rfl, acc, rfl, ⟨_, SqL.of ha7⟩, fun ac2 na2 => ?_⟩
      refine lc_list (K := K) (a := acc) (xs := vN ks) (fun i ys τ H' => ∃ c : Option V, τ = [c, some (.ref kl)] ∧ ys = vN ((ks.take i).map (putAll ms ks).idxOf) ∧ H' ac2 = some (.lst ys) ∧ Same H7 H') ?_ ?_ ?_ ?_
      · exact ⟨none, rfl, rfl, upd_same, Same.new na2⟩
      · rintro i ys τ H8 hi ⟨c, rfl, rfl, ha2, s8⟩
        refine ⟨SqL.of (s8 _ _ ha7), ha2, ?_⟩
        rw [List.length_map, List.length_map, List.length_take]
        exact small1000 (by omega)
      · rintro i y ys τ H8 hi ⟨c, rfl, rfl, ha2, s8⟩
        obtain ⟨k0, hk0, rfl⟩ : ∃ k, ks[i]? = some k ∧ y = V.int (k : Nat) := by
          rw [List.getElem?_map] at hi
          cases z : ks[i]? with
          | none => rw [z] at hi; cases hi
          | some k => rw [z] at hi; exact ⟨k, rfl, (Option.some.inj hi).symm⟩
        have hmem : k0 ∈ putAll ms ks := (LS.fold_mem ks ms k0).mpr (.inr (List.mem_of_getElem? hk0))
        have hk8 := s8 _ _ hk7
        refine gname_ ?_
        refine yes_ ?_
        refine iteT ?_
        refine ⟨_, rfl, .inl ⟨rfl, _, SqL.of hk8⟩, _, rfl, kl, (putAll ms ks).map (fun k : Nat => (k : Int)), (k0 : Int), rfl, rfl, by rw [hk8, vN_int], List.mem_map.mpr ⟨k0, hmem, rfl⟩, ?_⟩
        rw [idx_int]
        refine ⟨ha2, _, rfl, ?_, upd_same, s8.put na2⟩
        rw [List.take_add_one, hk0]
        show _ = ((ks.take i ++ [k0]).map _).map _
        rw [List.map_append, List.map_append]
        rfl
      rintro ys τ H8 ⟨c, rfl, rfl, ha2, s78⟩
      rw [show (vN ks).length = ks.length from List.length_map .., List.take_length] at ha2
      have hz8 := s78 _ _ hz7
      have s8 := s7.trans s78
      have el : ((vEnd e).length : Int) - ((vN ks).length : Int) = ((headE e).length : Nat) := by
        rw [vEnd_head, List.length_append, List.length_map, List.length_map, hksl]
        omega
      refine ⟨_, rfl, .inl ⟨rfl, _, SqL.of hz8⟩, _, rfl, _, rfl, _, rfl, ea, _, rfl, .inr (SqT.of (s8 _ _ e4)), _, rfl, acc, _, rfl, .inl (SqL.of (s78 _ _ ha7)), _, _, rfl, rfl, _, congrArg V.int el, slice_head (s8 _ _ e4) fun t H9 ht s9 => ?_⟩
      refine ⟨_, rfl, ac2, _, rfl, .inl ⟨SqL.of (s9 _ _ ha2), fun t2 nt2 => ?_⟩⟩
      have q2 := Same.new (o := .tup (vN (ks.map (putAll ms ks).idxOf))) nt2
      refine ⟨t, t2, _, _, rfl, rfl, q2 _ _ ht, upd_same, (by rw [List.length_map, List.length_map, hksl]; exact Nat.le_of_lt (small1000 (by omega))), fun t3 H10 ht3 s10 => ⟨ln2, fun t4 nt4 => ?_⟩⟩
      rw [← vEnd_new (by rw [List.length_map, hksl])] at ht3
      have q4 := Same.new (o := .tup [.ref da, .ref t3]) nt4
      have s811 := ((s9.trans q2).trans s10).trans q4
      have ht11 := q4 _ _ ht3
      have h411 : (upd H10 t4 (.tup [.ref da, .ref t3])) t4 = some (.tup [.ref da, .ref t3]) := upd_same
      generalize (upd H10 t4 (.tup [.ref da, .ref t3])) = H11 at q4 s811 ht11 h411
      have hz11 := s811 _ _ hz8
      refine ⟨pz, _, _, rfl, rfl, hz11, small1000 (by omega), ?_⟩
      have kt : ∀ p xs, H11 p = some (.tup xs) → (upd H11 pz (.lst (zs ++ [.ref t4]))) p = some (.tup xs) := fun p xs h => by rw [upd_ne (ne_of h hz11 (by intro z; cases z))]; exact h
      have s511 := s8.trans s811
      refine ⟨_, outs ++ [outP (ds, e) ks (putAll ms ks)], _, _, _, _, _, _, rfl, ?_, upd_same, ?_, fun p hpm => ?_, hloop, (by rw [List.length_append]; show fu + (_ + 1) = _; omega), putAll_nd mnd, putAll_below mb hkall, ?_, s511.put npH⟩
      · rw [upd_ne npk.symm]
        exact s811 _ _ (s78 _ _ hk7)
      · rw [List.map_append]
        have rd4 : RdD H11 (.ref t4) (dPiece (outP (ds, e) ks (putAll ms ks))) := .tup h411 (.cons (.tup (s511 _ _ e3) (r3.same s511 (noLists_deeds ds))) (.cons (end_rd ht11) .nil))
        exact RdDs.app ((((rz3.tups kt7 (noLists_pieces outs)).same s78 (noLists_pieces outs)).same s811 (noLists_pieces outs)).tups kt (noLists_pieces outs)) (rd4.tups kt (noList_piece _))
      · rcases List.mem_append.mp hpm with h | h
        · exact hly p h
        · rw [List.mem_singleton.mp h]; exact lay_out lay (List.mem_of_getElem? hps) _ _
      · obtain ⟨more, em⟩ := putAll_pre ks ms
        rw [em, List.length_append, List.length_append]
        show _ + 1 ≤ _
        omega
    · have hnl : ¬ outs.length < ms.length := fun z => hc (decide_eq_true (by omega))
      rw [loopR_end (List.getElem?_eq_none (by omega)), ← hsh] at hloop
      refine ⟨_, rfl, _, ps, rfl, hp.same s3 (noList_plan ps), hin, hn0, (by omega), fun v H4 r4 s4 => ?_⟩
      rw [← hloop] at r4
      refine ⟨_, rfl, pz, _, rfl, .inl ⟨SqL.of (s4 _ _ hz3), fun t1 n1 => ?_⟩⟩
      have q1 := Same.new (o := .tup zs) n1
      refine ⟨_, rfl, kl, _, rfl, .inl ⟨SqL.of (q1 _ _ (s4 _ _ hk3)), fun t2 n2 => ⟨ln2, fun t3 n3 => ?_⟩⟩⟩
      have q2 := Same.new (o := .tup (vN ms)) n2
      have q3 := Same.new (o := .tup [.ref t1, .ref t2]) n3
      have hl : (dShort (ms, outs)).canLay0 = true := lay_short hly
      have hno : noList (dShort (ms, outs)) = true := noL_short _
      refine ⟨_, dShort (ms, outs), r4.same ((q1.trans q2).trans q3) hno, .tup upd_same (.cons (.tup (q3 _ _ (q2 _ _ upd_same)) (rz3.same (((s4.trans q1).trans q2).trans q3) (noLists_pieces outs))) (.cons (.tup (q3 _ _ upd_same) (rd_natsS ms)) .nil)), hl, hl, (by have := dep_short (ms, outs); omega), ?_⟩
      rw [PySem.SeqAt.eqv_refl _ hl]
      exact q _
end
end My

set_option Elab.async false
set_option linter.all false
set_option maxRecDepth 100000
namespace My
open PySem PySem.Spec PyProof.Rows L2
set_option maxHeartbeats 4000000 in
theorem all_mk {l : PySem.W.OpenLaw} {w : World} {K : PySem.W.Frag} {h : Heap} {mg : Str → Option Value} {fa : Addr} (X : K.In h) (G : h.Ns mainGlobals mg) (hfa : mg "law" = some (.ref fa))
    {f0 : Addr} {od0 an0 : Option Addr} {sl0 : Array (Option Value)} {oc0 kV0 dc0 pm0 cd0 ct0 : Value}
    {f1 : Addr} {od1 an1 : Option Addr} {sl1 : Array (Option Value)} {oc1 kV1 dc1 pm1 cd1 ct1 : Value}
    {f2 : Addr} {od2 an2 : Option Addr} {sl2 : Array (Option Value)} {oc2 kV2 dc2 pm2 cd2 ct2 : Value}
    {f3 : Addr} {od3 an3 : Option Addr} {sl3 : Array (Option Value)} {oc3 kV3 dc3 pm3 cd3 ct3 : Value}
    {f4 : Addr} {od4 an4 : Option Addr} {sl4 : Array (Option Value)} {oc4 kV4 dc4 pm4 cd4 ct4 : Value}
    {f5 : Addr} {od5 an5 : Option Addr} {sl5 : Array (Option Value)} {oc5 kV5 dc5 pm5 cd5 ct5 : Value}
    {f6 : Addr} {od6 an6 : Option Addr} {sl6 : Array (Option Value)} {oc6 kV6 dc6 pm6 cd6 ct6 : Value}
    {f7 : Addr} {od7 an7 : Option Addr} {sl7 : Array (Option Value)} {oc7 kV7 dc7 pm7 cd7 ct7 : Value}
    {f8 : Addr} {od8 an8 : Option Addr} {sl8 : Array (Option Value)} {oc8 kV8 dc8 pm8 cd8 ct8 : Value}
    {f9 : Addr} {od9 an9 : Option Addr} {sl9 : Array (Option Value)} {oc9 kV9 dc9 pm9 cd9 ct9 : Value}
    {f10 : Addr} {od10 an10 : Option Addr} {sl10 : Array (Option Value)} {oc10 kV10 dc10 pm10 cd10 ct10 : Value}
    {f11 : Addr} {od11 an11 : Option Addr} {sl11 : Array (Option Value)} {oc11 kV11 dc11 pm11 cd11 ct11 : Value}
    {f12 : Addr} {od12 an12 : Option Addr} {sl12 : Array (Option Value)} {oc12 kV12 dc12 pm12 cd12 ct12 : Value}
    {f13 : Addr} {od13 an13 : Option Addr} {sl13 : Array (Option Value)} {oc13 kV13 dc13 pm13 cd13 ct13 : Value}
    {f14 : Addr} {od14 an14 : Option Addr} {sl14 : Array (Option Value)} {oc14 kV14 dc14 pm14 cd14 ct14 : Value}
    {f15 : Addr} {od15 an15 : Option Addr} {sl15 : Array (Option Value)} {oc15 kV15 dc15 pm15 cd15 ct15 : Value}
    {f16 : Addr} {od16 an16 : Option Addr} {sl16 : Array (Option Value)} {oc16 kV16 dc16 pm16 cd16 ct16 : Value}
    {f17 : Addr} {od17 an17 : Option Addr} {sl17 : Array (Option Value)} {oc17 kV17 dc17 pm17 cd17 ct17 : Value}
    {f18 : Addr} {od18 an18 : Option Addr} {sl18 : Array (Option Value)} {oc18 kV18 dc18 pm18 cd18 ct18 : Value}
    {f19 : Addr} {od19 an19 : Option Addr} {sl19 : Array (Option Value)} {oc19 kV19 dc19 pm19 cd19 ct19 : Value}
    {f20 : Addr} {od20 an20 : Option Addr} {sl20 : Array (Option Value)} {oc20 kV20 dc20 pm20 cd20 ct20 : Value}
    {aE : Addr} {epE : Nat} {s0 : Addr} {hsE0 : Int} {tkE0 : Tok} {dcE0 : Option Addr} {nnE0 : Nat} {slE0 : Array (Option Value)}  {s1 : Addr} {hsE1 : Int} {tkE1 : Tok} {dcE1 : Option Addr} {nnE1 : Nat} {slE1 : Array (Option Value)} {ttE1_0 : Tok} {s2 : Addr} {hsE2 : Int} {tkE2 : Tok} {dcE2 : Option Addr} {nnE2 : Nat} {slE2 : Array (Option Value)} {ttE2_0 : Tok} {ttE2_1 : Tok} {ttE2_2 : Tok} {ttE2_3 : Tok} {s3 : Addr} {hsE3 : Int} {tkE3 : Tok} {dcE3 : Option Addr} {nnE3 : Nat} {slE3 : Array (Option Value)} {ttE3_0 : Tok} {ttE3_1 : Tok} {ttE3_2 : Tok} {ttE3_3 : Tok}
    {C : Addr}
    (a0 : PySem.W.nsIn K mainGlobals "parts_of_kind" = some (some (.ref f0))) (l0 : K.lookup f0 = some ⟨oc0, od0, .func (PySem.W.fnOf "parts_of_kind" "parts_of_kind" (defArgs s_parts_of_kind) (defBody s_parts_of_kind) (defScope s_parts_of_kind) .none kV0 dc0 pm0 an0 cd0 ct0), sl0⟩) (c0 : PySem.W.codeIn K cd0 "parts_of_kind" = true) (k0 : PySem.W.keepIn K (.ref f0) = true)
    (a1 : PySem.W.nsIn K mainGlobals "ways_on" = some (some (.ref f1))) (l1 : K.lookup f1 = some ⟨oc1, od1, .func (PySem.W.fnOf "ways_on" "ways_on" (defArgs s_ways_on) (defBody s_ways_on) (defScope s_ways_on) .none kV1 dc1 pm1 an1 cd1 ct1), sl1⟩) (c1 : PySem.W.codeIn K cd1 "ways_on" = true) (k1 : PySem.W.keepIn K (.ref f1) = true)
    (a2 : PySem.W.nsIn K mainGlobals "without_ways" = some (some (.ref f2))) (l2 : K.lookup f2 = some ⟨oc2, od2, .func (PySem.W.fnOf "without_ways" "without_ways" (defArgs s_without_ways) (defBody s_without_ways) (defScope s_without_ways) .none kV2 dc2 pm2 an2 cd2 ct2), sl2⟩) (c2 : PySem.W.codeIn K cd2 "without_ways" = true) (k2 : PySem.W.keepIn K (.ref f2) = true)
    (a3 : PySem.W.findIn K (.ref C) "__init__" = some (some (.ref f3))) (i3 : PySem.W.isFn K (.ref f3) = true) (l3 : K.lookup f3 = some ⟨oc3, od3, .func (PySem.W.fnOf "__init__" "Row.__init__" (defArgs s_Row___init__) (defBody s_Row___init__) (defScope s_Row___init__) .none kV3 dc3 pm3 an3 cd3 ct3), sl3⟩) (c3 : PySem.W.codeIn K cd3 "Row.__init__" = true) (k3 : PySem.W.keepIn K (.ref f3) = true)
    (a4 : PySem.W.findIn K (.ref C) "place_of" = some (some (.ref f4))) (i4 : PySem.W.isFn K (.ref f4) = true) (l4 : K.lookup f4 = some ⟨oc4, od4, .func (PySem.W.fnOf "place_of" "Row.place_of" (defArgs s_Row_place_of) (defBody s_Row_place_of) (defScope s_Row_place_of) .none kV4 dc4 pm4 an4 cd4 ct4), sl4⟩) (c4 : PySem.W.codeIn K cd4 "Row.place_of" = true) (k4 : PySem.W.keepIn K (.ref f4) = true)
    (a5 : PySem.W.nsIn K mainGlobals "with_steads" = some (some (.ref f5))) (l5 : K.lookup f5 = some ⟨oc5, od5, .func (PySem.W.fnOf "with_steads" "with_steads" (defArgs s_with_steads) (defBody s_with_steads) (defScope s_with_steads) .none kV5 dc5 pm5 an5 cd5 ct5), sl5⟩) (c5 : PySem.W.codeIn K cd5 "with_steads" = true) (k5 : PySem.W.keepIn K (.ref f5) = true)
    (a6 : PySem.W.nsIn K mainGlobals "is_idle" = some (some (.ref f6))) (l6 : K.lookup f6 = some ⟨oc6, od6, .func (PySem.W.fnOf "is_idle" "is_idle" (defArgs s_is_idle) (defBody s_is_idle) (defScope s_is_idle) .none kV6 dc6 pm6 an6 cd6 ct6), sl6⟩) (c6 : PySem.W.codeIn K cd6 "is_idle" = true) (k6 : PySem.W.keepIn K (.ref f6) = true)
    (a7 : PySem.W.nsIn K mainGlobals "followed" = some (some (.ref f7))) (l7 : K.lookup f7 = some ⟨oc7, od7, .func (PySem.W.fnOf "followed" "followed" (defArgs s_followed) (defBody s_followed) (defScope s_followed) .none kV7 dc7 pm7 an7 cd7 ct7), sl7⟩) (c7 : PySem.W.codeIn K cd7 "followed" = true) (k7 : PySem.W.keepIn K (.ref f7) = true)
    (a8 : PySem.W.nsIn K mainGlobals "short" = some (some (.ref f8))) (l8 : K.lookup f8 = some ⟨oc8, od8, .func (PySem.W.fnOf "short" "short" (defArgs s_short) (defBody s_short) (defScope s_short) .none kV8 dc8 pm8 an8 cd8 ct8), sl8⟩) (c8 : PySem.W.codeIn K cd8 "short" = true) (k8 : PySem.W.keepIn K (.ref f8) = true)
    (a9 : PySem.W.nsIn K mainGlobals "_law_bag" = some (some (.ref f9))) (l9 : K.lookup f9 = some ⟨oc9, od9, .func (PySem.W.fnOf "_law_bag" "_law_bag" (defArgs s_law_bag) (defBody s_law_bag) (defScope s_law_bag) .none kV9 dc9 pm9 an9 cd9 ct9), sl9⟩) (c9 : PySem.W.codeIn K cd9 "_law_bag" = true) (k9 : PySem.W.keepIn K (.ref f9) = true)
    (a10 : PySem.W.nsIn K mainGlobals "_law_take" = some (some (.ref f10))) (l10 : K.lookup f10 = some ⟨oc10, od10, .func (PySem.W.fnOf "_law_take" "_law_take" (defArgs s_law_take) (defBody s_law_take) (defScope s_law_take) .none kV10 dc10 pm10 an10 cd10 ct10), sl10⟩) (c10 : PySem.W.codeIn K cd10 "_law_take" = true) (k10 : PySem.W.keepIn K (.ref f10) = true)
    (a11 : PySem.W.nsIn K mainGlobals "_law_names" = some (some (.ref f11))) (l11 : K.lookup f11 = some ⟨oc11, od11, .func (PySem.W.fnOf "_law_names" "_law_names" (defArgs s_law_names) (defBody s_law_names) (defScope s_law_names) .none kV11 dc11 pm11 an11 cd11 ct11), sl11⟩) (c11 : PySem.W.codeIn K cd11 "_law_names" = true) (k11 : PySem.W.keepIn K (.ref f11) = true)
    (a12 : PySem.W.nsIn K mainGlobals "_law_number" = some (some (.ref f12))) (l12 : K.lookup f12 = some ⟨oc12, od12, .func (PySem.W.fnOf "_law_number" "_law_number" (defArgs s_law_number) (defBody s_law_number) (defScope s_law_number) .none kV12 dc12 pm12 an12 cd12 ct12), sl12⟩) (c12 : PySem.W.codeIn K cd12 "_law_number" = true) (k12 : PySem.W.keepIn K (.ref f12) = true)
    (a13 : PySem.W.nsIn K mainGlobals "_law_deed" = some (some (.ref f13))) (l13 : K.lookup f13 = some ⟨oc13, od13, .func (PySem.W.fnOf "_law_deed" "_law_deed" (defArgs s_law_deed) (defBody s_law_deed) (defScope s_law_deed) .none kV13 dc13 pm13 an13 cd13 ct13), sl13⟩) (c13 : PySem.W.codeIn K cd13 "_law_deed" = true) (k13 : PySem.W.keepIn K (.ref f13) = true)
    (a14 : PySem.W.nsIn K mainGlobals "_law_end" = some (some (.ref f14))) (l14 : K.lookup f14 = some ⟨oc14, od14, .func (PySem.W.fnOf "_law_end" "_law_end" (defArgs s_law_end) (defBody s_law_end) (defScope s_law_end) .none kV14 dc14 pm14 an14 cd14 ct14), sl14⟩) (c14 : PySem.W.codeIn K cd14 "_law_end" = true) (k14 : PySem.W.keepIn K (.ref f14) = true)
    (a15 : PySem.W.nsIn K mainGlobals "_law_plan" = some (some (.ref f15))) (l15 : K.lookup f15 = some ⟨oc15, od15, .func (PySem.W.fnOf "_law_plan" "_law_plan" (defArgs s_law_plan) (defBody s_law_plan) (defScope s_law_plan) .none kV15 dc15 pm15 an15 cd15 ct15), sl15⟩) (c15 : PySem.W.codeIn K cd15 "_law_plan" = true) (k15 : PySem.W.keepIn K (.ref f15) = true)
    (a16 : PySem.W.nsIn K mainGlobals "_law_count" = some (some (.ref f16))) (l16 : K.lookup f16 = some ⟨oc16, od16, .func (PySem.W.fnOf "_law_count" "_law_count" (defArgs s_law_count) (defBody s_law_count) (defScope s_law_count) .none kV16 dc16 pm16 an16 cd16 ct16), sl16⟩) (c16 : PySem.W.codeIn K cd16 "_law_count" = true) (k16 : PySem.W.keepIn K (.ref f16) = true)
    (a17 : PySem.W.nsIn K mainGlobals "_law_ways" = some (some (.ref f17))) (l17 : K.lookup f17 = some ⟨oc17, od17, .func (PySem.W.fnOf "_law_ways" "_law_ways" (defArgs s_law_ways) (defBody s_law_ways) (defScope s_law_ways) .none kV17 dc17 pm17 an17 cd17 ct17), sl17⟩) (c17 : PySem.W.codeIn K cd17 "_law_ways" = true) (k17 : PySem.W.keepIn K (.ref f17) = true)
    (a18 : PySem.W.nsIn K mainGlobals "_law_idle_plan" = some (some (.ref f18))) (l18 : K.lookup f18 = some ⟨oc18, od18, .func (PySem.W.fnOf "_law_idle_plan" "_law_idle_plan" (defArgs s_law_idle_plan) (defBody s_law_idle_plan) (defScope s_law_idle_plan) .none kV18 dc18 pm18 an18 cd18 ct18), sl18⟩) (c18 : PySem.W.codeIn K cd18 "_law_idle_plan" = true) (k18 : PySem.W.keepIn K (.ref f18) = true)
    (a19 : PySem.W.nsIn K mainGlobals "_law_followed" = some (some (.ref f19))) (l19 : K.lookup f19 = some ⟨oc19, od19, .func (PySem.W.fnOf "_law_followed" "_law_followed" (defArgs s_law_followed) (defBody s_law_followed) (defScope s_law_followed) .none kV19 dc19 pm19 an19 cd19 ct19), sl19⟩) (c19 : PySem.W.codeIn K cd19 "_law_followed" = true) (k19 : PySem.W.keepIn K (.ref f19) = true)
    (a20 : PySem.W.nsIn K mainGlobals "law" = some (some (.ref f20))) (l20 : K.lookup f20 = some ⟨oc20, od20, .func (PySem.W.fnOf "law" "law" (defArgs s_law) (defBody s_law) (defScope s_law) .none kV20 dc20 pm20 an20 cd20 ct20), sl20⟩) (c20 : PySem.W.codeIn K cd20 "law" = true) (k20 : PySem.W.keepIn K (.ref f20) = true)
    (z_len : PySem.W.nsIn K mainGlobals "len" = some none)
    (z_zip : PySem.W.nsIn K mainGlobals "zip" = some none)
    (z_tuple : PySem.W.nsIn K mainGlobals "tuple" = some none)
    (z_set : PySem.W.nsIn K mainGlobals "set" = some none)
    (z_min : PySem.W.nsIn K mainGlobals "min" = some none)
    (z_range : PySem.W.nsIn K mainGlobals "range" = some none)
    (z_list : PySem.W.nsIn K mainGlobals "list" = some none)
    (z_int : PySem.W.nsIn K mainGlobals "int" = some none)
    (gE : PySem.W.nsIn K mainGlobals "END_PARTS" = some (some (.ref aE))) (lE : K.lookup aE = some ⟨.type "dict", none, .dict #[⟨hsE0, .str "stop" tkE0, .ref s0⟩, ⟨hsE1, .str "go" tkE1, .ref s1⟩, ⟨hsE2, .str "less" tkE2, .ref s2⟩, ⟨hsE3, .str "is" tkE3, .ref s3⟩] epE, #[]⟩) (qE0 : K.lookup s0 = some ⟨.type "tuple", dcE0, .seq #[] nnE0, slE0⟩) (qE1 : K.lookup s1 = some ⟨.type "tuple", dcE1, .seq #[.str "piece" ttE1_0] nnE1, slE1⟩) (qE2 : K.lookup s2 = some ⟨.type "tuple", dcE2, .seq #[.str "name" ttE2_0, .str "number" ttE2_1, .str "piece" ttE2_2, .str "piece" ttE2_3] nnE2, slE2⟩) (qE3 : K.lookup s3 = some ⟨.type "tuple", dcE3, .seq #[.str "name" ttE3_0, .str "number" ttE3_1, .str "piece" ttE3_2, .str "piece" ttE3_3] nnE3, slE3⟩)
    (aCC : PySem.W.nsIn K mainGlobals "Row" = some (some (.ref C))) (pgC : PySem.W.plainGet K C Str.empty = true) (hdC : PySem.W.hasDictIn K C = true) (poC : PySem.W.plainOver K C = true) (saC : PySem.W.findIn K (.ref C) "__setattr__" = some (some (.builtin "object.__setattr__"))) (mkC : PySem.W.makesIn K C = true) (kcC : PySem.W.keepIn K (.ref C) = true)
    (nC_members : PySem.W.findIn K (.ref C) "members" = some none)
    (nC_places : PySem.W.findIn K (.ref C) "places" = some none) :
    ∃ fd : FuncData, (∀ (s : Shared) (v : Value), BindsTo s fd ⟨[v], []⟩ [("script", v)]) ∧ ∀ base : Heap, K.In base → base.Ns mainGlobals mg → FnOk l.prog w K mg base CX0 9 fa fd ["script"] (spLaw K) := by
  have e := hfa.symm.trans (PySem.W.mg_of X G a20)
  cases e
  have Z : Bl mg := ⟨PySem.W.mg_none_of X G z_len, PySem.W.mg_none_of X G z_zip, PySem.W.mg_none_of X G z_tuple, PySem.W.mg_none_of X G z_set, PySem.W.mg_none_of X G z_min, PySem.W.mg_none_of X G z_range, PySem.W.mg_none_of X G z_list, PySem.W.mg_none_of X G z_int⟩
  have GE : EndG K mg aE s0 s1 s2 s3 := ⟨⟨PySem.W.mg_of X G gE, _, _, lE, (.cons rfl rfl (.cons rfl rfl (.cons rfl rfl (.cons rfl rfl .nil))))⟩, ⟨_, _, _, qE0, rfl, rfl, (by show 0 ≤ sizeLine; decide), .nil⟩, ⟨_, _, _, qE1, rfl, rfl, (by show 1 ≤ sizeLine; decide), (.cons ⟨_, rfl⟩ .nil)⟩, ⟨_, _, _, qE2, rfl, rfl, (by show 4 ≤ sizeLine; decide), (.cons ⟨_, rfl⟩ (.cons ⟨_, rfl⟩ (.cons ⟨_, rfl⟩ (.cons ⟨_, rfl⟩ .nil))))⟩, ⟨_, _, _, qE3, rfl, rfl, (by show 4 ≤ sizeLine; decide), (.cons ⟨_, rfl⟩ (.cons ⟨_, rfl⟩ (.cons ⟨_, rfl⟩ (.cons ⟨_, rfl⟩ .nil))))⟩⟩
  have T : RowT K C := ⟨⟨pgC, hdC, poC, saC⟩, nC_members, nC_places⟩
  have F0 := fun_mk (st := s_parts_of_kind) l0 c0 k0
  have b0 := F0.binds (ps := ["thing", "kinds", "wanted"]) fun _ _ _ _ _ _ us hl => match us, hl with | [_, _, _], _ => rfl
  have F1 := fun_mk (st := s_ways_on) l1 c1 k1
  have b1 := F1.binds (ps := ["end"]) fun _ _ _ _ _ _ us hl => match us, hl with | [_], _ => rfl
  have F2 := fun_mk (st := s_without_ways) l2 c2 k2
  have b2 := F2.binds (ps := ["end"]) fun _ _ _ _ _ _ us hl => match us, hl with | [_], _ => rfl
  have F3 := fun_mk (st := s_Row___init__) l3 c3 k3
  have b3 := F3.binds (ps := ["self", "first"]) fun _ _ _ _ _ _ us hl => match us, hl with | [_, _], _ => rfl
  have F4 := fun_mk (st := s_Row_place_of) l4 c4 k4
  have b4 := F4.binds (ps := ["self", "thing"]) fun _ _ _ _ _ _ us hl => match us, hl with | [_, _], _ => rfl
  have F5 := fun_mk (st := s_with_steads) l5 c5 k5
  have b5 := F5.binds (ps := ["plan", "steads"]) fun _ _ _ _ _ _ us hl => match us, hl with | [_, _], _ => rfl
  have F6 := fun_mk (st := s_is_idle) l6 c6 k6
  have b6 := F6.binds (ps := ["piece"]) fun _ _ _ _ _ _ us hl => match us, hl with | [_], _ => rfl
  have F7 := fun_mk (st := s_followed) l7 c7 k7
  have b7 := F7.binds (ps := ["plan", "at"]) fun _ _ _ _ _ _ us hl => match us, hl with | [_, _], _ => rfl
  have F8 := fun_mk (st := s_short) l8 c8 k8
  have b8 := F8.binds (ps := ["plan"]) fun _ _ _ _ _ _ us hl => match us, hl with | [_], _ => rfl
  have F9 := fun_mk (st := s_law_bag) l9 c9 k9
  have b9 := F9.binds (ps := ["script", "k"]) fun _ _ _ _ _ _ us hl => match us, hl with | [_, _], _ => rfl
  have F10 := fun_mk (st := s_law_take) l10 c10 k10
  have b10 := F10.binds (ps := ["bag", "many"]) fun _ _ _ _ _ _ us hl => match us, hl with | [_, _], _ => rfl
  have F11 := fun_mk (st := s_law_names) l11 c11 k11
  have b11 := F11.binds (ps := ["bag"]) fun _ _ _ _ _ _ us hl => match us, hl with | [_], _ => rfl
  have F12 := fun_mk (st := s_law_number) l12 c12 k12
  have b12 := F12.binds (ps := ["bag"]) fun _ _ _ _ _ _ us hl => match us, hl with | [_], _ => rfl
  have F13 := fun_mk (st := s_law_deed) l13 c13 k13
  have b13 := F13.binds (ps := ["bag", "names"]) fun _ _ _ _ _ _ us hl => match us, hl with | [_, _], _ => rfl
  have F14 := fun_mk (st := s_law_end) l14 c14 k14
  have b14 := F14.binds (ps := ["bag", "names", "count"]) fun _ _ _ _ _ _ us hl => match us, hl with | [_, _, _], _ => rfl
  have F15 := fun_mk (st := s_law_plan) l15 c15 k15
  have b15 := F15.binds (ps := ["bag", "count", "most"]) fun _ _ _ _ _ _ us hl => match us, hl with | [_, _, _], _ => rfl
  have F16 := fun_mk (st := s_law_count) l16 c16 k16
  have b16 := F16.binds (ps := ["bag", "most"]) fun _ _ _ _ _ _ us hl => match us, hl with | [_, _], _ => rfl
  have F17 := fun_mk (st := s_law_ways) l17 c17 k17
  have b17 := F17.binds (ps := ["end"]) fun _ _ _ _ _ _ us hl => match us, hl with | [_], _ => rfl
  have F18 := fun_mk (st := s_law_idle_plan) l18 c18 k18
  have b18 := F18.binds (ps := ["bag", "count"]) fun _ _ _ _ _ _ us hl => match us, hl with | [_, _], _ => rfl
  have F19 := fun_mk (st := s_law_followed) l19 c19 k19
  have b19 := F19.binds (ps := ["plan", "number"]) fun _ _ _ _ _ _ us hl => match us, hl with | [_, _], _ => rfl
  have F20 := fun_mk (st := s_law) l20 c20 k20
  refine ⟨PySem.W.fnOf "law" "law" (defArgs s_law) (defBody s_law) (defScope s_law) .none kV20 dc20 pm20 an20 cd20 ct20, fun s v => .of_eq rfl, fun base _ _ => ?_⟩
  have O_parts_of_kind : Own l.prog w K mg base "parts_of_kind" 1 ["thing", "kinds", "wanted"] (spParts K) := ⟨⟨_, _, ok_parts_of_kind F0 Z , PySem.W.mg_of X G a0, k0, b0⟩⟩
  have O_ways_on : Own l.prog w K mg base "ways_on" 3 ["end"] spWays := ⟨⟨_, _, ok_ways_on F1 Z GE O_parts_of_kind, PySem.W.mg_of X G a1, k1, b1⟩⟩
  have O_without_ways : Own l.prog w K mg base "without_ways" 4 ["end"] spWithout := ⟨⟨_, _, ok_without_ways F2 Z O_ways_on, PySem.W.mg_of X G a2, k2, b2⟩⟩
  have O_Row___init__ : COwn l.prog w K mg base C "Row" 1 ["self", "first"] (spRowInit C) := ⟨⟨_, _, ok_Row___init__ F3 Z T , ⟨mkC, a3, i3, kcC⟩, PySem.W.mg_of X G aCC, b3⟩⟩
  have O_Row_place_of : MOwn l.prog w K mg base C "place_of" 1 ["self", "thing"] (spPlaceOf C) := ⟨T.cl, ⟨_, _, ok_Row_place_of F4 Z T , ⟨a4, i4, k4⟩, b4⟩⟩
  have O_with_steads : Own l.prog w K mg base "with_steads" 5 ["plan", "steads"] spSteads := ⟨⟨_, _, ok_with_steads F5 Z T O_Row___init__ O_Row_place_of O_ways_on O_without_ways, PySem.W.mg_of X G a5, k5, b5⟩⟩
  have O_is_idle : Own l.prog w K mg base "is_idle" 1 ["piece"] spIdle := ⟨⟨_, _, ok_is_idle F6 Z , PySem.W.mg_of X G a6, k6, b6⟩⟩
  have O_followed : Own l.prog w K mg base "followed" 3 ["plan", "at"] spFollowed := ⟨⟨_, _, ok_followed F7 Z O_is_idle, PySem.W.mg_of X G a7, k7, b7⟩⟩
  have O_short : Own l.prog w K mg base "short" 6 ["plan"] spShort := ⟨⟨_, _, ok_short F8 Z O_followed O_with_steads, PySem.W.mg_of X G a8, k8, b8⟩⟩
  have O_law_bag : Own l.prog w K mg base "_law_bag" 1 ["script", "k"] (spBag K) := ⟨⟨_, _, ok_law_bag F9 Z , PySem.W.mg_of X G a9, k9, b9⟩⟩
  have O_law_take : Own l.prog w K mg base "_law_take" 1 ["bag", "many"] spTake := ⟨⟨_, _, ok_law_take F10 Z , PySem.W.mg_of X G a10, k10, b10⟩⟩
  have O_law_names : Own l.prog w K mg base "_law_names" 2 ["bag"] spNames := ⟨⟨_, _, ok_law_names F11 Z O_law_take, PySem.W.mg_of X G a11, k11, b11⟩⟩
  have O_law_number : Own l.prog w K mg base "_law_number" 2 ["bag"] spNumber := ⟨⟨_, _, ok_law_number F12 Z O_law_take, PySem.W.mg_of X G a12, k12, b12⟩⟩
  have O_law_deed : Own l.prog w K mg base "_law_deed" 3 ["bag", "names"] spDeed := ⟨⟨_, _, ok_law_deed F13 Z O_law_take O_law_number, PySem.W.mg_of X G a13, k13, b13⟩⟩
  have O_law_end : Own l.prog w K mg base "_law_end" 3 ["bag", "names", "count"] spEndP := ⟨⟨_, _, ok_law_end F14 Z O_law_take O_law_number, PySem.W.mg_of X G a14, k14, b14⟩⟩
  have O_law_plan : Own l.prog w K mg base "_law_plan" 4 ["bag", "count", "most"] spPlan := ⟨⟨_, _, ok_law_plan F15 Z O_law_take O_law_names O_law_deed O_law_end, PySem.W.mg_of X G a15, k15, b15⟩⟩
  have O_law_count : Own l.prog w K mg base "_law_count" 2 ["bag", "most"] spCount := ⟨⟨_, _, ok_law_count F16 Z O_law_take, PySem.W.mg_of X G a16, k16, b16⟩⟩
  have O_law_ways : Own l.prog w K mg base "_law_ways" 1 ["end"] spLWays := ⟨⟨_, _, ok_law_ways F17 Z , PySem.W.mg_of X G a17, k17, b17⟩⟩
  have O_law_idle_plan : Own l.prog w K mg base "_law_idle_plan" 8 ["bag", "count"] spIdlePlan := ⟨⟨_, _, ok_law_idle_plan F18 Z O_law_plan O_law_take, PySem.W.mg_of X G a18, k18, b18⟩⟩
  have O_law_followed : Own l.prog w K mg base "_law_followed" 1 ["plan", "number"] spLFollowed := ⟨⟨_, _, ok_law_followed F19 Z , PySem.W.mg_of X G a19, k19, b19⟩⟩
  exact ok_law F20 Z O_law_bag O_law_take O_law_count O_law_idle_plan O_law_followed O_law_ways O_short
theorem walk {l : PySem.W.OpenLaw} {q : Program} {loose : List Str} {XP : (Str → Option Value) → Heap → Prop} {YP : World → Heap → Prop} {d : DefRec} {K : Params → PySem.W.Frag} (hn : l.most = some 63) (hdf : d.params.defaults = [])
    (hY : ∀ (w : World) (h : Heap), YP w h → (K w.params).In h)
    (F : ∀ (w : World) (mg : Str → Option Value) (fa : Addr) (h : Heap), (K w.params).In h → h.Ns mainGlobals mg → mg d.name = some (.ref fa) →
      ∃ fd : FuncData, (∀ (s : Shared) (u : Value), BindsTo s fd ⟨[u], []⟩ [("script", u)]) ∧ ∀ base : Heap, (K w.params).In base → base.Ns mainGlobals mg → FnOk l.prog w (K w.params) mg base CX0 9 fa fd ["script"] (spLaw (K w.params))) :
    PySem.W.WalkO q loose XP YP l.row.toRowW d [] (fun f vs => PySem.call f vs) :=
  L2.walk_of (n := 63) (k := 9) (x := "script") (CX := fun _ => CX0) (sp := fun w => spLaw (K w.params)) hn (by decide) hdf ⟨rfl, by decide, by decide⟩ hY F (fun _ _ a ns hl _ hS => ⟨a, ns, rfl, hS, hl, fun _ => rfl⟩) fun _ _ _ _ _ z => z
end My
/-! These names are taken so that the head lays no twins of its largest terms: it needs none of them, and they would be most of the compiled text. -/
theorem PySem.W.Fast.tw8579654298665044880 : True := trivial
theorem PySem.W.Fast.tw17667266577576585829 : True := trivial
theorem PySem.W.Fast.tw3424415941028784125 : True := trivial
theorem PySem.W.Fast.tw15497388775023302517 : True := trivial
open PySem PySem.W PyProof.Rows
set_option maxRecDepth 100000 in
set_option maxHeartbeats 0 in
theorem PySem.Challenge.cw_ledpast_k18_short_by_hand_holds : PySem.Challenge.rw_ledpast_k18_short_by_hand.Holds := by
  w_on; o_law; k_head; (case hw => w_witness2)
  k_fill
  refine My.walk (l := PySem.Challenge.rw_ledpast_k18_short_by_hand) rfl rfl (fun w h Y => PySem.W.kIn_of Y) ?F
  case F =>
    intro w mg fa h KX G hmg
    refine' My.all_mk KX G hmg ?a0 ?l0 ?c0 ?k0 ?a1 ?l1 ?c1 ?k1 ?a2 ?l2 ?c2 ?k2 ?a3 ?i3 ?l3 ?c3 ?k3 ?a4 ?i4 ?l4 ?c4 ?k4 ?a5 ?l5 ?c5 ?k5 ?a6 ?l6 ?c6 ?k6 ?a7 ?l7 ?c7 ?k7 ?a8 ?l8 ?c8 ?k8 ?a9 ?l9 ?c9 ?k9 ?a10 ?l10 ?c10 ?k10 ?a11 ?l11 ?c11 ?k11 ?a12 ?l12 ?c12 ?k12 ?a13 ?l13 ?c13 ?k13 ?a14 ?l14 ?c14 ?k14 ?a15 ?l15 ?c15 ?k15 ?a16 ?l16 ?c16 ?k16 ?a17 ?l17 ?c17 ?k17 ?a18 ?l18 ?c18 ?k18 ?a19 ?l19 ?c19 ?k19 ?a20 ?l20 ?c20 ?k20 ?z_len ?z_zip ?z_tuple ?z_set ?z_min ?z_range ?z_list ?z_int ?gE ?lE ?qE0 ?qE1 ?qE2 ?qE3 ?aCC ?pgC ?hdC ?poC ?saC ?mkC ?kcC ?nC_members ?nC_places
    (case gE => k_is)
    (case lE => k_is)
    (case qE0 => k_is)
    (case qE1 => k_is)
    (case qE2 => k_is)
    (case qE3 => k_is)
    (case aCC => k_is)
    (case pgC => k_is)
    (case hdC => k_is)
    (case poC => k_is)
    (case saC => k_is)
    (case mkC => k_is)
    (case kcC => k_is)
    (case nC_members => k_is)
    (case nC_places => k_is)
    (case a0 => k_is)
    (case l0 => k_is)
    (case c0 => k_is)
    (case k0 => k_is)
    (case a1 => k_is)
    (case l1 => k_is)
    (case c1 => k_is)
    (case k1 => k_is)
    (case a2 => k_is)
    (case l2 => k_is)
    (case c2 => k_is)
    (case k2 => k_is)
    (case a3 => k_is)
    (case i3 => k_is)
    (case l3 => k_is)
    (case c3 => k_is)
    (case k3 => k_is)
    (case a4 => k_is)
    (case i4 => k_is)
    (case l4 => k_is)
    (case c4 => k_is)
    (case k4 => k_is)
    (case a5 => k_is)
    (case l5 => k_is)
    (case c5 => k_is)
    (case k5 => k_is)
    (case a6 => k_is)
    (case l6 => k_is)
    (case c6 => k_is)
    (case k6 => k_is)
    (case a7 => k_is)
    (case l7 => k_is)
    (case c7 => k_is)
    (case k7 => k_is)
    (case a8 => k_is)
    (case l8 => k_is)
    (case c8 => k_is)
    (case k8 => k_is)
    (case a9 => k_is)
    (case l9 => k_is)
    (case c9 => k_is)
    (case k9 => k_is)
    (case a10 => k_is)
    (case l10 => k_is)
    (case c10 => k_is)
    (case k10 => k_is)
    (case a11 => k_is)
    (case l11 => k_is)
    (case c11 => k_is)
    (case k11 => k_is)
    (case a12 => k_is)
    (case l12 => k_is)
    (case c12 => k_is)
    (case k12 => k_is)
    (case a13 => k_is)
    (case l13 => k_is)
    (case c13 => k_is)
    (case k13 => k_is)
    (case a14 => k_is)
    (case l14 => k_is)
    (case c14 => k_is)
    (case k14 => k_is)
    (case a15 => k_is)
    (case l15 => k_is)
    (case c15 => k_is)
    (case k15 => k_is)
    (case a16 => k_is)
    (case l16 => k_is)
    (case c16 => k_is)
    (case k16 => k_is)
    (case a17 => k_is)
    (case l17 => k_is)
    (case c17 => k_is)
    (case k17 => k_is)
    (case a18 => k_is)
    (case l18 => k_is)
    (case c18 => k_is)
    (case k18 => k_is)
    (case a19 => k_is)
    (case l19 => k_is)
    (case c19 => k_is)
    (case k19 => k_is)
    (case a20 => k_is)
    (case l20 => k_is)
    (case c20 => k_is)
    (case k20 => k_is)
    (case z_len => k_is)
    (case z_zip => k_is)
    (case z_tuple => k_is)
    (case z_set => k_is)
    (case z_min => k_is)
    (case z_range => k_is)
    (case z_list => k_is)
    (case z_int => k_is)
