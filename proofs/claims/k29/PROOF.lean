import PyProof.Rows.All
import Wide.All
import OpenK.AllK
import Wide.FinOn
import Lean
import PyProof.EqAt
import PyProof.EqKinds
import PyProof.TupleCall
import PyProof.NeData
import PySem.Challenge.RW_ledpast_k29_walkers
-- CHANGE: your row's module here, as the last of these rows
set_option Elab.async false
set_option linter.all false
set_option maxRecDepth 100000
/-! THE HAND LAYER, for ints, bools, texts, own classes, LISTS and tuples (index, slices, in, append, pop ..), calls, loops. Paste it whole ahead of your own text; what your proof does not reach may be deleted. -/
namespace L2
open PySem PySem.Spec PyProof.Rows

/-- a key: an int or a str -/
abbrev Key := Sum Int Str
def keyIs : Key → Value → Bool
  | .inl k, v => Value.isInt k v
  | .inr x, v => Value.isStrOf x v
def keyH (w : World) : Key → Int
  | .inl k => hashInt k
  | .inr x => hashStr w x
theorem keyIs_shape : ∀ {k : Key} {v : Value}, keyIs k v = true → (∃ i t, k = Sum.inl i ∧ v = Value.int i t) ∨ (∃ x t, k = Sum.inr x ∧ v = Value.str x t)
  | .inl i, v, h => by
    obtain ⟨t, e⟩ := Value.isInt_shape (k := i) (v := v) h
    exact .inl ⟨i, t, rfl, e⟩
  | .inr x, v, h => by
    obtain ⟨t, e⟩ := Value.isStrOf_shape (x := x) (v := v) h
    exact .inr ⟨x, t, rfl, e⟩
theorem keyIs_int (i : Int) (t : Tok) : keyIs (.inl i) (.int i t) = true := by simp [keyIs, Value.isInt]
theorem keyIs_str (x : Str) (t : Tok) : keyIs (.inr x) (.str x t) = true := by simp [keyIs, Value.isStrOf]
theorem key_ll (a b : Int) : decide ((Sum.inl a : Key) = Sum.inl b) = (a == b) := by
  by_cases e : a = b
  · subst e; simp
  · have h : ¬ (Sum.inl a : Key) = Sum.inl b := fun q => e (Sum.inl.inj q)
    rw [decide_eq_false h]
    exact (beq_eq_false_iff_ne.mpr e).symm
theorem key_rr (a b : Str) : decide ((Sum.inr a : Key) = Sum.inr b) = decide (a = b) := by
  by_cases e : a = b
  · subst e; simp
  · have h : ¬ (Sum.inr a : Key) = Sum.inr b := fun q => e (Sum.inr.inj q)
    rw [decide_eq_false h, decide_eq_false e]
theorem key_lr (a : Int) (b : Str) : decide ((Sum.inl a : Key) = Sum.inr b) = false := decide_eq_false (fun q => nomatch q)
theorem key_rl (a : Str) (b : Int) : decide ((Sum.inr a : Key) = Sum.inl b) = false := decide_eq_false (fun q => nomatch q)

def mixKind (prog : Program) (w : World) : PySem.KeyKind prog w Key where
  is := keyIs
  hash := keyH w
  inj := fun v a b ha hb => by
    rcases keyIs_shape ha with ⟨i, t, rfl, rfl⟩ | ⟨x, t, rfl, rfl⟩
    · rcases keyIs_shape hb with ⟨j, u, rfl, e⟩ | ⟨y, u, rfl, e⟩
      · injection e with e1 _; rw [e1]
      · exact nomatch e
    · rcases keyIs_shape hb with ⟨j, u, rfl, e⟩ | ⟨y, u, rfl, e⟩
      · exact nomatch e
      · injection e with e1 _; rw [e1]
  byValue := fun k v h => by
    rcases keyIs_shape h with ⟨i, t, rfl, rfl⟩ | ⟨x, t, rfl, rfl⟩ <;> rfl
  pyHash := fun hv h => by
    rcases keyIs_shape hv with ⟨i, t, rfl, rfl⟩ | ⟨x, t, rfl, rfl⟩
    · exact wpAny_pyHash_int h
    · exact wpAny_pyHash_str h
  eqBool := fun hu hv h => by
    rcases keyIs_shape hu with ⟨i, t, rfl, rfl⟩ | ⟨x, t, rfl, rfl⟩
    · rcases keyIs_shape hv with ⟨j, u, rfl, rfl⟩ | ⟨y, u, rfl, rfl⟩
      · rw [key_ll] at h; exact wpAny_eqBool_int h
      · rw [key_lr] at h; exact SeqAt.EqAt.int_str i t y u _ _ _ _ h
    · rcases keyIs_shape hv with ⟨j, u, rfl, rfl⟩ | ⟨y, u, rfl, rfl⟩
      · rw [key_rl] at h; exact SeqAt.EqAt.str_int x t j u _ _ _ _ h
      · rw [key_rr] at h; exact wpAny_eqBool_str h
  «strs» := fun k x t v h => by
    rcases keyIs_shape h with ⟨i, u, rfl, e⟩ | ⟨y, u, rfl, e⟩
    · exact nomatch e
    · injection e with e1 _
      subst e1
      cases v <;> rfl

theorem mixKind_int (prog : Program) (w : World) (i : Int) (t : Tok) : (mixKind prog w).is (.inl i) (.int i t) = true := keyIs_int i t
theorem mixKind_str (prog : Program) (w : World) (x : Str) (t : Tok) : (mixKind prog w).is (.inr x) (.str x t) = true := keyIs_str x t
end L2

namespace L2
open PySem PySem.Spec PyProof.Rows

/-- a value, without the heap -/
inductive V where
  | non | bl (b : Bool) | int (i : Int) | str (x : Str) | byt (b : Array UInt8) | flt (b : UInt64) | ref (a : Addr) | ty (n : String)
  deriving DecidableEq

def RelV : V → Value → Prop
  | .non, u => u = Value.none
  | .bl b, u => u = Value.bool b
  | .int i, u => ∃ t, u = Value.int i t
  | .str x, u => ∃ t, u = Value.str x t
  | .byt b, u => ∃ t, u = Value.bytes b t
  | .flt b, u => ∃ t, u = Value.float b t
  | .ref a, u => u = Value.ref a
  | .ty n, u => u = Value.type n

abbrev Vals : List V → List Value → Prop := Paired RelV
theorem Vals.length {xs : List V} {us : List Value} (r : Vals xs us) : xs.length = us.length := Paired.length r
theorem Vals.get : ∀ {xs : List V} {us : List Value} {i : Nat} {x : V}, Vals xs us → xs[i]? = some x → ∃ u, us[i]? = some u ∧ RelV x u
  | _, _, _, _, .nil, e => by simp at e
  | _, _, 0, _, .cons r _, e => by simp at e; subst e; exact ⟨_, rfl, r⟩
  | _, _, i + 1, x, .cons _ t, e => by
    obtain ⟨u, h1, h2⟩ := Vals.get (i := i) (x := x) t (by simpa using e)
    exact ⟨u, by simpa using h1, h2⟩
theorem Vals.set {x : V} {u : Value} (r : RelV x u) : ∀ {xs : List V} {us : List Value} (i : Nat), Vals xs us → Vals (xs.set i x) (us.set i u)
  | _, _, _, .nil => .nil
  | _, _, 0, .cons _ t => .cons r t
  | _, _, i + 1, .cons q t => .cons q (Vals.set r i t)
theorem Vals.append : ∀ {xs ys : List V} {us ws : List Value}, Vals xs us → Vals ys ws → Vals (xs ++ ys) (us ++ ws)
  | _, _, _, _, .nil, s => s
  | _, _, _, _, .cons r t, s => .cons r (Vals.append t s)
theorem Vals.take : ∀ {xs : List V} {us : List Value} (n : Nat), Vals xs us → Vals (xs.take n) (us.take n)
  | _, _, 0, _ => .nil
  | _, _, _ + 1, .nil => .nil
  | _, _, n + 1, .cons r t => .cons r (Vals.take n t)
theorem Vals.drop : ∀ {xs : List V} {us : List Value} (n : Nat), Vals xs us → Vals (xs.drop n) (us.drop n)
  | _, _, 0, r => r
  | _, _, _ + 1, .nil => .nil
  | _, _, n + 1, .cons _ t => Vals.drop n t
theorem Vals.none_of : ∀ {xs : List V} {us : List Value} {i : Nat}, Vals xs us → xs[i]? = none → us[i]? = none := fun {xs us i} r e => by
  have h1 := r.length
  have h2 : xs.length ≤ i := List.getElem?_eq_none_iff.mp e
  exact List.getElem?_eq_none_iff.mpr (by omega)

def RelO : Option V → Option Value → Prop
  | some v, some u => RelV v u
  | none, none => True
  | _, _ => False
def KV {κ : Type} : List (κ × V) → List (κ × Value) → Prop := Paired fun (p : κ × V) (q : κ × Value) => p.1 = q.1 ∧ RelV p.2 q.2

/-- a key of a dict (00_mix): an int or a text -/
def kV : Key → V
  | .inl i => .int i
  | .inr x => .str x

/-- what stands at a tracked address -/
inductive HO where
  /-- a list -/
  | lst (xs : List V)
  /-- a tuple (never changes) -/
  | tup (xs : List V)
  /-- a dict whose keys are ints and texts; one whose keys are tuples of ints and texts (the empty one is both) -/
  | dK (kvs : List (Key × V)) | dT (kvs : List (List Key × V))
  /-- a set of ints: its members, its size -/
  | set (S : Int → Bool) (n : Nat)
  /-- an instance of the class at C, its dict at dx, its attributes -/
  | ins (C dx : Addr) (fs : List (Str × V))
  /-- the dict of the instance at x -/
  | own (x : Addr)
  /-- the dict of an exception -/
  | xd (fs : List (Str × V))
  /-- a bound method, f of x -/
  | met (f x : Addr)
  /-- a range object lo, lo + 1, .. below hi -/
  | rng (lo hi : Int)
  /-- a thing that is known to the object (the script; a dict while a loop walks it): read, never written while it is so -/
  | frz (o : Obj) (u : HO)
  /-- a code object's table -/
  | tbl (ps : Array Value)
  /-- any other thing, by what is true of its one object (a def of one's own: SetO a S n := HO.ext fun h => ..) -/
  | ext (φ : Heap → Prop)

abbrev Hp := Addr → Option HO
def upd (H : Hp) (a : Addr) (o : HO) : Hp := fun b => if b = a then some o else H b
theorem upd_same {H : Hp} {a : Addr} {o : HO} : upd H a o a = some o := by unfold upd; rw [if_pos rfl]
theorem upd_ne {H : Hp} {a b : Addr} {o : HO} (h : b ≠ a) : upd H a o b = H b := by unfold upd; rw [if_neg h]
/-- two objects of different content stand apart -/
theorem ne_of {H : Hp} {a b : Addr} {o u : HO} (h : H a = some o) (h' : H b = some u) (d : o ≠ u) : a ≠ b := by
  intro e; subst e; rw [h] at h'; exact d (Option.some.inj h')
theorem ne_of_none {H : Hp} {a b : Addr} {o : HO} (h : H a = some o) (h' : H b = none) : a ≠ b := by
  intro e; subst e; rw [h] at h'; cases h'

section
variable (P : Program) (w : World)
def ObjOk (H : Hp) (h : Heap) (a : Addr) : HO → Prop
  | .lst xs => xs.length ≤ sizeLine ∧ ∃ (its : List Value) (n : Nat), Vals xs its ∧ h.get? a = some { cls := .type "list", data := .seq its.toArray n }
  | .tup xs => xs.length ≤ sizeLine ∧ ∃ its : List Value, Vals xs its ∧ ∃ o, h.get? a = some o ∧ o.cls = .type "tuple" ∧ ∃ n, o.data = .seq its.toArray n ∧ o.dict = none
  | .dK kvs => kvs.length ≤ sizeLine ∧ (a == sysModules) = false ∧ ∃ vs, KV kvs vs ∧ h.DictOf (mixKind P w) a vs
  | .dT kvs => kvs.length ≤ sizeLine ∧ (a == sysModules) = false ∧ ∃ xs : List (List Key × Addr × Value),
      Paired (fun (p : List Key × V) (q : List Key × Addr × Value) => p.1 = q.1 ∧ H q.2.1 = some (.tup (p.1.map kV)) ∧ RelV p.2 q.2.2) kvs xs ∧
      ∃ o es ep, h.get? a = some o ∧ o.ExactDict ∧ o.data = .dict es ep ∧ es.toList = xs.map (entryOfKey (tupleKind (mixKind P w))) ∧ (xs.map (·.1)).Nodup
  | .set S n => h.SetOf (intKind P w) a S n
  | .ins C dx fs => H dx = some (.own a) ∧ fs.length ≤ 1000 ∧ dx ≠ a ∧ h.get? a = some (PySem.W.instObj C dx) ∧
      ∃ mA, h.Ns1 dx mA ∧ (∀ f, RelO (fs.lookup f) (mA f)) ∧ PySem.Within mA (fs.map (·.1))
  | .own _ => ∃ o, h.get? a = some o
  | .xd fs => ∃ mA, h.Ns1 a mA ∧ ∀ f, RelO (fs.lookup f) (mA f)
  | .rng lo hi => ∃ t u v, h.get? a = some { cls := .type "range", data := .fields #[.int lo t, .int hi u, .int 1 v] }
  | .frz o u => h.get? a = some o ∧ ObjOk H h a u
  | .tbl ps => h.get? a = some { cls := .none, data := .fields ps }
  | .met f x => h.get? a = some (PySem.W.methodObj (.ref f) (.ref x))
  | .ext φ => φ h ∧ (∃ o, h.get? a = some o) ∧ ∀ h1 h2 : Heap, φ h1 → (∀ o, h1.get? a = some o → h2.get? a = some o) → φ h2
/-- the abstract heap is held -/
def HOk (H : Hp) (h : Heap) : Prop := ∀ a o, H a = some o → ObjOk P w H h a o
end

section
variable {P : Program} {w : World} {H H' : Hp} {h h' : Heap} {a : Addr} {o : HO}
theorem ObjOk.lt (x : ObjOk P w H h a o) : a < h.objs.size := by
  cases o with
  | lst xs => obtain ⟨_, _, _, _, e⟩ := x; exact Heap.lt_size e
  | tup xs => obtain ⟨_, _, _, p⟩ := x; exact (let ⟨o, e, _⟩ := p; Heap.lt_size e)
  | dK kvs => obtain ⟨_, _, _, _, o, _, _, e, _⟩ := x; exact Heap.lt_size e
  | dT kvs => obtain ⟨_, _, _, _, o, _, _, e, _⟩ := x; exact Heap.lt_size e
  | set S n => obtain ⟨o, _, _, _, e, _⟩ := x; exact Heap.lt_size e
  | ins C dx fs => obtain ⟨_, _, _, e, _⟩ := x; exact Heap.lt_size e
  | own y => obtain ⟨_, e⟩ := x; exact Heap.lt_size e
  | xd fs => obtain ⟨_, ⟨_, _, _, e, _⟩, _⟩ := x; exact Heap.lt_size e
  | rng lo hi => obtain ⟨_, _, _, e⟩ := x; exact Heap.lt_size e
  | frz ob u => obtain ⟨e, _⟩ := x; exact Heap.lt_size e
  | tbl ps => exact Heap.lt_size (show h.get? a = some _ from x)
  | met f y => exact Heap.lt_size (show h.get? a = some _ from x)
  | ext φ => obtain ⟨_, ⟨_, e⟩, _⟩ := x; exact Heap.lt_size e
theorem Paired.mapP {α β : Type} {F G : α → β → Prop} : ∀ {l₁ : List α} {l₂ : List β}, Paired F l₁ l₂ → (∀ a b, F a b → G a b) → Paired G l₁ l₂
  | _, _, .nil, _ => .nil
  | _, _, .cons r t, f => .cons (f _ _ r) (Paired.mapP t f)
/-- what an object's description leans on: its own object, its own dict, the tuples -/
theorem ObjOk.stay (x : ObjOk P w H h a o) (k : ∀ b u, (b = a ∨ H b = some (.own a)) → h.get? b = some u → h'.get? b = some u)
    (ho : ∀ b, H b = some (.own a) → H' b = some (.own a)) (ht : ∀ b xs, H b = some (.tup xs) → H' b = some (.tup xs)) : ObjOk P w H' h' a o := by
  induction o with
  | lst xs => obtain ⟨z, its, n, r, e⟩ := x; exact ⟨z, its, n, r, k _ _ (.inl rfl) e⟩
  | tup xs => obtain ⟨z, its, r, ob, e, c⟩ := x; exact ⟨z, its, r, ob, k _ _ (.inl rfl) e, c⟩
  | dK kvs => obtain ⟨z, y, vs, r, ob, es, ep, e, c⟩ := x; exact ⟨z, y, vs, r, ob, es, ep, k _ _ (.inl rfl) e, c⟩
  | dT kvs =>
    obtain ⟨z, y, xs, r, ob, es, ep, e, c⟩ := x
    exact ⟨z, y, xs, Paired.mapP r fun p q z => ⟨z.1, ht _ _ z.2.1, z.2.2⟩, ob, es, ep, k _ _ (.inl rfl) e, c⟩
  | set S n => obtain ⟨ob, es, ep, t, e, c⟩ := x; exact ⟨ob, es, ep, t, k _ _ (.inl rfl) e, c⟩
  | ins C dx fs =>
    obtain ⟨d, z, ne, e, mA, ⟨od, es, ep, e2, c⟩, r⟩ := x
    exact ⟨ho _ d, z, ne, k _ _ (.inl rfl) e, mA, ⟨od, es, ep, k _ _ (.inr d) e2, c⟩, r⟩
  | own y => obtain ⟨ob, e⟩ := x; exact ⟨ob, k _ _ (.inl rfl) e⟩
  | xd fs => obtain ⟨mA, ⟨od, es, ep, e, c⟩, r⟩ := x; exact ⟨mA, ⟨od, es, ep, k _ _ (.inl rfl) e, c⟩, r⟩
  | rng lo hi => obtain ⟨t, u, v, e⟩ := x; exact ⟨t, u, v, k _ _ (.inl rfl) e⟩
  | frz ob u ih => obtain ⟨e, q⟩ := x; exact ⟨k _ _ (.inl rfl) e, ih q⟩
  | tbl ps =>
    have e : h.get? a = some { cls := .none, data := .fields ps } := x
    show h'.get? a = some { cls := .none, data := .fields ps }
    exact k a _ (.inl rfl) e
  | met f y =>
    have e : h.get? a = some (PySem.W.methodObj (.ref f) (.ref y)) := x
    show h'.get? a = some (PySem.W.methodObj (.ref f) (.ref y))
    exact k a _ (.inl rfl) e
  | ext φ => obtain ⟨p, ⟨o, e⟩, st⟩ := x; exact ⟨st _ _ p fun o q => k _ _ (.inl rfl) q, ⟨o, k _ _ (.inl rfl) e⟩, st⟩
theorem HOk.lt (x : HOk P w H h) (e : H a = some o) : a < h.objs.size := (x a o e).lt
theorem HOk.fresh (x : HOk P w H h) (e : h.objs.size ≤ a) : H a = none := by
  cases q : H a with
  | none => rfl
  | some u => exact absurd (Nat.lt_of_lt_of_le (x.lt q) e) (Nat.lt_irrefl _)
/-- every object of the heap is kept -/
theorem HOk.kept (x : HOk P w H h) (k : ∀ b u, h.get? b = some u → h'.get? b = some u) : HOk P w H h' := fun a o e =>
  (x a o e).stay (fun b u _ q => k b u q) (fun _ q => q) fun _ _ q => q
/-- a new object is laid and tracked -/
theorem HOk.laid (x : HOk P w H h) (k : ∀ b u, h.get? b = some u → h'.get? b = some u) (hp : h.objs.size ≤ a) (new : ObjOk P w (upd H a o) h' a o) : HOk P w (upd H a o) h' := fun b u e => by
  have hn := x.fresh hp
  by_cases hb : b = a
  · subst hb; rw [upd_same] at e; cases e; exact new
  · rw [upd_ne hb] at e
    exact (x b u e).stay (fun c v _ q => k c v q) (fun c q => by rw [upd_ne (ne_of_none q hn)]; exact q) fun c xs q => by rw [upd_ne (ne_of_none q hn)]; exact q
end

/-- what may be read as u: it is u, or a known u -/
def Rd (H : Hp) (a : Addr) (u : HO) : Prop := H a = some u ∨ ∃ o, H a = some (.frz o u)
theorem Rd.of {H : Hp} {a : Addr} {u : HO} (h : H a = some u) : Rd H a u := .inl h
theorem Rd.ok {P : Program} {w : World} {H : Hp} {h : Heap} {a : Addr} {u : HO} (r : Rd H a u) (x : HOk P w H h) : ObjOk P w H h a u := by
  rcases r with r | ⟨o, r⟩
  · exact x a u r
  · obtain ⟨_, q⟩ := x a _ r
    exact q
/-- what may be written -/
def Mut : Option HO → Prop
  | some (.lst _) => True
  | some (.dK _) => True
  | some (.dT _) => True
  | some (.set _ _) => True
  | some (.ins _ _ _) => True
  | some (.ext _) => True
  | _ => False
section
variable {P : Program} {w : World} {H : Hp} {h h' : Heap} {x e : Addr} {o' : HO}
/-- the object at e is changed: x itself, or the dict of the instance x -/
theorem HOk.write (ok : HOk P w H h) (mu : Mut (H x)) (he : e = x ∨ H e = some (.own x)) (k : ∀ b u, b ≠ e → h.get? b = some u → h'.get? b = some u) (heo : ∃ u, h'.get? e = some u)
    (new : ObjOk P w (upd H x o') h' x o') : HOk P w (upd H x o') h' := fun b u q => by
  have nown : ∀ c y, H c = some (.own y) → c ≠ x := fun c y r z => by subst z; rw [r] at mu; exact mu
  have ntup : ∀ c xs, H c = some (.tup xs) → c ≠ x := fun c xs r z => by subst z; rw [r] at mu; exact mu
  by_cases hb : b = x
  · subst hb; rw [upd_same] at q; cases q; exact new
  · rw [upd_ne hb] at q
    by_cases hbe : b = e
    · have q' : H b = some (.own x) := by
        rcases he with z | z
        · exact absurd (hbe.trans z) hb
        · rw [hbe]; exact z
      rw [q] at q'; cases q'
      obtain ⟨v, hv⟩ := heo
      exact ⟨v, by rw [hbe]; exact hv⟩
    · refine (ok b u q).stay (fun c v hc r => k c v ?_ r) (fun c r => by rw [upd_ne (nown c b r)]; exact r) fun c xs r => by rw [upd_ne (ntup c xs r)]; exact r
      rcases hc with rfl | hc
      · exact hbe
      · rintro rfl
        rcases he with z | z
        · exact nown c b hc z
        · rw [hc] at z; cases z; exact hb rfl
end

/-! ### kept unless tracked; of the frames at fs (the callers') the slots may change (an exception that passes writes there); of the records at ex (iterators) nothing is said -/
structure Un (fs ex : List Addr) (H H' : Hp) (h h' : Heap) : Prop where
  keep : ∀ b o, h.get? b = some o → H b = none → b ∉ fs → b ∉ ex → h'.get? b = some o
  slot : ∀ b o, h.get? b = some o → H b = none → b ∈ fs → b ∉ ex → ∃ sl, h'.get? b = some { o with slots := sl }
  free : ∀ b o, h.get? b = some o → H b = none → b ∉ ex → H' b = none
  there : ∀ b o, h.get? b = some o → b ∉ ex → ∃ o', h'.get? b = some o'
  tups : ∀ b xs, H b = some (.tup xs) → H' b = some (.tup xs)
  frzs : ∀ b o u, H b = some (.frz o u) → H' b = some (.frz o u)
  tbls : ∀ b ps, H b = some (.tbl ps) → ∃ more, H' b = some (.tbl (ps ++ more))
section
variable {fs fs' ex ex' : List Addr} {H H1 H2 : Hp} {h h1 h2 h' : Heap} {a x e : Addr} {o : HO}
theorem Un.any (u : Un fs ex H H1 h h1) {b : Addr} {ob : Obj} (q : h.get? b = some ob) (n : H b = none) (hx : b ∉ ex) : ∃ sl, h1.get? b = some { ob with slots := sl } := by
  by_cases hb : b ∈ fs
  · exact u.slot b ob q n hb hx
  · exact ⟨ob.slots, u.keep b ob q n hb hx⟩
theorem Un.trans (a : Un fs ex H H1 h h1) (b : Un fs ex H1 H2 h1 h2) : Un fs ex H H2 h h2 where
  keep := fun c ob q n hc hx => b.keep c ob (a.keep c ob q n hc hx) (a.free c ob q n hx) hc hx
  slot := fun c ob q n hc hx => by
    obtain ⟨sl, e1⟩ := a.slot c ob q n hc hx
    obtain ⟨sl', e2⟩ := b.slot c _ e1 (a.free c ob q n hx) hc hx
    exact ⟨sl', e2⟩
  free := fun c ob q n hx => by
    obtain ⟨o', e1⟩ := a.there c ob q hx
    exact b.free c o' e1 (a.free c ob q n hx) hx
  there := fun c ob q hx => by
    obtain ⟨o', e1⟩ := a.there c ob q hx
    exact b.there c o' e1 hx
  tups := fun c xs q => b.tups c xs (a.tups c xs q)
  frzs := fun c ob xs q => b.frzs c ob xs (a.frzs c ob xs q)
  tbls := fun c ps q => by
    obtain ⟨m1, e1⟩ := a.tbls c ps q
    obtain ⟨m2, e2⟩ := b.tbls c _ e1
    exact ⟨m1 ++ m2, by rw [e2, Array.append_assoc]⟩
theorem Un.kept (k : ∀ b u, h.get? b = some u → h'.get? b = some u) : Un fs ex H H h h' :=
  ⟨fun b ob q _ _ _ => k b ob q, fun b ob q _ _ _ => ⟨ob.slots, k b ob q⟩, fun _ _ _ n _ => n, fun b ob q _ => ⟨ob, k b ob q⟩, fun _ _ q => q, fun _ _ _ q => q, fun _ ps q => ⟨#[], by rw [q]; simp⟩⟩
theorem Un.refl : Un fs ex H H h h := Un.kept fun _ _ q => q
theorem Un.laid (k : ∀ b u, h.get? b = some u → h'.get? b = some u) (hp : h.objs.size ≤ a) (hn : H a = none) : Un fs ex H (upd H a o) h h' where
  keep := fun b u q _ _ _ => k b u q
  slot := fun b u q _ _ _ => ⟨u.slots, k b u q⟩
  free := fun b u q n _ => by rw [upd_ne (Nat.ne_of_lt (Nat.lt_of_lt_of_le (Heap.lt_size q) hp))]; exact n
  there := fun b u q _ => ⟨u, k b u q⟩
  tups := fun b xs q => by rw [upd_ne (ne_of_none q hn)]; exact q
  frzs := fun b u xs q => by rw [upd_ne (ne_of_none q hn)]; exact q
  tbls := fun b ps q => ⟨#[], by rw [upd_ne (ne_of_none q hn), q]; simp⟩
theorem Un.write (mu : Mut (H x)) (he : e = x ∨ H e = some (.own x)) (k : ∀ b u, b ≠ e → h.get? b = some u → h'.get? b = some u) (heo : ∃ u, h'.get? e = some u) : Un fs ex H (upd H x o) h h' := by
  have hx : ∀ b, H b = none → b ≠ x := fun b n z => by subst z; rw [n] at mu; exact mu
  have hb : ∀ b, H b = none → b ≠ e := fun b n z => by
    subst z
    rcases he with r | r
    · exact hx b n r
    · rw [n] at r; cases r
  have hm : ∀ b u, H b = some u → ¬ Mut (some u) → b ≠ x := fun b u q nm z => by subst z; rw [q] at mu; exact nm mu
  refine ⟨fun b u q n _ _ => k b u (hb b n) q, fun b u q n _ _ => ⟨u.slots, k b u (hb b n) q⟩, fun b u q n _ => by rw [upd_ne (hx b n)]; exact n, fun b u q _ => ?_,
    fun b xs q => by rw [upd_ne (hm b _ q fun z => z)]; exact q, fun b u xs q => by rw [upd_ne (hm b _ q fun z => z)]; exact q, fun b ps q => ⟨#[], by rw [upd_ne (hm b _ q fun z => z), q]; simp⟩⟩
  by_cases hbe : b = e
  · subst hbe; exact heo
  · exact ⟨u, k b u hbe q⟩
theorem Un.mono (u : Un fs ex H H1 h h1) (hs : ∀ b ∈ fs, b ∈ fs') (hx : ∀ b ∈ ex, b ∈ ex') : Un fs' ex' H H1 h h1 :=
  ⟨fun b ob q n hb he => u.keep b ob q n (fun z => hb (hs b z)) fun z => he (hx b z), fun _ _ q n _ he => u.any q n fun z => he (hx _ z), fun b ob q n he => u.free b ob q n fun z => he (hx b z), fun b ob q he => u.there b ob q fun z => he (hx b z), u.tups, u.frzs, u.tbls⟩
end

/-! ### the heap without what is tracked -/
def trk (h : Heap) (H : Hp) : List Addr := (List.range h.objs.size).filter fun a => (H a).isSome
def hidT (h : Heap) (H : Hp) : Heap := PySem.W.hideAll h (trk h H)
theorem hidT_size (h : Heap) (H : Hp) : (hidT h H).objs.size = h.objs.size := PySem.W.hideAll_size _ _
theorem hidT_get {h : Heap} {H : Hp} {b : Addr} {o : Obj} (e : h.get? b = some o) (n : H b = none) : (hidT h H).get? b = some o :=
  PySem.W.hideAll_get _ e fun hm => by
    have q : (H b).isSome = true := (List.mem_filter.mp hm).2
    rw [n] at q; simp at q
theorem of_hidT {h : Heap} {H : Hp} {b : Addr} {o : Obj} (e : (hidT h H).get? b = some o) : h.get? b = some o ∧ H b = none := by
  have e' : h.get? b = some o := PySem.W.of_hideAll (trk h H) e
  refine ⟨e', ?_⟩
  cases q : H b with
  | none => rfl
  | some x =>
    have hm : b ∈ trk h H := List.mem_filter.mpr ⟨List.mem_range.mpr (Heap.lt_size e'), by simp [q]⟩
    have z : (hidT h H).get? b = none := PySem.W.hideAll_none (trk h H) hm
    rw [z] at e; cases e

/-! ### OpenK's ledger, filled with every new object but one -/
def allNews (g h : Heap) (L : Addr) : List (Addr × Obj) := (List.range h.objs.size).filterMap fun a => if a = L ∨ (g.get? a).isSome = true then none else (h.get? a).map fun o => (a, o)
def rest (g h : Heap) (L d : Addr) : List (Addr × Obj) := (allNews g h L).filter fun p => decide (p.1 ≠ d)
end L2

namespace L2
open PySem PySem.Spec PyProof.Rows

/-- the module's facts, over the base: the heap at the law's entry without what is tracked there -/
structure Mod (K : PySem.W.Frag) (mg : Str → Option Value) (base : Heap) : Prop where
  kin : K.In base
  glob : base.Ns mainGlobals mg
  blt : ∃ mb, base.Ns builtinsNs mb ∧ ∀ x : Str, x ≠ "__name__" → mb x = bootBuiltins x
  nolimit : base.NoLimit

/-- the context: a def's body (or a comprehension's block) running. base: fixed through the whole law; s₀, H₀: the entry; outer: the frames whose slots others may change (a def's callers); stack: all frames that run;
   ex: iterators that were made ahead of the entry and are walked here (a comprehension's); fn: the names whose cells were made at the entry (a def: all; a comprehension's block: its own); calm: not within an except suite; pn: pins that every state bears; xe: what is wanted of an exception that leaves the code -/
structure Cx where
  prog : Program
  w : World
  K : PySem.W.Frag
  mg : Str → Option Value
  base : Heap
  A : Around
  N : List Str
  s₀ : Shared
  H₀ : Hp
  env : Env
  outer : List Env
  stack : List Env
  ex : List Addr
  fn : Str → Bool
  calm : Bool
  pn : List (Addr × Obj)
  xe : Value → Shared → Prop
/-- the callers' frames -/
def frs (l : List Env) : List Addr := l.filterMap (·.frame)
abbrev Cx.fs (X : Cx) : List Addr := frs X.outer

def Vis (sc : Scope) (x : Str) : Prop := sc.names.lookup x = some .local ∨ sc.names.lookup x = some .cell ∨ sc.names.lookup x = some .free
def Loc (sc : Scope) (x : Str) : Prop := sc.names.lookup x = some .local ∨ sc.names.lookup x = some .cell
def Look (env : Env) (h : Heap) (m : Str → Option Value) (x : Str) (u : Value) : Prop :=
  (env.kindOf x = some .local ∧ m x = some u) ∨ ((env.kindOf x = some .cell ∨ env.kindOf x = some .free) ∧ ∃ c, env.cells.lookup x = some c ∧ h.IsCell c (some u))

structure Cx.Ok (X : Cx) : Prop where
  mod : Mod X.K X.mg X.base
  kind : X.env.scope.kind = .function
  glob : X.env.globals = mainGlobals
  blt : X.env.builtins = builtinsNs
  above : X.s₀.heap.objs.size ≤ X.env.locals
  inj : ∀ x y c, X.env.cells.lookup x = some c → X.env.cells.lookup y = some c → x = y
  has : ∀ x, (X.env.kindOf x = some .cell ∨ X.env.kindOf x = some .free) → ∃ c, X.env.cells.lookup x = some c
  cab : ∀ x c, X.fn x = true → X.env.cells.lookup x = some c → X.s₀.heap.objs.size ≤ c
  hd : X.calm = true → X.A.handled = none
  frames : X.A.frames = some X.stack
  stk : X.stack = X.outer ∨ (X.stack = X.env :: X.outer ∧ X.env.frame = some X.env.locals)
  exf : ∀ b ∈ X.ex, b ≠ X.env.locals ∧ ∀ x c, X.env.cells.lookup x = some c → c ≠ b
  bs : ∀ b o, X.base.get? b = some o → X.s₀.heap.get? b = some o ∧ X.H₀ b = none
  bsz : X.base.objs.size ≤ X.s₀.heap.objs.size
  noex : ∀ b o, X.base.get? b = some o → b ∉ X.ex
  exfs : ∀ b ∈ X.ex, b ∉ X.fs
  funs : X.s₀.heap.FunFrames X.base X.outer
  frf : ∀ b ∈ X.fs, X.H₀ b = none

structure Inv (X : Cx) (pins : List (Addr × Obj)) (σ : List (Option V)) (H : Hp) (s : Shared) : Prop where
  ok : X.Ok
  os : s.os = X.s₀.os
  bare : AllBare s.gens
  base : Un X.fs X.ex X.H₀ H X.s₀.heap s.heap
  loc : ∃ m, s.heap.Ns X.env.locals m ∧ ∀ (i : Nat) (x : Str) (v : V), X.N[i]? = some x → σ[i]? = some (some v) → Vis X.env.scope x → ∃ u, RelV v u ∧ Look X.env s.heap m x u
  cell : ∀ x c, X.env.cells.lookup x = some c → ∃ v, s.heap.IsCell c v
  free : H X.env.locals = none
  freeC : ∀ x c, X.env.cells.lookup x = some c → H c = none
  pin : ∀ p ∈ X.pn ++ pins, s.heap.get? p.1 = some p.2 ∧ H p.1 = none ∧ p.1 ≠ X.env.locals ∧ p.1 ∉ X.fs ∧ ∀ v, p.2.data ≠ .cell v
  hok : HOk X.prog X.w H s.heap
  len : σ.length = X.N.length

section
variable {X : Cx} {pins : List (Addr × Obj)} {σ : List (Option V)} {H H' : Hp} {s : Shared} {h' : Heap}

theorem Cx.Ok.nofr (ok : X.Ok) {b : Addr} {o : Obj} (e : X.base.get? b = some o) : b ∉ X.fs := fun hb => by
  have := (ok.funs.mem hb).1
  rw [e] at this; cases this
theorem Inv.bs (I : Inv X pins σ H s) : ∀ b o, X.base.get? b = some o → s.heap.get? b = some o ∧ H b = none := fun b o e =>
  ⟨I.base.keep b o (I.ok.bs b o e).1 (I.ok.bs b o e).2 (I.ok.nofr e) (I.ok.noex b o e), I.base.free b o (I.ok.bs b o e).1 (I.ok.bs b o e).2 (I.ok.noex b o e)⟩
theorem Inv.bk (I : Inv X pins σ H s) : ∀ b o, X.base.get? b = some o → s.heap.get? b = some o := fun b o e => (I.bs b o e).1
theorem Inv.mod (I : Inv X pins σ H s) : Mod X.K X.mg X.base := I.ok.mod
theorem Inv.kIn (I : Inv X pins σ H s) : X.K.In s.heap := I.ok.mod.kin.keeps I.bk
theorem Inv.nolimit (I : Inv X pins σ H s) : s.heap.NoLimit := I.ok.mod.nolimit.keeps I.bk
/-- the frame over the base: for OpenK's rules (K.In X.base is I.mod.kin) -/
theorem Inv.fr (I : Inv X pins σ H s) : ∃ m, Fr X.base X.env.locals s.heap m :=
  let ⟨m, hn, _⟩ := I.loc
  ⟨m, hn, I.bk, Nat.le_trans I.ok.bsz I.ok.above⟩
theorem Inv.lt (I : Inv X pins σ H s) : X.env.locals < s.heap.objs.size := let ⟨_, hn, _⟩ := I.loc; hn.lt
theorem Inv.sz (I : Inv X pins σ H s) : X.s₀.heap.objs.size ≤ s.heap.objs.size := Nat.le_trans I.ok.above (Nat.le_of_lt I.lt)
theorem Inv.nofs (I : Inv X pins σ H s) {a : Addr} (h : s.heap.objs.size ≤ a) : a ∉ X.fs := fun hb => by
  obtain ⟨_, o, ho, _⟩ := I.ok.funs.mem hb
  exact absurd (Nat.lt_of_lt_of_le (Heap.lt_size ho) (Nat.le_trans I.sz h)) (Nat.lt_irrefl _)
theorem Inv.cne (I : Inv X pins σ H s) : ∀ x c, X.env.cells.lookup x = some c → c ≠ X.env.locals := fun x c e z => by
  obtain ⟨v, o, ho, hd⟩ := I.cell x c e
  obtain ⟨m, ⟨o', es, ep, ho', hd', _⟩, _⟩ := I.loc
  rw [z, ho'] at ho; cases ho; rw [hd'] at hd; cases hd
theorem Inv.funs (I : Inv X pins σ H s) : s.heap.FunFrames X.base X.outer := by
  have all : ∀ (l : List Env), (∀ b ∈ frs l, b ∈ X.fs) → X.s₀.heap.FunFrames X.base l → s.heap.FunFrames X.base l := by
    intro l
    induction l with
    | nil => intro _ _; trivial
    | cons env r ih =>
      intro hs hl
      obtain ⟨hk, ⟨L, o, hf, hn, ho, hd⟩, hr⟩ := hl
      have hL : L ∈ X.fs := hs L (by unfold frs; rw [List.filterMap_cons, hf]; exact List.mem_cons_self)
      obtain ⟨sl, e⟩ := I.base.slot L o ho (I.ok.frf L hL) hL fun z => I.ok.exfs L z hL
      exact ⟨hk, ⟨L, _, hf, hn, e, hd⟩, ih (fun b hb => hs b (by unfold frs; rw [List.filterMap_cons, hf]; exact List.mem_cons_of_mem _ hb)) hr⟩
  exact all X.outer (fun _ hb => hb) I.ok.funs

/-- the frames that run, for a call -/
theorem Inv.stack (I : Inv X pins σ H s) : s.heap.FunFrames X.base X.stack := by
  rcases I.ok.stk with e | ⟨e, hf⟩
  · rw [e]; exact I.funs
  · rw [e]
    obtain ⟨m, hn, _⟩ := I.loc
    refine .cons (by rw [I.ok.kind]; decide) hf hn ?_ I.funs
    exact Heap.get?_none_of_le (Nat.le_trans I.ok.bsz I.ok.above)
theorem Inv.stkSub (I : Inv X pins σ H s) : ∀ b ∈ frs X.stack, b ∈ X.env.locals :: X.fs := fun b hb => by
  rcases I.ok.stk with e | ⟨e, hf⟩
  · rw [e] at hb; exact List.mem_cons_of_mem _ hb
  · rw [e] at hb
    unfold frs at hb
    rw [List.filterMap_cons, hf] at hb
    exact hb
theorem Inv.stkFree (I : Inv X pins σ H s) : ∀ b ∈ frs X.stack, H b = none := fun b hb => by
  rcases List.mem_cons.mp (I.stkSub b hb) with e | hb
  · rw [e]; exact I.free
  · obtain ⟨_, o, ho, _⟩ := I.ok.funs.mem hb
    exact I.base.free b o ho (I.ok.frf b hb) fun z => I.ok.exfs b z hb

/-- THE STEP: the untracked objects but the frame and the records at ch are kept (the callers' frames up to slots), the frame's map is kept, the new abstract heap is held -/
theorem Inv.step {g' : Array GenState} {t' : Nat} {d' : Drawn} {ch : List Addr} (I : Inv X pins σ H s)
    (hch : ∀ b ∈ ch, (b ∈ X.ex ∨ X.s₀.heap.objs.size ≤ b) ∧ b ≠ X.env.locals ∧ (∀ x c, X.env.cells.lookup x = some c → c ≠ b) ∧ ∀ p ∈ X.pn ++ pins, p.1 ≠ b)
    (keep : ∀ b o, b ≠ X.env.locals → b ∉ X.fs → b ∉ ch → s.heap.get? b = some o → H b = none → h'.get? b = some o)
    (slot : ∀ b o, b ≠ X.env.locals → b ∈ X.fs → b ∉ ch → s.heap.get? b = some o → H b = none → ∃ sl, h'.get? b = some { o with slots := sl }) (free : ∀ b o, b ∉ ch → s.heap.get? b = some o → H b = none → H' b = none)
    (there : ∀ b o, b ∉ ch → s.heap.get? b = some o → ∃ o', h'.get? b = some o')
    (tups : ∀ b xs, H b = some (.tup xs) → H' b = some (.tup xs)) (frzs : ∀ b o u, H b = some (.frz o u) → H' b = some (.frz o u)) (tbls : ∀ b ps, H b = some (.tbl ps) → ∃ more, H' b = some (.tbl (ps ++ more)))
    (ns : ∀ m, s.heap.Ns X.env.locals m → h'.Ns X.env.locals m) (hok : HOk X.prog X.w H' h') (hg : AllBare g') :
    Inv X pins σ H' { s with heap := h', gens := g', drawn := d', toks := t' } := by
  have neL : ∀ b o, X.s₀.heap.get? b = some o → b ≠ X.env.locals := fun b o e => Nat.ne_of_lt (Nat.lt_of_lt_of_le (Heap.lt_size e) I.ok.above)
  have neC : ∀ b o, X.s₀.heap.get? b = some o → b ∉ X.ex → b ∉ ch := fun b o e hx hb => by
    rcases (hch b hb).1 with z | z
    · exact hx z
    · exact absurd (Nat.lt_of_lt_of_le (Heap.lt_size e) z) (Nat.lt_irrefl _)
  have cellK : ∀ x c, X.env.cells.lookup x = some c → ∀ v, s.heap.IsCell c v → h'.IsCell c v := fun x c e v ⟨o, ho, hd⟩ => by
    have nch : c ∉ ch := fun z => (hch c z).2.2.1 x c e rfl
    by_cases hc : c ∈ X.fs
    · obtain ⟨sl, q⟩ := slot c o (I.cne x c e) hc nch ho (I.freeC x c e)
      exact ⟨_, q, hd⟩
    · exact ⟨o, keep c o (I.cne x c e) hc nch ho (I.freeC x c e), hd⟩
  refine ⟨I.ok, I.os, hg, ⟨fun b o e n hb hx => ?_, fun b o e n hb hx => ?_, fun b o e n hx => ?_, fun b o e hx => ?_, fun b xs e => tups b xs (I.base.tups b xs e), fun b o xs e => frzs b o xs (I.base.frzs b o xs e), fun b ps e => ?_⟩, ?_, fun x c e => ?_, ?_, fun x c e => ?_, fun p hp => ?_, hok, I.len⟩
  · exact keep b o (neL b o e) hb (neC b o e hx) (I.base.keep b o e n hb hx) (I.base.free b o e n hx)
  · obtain ⟨sl, e1⟩ := I.base.slot b o e n hb hx
    obtain ⟨sl', e2⟩ := slot b _ (neL b o e) hb (neC b o e hx) e1 (I.base.free b o e n hx)
    exact ⟨sl', e2⟩
  · obtain ⟨o', e1⟩ := I.base.there b o e hx
    exact free b o' (neC b o e hx) e1 (I.base.free b o e n hx)
  · obtain ⟨o', e1⟩ := I.base.there b o e hx
    exact there b o' (neC b o e hx) e1
  · obtain ⟨m1, e1⟩ := I.base.tbls b ps e
    obtain ⟨m2, e2⟩ := tbls b _ e1
    exact ⟨m1 ++ m2, by rw [e2, Array.append_assoc]⟩
  · obtain ⟨m, hn, hl⟩ := I.loc
    refine ⟨m, ns m hn, fun i x v e1 e2 e3 => ?_⟩
    obtain ⟨u, r, l⟩ := hl i x v e1 e2 e3
    refine ⟨u, r, ?_⟩
    rcases l with l | ⟨k, c, e, z⟩
    · exact .inl l
    · exact .inr ⟨k, c, e, cellK x c e _ z⟩
  · obtain ⟨v, z⟩ := I.cell x c e
    exact ⟨v, cellK x c e v z⟩
  · obtain ⟨m, ⟨o, _, _, ho, _⟩, _⟩ := I.loc
    exact free _ o (fun z => (hch _ z).2.1 rfl) ho I.free
  · obtain ⟨v, o, ho, hd⟩ := I.cell x c e
    exact free c o (fun z => (hch c z).2.2.1 x c e rfl) ho (I.freeC x c e)
  · obtain ⟨e, n, ne, nf, d⟩ := I.pin p hp
    have nch : p.1 ∉ ch := fun z => (hch p.1 z).2.2.2 p hp rfl
    exact ⟨keep p.1 p.2 ne nf nch e n, free p.1 p.2 nch e n, ne, nf, d⟩
/-- .. where the frame's own object is kept too -/
theorem Inv.un {t' : Nat} (I : Inv X pins σ H s) (u : Un X.fs [] H H' s.heap h') (hok : HOk X.prog X.w H' h') : Inv X pins σ H' { s with heap := h', toks := t' } := by
  obtain ⟨m, ⟨o, es, ep, ho, r⟩, _⟩ := id I.loc
  obtain ⟨sl, hL⟩ := u.any ho I.free (by simp)
  exact I.step (g' := s.gens) (d' := s.drawn) (ch := []) (fun _ z => nomatch z) (fun b o _ hb _ e n => u.keep b o e n hb (by simp)) (fun b o _ hb _ e n => u.slot b o e n hb (by simp)) (fun b o _ e n => u.free b o e n (by simp)) (fun b o _ e => u.there b o e (by simp)) u.tups u.frzs u.tbls (fun m' hm => by
    obtain ⟨o', es', ep', ho', r'⟩ := hm
    rw [ho] at ho'; cases ho'
    exact ⟨_, es', ep', hL, r'⟩) hok I.bare
/-- behind a call (or a comprehension's block): the slots of this frame may have changed too, the records at ch may have turned -/
theorem Inv.call {g' : Array GenState} {t' : Nat} {d' : Drawn} {ch : List Addr} (I : Inv X pins σ H s) (u : Un (frs X.stack) ch H H' s.heap h') (hok : HOk X.prog X.w H' h') (hg : AllBare g')
    (hch : ∀ b ∈ ch, (b ∈ X.ex ∨ X.s₀.heap.objs.size ≤ b) ∧ b ≠ X.env.locals ∧ (∀ x c, X.env.cells.lookup x = some c → c ≠ b) ∧ ∀ p ∈ X.pn ++ pins, p.1 ≠ b) :
    Inv X pins σ H' { s with heap := h', gens := g', drawn := d', toks := t' } := by
  obtain ⟨m, ⟨o, es, ep, ho, r⟩, _⟩ := id I.loc
  obtain ⟨sl, hL⟩ := u.any ho I.free fun z => (hch _ z).2.1 rfl
  exact I.step (ch := ch) hch (fun b o hL hb hc e n => u.keep b o e n (fun z => (List.mem_cons.mp (I.stkSub b z)).elim hL hb) hc) (fun b o _ _ hc e n => u.any e n hc) (fun b o hc e n => u.free b o e n hc) (fun b o hc e => u.there b o e hc) u.tups u.frzs u.tbls (fun m' hm => by
    obtain ⟨o', es', ep', ho', r'⟩ := hm
    rw [ho] at ho'; cases ho'
    exact ⟨_, es', ep', hL, r'⟩) hok hg
/-- an untracked record of ours (an iterator) has turned -/
theorem Inv.turned {t' : Nat} {it : Addr} (I : Inv X pins σ H s) (k : ∀ b o, b ≠ it → s.heap.get? b = some o → h'.get? b = some o) (hn : H it = none) (hL : it ≠ X.env.locals)
    (h1 : it ∈ X.ex ∨ X.s₀.heap.objs.size ≤ it) (h2 : ∀ x c, X.env.cells.lookup x = some c → c ≠ it) (h3 : ∀ p ∈ X.pn ++ pins, p.1 ≠ it) : Inv X pins σ H { s with heap := h', toks := t' } := by
  have nit : ∀ b u, H b = some u → b ≠ it := fun b u e z => by rw [z, hn] at e; cases e
  refine I.step (g' := s.gens) (d' := s.drawn) (ch := [it]) (fun b hb => ?_) (fun b o _ _ hc e _ => k b o (fun z => hc (by simp [z])) e) (fun b o _ _ hc e _ => ⟨o.slots, k b o (fun z => hc (by simp [z])) e⟩) (fun _ _ _ _ n => n)
    (fun b o hc e => ⟨o, k b o (fun z => hc (by simp [z])) e⟩) (fun _ _ e => e) (fun _ _ _ e => e) (fun b ps e => ⟨#[], by rw [e]; simp⟩) (fun m hm => ?_) (fun b u e => ?_) I.bare
  · have e : b = it := by simpa using hb
    subst e
    exact ⟨h1, hL, h2, h3⟩
  · obtain ⟨o, es, ep, ho, r⟩ := hm
    exact ⟨o, es, ep, k _ o (Ne.symm hL) ho, r⟩
  · refine (I.hok b u e).stay (fun c v hc q => k c v ?_ q) (fun _ q => q) fun _ _ q => q
    rcases hc with z | z
    · rw [z]; exact nit b u e
    · exact nit c _ z
theorem Inv.tok (I : Inv X pins σ H s) (t : Nat) : Inv X pins σ H { s with toks := t } := I.un (h' := s.heap) (t' := t) Un.refl I.hok
/-- all objects kept -/
theorem Inv.kept {t' : Nat} (I : Inv X pins σ H s) (k : ∀ b u, s.heap.get? b = some u → h'.get? b = some u) : Inv X pins σ H { s with heap := h', toks := t' } := I.un (Un.kept k) (I.hok.kept k)
/-- a new object laid and tracked -/
theorem Inv.laid {a : Addr} {o : HO} {t' : Nat} (I : Inv X pins σ H s) (k : ∀ b u, s.heap.get? b = some u → h'.get? b = some u) (hp : s.heap.objs.size ≤ a) (new : ObjOk X.prog X.w (upd H a o) h' a o) :
    Inv X pins σ (upd H a o) { s with heap := h', toks := t' } := I.un (Un.laid k hp (I.hok.fresh hp)) (I.hok.laid k hp new)
/-- an object written -/
theorem Inv.write {x e : Addr} {o : HO} {t' : Nat} (I : Inv X pins σ H s) (mu : Mut (H x)) (he : e = x ∨ H e = some (.own x)) (k : ∀ b u, b ≠ e → s.heap.get? b = some u → h'.get? b = some u) (heo : ∃ u, h'.get? e = some u)
    (new : ObjOk X.prog X.w (upd H x o) h' x o) : Inv X pins σ (upd H x o) { s with heap := h', toks := t' } := I.un (Un.write mu he k heo) (I.hok.write mu he k heo new)
theorem Inv.pins_of {pins' : List (Addr × Obj)} (I : Inv X pins σ H s) (h : ∀ p ∈ pins', s.heap.get? p.1 = some p.2 ∧ H p.1 = none ∧ p.1 ≠ X.env.locals ∧ p.1 ∉ X.fs ∧ ∀ v, p.2.data ≠ .cell v) : Inv X pins' σ H s :=
  ⟨I.ok, I.os, I.bare, I.base, I.loc, I.cell, I.free, I.freeC, fun p hp => (List.mem_append.mp hp).elim (fun z => I.pin p (List.mem_append_left _ z)) (h p), I.hok, I.len⟩

theorem nodup_ix {N : List Str} (hN : N.Nodup) {i j : Nat} {x : Str} (a : N[i]? = some x) (b : N[j]? = some x) : i = j := by
  obtain ⟨h1, e1⟩ := List.getElem?_eq_some_iff.mp a
  obtain ⟨h2, e2⟩ := List.getElem?_eq_some_iff.mp b
  exact (List.getElem_inj hN).mp (e1.trans e2.symm)

/-- a name is stored; what changed -/
theorem store_ok2 {M : Model} {A : Around} {E : Value → Shared → Prop} {i : Nat} {x : Str} {v : V} {u : Value} {Q : Unit → Shared → Prop} (I : Inv X pins σ H s) (hN : X.N.Nodup) (hi : X.N[i]? = some x) (hx : Loc X.env.scope x) (r : RelV v u)
    (h : ∀ s', Inv X pins (σ.set i (some v)) H s' → (∃ a, Heap.SameBut a s.heap s'.heap ∧ (a = X.env.locals ∨ X.env.cells.lookup x = some a)) → Q () s') (hf : X.fn x = true ∨ X.env.scope.names.lookup x = some .local := by first | exact .inl rfl | exact .inr rfl | assumption) : wpAny M A (storeName X.env x u) Q E s := by
  obtain ⟨m, hn, hl⟩ := id I.loc
  have hcls : (X.env.scope.kind == .class || (X.env.scope.kind == .module && X.env.locals != X.env.globals)) = false := by rw [I.ok.kind]; rfl
  have hiσ : i < σ.length := by rw [I.len]; exact (List.getElem?_eq_some_iff.mp hi).1
  have cne := I.cne
  have tracked : ∀ {a : Addr} {h' : Heap}, (∃ o, s.heap.get? a = some o ∧ H a = none) → Heap.SameBut a s.heap h' → HOk X.prog X.w H h' := fun {a h'} ha hs b ob e => by
    obtain ⟨_, _, hfree⟩ := ha
    refine (I.hok b ob e).stay (fun c w' hc q => (hs.2 c ?_).trans q) (fun _ q => q) fun _ _ q => q
    rintro rfl
    rcases hc with rfl | hc
    · rw [hfree] at e; cases e
    · rw [hfree] at hc; cases hc
  rcases hx with hk | hk
  · refine wpAny_storeName_local hk hn (fun h' hn' hs => ?_) hcls
    obtain ⟨oL, _, _, hoL, _⟩ := id hn
    refine h _ ⟨I.ok, I.os, I.bare, ⟨fun b o e n hb hx => ?_, fun b o e n hb hx => ?_, I.base.free, fun b o e hx => ?_, I.base.tups, I.base.frzs, I.base.tbls⟩, ⟨_, hn', fun j y v' e1 e2 e3 => ?_⟩, fun y c e => ?_, I.free, I.freeC, fun p hp => ?_, tracked ⟨oL, hoL, I.free⟩ hs, by simpa using I.len⟩ ⟨_, hs, .inl rfl⟩
    · exact (hs.2 b (Nat.ne_of_lt (Nat.lt_of_lt_of_le (Heap.lt_size e) I.ok.above))).trans (I.base.keep b o e n hb hx)
    · obtain ⟨sl, e1⟩ := I.base.slot b o e n hb hx
      exact ⟨sl, (hs.2 b (Nat.ne_of_lt (Nat.lt_of_lt_of_le (Heap.lt_size e) I.ok.above))).trans e1⟩
    · obtain ⟨o', e1⟩ := I.base.there b o e hx
      exact ⟨o', (hs.2 b (Nat.ne_of_lt (Nat.lt_of_lt_of_le (Heap.lt_size e) I.ok.above))).trans e1⟩
    · by_cases hj : j = i
      · subst hj
        rw [hi] at e1; cases e1
        rw [List.getElem?_set_self hiσ] at e2
        cases e2
        exact ⟨u, r, .inl ⟨hk, by simp⟩⟩
      · rw [List.getElem?_set_ne (Ne.symm hj)] at e2
        obtain ⟨u', r', q⟩ := hl j y v' e1 e2 e3
        refine ⟨u', r', ?_⟩
        rcases q with ⟨k, e⟩ | ⟨k, c, e, z⟩
        · refine .inl ⟨k, ?_⟩
          have : y ≠ x := fun e => hj (nodup_ix hN e1 (e ▸ hi))
          simp [this, e]
        · exact .inr ⟨k, c, e, z.sameBut hs (cne y c e)⟩
    · obtain ⟨w', z⟩ := I.cell y c e
      exact ⟨w', z.sameBut hs (cne y c e)⟩
    · obtain ⟨e, n, ne, nf, d⟩ := I.pin p hp
      exact ⟨(hs.2 p.1 ne).trans e, n, ne, nf, d⟩
  · have hfn : X.fn x = true := by
      rcases hf with z | z
      · exact z
      · rw [z] at hk; cases hk
    obtain ⟨c, hc⟩ := I.ok.has x (.inl hk)
    obtain ⟨w', z⟩ := I.cell x c hc
    refine wpAny_storeName_cell I.ok.kind hk hc z (fun h' hc' hs => ?_)
    obtain ⟨oc, hoc, hocd⟩ := id z
    refine h { s with heap := h' } ⟨I.ok, I.os, I.bare, ⟨fun b o e n hb hx => ?_, fun b o e n hb hx => ?_, I.base.free, fun b o e hx => ?_, I.base.tups, I.base.frzs, I.base.tbls⟩, ⟨m, hn.sameBut hs (Ne.symm (cne x c hc)), fun j y v' e1 e2 e3 => ?_⟩, fun y c' e => ?_, I.free, I.freeC, fun p hp => ?_, tracked ⟨oc, hoc, I.freeC x c hc⟩ hs, by simpa using I.len⟩ ⟨c, hs, .inr hc⟩
    · exact (hs.2 b (Nat.ne_of_lt (Nat.lt_of_lt_of_le (Heap.lt_size e) (I.ok.cab x c hfn hc)))).trans (I.base.keep b o e n hb hx)
    · obtain ⟨sl, e1⟩ := I.base.slot b o e n hb hx
      exact ⟨sl, (hs.2 b (Nat.ne_of_lt (Nat.lt_of_lt_of_le (Heap.lt_size e) (I.ok.cab x c hfn hc)))).trans e1⟩
    · obtain ⟨o', e1⟩ := I.base.there b o e hx
      exact ⟨o', (hs.2 b (Nat.ne_of_lt (Nat.lt_of_lt_of_le (Heap.lt_size e) (I.ok.cab x c hfn hc)))).trans e1⟩
    · by_cases hj : j = i
      · subst hj
        rw [hi] at e1; cases e1
        rw [List.getElem?_set_self hiσ] at e2
        cases e2
        exact ⟨u, r, .inr ⟨.inl hk, c, hc, hc'⟩⟩
      · rw [List.getElem?_set_ne (Ne.symm hj)] at e2
        obtain ⟨u', r', q⟩ := hl j y v' e1 e2 e3
        refine ⟨u', r', ?_⟩
        rcases q with q | ⟨k, c', e, z'⟩
        · exact .inl q
        · refine .inr ⟨k, c', e, z'.sameBut hs ?_⟩
          rintro rfl
          exact hj (nodup_ix hN e1 (I.ok.inj _ _ _ e hc ▸ hi))
    · by_cases hcc : c' = c
      · subst hcc; exact ⟨_, hc'⟩
      · obtain ⟨w2, z2⟩ := I.cell y c' e
        exact ⟨w2, z2.sameBut hs hcc⟩
    · obtain ⟨e, n, ne, nf, d⟩ := I.pin p hp
      refine ⟨(hs.2 p.1 ?_).trans e, n, ne, nf, d⟩
      intro q
      rw [q, hoc] at e
      have q' : oc = p.2 := Option.some.inj e
      exact d w' (by rw [← q']; exact hocd)
theorem store_ok {M : Model} {A : Around} {E : Value → Shared → Prop} {i : Nat} {x : Str} {v : V} {u : Value} {Q : Unit → Shared → Prop} (I : Inv X pins σ H s) (hN : X.N.Nodup) (hi : X.N[i]? = some x) (hx : Loc X.env.scope x) (r : RelV v u)
    (h : ∀ s', Inv X pins (σ.set i (some v)) H s' → Q () s') (hf : X.fn x = true ∨ X.env.scope.names.lookup x = some .local := by first | exact .inl rfl | exact .inr rfl | assumption) : wpAny M A (storeName X.env x u) Q E s :=
  store_ok2 I hN hi hx r (fun s' I' _ => h s' I') hf
/-- behind a call or a block, the state as it is -/
theorem Inv.call' {s' : Shared} {ch : List Addr} (I : Inv X pins σ H s) (ho : s'.os = s.os) (u : Un (frs X.stack) ch H H' s.heap s'.heap) (hok : HOk X.prog X.w H' s'.heap) (hg : AllBare s'.gens)
    (hch : ∀ b ∈ ch, (b ∈ X.ex ∨ X.s₀.heap.objs.size ≤ b) ∧ b ≠ X.env.locals ∧ (∀ x c, X.env.cells.lookup x = some c → c ≠ b) ∧ ∀ p ∈ X.pn ++ pins, p.1 ≠ b) : Inv X pins σ H' s' := by
  obtain ⟨h', g', d', t', o'⟩ := s'
  have e : o' = s.os := ho
  subst e
  exact I.call (g' := g') (t' := t') (d' := d') u hok hg hch
end

/-! ### the judgements -/
/-- an exception: its class, its own dict's address (where it has one), the abstract heap behind it -/
abbrev XK := Value → Option Addr → Hp → Prop
abbrev St := List (Option V)
abbrev VK := V → Hp → Prop
/-- an expression's reading; a test's; an argument list's -/
abbrev TE := St → Hp → VK → Prop
abbrev TT := St → Hp → (Bool → Hp → Prop) → Prop
abbrev TA := St → Hp → (List V → Hp → Prop) → Prop
/-- what is wanted behind a statement -/
structure Ends where
  nx : St → Hp → Prop
  rt : VK
  bk : St → Hp → Prop := fun _ _ => False
  ct : St → Hp → Prop := fun _ _ => False
abbrev TS := Ends → St → Hp → Prop

def EP (X : Cx) (pins : List (Addr × Obj)) (σ : St) (Q : VK) (u : Value) (s' : Shared) : Prop := ∃ v H', Inv X pins σ H' s' ∧ RelV v u ∧ Q v H'
def TP (X : Cx) (pins : List (Addr × Obj)) (σ : St) (Q : Bool → Hp → Prop) (b : Bool) (s' : Shared) : Prop := ∃ H', Inv X pins σ H' s' ∧ Q b H'
def AP (X : Cx) (pins : List (Addr × Obj)) (σ : St) (Q : List V → Hp → Prop) (us : List Value) (s' : Shared) : Prop := ∃ vs H', Inv X pins σ H' s' ∧ Vals vs us ∧ Q vs H'
def SP (X : Cx) (pins : List (Addr × Obj)) (D : Ends) (f : Flow) (s' : Shared) : Prop :=
  match f with
  | .next => ∃ σ' H', Inv X pins σ' H' s' ∧ D.nx σ' H'
  | .brk => ∃ σ' H', Inv X pins σ' H' s' ∧ D.bk σ' H'
  | .cont => ∃ σ' H', Inv X pins σ' H' s' ∧ D.ct σ' H'
  | .ret u => ∃ v σ' H', Inv X pins σ' H' s' ∧ RelV v u ∧ D.rt v H'

def PE (X : Cx) (e : Expr) (t : TE) : Prop :=
  ∀ (pins : List (Addr × Obj)) (s : Shared) (σ : St) (H : Hp) (Q : VK), Inv X pins σ H s → t σ H Q → wpAny (model X.prog X.w) X.A (eval e X.env) (EP X pins σ Q) X.xe s
def PT (X : Cx) (e : Expr) (t : TT) : Prop :=
  ∀ (pins : List (Addr × Obj)) (s : Shared) (σ : St) (H : Hp) (Q : Bool → Hp → Prop), Inv X pins σ H s → t σ H Q → wpAny (model X.prog X.w) X.A (isTrue e X.env (eval e X.env)) (TP X pins σ Q) X.xe s
/-- a test whatever its 'whole' is (and, or) -/
def PW (X : Cx) (e : Expr) (t : TT) : Prop :=
  ∀ (whole : Sem Value) (pins : List (Addr × Obj)) (s : Shared) (σ : St) (H : Hp) (Q : Bool → Hp → Prop), Inv X pins σ H s → t σ H Q → wpAny (model X.prog X.w) X.A (isTrue e X.env whole) (TP X pins σ Q) X.xe s
theorem PW.pt {X : Cx} {e : Expr} {t : TT} (h : PW X e t) : PT X e t := h _
/-- an argument list (no star), from the left -/
def PA (X : Cx) (es : List Expr) (t : TA) : Prop :=
  ∀ (pos : Pos) (pins : List (Addr × Obj)) (s : Shared) (σ : St) (H : Hp) (Q : List V → Hp → Prop), Inv X pins σ H s → t σ H Q → wpAny (model X.prog X.w) X.A (spliced (backTo pos (starEach es X.env))) (AP X pins σ Q) X.xe s
def PS (X : Cx) (st : Stmt) (t : TS) : Prop :=
  ∀ (pins : List (Addr × Obj)) (s : Shared) (σ : St) (H : Hp) (D : Ends), Inv X pins σ H s → t D σ H → wpAny (model X.prog X.w) X.A (exec st X.env) (SP X pins D) X.xe s
def PSs (X : Cx) (st : List Stmt) (t : TS) : Prop :=
  ∀ (pins : List (Addr × Obj)) (s : Shared) (σ : St) (H : Hp) (D : Ends), Inv X pins σ H s → t D σ H → wpAny (model X.prog X.w) X.A (execs st X.env) (SP X pins D) X.xe s
/-- weaken the end -/
theorem thn {α : Type} {t : Sem α} {Q Q' : α → Shared → Prop} {M : Model} {A : Around} {E : Value → Shared → Prop} {s : Shared} (h : wpAny M A t Q E s) (hQ : ∀ a s, Q a s → Q' a s) : wpAny M A t Q' E s := wpAny_mono h hQ fun _ _ x => x
end L2

namespace L2
open PySem PySem.Spec PyProof.Rows
section
variable {X : Cx}

/-! ### names and constants -/
def tVar (i : Nat) : TE := fun σ H Q => ∃ v, σ[i]? = some (some v) ∧ Q v H
def tC (v : V) : TE := fun _ H Q => Q v H
theorem pe_var {i : Nat} {x : Str} {pos : Pos} (hN : X.N[i]? = some x) (hv : Vis X.env.scope x) (hd : (x == ("__debug__" : Str)) = false := by decide) (hcd : (x == ("__classdict__" : Str)) = false := by decide) : PE X (.Name x pos) (tVar i) := by
  intro pins s σ H Q I h
  obtain ⟨v, e, h⟩ := h
  obtain ⟨m, hn, hl⟩ := I.loc
  obtain ⟨u, r, l⟩ := hl i x v hN e hv
  have fin : EP X pins σ Q u s := ⟨v, H, I, r, h⟩
  rcases l with ⟨hk, hm⟩ | ⟨hk, c, hc, hcell⟩
  · exact wpAny_Name (wpAny_loadName_local I.ok.kind hk hn hm fin) hd
  · rcases hk with hk | hk
    · exact wpAny_Name (wpAny_loadName_cell I.ok.kind hk hc hcell fin) hd
    · exact wpAny_Name (wpAny_loadName_free I.ok.kind hk hc hcell fin hcd) hd
theorem pe_int {i j pos} : PE X (.Constant (.int i) j pos) (tC (.int i)) := fun _ _ _ H _ I h => wpAny_Constant_int ⟨.int i, H, I.tok _, ⟨_, rfl⟩, h⟩
theorem pe_bl {b j pos} : PE X (.Constant (.bool b) j pos) (tC (.bl b)) := fun _ _ _ H _ I h => Constant_bool ⟨.bl b, H, I, rfl, h⟩
theorem pe_non {j pos} : PE X (.Constant .none j pos) (tC .non) := fun _ _ _ H _ I h => Constant_none ⟨.non, H, I, rfl, h⟩
theorem pe_str {x j pos} : PE X (.Constant (.str x) j pos) (tC (.str x)) := fun _ _ _ H _ I h => Calls.Constant_str ⟨.str x, H, I.tok _, ⟨_, rfl⟩, h⟩

/-- a global name of the def -/
def Gl (X : Cx) (x : Str) : Prop := X.env.kindOf x = some .globalImplicit
theorem ld_glob {E : Value → Shared → Prop} {pins : List (Addr × Obj)} {s : Shared} {σ : St} {H : Hp} {x : Str} {u : Value} {pos : Pos} {Q : Value → Shared → Prop} (I : Inv X pins σ H s) (hg : Gl X x) (hm : X.mg x = some u) (h : Q u s)
    (hd : (x == ("__debug__" : Str)) = false := by decide) : wpAny (model X.prog X.w) X.A (eval (.Name x pos) X.env) Q E s :=
  Calls.Name_function_global I.ok.kind hg (Calls.loadGlobal_global (by rw [I.ok.glob]; exact I.mod.glob.keeps I.bk) hm h) hd
theorem ld_blt {E : Value → Shared → Prop} {pins : List (Addr × Obj)} {s : Shared} {σ : St} {H : Hp} {x : Str} {u : Value} {pos : Pos} {Q : Value → Shared → Prop} (I : Inv X pins σ H s) (hg : Gl X x) (hm : X.mg x = none) (hv : bootBuiltins x = some u) (h : Q u s)
    (hn : x ≠ "__name__" := by decide) (hd : (x == ("__debug__" : Str)) = false := by decide) : wpAny (model X.prog X.w) X.A (eval (.Name x pos) X.env) Q E s := by
  obtain ⟨mb, h1, h2⟩ := I.mod.blt
  exact Calls.Name_function_global I.ok.kind hg (Calls.loadGlobal_builtin (by rw [I.ok.glob]; exact I.mod.glob.keeps I.bk) hm (by rw [I.ok.blt]; exact h1.keeps I.bk) ((h2 x hn).trans hv) h) hd
theorem pe_bltn {x : Str} {v : V} {u : Value} {pos : Pos} (hg : Gl X x) (hm : X.mg x = none) (hv : bootBuiltins x = some u) (r : RelV v u) (hn : x ≠ "__name__" := by decide) (hd : (x == ("__debug__" : Str)) = false := by decide) : PE X (.Name x pos) (tC v) :=
  fun _ _ _ H _ I h => ld_blt I hg hm hv ⟨v, H, I, r, h⟩ hn hd

/-! ### arithmetic -/
/-- two ints -/
def t2I (ta tb : TE) (k : Int → Int → Hp → Prop) : St → Hp → Prop := fun σ H => ta σ H fun x H1 => tb σ H1 fun y H2 => ∃ i j, x = .int i ∧ y = .int j ∧ k i j H2
def tAdd (ta tb : TE) : TE := fun σ H Q => t2I ta tb (fun i j H2 => Q (.int (i + j)) H2) σ H
def tSub (ta tb : TE) : TE := fun σ H Q => t2I ta tb (fun i j H2 => Q (.int (i - j)) H2) σ H
/-- the left factor below 2^64 -/
def tMul (ta tb : TE) : TE := fun σ H Q => t2I ta tb (fun i j H2 => (-(2 ^ 64) < i ∧ i < 2 ^ 64) ∧ Q (.int (i * j)) H2) σ H
variable {a b : Expr} {ta tb : TE} {pos : Pos}
/-! ### comparisons -/
def PC (X : Cx) (op : CmpOp) (a b : Expr) (t : TE) : Prop :=
  ∀ (pins : List (Addr × Obj)) (s : Shared) (σ : St) (H : Hp) (Q : VK), Inv X pins σ H s → t σ H Q →
    wpAny (model X.prog X.w) X.A (eval a X.env) (fun v s₁ => wpAny (model X.prog X.w) X.A (eval b X.env) (fun u s₂ => wpAny (model X.prog X.w) X.A (compareOp op v u) (EP X pins σ Q) X.xe s₂) X.xe s₁) X.xe s
theorem nobehind (b : Expr) {op : CmpOp} (h : op ≠ .In) (h2 : op ≠ .NotIn) : behindInMarks op b = false := by
  have e1 : (op == CmpOp.In) = false := by cases op <;> first | rfl | exact absurd rfl h
  have e2 : (op == CmpOp.NotIn) = false := by cases op <;> first | rfl | exact absurd rfl h2
  cases b <;> simp [behindInMarks, e1, e2]
def tCmp (p : Int → Int → Bool) (ta tb : TE) : TE := fun σ H Q => t2I ta tb (fun i j H2 => Q (.bl (p i j)) H2) σ H
abbrev tLt : TE → TE → TE := tCmp fun i j => decide (i < j)
abbrev tLe : TE → TE → TE := tCmp fun i j => decide (i ≤ j)
abbrev tGt : TE → TE → TE := tCmp fun i j => decide (j < i)
abbrev tGe : TE → TE → TE := tCmp fun i j => decide (j ≤ i)
abbrev tEqI : TE → TE → TE := tCmp fun i j => decide (i = j)
abbrev tNeI : TE → TE → TE := tCmp fun i j => !decide (i = j)
/-- is None -/
def tIsN (ta : TE) : TE := fun σ H Q => ta σ H fun x H1 => Q (.bl (decide (x = .non))) H1
def tNotN (ta : TE) : TE := fun σ H Q => ta σ H fun x H1 => Q (.bl (!decide (x = .non))) H1
theorem RelV.none_iff {x : V} {v : Value} (r : RelV x v) : (v == Value.none) = decide (x = .non) := by
  cases x with
  | non => cases r; rfl
  | bl _ => cases r; rfl
  | int _ => obtain ⟨t, rfl⟩ := r; rfl
  | str _ => obtain ⟨t, rfl⟩ := r; rfl
  | byt _ => obtain ⟨t, rfl⟩ := r; rfl
  | flt _ => obtain ⟨t, rfl⟩ := r; rfl
  | ref _ => cases r; rfl
  | ty _ => cases r; rfl
theorem pc_isN {j pos'} (ha : PE X a ta) : PC X .Is a (.Constant .none j pos') (tIsN ta) := by
  intro pins s σ H Q I h
  refine thn (ha pins s σ H _ I h) fun v s1 ⟨x, H1, I1, r1, q1⟩ => ?_
  exact Constant_none (is_none_gen ⟨.bl _, H1, I1, by rw [r1.none_iff]; rfl, q1⟩)
theorem pc_notN {j pos'} (ha : PE X a ta) : PC X .IsNot a (.Constant .none j pos') (tNotN ta) := by
  intro pins s σ H Q I h
  refine thn (ha pins s σ H _ I h) fun v s1 ⟨x, H1, I1, r1, q1⟩ => ?_
  exact Constant_none (isnot_none_gen ⟨.bl _, H1, I1, by rw [r1.none_iff]; rfl, q1⟩)
/-- a comparison as a value, as a test -/
def tB (t : TE) : TT := fun σ H Q => t σ H fun x H1 => ∃ c, x = .bl c ∧ Q c H1
theorem pe_cmp {op : CmpOp} {t : TE} (h : PC X op a b t) (h1 : behindInMarks op b = false := by first | exact nobehind _ (by decide) (by decide) | rfl) : PE X (.Compare a [op] [b] pos) t := fun pins s σ H Q I hw => wpAny_Compare1 (h pins s σ H Q I hw) h1
theorem pt_cmp {op : CmpOp} {t : TE} (h : PC X op a b t) (h1 : behindInMarks op b = false := by first | exact nobehind _ (by decide) (by decide) | rfl) : PT X (.Compare a [op] [b] pos) (tB t) := by
  intro pins s σ H Q I hw
  refine wpAny_isTrue_Compare1 (thn (h pins s σ H _ I hw) fun v s1 h1 => thn h1 fun u s2 h2 => thn h2 fun c s3 ⟨x, H1, I1, r1, q1⟩ => ?_) h1
  obtain ⟨d, rfl, q⟩ := q1
  cases r1
  exact wpAny_truthy_bool ⟨H1, I1, q⟩
/-- an expression whose value is a bool, as a test -/
theorem pt_val {e : Expr} {t : TE} (h : PE X e t) (he : ∀ whole, isTrue e X.env whole = (do let v ← whole; standAt e.pos; holding [v] (truthy v)) := by intro _; rfl) : PT X e (tB t) := by
  intro pins s σ H Q I hw
  refine isTrue_plain (thn (h pins s σ H _ I hw) fun v s1 ⟨x, H1, I1, r1, q1⟩ => ?_) (he _)
  obtain ⟨d, rfl, q⟩ := q1
  cases r1
  exact wpAny_truthy_bool ⟨H1, I1, q⟩

/-! ### and, or, not -/
variable {tA tB' : TT} {rest : List Expr}
def tAnd (t u : TT) : TT := fun σ H Q => t σ H fun c H1 => if c = true then u σ H1 Q else Q false H1
def tOr (t u : TT) : TT := fun σ H Q => t σ H fun c H1 => if c = true then Q true H1 else u σ H1 Q
def tNot (t : TT) : TT := fun σ H Q => t σ H fun c H1 => Q (!c) H1
theorem pw_and1 (ha : PT X a tA) : PW X (.BoolOp .And [a] pos) tA := by
  intro wh pins s σ H Q I h
  refine isTrue_and (thn (ha pins s σ H Q I h) fun c s1 e => ?_)
  cases c with
  | true => exact isTrue_and_nil e
  | false => exact e
theorem pw_or1 (ha : PT X a tA) : PW X (.BoolOp .Or [a] pos) tA := by
  intro wh pins s σ H Q I h
  refine isTrue_or (thn (ha pins s σ H Q I h) fun c s1 e => ?_)
  cases c with
  | false => exact isTrue_or_nil e
  | true => exact e
theorem pw_and (ha : PT X a tA) (hb : PW X (.BoolOp .And (b :: rest) pos) tB') : PW X (.BoolOp .And (a :: b :: rest) pos) (tAnd tA tB') := by
  intro wh pins s σ H Q I h
  refine isTrue_and (thn (ha pins s σ H _ I h) fun c s1 ⟨H1, I1, q1⟩ => ?_)
  cases c with
  | true => exact hb wh pins s1 σ H1 Q I1 q1
  | false => exact ⟨H1, I1, q1⟩
theorem pw_or (ha : PT X a tA) (hb : PW X (.BoolOp .Or (b :: rest) pos) tB') : PW X (.BoolOp .Or (a :: b :: rest) pos) (tOr tA tB') := by
  intro wh pins s σ H Q I h
  refine isTrue_or (thn (ha pins s σ H _ I h) fun c s1 ⟨H1, I1, q1⟩ => ?_)
  cases c with
  | true => exact ⟨H1, I1, q1⟩
  | false => exact hb wh pins s1 σ H1 Q I1 q1
theorem pt_not (ha : PT X a tA) : PT X (.UnaryOp .Not a pos) (tNot tA) := by
  intro pins s σ H Q I h
  exact isTrue_not (ha pins s σ H (fun c H1 => Q (!c) H1) I h)
/-- .. as values (bools) -/
def tAndV (ta tb : TE) : TE := fun σ H Q => ta σ H fun x H1 => ∃ c, x = .bl c ∧ if c = true then tb σ H1 Q else Q (.bl false) H1
def tOrV (ta tb : TE) : TE := fun σ H Q => ta σ H fun x H1 => ∃ c, x = .bl c ∧ if c = true then Q (.bl true) H1 else tb σ H1 Q
def tNotV (ta : TE) : TE := fun σ H Q => ta σ H fun x H1 => ∃ c, x = .bl c ∧ Q (.bl (!c)) H1
theorem pe_one {op} {t : TE} (h : PE X a t) : PE X (.BoolOp op [a] pos) t := fun pins s σ H Q I hw => BoolOp_one (h pins s σ H Q I hw)
theorem pe_and (ha : PE X a ta) (hb : PE X (.BoolOp .And (b :: rest) pos) tb) : PE X (.BoolOp .And (a :: b :: rest) pos) (tAndV ta tb) := by
  intro pins s σ H Q I h
  refine BoolOp_and (thn (ha pins s σ H _ I h) fun v s1 ⟨x, H1, I1, r1, q1⟩ => ?_)
  obtain ⟨c, rfl, q1⟩ := q1
  cases r1
  refine wpAny_truthy_bool ?_
  cases c with
  | true => exact hb pins s1 σ H1 Q I1 q1
  | false => exact ⟨.bl false, H1, I1, rfl, q1⟩
theorem pe_or (ha : PE X a ta) (hb : PE X (.BoolOp .Or (b :: rest) pos) tb) : PE X (.BoolOp .Or (a :: b :: rest) pos) (tOrV ta tb) := by
  intro pins s σ H Q I h
  refine BoolOp_or (thn (ha pins s σ H _ I h) fun v s1 ⟨x, H1, I1, r1, q1⟩ => ?_)
  obtain ⟨c, rfl, q1⟩ := q1
  cases r1
  refine wpAny_truthy_bool ?_
  cases c with
  | false => exact hb pins s1 σ H1 Q I1 q1
  | true => exact ⟨.bl true, H1, I1, rfl, q1⟩
/-- a if t else b -/
def tIf (t : TT) (ta tb : TE) : TE := fun σ H Q => t σ H fun c H1 => if c = true then ta σ H1 Q else tb σ H1 Q
theorem pe_ifExp {c : Expr} (hc : PT X c tA) (ha : PE X a ta) (hb : PE X b tb) : PE X (.IfExp c a b pos) (tIf tA ta tb) := by
  intro pins s σ H Q I h
  refine wpAny_IfExp (thn (hc pins s σ H _ I h) fun d s1 ⟨H1, I1, q1⟩ => ?_)
  cases d with
  | true => exact ha pins s1 σ H1 Q I1 q1
  | false => exact hb pins s1 σ H1 Q I1 q1
end
end L2

namespace L2
open PySem PySem.Spec PyProof.Rows

/-! ### a list, a tuple that is read: tracked, frozen, or an object of the module -/
def SqL (K : PySem.W.Frag) (H : Hp) (a : Addr) (xs : List V) : Prop :=
  Rd H a (.lst xs) ∨
    ∃ (o : Obj) (its : Array Value) (n : Nat), K.lookup a = some o ∧ o.cls = .type "list" ∧ o.dict = none ∧ o.data = .seq its n ∧ its.size ≤ sizeLine ∧ Vals xs its.toList
def SqT (K : PySem.W.Frag) (H : Hp) (a : Addr) (xs : List V) : Prop :=
  Rd H a (.tup xs) ∨
    ∃ (o : Obj) (its : Array Value) (n : Nat), K.lookup a = some o ∧ o.cls = .type "tuple" ∧ o.data = .seq its n ∧ its.size ≤ sizeLine ∧ Vals xs its.toList
def absV : Value → Option V
  | .none => some .non
  | .bool b => some (.bl b)
  | .int i _ => some (.int i)
  | .str x _ => some (.str x)
  | .bytes b _ => some (.byt b)
  | .float b _ => some (.flt b)
  | .ref a => some (.ref a)
  | .type n => some (.ty n)
  | _ => none
theorem RelV.abs {x : V} {u : Value} (r : RelV x u) : absV u = some x := by
  cases x with
  | non => cases r; rfl
  | bl _ => cases r; rfl
  | int _ => obtain ⟨t, rfl⟩ := r; rfl
  | str _ => obtain ⟨t, rfl⟩ := r; rfl
  | byt _ => obtain ⟨t, rfl⟩ := r; rfl
  | flt _ => obtain ⟨t, rfl⟩ := r; rfl
  | ref _ => cases r; rfl
  | ty _ => cases r; rfl
theorem RelV.inj {x y : V} {u : Value} (r : RelV x u) (q : RelV y u) : x = y := Option.some.inj (r.abs.symm.trans q.abs)
theorem Vals.inj : ∀ {xs ys : List V} {us : List Value}, Vals xs us → Vals ys us → xs = ys
  | _, _, _, .nil, .nil => rfl
  | _, _, _, .cons r t, .cons r' t' => by rw [r.inj r', Vals.inj t t']
section
variable {X : Cx} {pins : List (Addr × Obj)} {σ : St} {H : Hp} {s : Shared} {a : Addr} {xs ys : List V}
theorem SqL.of {K : PySem.W.Frag} (h : H a = some (.lst xs)) : SqL K H a xs := .inl (.inl h)
theorem SqT.of {K : PySem.W.Frag} (h : H a = some (.tup xs)) : SqT K H a xs := .inl (.inl h)
theorem Inv.list (I : Inv X pins σ H s) (h : SqL X.K H a xs) : ∃ its : List Value, Vals xs its ∧ PlainL s.heap a its.toArray ∧ xs.length ≤ sizeLine := by
  rcases h with h | ⟨o, its, n, hk, hc, hd, hs, hz, r⟩
  · obtain ⟨z, its, n, r, e⟩ := h.ok I.hok
    exact ⟨its, r, ⟨_, n, e, rfl, rfl, rfl⟩, z⟩
  · refine ⟨its.toList, r, ⟨o, n, I.kIn a o hk, hc, hd, by simpa using hs⟩, ?_⟩
    have e := r.length
    simp only [Array.length_toList] at e
    omega
theorem Inv.tuple (I : Inv X pins σ H s) (h : SqT X.K H a xs) : ∃ its : List Value, Vals xs its ∧ IsTup s.heap a its.toArray ∧ xs.length ≤ sizeLine := by
  rcases h with h | ⟨o, its, n, hk, hc, hs, hz, r⟩
  · obtain ⟨z, its, r, o, e, c, n, d, _⟩ := h.ok I.hok
    exact ⟨its, r, ⟨o, e, c, n, d⟩, z⟩
  · refine ⟨its.toList, r, ⟨o, I.kIn a o hk, hc, n, by simpa using hs⟩, ?_⟩
    have e := r.length
    simp only [Array.length_toList] at e
    omega
theorem Inv.list_inj (I : Inv X pins σ H s) (h : SqL X.K H a xs) (h' : SqL X.K H a ys) : xs = ys := by
  obtain ⟨its, r, ⟨o, n, e, _, _, d⟩, _⟩ := I.list h
  obtain ⟨its', r', ⟨o', n', e', _, _, d'⟩, _⟩ := I.list h'
  rw [e] at e'; cases e'
  rw [d] at d'
  injection d' with d1 _
  have : its = its' := by simpa using congrArg Array.toList d1
  subst this
  exact r.inj r'
theorem Inv.tuple_inj (I : Inv X pins σ H s) (h : SqT X.K H a xs) (h' : SqT X.K H a ys) : xs = ys := by
  obtain ⟨its, r, ⟨o, e, _, n, d⟩, _⟩ := I.tuple h
  obtain ⟨its', r', ⟨o', e', _, n', d'⟩, _⟩ := I.tuple h'
  rw [e] at e'; cases e'
  rw [d] at d'
  injection d' with d1 _
  have : its = its' := by simpa using congrArg Array.toList d1
  subst this
  exact r.inj r'
end

/-! ### another wish about exceptions -/
abbrev Cx.wish (X : Cx) (E : Value → Shared → Prop) : Cx := { X with xe := E }
/-- no exception leaves -/
abbrev Cx.nox (X : Cx) : Cx := X.wish fun _ _ => False
theorem Cx.Ok.wish {X : Cx} (ok : X.Ok) (E : Value → Shared → Prop) : (X.wish E).Ok :=
  ⟨ok.mod, ok.kind, ok.glob, ok.blt, ok.above, ok.inj, ok.has, ok.cab, ok.hd, ok.frames, ok.stk, ok.exf, ok.bs, ok.bsz, ok.noex, ok.exfs, ok.funs, ok.frf⟩
theorem Cx.Ok.unwish {X : Cx} {E : Value → Shared → Prop} (ok : (X.wish E).Ok) : X.Ok :=
  ⟨ok.mod, ok.kind, ok.glob, ok.blt, ok.above, ok.inj, ok.has, ok.cab, ok.hd, ok.frames, ok.stk, ok.exf, ok.bs, ok.bsz, ok.noex, ok.exfs, ok.funs, ok.frf⟩
section
variable {X : Cx} {pins : List (Addr × Obj)} {σ : St} {H : Hp} {s : Shared} {E : Value → Shared → Prop}
theorem Inv.wish (I : Inv X pins σ H s) (E : Value → Shared → Prop) : Inv (X.wish E) pins σ H s := ⟨I.ok.wish E, I.os, I.bare, I.base, I.loc, I.cell, I.free, I.freeC, I.pin, I.hok, I.len⟩
theorem Inv.unwish (I : Inv (X.wish E) pins σ H s) : Inv X pins σ H s := ⟨I.ok.unwish, I.os, I.bare, I.base, I.loc, I.cell, I.free, I.freeC, I.pin, I.hok, I.len⟩
theorem SP.unwish {D : Ends} {f : Flow} {s' : Shared} (h : SP (X.wish E) pins D f s') : SP X pins D f s' := by
  cases f with
  | next => obtain ⟨σ', H', I, q⟩ := h; exact ⟨σ', H', I.unwish, q⟩
  | brk => obtain ⟨σ', H', I, q⟩ := h; exact ⟨σ', H', I.unwish, q⟩
  | cont => obtain ⟨σ', H', I, q⟩ := h; exact ⟨σ', H', I.unwish, q⟩
  | ret u => obtain ⟨v, σ', H', I, r, q⟩ := h; exact ⟨v, σ', H', I.unwish, r, q⟩
theorem PE.nox {e : Expr} {t : TE} (h : PE X.nox e t) : PE X e t := fun pins s σ H Q I hw =>
  wpAny_mono (h pins s σ H Q (I.wish _) hw) (fun _ _ ⟨v, H', I', r, q⟩ => ⟨v, H', I'.unwish, r, q⟩) fun _ _ z => False.elim z
theorem PT.nox {e : Expr} {t : TT} (h : PT X.nox e t) : PT X e t := fun pins s σ H Q I hw =>
  wpAny_mono (h pins s σ H Q (I.wish _) hw) (fun _ _ ⟨H', I', q⟩ => ⟨H', I'.unwish, q⟩) fun _ _ z => False.elim z
theorem PSs.nox {st : List Stmt} {t : TS} (h : PSs X.nox st t) : PSs X st t := fun pins s σ H D I hw =>
  wpAny_mono (h pins s σ H D (I.wish _) hw) (fun _ _ q => q.unwish) fun _ _ z => False.elim z
end

/-! ### blocks and small statements -/
section
variable {X : Cx} {st : Stmt} {rest : List Stmt} {t u : TS} {e : Expr} {te : TE} {pos : Pos}
def tNext : TS := fun D σ H => D.nx σ H
def tSeq (t u : TS) : TS := fun D σ H => t { D with nx := u D } σ H
theorem pss_nil : PSs X [] tNext := fun _ _ σ H _ I h => wpAny_execs_nil ⟨σ, H, I, h⟩
theorem pss_cons (h1 : PS X st t) (h2 : PSs X rest u) : PSs X (st :: rest) (tSeq t u) := by
  intro pins s σ H D I h
  refine wpAny_execs_cons (thn (h1 pins s σ H { D with nx := u D } I h) fun f s1 q => ?_)
  cases f with
  | next =>
    obtain ⟨σ', H', I', q⟩ := q
    exact h2 pins s1 σ' H' D I' q
  | ret v => exact q
  | brk => exact q
  | cont => exact q
theorem pss_one (h1 : PS X st t) : PSs X [st] t := by
  intro pins s σ H D I h
  refine wpAny_execs_cons (thn (h1 pins s σ H D I h) fun f s1 q => ?_)
  cases f with
  | next => exact wpAny_execs_nil q
  | ret v => exact q
  | brk => exact q
  | cont => exact q
def tBreak : TS := fun D σ H => D.bk σ H
def tCont : TS := fun D σ H => D.ct σ H
/-- in a def's body nothing is shown -/
theorem Inv.quiet {pins : List (Addr × Obj)} {σ : St} {H : Hp} {s : Shared} (I : Inv X pins σ H s) : interactive X.env = false := by simp [interactive, I.ok.kind]
/-- an expression whose value is dropped -/
def tDrop (te : TE) : TS := fun D σ H => te σ H fun _ H1 => D.nx σ H1
theorem ps_expr (he : PE X e te) (hs : swapsWith e none pos.line X.env = pure false := by rfl) : PS X (.Expr e pos) (tDrop te) := by
  intro pins s σ H D I h
  exact wpAny_Expr_any (thn (he pins s σ H _ I h) fun v s1 ⟨x, H1, I1, r1, q1⟩ => ⟨σ, H1, I1, q1⟩) I.quiet hs
def tRet (te : TE) : TS := fun D σ H => te σ H D.rt
theorem ps_ret (he : PE X e te) : PS X (.Return (some e) pos) (tRet te) := by
  intro pins s σ H D I h
  exact wpAny_Return_some (thn (he pins s σ H _ I h) fun v s1 ⟨x, H1, I1, r1, q1⟩ => ⟨x, σ, H1, I1, r1, q1⟩)
def tRetN : TS := fun D _ H => D.rt .non H
def tIfS (c : TT) (t u : TS) : TS := fun D σ H => c σ H fun b H1 => if b = true then t D σ H1 else u D σ H1
theorem ps_if {c : Expr} {a b : List Stmt} {tc : TT} (hc : PT X c tc) (ha : PSs X a t) (hb : PSs X b u) : PS X (.If c a b pos) (tIfS tc t u) := by
  intro pins s σ H D I h
  refine wpAny_If (thn (hc pins s σ H _ I h) fun d s1 ⟨H1, I1, q1⟩ => ?_)
  cases d with
  | true => exact ha pins s1 σ H1 D I1 q1
  | false => exact hb pins s1 σ H1 D I1 q1
/-- code that the proof never comes to -/
def tNever : TS := fun _ _ _ => False
end

/-! ### targets -/
abbrev TG := V → St → Hp → (St → Hp → Prop) → Prop
abbrev TGs := List V → St → Hp → (St → Hp → Prop) → Prop
def PG (X : Cx) (target : Expr) (t : TG) : Prop :=
  ∀ (pins : List (Addr × Obj)) (s : Shared) (σ : St) (H : Hp) (v : V) (u : Value) (Q : St → Hp → Prop), Inv X pins σ H s → RelV v u → t v σ H Q →
    wpAny (model X.prog X.w) X.A (assign target X.env u) (fun _ s' => ∃ σ' H', Inv X pins σ' H' s' ∧ Q σ' H') X.xe s
/-- several targets, one after another -/
def PGs (X : Cx) (ts : List Expr) (t : TGs) : Prop :=
  ∀ (pins : List (Addr × Obj)) (s : Shared) (σ : St) (H : Hp) (vs : List V) (us : List Value) (Q : St → Hp → Prop), Inv X pins σ H s → Vals vs us → t vs σ H Q →
    wpAny (model X.prog X.w) X.A (assignInOrder ((assignEach ts X.env).map (·.2)) us) (fun _ s' => ∃ σ' H', Inv X pins σ' H' s' ∧ Q σ' H') X.xe s
/-- o[i] = v, by values -/
abbrev TSet := V → V → V → Hp → (Hp → Prop) → Prop
def PSet (X : Cx) (t : TSet) : Prop :=
  ∀ (pins : List (Addr × Obj)) (s : Shared) (σ : St) (H : Hp) (o i v : V) (ov iv u : Value) (Q : Hp → Prop), Inv X pins σ H s → RelV o ov → RelV i iv → RelV v u → t o i v H Q →
    wpAny (model X.prog X.w) X.A (setItem ov iv u) (fun _ s' => ∃ H', Inv X pins σ H' s' ∧ Q H') X.xe s
/-- a op= b, by values -/
abbrev TIp := V → V → Hp → VK → Prop
def PIp (X : Cx) (op : Operator) (t : TIp) : Prop :=
  ∀ (pins : List (Addr × Obj)) (s : Shared) (σ : St) (H : Hp) (x y : V) (v u : Value) (Q : VK), Inv X pins σ H s → RelV x v → RelV y u → t x y H Q →
    wpAny (model X.prog X.w) X.A (inplaceOp op v u) (EP X pins σ Q) X.xe s
section
variable {X : Cx} {pos : Pos}
def gName (i : Nat) : TG := fun v σ H Q => Q (σ.set i (some v)) H
theorem pg_name {i : Nat} {x : Str} (hN : X.N.Nodup) (hi : X.N[i]? = some x) (hx : Loc X.env.scope x) (hf : X.fn x = true ∨ X.env.scope.names.lookup x = some .local := by first | exact .inl rfl | exact .inr rfl | assumption) : PG X (.Name x pos) (gName i) := by
  intro pins s σ H v u Q I r h
  exact wpAny_assign_Name (store_ok I hN hi hx r (fun s' I' => ⟨_, H, I', h⟩) hf)
def gNil : TGs := fun vs σ H Q => vs = [] ∧ Q σ H
def gCons (t : TG) (u : TGs) : TGs := fun vs σ H Q => ∃ v r, vs = v :: r ∧ t v σ H fun σ' H' => u r σ' H' Q
theorem pgs_nil : PGs X [] gNil := by
  intro pins s σ H vs us Q I r h
  obtain ⟨e, h⟩ := h
  subst e
  cases r
  exact assignInOrder_nil ⟨σ, H, I, h⟩
theorem pgs_cons {e : Expr} {es : List Expr} {t : TG} {u : TGs} (h1 : PG X e t) (h2 : PGs X es u)
    (hs : (assignEach (e :: es) X.env).map (·.2) = assign e X.env :: (assignEach es X.env).map (·.2) := by rfl) : PGs X (e :: es) (gCons t u) := by
  intro pins s σ H vs us Q I r h
  obtain ⟨v, vr, e1, h⟩ := h
  subst e1
  cases r with
  | cons r rr =>
    rw [hs]
    refine assignInOrder_cons (thn (h1 pins s σ H _ _ _ I r h) fun _ s1 ⟨σ1, H1, I1, q1⟩ => ?_)
    exact h2 pins s1 σ1 H1 _ _ Q I1 rr q1
/-- (a, b, ..) = a tuple of that length -/
def gTup (K : PySem.W.Frag) (n : Nat) (t : TGs) : TG := fun v σ H Q => ∃ a xs, v = .ref a ∧ SqT K H a xs ∧ xs.length = n ∧ t xs σ H Q
theorem pg_tup {es : List Expr} {k : Nat} {t : TGs} {n : Nat} (hc : X.calm = true) (h : PGs X es t)
    (hn : (assignEach es X.env).length = n := by rfl) (hst : (assignEach es X.env).findIdx? (·.1) = none := by rfl) : PG X (.Tuple es k pos) (gTup X.K n t) := by
  intro pins s σ H v u Q I r hw
  obtain ⟨a, xs, e1, hq, hl, hw⟩ := hw
  subst e1
  cases r
  obtain ⟨its, rv, ht, hz⟩ := I.tuple hq
  refine assign_Tuple_tuple (I.ok.hd hc) ht (by simp [hn, ← hl, rv.length]) hst fun h' hx => ?_
  have I1 : Inv X pins σ H { s with heap := h' } := I.kept (t' := s.toks) fun b o e => hx b o (Nat.ne_of_lt (Heap.lt_size e)) e
  exact h pins _ σ H xs _ Q I1 (by simpa using rv) hw
/-- o[i] = .. -/
def gSub (to ti : TE) (t : TSet) : TG := fun v σ H Q => to σ H fun o H1 => ti σ H1 fun i H2 => t o i v H2 fun H3 => Q σ H3
theorem pg_sub {o i : Expr} {to ti : TE} {t : TSet} (ho : PE X o to) (hi : PE X i ti) (hs : PSet X t)
    (ha : ∀ v, assign (.Subscript o i pos) X.env v = (do
      let ov ← holding [v] (eval o X.env)
      let iv ← holding [v, ov] (eval i X.env)
      standAt pos
      holding [v, ov, iv] (setItem ov iv v)
      release [v, ov, iv] []) := by intro _; rfl) : PG X (.Subscript o i pos) (gSub to ti t) := by
  intro pins s σ H v u Q I r h
  rw [ha]
  refine wpAny_bind (wpAny_holding (thn (ho pins s σ H _ I h) fun ov s1 ⟨x, H1, I1, r1, q1⟩ => ?_))
  refine wpAny_bind (wpAny_holding (thn (hi pins s1 σ H1 _ I1 q1) fun iv s2 ⟨y, H2, I2, r2, q2⟩ => ?_))
  refine wpAny_bind (wpAny_standAt (wpAny_bind (wpAny_holding (thn (hs pins s2 σ H2 x y v ov iv u _ I2 r1 r2 r q2) fun _ s3 ⟨H3, I3, q3⟩ => ?_))))
  exact wpAny_release ⟨σ, H3, I3, q3⟩
/-- target = value -/
def tAsg (te : TE) (g : TG) : TS := fun D σ H => te σ H fun x H1 => g x σ H1 D.nx
theorem ps_asg {tg e : Expr} {te : TE} {g : TG} (he : PE X e te) (hg : PG X tg g) (hs : swapsWithSole [tg] e pos.line X.env = pure false := by rfl) (hw : swappedStores [tg] e X.env = pure none := by rfl)
    (h1 : (assignEach [tg] X.env).map (·.2) = [assign tg X.env] := by rfl) : PS X (.Assign [tg] e pos) (tAsg te g) := by
  intro pins s σ H D I h
  refine wpAny_Assign_stores (thn (he pins s σ H _ I h) fun v s1 ⟨x, H1, I1, r1, q1⟩ => ?_) hs hw
  rw [h1]
  exact thn (hg pins s1 σ H1 x v _ I1 r1 q1) fun _ s2 q => q
/-- name = value -/
theorem ps_set {i : Nat} {x : Str} {e : Expr} {te : TE} {pos' : Pos} (hN : X.N.Nodup) (hi : X.N[i]? = some x) (hx : Loc X.env.scope x) (he : PE X e te) (hs : swapsWith e (some (.Name x pos')) pos.line X.env = pure false := by rfl) (hf : X.fn x = true ∨ X.env.scope.names.lookup x = some .local := by first | exact .inl rfl | exact .inr rfl | assumption) :
    PS X (.Assign [.Name x pos'] e pos) (tAsg te (gName i)) := by
  intro pins s σ H D I h
  refine wpAny_Assign_Name (thn (he pins s σ H _ I h) fun v s1 ⟨y, H1, I1, r1, q1⟩ => ?_) hs
  exact store_ok I1 hN hi hx r1 (fun s2 I2 => ⟨_, H1, I2, q1⟩) hf
/-- a, b = x, y with plain local names: stored from the right; the pair itself is not tracked (the opening rows as in PyProof/Rows/TupAssign.lean:23) -/
def tPar (i j : Nat) (ta : TA) : TS := fun D σ H => ta σ H fun vs H1 => ∃ v w, vs = [v, w] ∧ D.nx ((σ.set i (some v)).set j (some w)) H1
theorem ps_par {i j : Nat} {x y : Str} {a b : Expr} {ta : TA} {px py pt : Pos} {kt k2 pt2} (hc : X.calm = true) (hN : X.N.Nodup) (hi : X.N[i]? = some x) (hj : X.N[j]? = some y) (hij : i ≠ j)
    (hx : X.env.scope.names.lookup x = some .local) (hy : X.env.scope.names.lookup y = some .local) (ha : PA X [a, b] ta)
    (hw : swappedStores [.Tuple [.Name x px, .Name y py] kt pt] (.Tuple [a, b] k2 pt2) X.env = pure (some [x, y]))
    (hs : swapsWithSole [.Tuple [.Name x px, .Name y py] kt pt] (.Tuple [a, b] k2 pt2) pos.line X.env = pure false := by rfl) :
    PS X (.Assign [.Tuple [.Name x px, .Name y py] kt pt] (.Tuple [a, b] k2 pt2) pos) (tPar i j ta) := by
  intro pins s σ H D I h
  rw [exec_Assign_arm]
  refine wpAny_bind (wpAny_standAt ?_)
  rw [hs]
  refine wpAny_bind (wpAny_pure ?_)
  rw [if_neg (by decide)]
  refine wpAny_bind (Tuple_ (thn (ha _ pins s σ H _ I h) fun us s1 ⟨vs, H1, I1, r1, q1⟩ => ?_))
  obtain ⟨v, w, e1, q1⟩ := q1
  subst e1
  obtain ⟨u1, u2, rfl, rv, rw'⟩ : ∃ u1 u2, us = [u1, u2] ∧ RelV v u1 ∧ RelV w u2 := by
    cases r1 with
    | cons p q =>
      cases q with
      | cons p' q' =>
        cases q'
        exact ⟨_, _, rfl, p, p'⟩
  refine wpAny_newObj_type ?_ (by show 2 ≤ sizeLine; decide)
  have I2 : Inv X pins σ H1 { s1 with heap := s1.heap.push { cls := .type "tuple", data := .seq [u1, u2].toArray } } := I1.kept (t' := s1.toks) fun b o e => Heap.get?_push_of_some _ e
  rw [hw]
  refine wpAny_bind (wpAny_pure ?_)
  show wpAny (model X.prog X.w) X.A (do rule "assign.swapped-stores"; let items ← unpackItems (.ref s1.heap.objs.size) 2 none; assignInOrder [fun v => bindName X.env y v, fun v => bindName X.env x v] items.reverse; pure Flow.next) _ _ _
  refine wpAny_bind (wpAny_rule (wpAny_bind (unpackItems_tuple (items := #[u1, u2]) (I.ok.hd hc) (IsTup.new s1.heap _) fun h' hx' => ?_)))
  have I3 := I2.kept (h' := h') (t' := s1.toks) fun b o e => hx' b o (Nat.ne_of_lt (Heap.lt_size e)) e
  show wpAny _ _ (assignInOrder [fun v => bindName X.env y v, fun v => bindName X.env x v] [u2, u1] >>= fun _ => pure Flow.next) _ _ _
  refine wpAny_bind (assignInOrder_cons (wpAny_bindName (store_ok I3 hN hj (.inl hy) rw' (fun s2 I4 => ?_) (.inr hy))))
  refine assignInOrder_cons (wpAny_bindName (store_ok I4 hN hi (.inl hx) rv (fun s3 I5 => assignInOrder_nil (wpAny_pure ?_)) (.inr hx)))
  rw [List.set_comm _ _ (Ne.symm hij)] at I5
  exact ⟨_, H1, I5, q1⟩
/-- name op= e -/
def tAug (i : Nat) (te : TE) (ti : TIp) : TS := fun D σ H => ∃ x, σ[i]? = some (some x) ∧ te σ H fun y H1 => ti x y H1 fun z H2 => D.nx (σ.set i (some z)) H2
theorem ps_aug {i : Nat} {x : Str} {e : Expr} {te : TE} {op : Operator} {ti : TIp} {pos' : Pos} (hN : X.N.Nodup) (hi : X.N[i]? = some x) (hx : Loc X.env.scope x) (he : PE X e te) (ho : PIp X op ti) (hf : X.fn x = true ∨ X.env.scope.names.lookup x = some .local := by first | exact .inl rfl | exact .inr rfl | assumption) :
    PS X (.AugAssign (.Name x pos') op e pos) (tAug i te ti) := by
  intro pins s σ H D I h
  obtain ⟨v, e1, h⟩ := h
  obtain ⟨m, hn, hl⟩ := I.loc
  have vis : Vis X.env.scope x := by rcases hx with k | k; exact .inl k; exact .inr (.inl k)
  obtain ⟨u, r, l⟩ := hl i x v hi e1 vis
  refine wpAny_AugAssign_Name ?_
  have go : wpAny (model X.prog X.w) X.A (eval e X.env) (fun w s₂ => wpAny (model X.prog X.w) X.A (inplaceOp op u w) (fun r s₃ => wpAny (model X.prog X.w) X.A (storeName X.env x r) (fun _ => SP X pins D .next) X.xe s₃) X.xe s₂) X.xe s := by
    refine thn (he pins s σ H _ I h) fun w s1 ⟨y, H1, I1, r1, q1⟩ => ?_
    refine thn (ho pins s1 σ H1 v y u w _ I1 r r1 q1) fun z s2 ⟨zv, H2, I2, r2, q2⟩ => ?_
    exact store_ok I2 hN hi hx r2 (fun s3 I3 => ⟨_, H2, I3, q2⟩) hf
  rcases l with ⟨hk, hm⟩ | ⟨hk, c, hc, hcell⟩
  · exact wpAny_loadName_local I.ok.kind hk hn hm go
  · rcases hk with hk | hk
    · exact wpAny_loadName_cell I.ok.kind hk hc hcell go
    · rcases hx with k | k
      · have : X.env.scope.names.lookup x = some .free := hk
        rw [k] at this; cases this
      · have : X.env.scope.names.lookup x = some .free := hk
        rw [k] at this; cases this
/-- o[i] op= e -/
def tAugS (to ti te : TE) (tget : V → V → Hp → VK → Prop) (tip : TIp) (tset : TSet) : TS := fun D σ H => to σ H fun o H1 => ti σ H1 fun i H2 => tget o i H2 fun x H3 => te σ H3 fun y H4 => tip x y H4 fun z H5 => tset o i z H5 fun H6 => D.nx σ H6
/-- o[i], by values -/
def PGet (X : Cx) (t : V → V → Hp → VK → Prop) : Prop :=
  ∀ (pins : List (Addr × Obj)) (s : Shared) (σ : St) (H : Hp) (o i : V) (ov iv : Value) (Q : VK), Inv X pins σ H s → RelV o ov → RelV i iv → t o i H Q →
    wpAny (model X.prog X.w) X.A (getItem ov iv) (EP X pins σ Q) X.xe s
/-- ints -/
def ipI (f : Int → Int → Int) : TIp := fun x y H Q => ∃ i j, x = .int i ∧ y = .int j ∧ Q (.int (f i j)) H
theorem ip_add : PIp X .Add (ipI fun i j => i + j) := by
  intro pins s σ H x y v u Q I r1 r2 h
  obtain ⟨i, j, e1, e2, q⟩ := h
  subst e1; subst e2
  obtain ⟨t, rfl⟩ := r1
  obtain ⟨t', rfl⟩ := r2
  exact iadd_int ⟨.int _, H, I.tok _, ⟨_, rfl⟩, q⟩
end

/-! ### while -/
section
variable {X : Cx} {pos : Pos}
/-- the invariant W with its measure -/
def tWhile (c : TT) (tb : TS) : TS := fun D σ H => ∃ W : Nat → St → Hp → Prop, (∃ m, W m σ H) ∧ ∀ m σ H, W m σ H →
  c σ H fun b H1 => if b = true then ∃ N : St → Hp → Prop, (∀ σ' H', N σ' H' → ∃ m', m' < m ∧ W m' σ' H') ∧ tb { D with nx := N, ct := N, bk := D.nx } σ H1 else D.nx σ H1
theorem ps_while {c : Expr} {body : List Stmt} {tc : TT} {tb : TS} (hp : PassesOwn (model X.prog X.w) X.A X.env X.xe) (hc : PT X c tc) (hb : PSs X body tb) : PS X (.While c body [] pos) (tWhile tc tb) := by
  intro pins s σ H D I h
  obtain ⟨W, ⟨m0, w0⟩, turn⟩ := h
  refine wpAny_While (codeAny_whileLoop (fun n s' => ∃ σ' H', Inv X pins σ' H' s' ∧ W n σ' H') ?_ m0 ⟨σ, H, I, w0⟩)
  rintro n s1 ⟨σ1, H1, I1, w1⟩
  refine wpAny_passesOwn hp (thn (hc pins s1 σ1 H1 _ I1 (turn n σ1 H1 w1)) fun b s2 ⟨H2, I2, q2⟩ => ?_)
  cases b with
  | true =>
    obtain ⟨N, hN, q2⟩ := q2
    rw [if_pos rfl]
    refine wpAny_passesOwn hp (thn (hb pins s2 σ1 H2 _ I2 q2) fun f s3 q3 => ?_)
    cases f with
    | next =>
      obtain ⟨σ3, H3, I3, n3⟩ := q3
      obtain ⟨m', hm, w3⟩ := hN σ3 H3 n3
      exact ⟨m', hm, σ3, H3, I3, w3⟩
    | cont =>
      obtain ⟨σ3, H3, I3, n3⟩ := q3
      obtain ⟨m', hm, w3⟩ := hN σ3 H3 n3
      exact ⟨m', hm, σ3, H3, I3, w3⟩
    | brk => exact q3
    | ret v => exact q3
  | false =>
    rw [if_neg Bool.false_ne_true]
    exact wpAny_execs_nil ⟨σ1, H2, I2, q2⟩
end

/-! ### what a loop or a comprehension walks -/
/-- at turn i: it yields x (the heap may grow), or it stops -/
structure It where
  go : Nat → Hp → Prop
  yld : Nat → Hp → V → Hp → Prop
  stop : Nat → Hp → Prop
/-- the iterator's own objects may turn: they are not the frame's, not pinned, younger than the entry (or a comprehension's own) -/
def FpOk (X : Cx) (pins : List (Addr × Obj)) (H : Hp) (b : Addr) : Prop :=
  H b = none ∧ b ≠ X.env.locals ∧ b ∉ X.fs ∧ (b ∈ X.ex ∨ X.s₀.heap.objs.size ≤ b) ∧ (∀ x c, X.env.cells.lookup x = some c → c ≠ b) ∧ ∀ p ∈ X.pn ++ pins, p.1 ≠ b
theorem Inv.fpOk {X : Cx} {pins : List (Addr × Obj)} {σ : St} {H H' : Hp} {s : Shared} {b : Addr} (I : Inv X pins σ H s) (hb : s.heap.objs.size ≤ b) (hn : H' b = none) : FpOk X pins H' b := by
  refine ⟨hn, Nat.ne_of_gt (Nat.lt_of_lt_of_le I.lt hb), I.nofs hb, .inr (Nat.le_trans I.sz hb), fun x c e z => ?_, fun p hp z => ?_⟩
  · obtain ⟨v, q⟩ := I.cell x c e
    exact absurd (Nat.lt_of_lt_of_le q.lt (by rw [z]; exact hb)) (Nat.lt_irrefl _)
  · exact absurd (Nat.lt_of_lt_of_le (Heap.lt_size (I.pin p hp).1) (by rw [z]; exact hb)) (Nat.lt_irrefl _)
structure Turn (P : Program) (w : World) (K : PySem.W.Frag) (tg : Expr) (J : It) (fp : List Addr) (it : Addr) (tn : Nat → Heap → Prop) : Prop where
  mem : it ∈ fp
  obj : ∀ i h, tn i h → ∀ b ∈ fp, ∃ o, h.get? b = some o ∧ ∀ v, o.data ≠ .cell v
  keep : ∀ i h h', tn i h → (∀ b ∈ fp, ∀ o, h.get? b = some o → h'.get? b = some o) → tn i h'
  item : ∀ (X : Cx), X.prog = P → X.w = w → X.K = K → X.calm = true → ∀ (i : Nat) (pins : List (Addr × Obj)) (s : Shared) (σ : St) (H : Hp) (E : Value → Shared → Prop), Inv X pins σ H s → (∀ b ∈ fp, FpOk X pins H b) → tn i s.heap → J.go i H →
    wpAny (model P w) X.A (pyNext (.ref it)) (fun r s1 => ∃ u, r = some u ∧
      wpAny (model P w) X.A (letOwnedTupleGo tg (.ref it) u) (fun _ s2 => ∃ x H', Inv X pins σ H' s2 ∧ RelV x u ∧ J.yld i H x H' ∧ tn (i + 1) s2.heap ∧ ∀ b ∈ fp, H' b = none) E s1) E s
  done : ∀ (X : Cx), X.prog = P → X.w = w → X.K = K → X.calm = true → ∀ (i : Nat) (pins : List (Addr × Obj)) (s : Shared) (σ : St) (H : Hp) (E : Value → Shared → Prop), Inv X pins σ H s → (∀ b ∈ fp, FpOk X pins H b) → tn i s.heap → J.stop i H →
    wpAny (model P w) X.A (pyNext (.ref it)) (fun r s1 => r = none ∧ Inv X pins σ H s1) E s
  self : ∀ (A : Around) (i : Nat) (s : Shared) (Q : Value → Shared → Prop) (E : Value → Shared → Prop), tn i s.heap → Q (.ref it) s → wpAny (model P w) A (pyIter (.ref it)) Q E s
abbrev TI := St → Hp → (It → Hp → Prop) → Prop
/-- an iterator has come -/
def PIE (X : Cx) (pins : List (Addr × Obj)) (σ : St) (tg : Expr) (R : It → Hp → Prop) (itv : Value) (s2 : Shared) : Prop :=
  ∃ (it : Addr) (fp : List Addr) (tn : Nat → Heap → Prop) (J : It) (H' : Hp), itv = .ref it ∧ Inv X pins σ H' s2 ∧ Turn X.prog X.w X.K tg J fp it tn ∧ tn 0 s2.heap ∧ (∀ b ∈ fp, FpOk X pins H' b) ∧ R J H'
def PI (X : Cx) (tg iter : Expr) (wi : TI) : Prop :=
  ∀ (pins : List (Addr × Obj)) (s : Shared) (σ : St) (H : Hp) (R : It → Hp → Prop), Inv X pins σ H s → wi σ H R →
    wpAny (model X.prog X.w) X.A (eval iter X.env) (fun v s1 => wpAny (model X.prog X.w) X.A (pyIter v) (PIE X pins σ tg R) X.xe s1) X.xe s

/-- the step ahead of the store is nothing for an iterator that keeps no tuple -/
theorem go_of {M : Model} {A : Around} {E : Value → Shared → Prop} {s : Shared} {tg : Expr} {it : Addr} {u : Value} {o : Obj} {n : String} {vs : Array Value} {Q : Unit → Shared → Prop} (ho : s.heap.get? it = some o) (hc : o.cls = .type n) (hd : o.data = .fields vs)
    (hn : ["enumerate", "zip", "dict_itemiterator", "dict_reverseitemiterator", "odict_iterator", "itertools.zip_longest", "itertools.pairwise"].contains n = false) (hQ : Q () s) : wpAny M A (letOwnedTupleGo tg (.ref it) u) Q E s := by
  unfold letOwnedTupleGo
  cases tg <;> first
    | exact wpAny_pure hQ
    | (cases u <;> first
        | exact wpAny_pure hQ
        | (refine wpAny_bind (wpAny_load ho ?_)
           rw [hc, hd]
           show wpAny M A (if (["enumerate", "zip", "dict_itemiterator", "dict_reverseitemiterator", "odict_iterator", "itertools.zip_longest", "itertools.pairwise"].contains n && vs[0]? == some (rawInt _)) = true then _ else _) Q E s
           rw [if_neg (by intro h; rw [hn, Bool.false_and] at h; cases h)]
           exact wpAny_pure hQ))

/-- the list at a, as it stands at each turn (a loop may append to it) -/
def Itl (K : PySem.W.Frag) (a : Addr) : It :=
  ⟨fun i H => ∃ xs x, SqL K H a xs ∧ xs[i]? = some x, fun i H x H' => H' = H ∧ ∀ xs, SqL K H a xs → xs[i]? = some x, fun i H => ∃ xs, SqL K H a xs ∧ xs.length ≤ i⟩
def Itt (K : PySem.W.Frag) (a : Addr) : It :=
  ⟨fun i H => ∃ xs x, SqT K H a xs ∧ xs[i]? = some x, fun i H x H' => H' = H ∧ ∀ xs, SqT K H a xs → xs[i]? = some x, fun i H => ∃ xs, SqT K H a xs ∧ xs.length ≤ i⟩
/-- lo, lo + 1, .. (n of them) -/
def Itr (lo : Int) (n : Nat) : It := ⟨fun i _ => i < n, fun i H x H' => H' = H ∧ x = .int (lo + i), fun i _ => n ≤ i⟩
theorem turn_list {P : Program} {w : World} {K : PySem.W.Frag} {tg : Expr} (a it : Addr) : Turn P w K tg (Itl K a) [it] it (fun i h => h.IsListIter it a i) where
  mem := by simp
  obj := fun i h st b hb => by
    have e : b = it := by simpa using hb
    subst e
    obtain ⟨o, e, c, d⟩ := st
    exact ⟨o, e, fun v z => by rw [d] at z; cases z⟩
  keep := fun i h h' st k => st.at fun o e => k it (by simp) o e
  item := by
    intro X hP hw hK hc i pins s σ H E I hf st hg
    subst hP hw hK
    obtain ⟨xs, x, hq, hx⟩ := hg
    obtain ⟨its, rv, p, hz⟩ := I.list hq
    obtain ⟨u, hu, ru⟩ := rv.get hx
    obtain ⟨f0, f1, f2, f3, f4, f5⟩ := hf it (by simp)
    refine wpAny_pyNext_list_item st p.isList (x := u) (by simpa using hu) fun h' st' sb => ?_
    have I1 : Inv X pins σ H { s with heap := h' } := I.turned (t' := s.toks) (fun b o hb e => (sb.2 b hb).trans e) f0 f1 f3 f4 f5
    obtain ⟨o, e, c, d⟩ := id st'
    exact ⟨u, rfl, go_of (s := { s with heap := h' }) e c d (by decide) ⟨x, H, I1, ru, ⟨rfl, fun ys hy => by rw [I.list_inj hy hq]; exact hx⟩, st', fun b hb => (hf b hb).1⟩⟩
  done := by
    intro X hP hw hK hc i pins s σ H E I hf st hg
    subst hP hw hK
    obtain ⟨xs, hq, hx⟩ := hg
    obtain ⟨its, rv, p, hz⟩ := I.list hq
    obtain ⟨f0, f1, f2, f3, f4, f5⟩ := hf it (by simp)
    have hl := rv.length
    exact wpAny_pyNext_list_end (I.ok.hd hc) st p.isList (by simp; omega) fun h' eb => ⟨rfl, I.turned (t' := s.toks) (fun b o hb e => eb b o hb e) f0 f1 f3 f4 f5⟩
  self := fun _ _ _ _ _ st h => wpAny_pyIter_listiter st h
theorem turn_tuple {P : Program} {w : World} {K : PySem.W.Frag} {tg : Expr} (a it : Addr) : Turn P w K tg (Itt K a) [it] it (fun i h => h.IsTupleIter it a i) where
  mem := by simp
  obj := fun i h st b hb => by
    have e : b = it := by simpa using hb
    subst e
    obtain ⟨o, e, c, d⟩ := st
    exact ⟨o, e, fun v z => by rw [d] at z; cases z⟩
  keep := fun i h h' st k => st.at fun o e => k it (by simp) o e
  item := by
    intro X hP hw hK hc i pins s σ H E I hf st hg
    subst hP hw hK
    obtain ⟨xs, x, hq, hx⟩ := hg
    obtain ⟨its, rv, p, hz⟩ := I.tuple hq
    obtain ⟨u, hu, ru⟩ := rv.get hx
    obtain ⟨f0, f1, f2, f3, f4, f5⟩ := hf it (by simp)
    refine wpAny_pyNext_tuple_item st (show s.heap.IsTuple a its.toArray from p) (x := u) (by simpa using hu) fun h' st' sb => ?_
    have I1 : Inv X pins σ H { s with heap := h' } := I.turned (t' := s.toks) (fun b o hb e => (sb.2 b hb).trans e) f0 f1 f3 f4 f5
    obtain ⟨o, e, c, d⟩ := id st'
    exact ⟨u, rfl, go_of (s := { s with heap := h' }) e c d (by decide) ⟨x, H, I1, ru, ⟨rfl, fun ys hy => by rw [I.tuple_inj hy hq]; exact hx⟩, st', fun b hb => (hf b hb).1⟩⟩
  done := by
    intro X hP hw hK hc i pins s σ H E I hf st hg
    subst hP hw hK
    obtain ⟨xs, hq, hx⟩ := hg
    obtain ⟨its, rv, p, hz⟩ := I.tuple hq
    obtain ⟨f0, f1, f2, f3, f4, f5⟩ := hf it (by simp)
    have hl := rv.length
    exact wpAny_pyNext_tuple_end (I.ok.hd hc) st (show s.heap.IsTuple a its.toArray from p) (by simp; omega) fun h' eb => ⟨rfl, I.turned (t' := s.toks) (fun b o hb e => eb b o hb e) f0 f1 f3 f4 f5⟩
  self := fun _ _ _ _ _ st h => wpAny_pyIter_tupleiter st h
theorem turn_range {P : Program} {w : World} {K : PySem.W.Frag} {tg : Expr} (it : Addr) (lo : Int) (n : Nat) : Turn P w K tg (Itr lo n) [it] it (fun i h => IsRangeIter h it (lo + (i : Nat) * 1) ((n : Int) - (i : Nat)) 1) where
  mem := by simp
  obj := fun i h st b hb => by
    have e : b = it := by simpa using hb
    subst e
    exact ⟨_, st, fun v z => by
      have z' : Data.fields _ = Data.cell v := z
      cases z'⟩
  keep := fun i h h' st k => k it (by simp) _ st
  item := by
    intro X hP hw hK hc i pins s σ H E I hf st hg
    subst hP hw hK
    obtain ⟨f0, f1, f2, f3, f4, f5⟩ := hf it (by simp)
    have W := Walks.range (prog := X.prog) (w := X.w) (I.ok.hd hc) it lo 1 n
    refine W.item i s _ _ hg st fun v h' tk hv st' kk => ?_
    obtain ⟨t, rfl⟩ := hv
    have I1 : Inv X pins σ H { s with heap := h', toks := tk } := I.turned (fun b o hb e => kk b o (by simpa using hb) e) f0 f1 f3 f4 f5
    refine ⟨_, rfl, go_of (s := { s with heap := h', toks := tk }) (n := "range_iterator") st' rfl rfl (by decide) ⟨.int (lo + i), H, I1, ⟨t, ?_⟩, ⟨rfl, rfl⟩, st', fun b hb => (hf b hb).1⟩⟩
    rw [Int.mul_one]
  done := by
    intro X hP hw hK hc i pins s σ H E I hf st hg
    subst hP hw hK
    obtain ⟨f0, f1, f2, f3, f4, f5⟩ := hf it (by simp)
    exact wpAny_pyNext_range_end (I.ok.hd hc) st (by have : n ≤ i := hg; omega) fun h' eb => ⟨rfl, I.turned (t' := s.toks) (fun b o hb e => eb b o hb e) f0 f1 f3 f4 f5⟩
  self := fun _ _ _ _ _ st h => wpAny_pyIter_rangeiter st h
end L2

namespace L2
open PySem PySem.Spec PyProof.Rows
section
variable {X : Cx} {tg : Expr}
def iList (K : PySem.W.Frag) (tl : TE) : TI := fun σ H R => tl σ H fun x H1 => ∃ a, x = .ref a ∧ (∃ xs, SqL K H1 a xs) ∧ R (Itl K a) H1
def iTup (K : PySem.W.Frag) (tl : TE) : TI := fun σ H R => tl σ H fun x H1 => ∃ a, x = .ref a ∧ (∃ xs, SqT K H1 a xs) ∧ R (Itt K a) H1
theorem pi_list {l : Expr} {tl : TE} (hl : PE X l tl) : PI X tg l (iList X.K tl) := by
  intro pins s σ H R I h
  refine thn (hl pins s σ H _ I h) fun v s1 ⟨x, H1, I1, r1, q1⟩ => ?_
  obtain ⟨a, e, ⟨xs, hq⟩, q⟩ := q1
  subst e
  cases r1
  obtain ⟨its, rv, p, hz⟩ := I1.list hq
  refine wpAny_pyIter_list p.isList ?_
  refine ⟨s1.heap.objs.size, [s1.heap.objs.size], _, _, H1, rfl, I1.kept (t' := s1.toks) fun b o e => Heap.get?_push_of_some _ e, turn_list a _, ⟨_, Heap.get?_push_size _ rfl, rfl, rfl⟩, fun b hb => ?_, q⟩
  have e : b = s1.heap.objs.size := by simpa using hb
  subst e
  exact I1.fpOk (Nat.le_refl _) (I1.hok.fresh (Nat.le_refl _))
theorem pi_tup {l : Expr} {tl : TE} (hl : PE X l tl) : PI X tg l (iTup X.K tl) := by
  intro pins s σ H R I h
  refine thn (hl pins s σ H _ I h) fun v s1 ⟨x, H1, I1, r1, q1⟩ => ?_
  obtain ⟨a, e, ⟨xs, hq⟩, q⟩ := q1
  subst e
  cases r1
  obtain ⟨its, rv, p, hz⟩ := I1.tuple hq
  refine wpAny_pyIter_tuple (show s1.heap.IsTuple a its.toArray from p) ?_
  refine ⟨s1.heap.objs.size, [s1.heap.objs.size], _, _, H1, rfl, I1.kept (t' := s1.toks) fun b o e => Heap.get?_push_of_some _ e, turn_tuple a _, ⟨_, Heap.get?_push_size _ rfl, rfl, rfl⟩, fun b hb => ?_, q⟩
  have e : b = s1.heap.objs.size := by simpa using hb
  subst e
  exact I1.fpOk (Nat.le_refl _) (I1.hok.fresh (Nat.le_refl _))
/-- a range object just made, walked -/
theorem range_it {pins : List (Addr × Obj)} {σ : St} {H : Hp} {s : Shared} {R : It → Hp → Prop} {E : Value → Shared → Prop} {lo hi : Int} {t u v : Tok} {tk : Nat} (I : Inv X pins σ H s) (h1 : -(2 ^ 62) ≤ lo) (h2 : lo < 2 ^ 62) (h3 : -(2 ^ 62) ≤ hi) (h4 : hi < 2 ^ 62)
    (q : R (Itr lo (hi - lo).toNat) H) : wpAny (model X.prog X.w) X.A (pyIter (.ref s.heap.objs.size)) (PIE X pins σ tg R) E { s with heap := s.heap.push { cls := .type "range", data := .fields #[.int lo t, .int hi u, .int 1 v] }, toks := tk } := by
  refine wpAny_pyIter_range (IsRange.new ..) (small_one h1 h2 h3 h4) ?_
  have I1 : Inv X pins σ H { s with heap := s.heap.push { cls := .type "range", data := .fields #[.int lo t, .int hi u, .int 1 v] }, toks := tk } := I.kept fun b o e => Heap.get?_push_of_some _ e
  refine ⟨(s.heap.push { cls := .type "range", data := .fields #[.int lo t, .int hi u, .int 1 v] }).objs.size, [(s.heap.push { cls := .type "range", data := .fields #[.int lo t, .int hi u, .int 1 v] }).objs.size], _, _, H, rfl,
    I1.kept (t' := tk) fun b o e => Heap.get?_push_of_some _ e, turn_range _ lo (hi - lo).toNat, ?_, fun b hb => ?_, q⟩
  · have e1 : lo + ((0 : Nat) : Int) * 1 = lo := by simp
    have e2 : (((hi - lo).toNat : Nat) : Int) - ((0 : Nat) : Int) = Builtin.Range.rangeSize lo hi 1 := by rw [rangeSize_one]; split <;> omega
    show IsRangeIter _ _ (lo + ((0 : Nat) : Int) * 1) ((((hi - lo).toNat : Nat) : Int) - ((0 : Nat) : Int)) 1
    rw [e1, e2]
    exact Heap.get?_push_size _ rfl
  · have e : b = (s.heap.push { cls := .type "range", data := .fields #[.int lo t, .int hi u, .int 1 v] }).objs.size := by simpa using hb
    subst e
    exact I1.fpOk (Nat.le_refl _) (I1.hok.fresh (Nat.le_refl _))
def iRng1 (ta : TA) : TI := fun σ H R => ta σ H fun vs H1 => ∃ j : Int, vs = [.int j] ∧ -(2 ^ 62) ≤ j ∧ j < 2 ^ 62 ∧ R (Itr 0 j.toNat) H1
def iRng2 (ta : TA) : TI := fun σ H R => ta σ H fun vs H1 => ∃ i j : Int, vs = [.int i, .int j] ∧ (-(2 ^ 62) ≤ i ∧ i < 2 ^ 62 ∧ -(2 ^ 62) ≤ j ∧ j < 2 ^ 62) ∧ R (Itr i (j - i).toNat) H1
theorem pi_range1 {a : Expr} {ta : TA} {p pos : Pos} (hg : Gl X "range") (hm : X.mg "range" = none) (ha : PA X [a] ta) (hs : starEach [a] X.env = [(false, eval a X.env)] := by rfl) : PI X tg (.Call (.Name "range" p) [a] [] pos) (iRng1 ta) := by
  intro pins s σ H R I h
  refine Call_ (ld_blt I hg hm boot_range (PyProof.Rows.callWith_type1 (thn (ha pos pins s σ H _ I h) fun us s1 ⟨vs, H1, I1, r1, q1⟩ => ?_) hs rfl))
  obtain ⟨j, e, q1, q2, q⟩ := q1
  subst e
  cases r1 with
  | cons r rr =>
    cases rr
    obtain ⟨t, rfl⟩ := r
    exact call_range_1 (range_it I1 (by omega) (by omega) q1 q2 (by simpa using q))
/-! ### for -/
/-- W: the invariant by the turn and a measure; N: what the body is to reach -/
def tFor (wi : TI) (g : TG) (tb : TS) : TS := fun D σ H => wi σ H fun J H1 => ∃ W : Nat → Nat → St → Hp → Prop, (∃ m, W 0 m σ H1) ∧ ∀ i m σ H, W i m σ H →
  (J.stop i H ∧ D.nx σ H) ∨ (J.go i H ∧ ∃ N : St → Hp → Prop, (∀ σ' H', N σ' H' → ∃ m', m' < m ∧ W (i + 1) m' σ' H') ∧ ∀ x H', J.yld i H x H' → g x σ H' fun σ2 H2 => tb { D with nx := N, ct := N, bk := D.nx } σ2 H2)
/-- the records at fp as they stand -/
def pinsAt (fp : List Addr) (h : Heap) : List (Addr × Obj) := fp.filterMap fun b => (h.get? b).map fun o => (b, o)
theorem mem_pinsAt {fp : List Addr} {h : Heap} {b : Addr} {o : Obj} (hb : b ∈ fp) (e : h.get? b = some o) : (b, o) ∈ pinsAt fp h := List.mem_filterMap.mpr ⟨b, hb, by rw [e]; rfl⟩
theorem of_pinsAt {fp : List Addr} {h : Heap} {p : Addr × Obj} (hp : p ∈ pinsAt fp h) : p.1 ∈ fp ∧ h.get? p.1 = some p.2 := by
  obtain ⟨b, hb, e⟩ := List.mem_filterMap.mp hp
  cases q : h.get? b with
  | none => rw [q] at e; cases e
  | some o =>
    rw [q] at e
    have e' : (b, o) = p := Option.some.inj e
    subst e'
    exact ⟨hb, q⟩
theorem Inv.pinned {pins : List (Addr × Obj)} {σ : St} {H : Hp} {s : Shared} {fp : List Addr} (I : Inv X pins σ H s) (hf : ∀ b ∈ fp, FpOk X pins H b) (ho : ∀ b ∈ fp, ∃ o, s.heap.get? b = some o ∧ ∀ v, o.data ≠ .cell v) : Inv X (pins ++ pinsAt fp s.heap) σ H s :=
  I.pins_of fun p hp => (List.mem_append.mp hp).elim (fun z => I.pin p (List.mem_append_right _ z)) fun z => by
    obtain ⟨hb, e⟩ := of_pinsAt z
    obtain ⟨f0, f1, f2, _⟩ := hf p.1 hb
    obtain ⟨o, e', d⟩ := ho p.1 hb
    rw [e] at e'; cases e'
    exact ⟨e, f0, f1, f2, d⟩
theorem Inv.unpinned {pins pl : List (Addr × Obj)} {σ : St} {H : Hp} {s : Shared} (I : Inv X (pins ++ pl) σ H s) : Inv X pins σ H s := I.pins_of fun p hp => I.pin p (List.mem_append_right _ (List.mem_append_left _ hp))
theorem ps_for {iter : Expr} {body : List Stmt} {wi : TI} {g : TG} {tb : TS} {pos : Pos} (hp : PassesOwn (model X.prog X.w) X.A X.env X.xe) (hc : X.calm = true) (hi : PI X tg iter wi) (hg : PG X tg g) (hb : PSs X body tb)
    (hs : ∀ x, foldedSetIterable iter X.env x = pure x := by intro _; rfl) : PS X (.For tg iter body [] pos) (tFor wi g tb) := by
  intro pins s σ H D I h
  refine wpAny_For (thn (hi pins s σ H _ I h) fun v s1 h1 => thn h1 fun itv s2 h2 => ?_) hs
  obtain ⟨it, fp, tn, J, H2, e, I2, T, st2, f2, W, ⟨m0, w0⟩, turn⟩ := h2
  subst e
  -- what stays true of the iterator's objects through the loop
  have stat : ∀ {H' : Hp}, (∀ b ∈ fp, H' b = none) → ∀ b ∈ fp, FpOk X pins H' b := fun hn b hb => ⟨hn b hb, (f2 b hb).2⟩
  refine codeAny_forLoop_any (fun n s' => ∃ i σ' H', Inv X pins σ' H' s' ∧ tn i s'.heap ∧ (∀ b ∈ fp, H' b = none) ∧ W i n σ' H') ?_ m0 ⟨0, σ, H2, I2, st2, fun b hb => (f2 b hb).1, w0⟩
  rintro n s3 ⟨i, σ3, H3, I3, st3, fr3, w3⟩
  rcases turn i n σ3 H3 w3 with ⟨stop, qn⟩ | ⟨go, N, hN, step⟩
  · refine wpAny_passesOwn hp (thn (T.done X rfl rfl rfl hc i pins s3 σ3 H3 X.xe I3 (stat fr3) st3 stop) fun r s4 ⟨hr, I4⟩ => ?_)
    subst hr
    exact wpAny_execs_nil ⟨σ3, H3, I4, qn⟩
  · refine wpAny_passesOwn hp (thn (T.item X rfl rfl rfl hc i pins s3 σ3 H3 X.xe I3 (stat fr3) st3 go) fun r s4 ⟨u, hr, h4⟩ => ?_)
    subst hr
    refine wpAny_passesOwn hp (thn h4 fun _ s5 ⟨x, H5, I5, r5, y5, st5, fr5⟩ => ?_)
    have I5' := I5.pinned (stat fr5) (T.obj _ _ st5)
    refine wpAny_passesOwn hp (thn (hg _ s5 σ3 H5 x u _ I5' r5 (step x H5 y5)) fun _ s6 ⟨σ6, H6, I6, q6⟩ => ?_)
    refine wpAny_passesOwn hp (thn (hb _ s6 σ6 H6 _ I6 q6) fun f s7 q7 => ?_)
    have again : ∀ {σ7 : St} {H7 : Hp}, Inv X (pins ++ pinsAt fp s5.heap) σ7 H7 s7 → N σ7 H7 → ∃ m, m < n ∧ ∃ i σ' H', Inv X pins σ' H' s7 ∧ tn i s7.heap ∧ (∀ b ∈ fp, H' b = none) ∧ W i m σ' H' := fun {σ7 H7} I7 n7 => by
      obtain ⟨m', hm, w7⟩ := hN σ7 H7 n7
      refine ⟨m', hm, i + 1, σ7, H7, I7.unpinned, T.keep _ _ _ st5 fun b hb o e => (I7.pin (b, o) (List.mem_append_right _ (List.mem_append_right _ (mem_pinsAt hb e)))).1, fun b hb => ?_, w7⟩
      obtain ⟨o, e, d⟩ := T.obj _ _ st5 b hb
      exact (I7.pin (b, o) (List.mem_append_right _ (List.mem_append_right _ (mem_pinsAt hb e)))).2.1
    cases f with
    | next => obtain ⟨σ7, H7, I7, n7⟩ := q7; exact again I7 n7
    | cont => obtain ⟨σ7, H7, I7, n7⟩ := q7; exact again I7 n7
    | brk => obtain ⟨σ7, H7, I7, q7⟩ := q7; exact ⟨σ7, H7, I7.unpinned, q7⟩
    | ret v => obtain ⟨x7, σ7, H7, I7, r7, q7⟩ := q7; exact ⟨x7, σ7, H7, I7.unpinned, r7, q7⟩
end

/-! ### the forms one uses -/
/-- over a list that the body leaves as it is -/
theorem for_list {K : PySem.W.Frag} {a : Addr} {xs : List V} {g : TG} {tb : TS} {D : Ends} {σ : St} {H : Hp} (Pv : Nat → St → Hp → Prop) (h0 : Pv 0 σ H) (hl : ∀ i σ H, i ≤ xs.length → Pv i σ H → SqL K H a xs)
    (hs : ∀ i x σ H, xs[i]? = some x → Pv i σ H → g x σ H fun σ2 H2 => tb { D with nx := Pv (i + 1), ct := Pv (i + 1), bk := D.nx } σ2 H2) (hd : ∀ σ H, Pv xs.length σ H → D.nx σ H) :
    ∃ W : Nat → Nat → St → Hp → Prop, (∃ m, W 0 m σ H) ∧ ∀ i m σ H, W i m σ H →
      ((Itl K a).stop i H ∧ D.nx σ H) ∨ ((Itl K a).go i H ∧ ∃ N : St → Hp → Prop, (∀ σ' H', N σ' H' → ∃ m', m' < m ∧ W (i + 1) m' σ' H') ∧ ∀ x H', (Itl K a).yld i H x H' → g x σ H' fun σ2 H2 => tb { D with nx := N, ct := N, bk := D.nx } σ2 H2) := by
  refine ⟨fun i m σ H => m = xs.length - i ∧ i ≤ xs.length ∧ Pv i σ H, ⟨xs.length, by simp, Nat.zero_le _, h0⟩, ?_⟩
  rintro i m σ H ⟨rfl, hi, p⟩
  have q := hl i σ H hi p
  by_cases hlt : i < xs.length
  · refine .inr ⟨⟨xs, xs[i], q, by simp [hlt]⟩, Pv (i + 1), fun σ' H' p' => ⟨xs.length - (i + 1), by omega, rfl, hlt, p'⟩, fun x H' y => ?_⟩
    obtain ⟨e, y⟩ := y
    subst e
    exact hs i x σ _ (y xs q) p
  · have e : i = xs.length := by omega
    subst e
    exact .inl ⟨⟨xs, q, Nat.le_refl _⟩, hd σ H p⟩
theorem for_tup {K : PySem.W.Frag} {a : Addr} {xs : List V} {g : TG} {tb : TS} {D : Ends} {σ : St} {H : Hp} (Pv : Nat → St → Hp → Prop) (h0 : Pv 0 σ H) (hl : ∀ i σ H, i ≤ xs.length → Pv i σ H → SqT K H a xs)
    (hs : ∀ i x σ H, xs[i]? = some x → Pv i σ H → g x σ H fun σ2 H2 => tb { D with nx := Pv (i + 1), ct := Pv (i + 1), bk := D.nx } σ2 H2) (hd : ∀ σ H, Pv xs.length σ H → D.nx σ H) :
    ∃ W : Nat → Nat → St → Hp → Prop, (∃ m, W 0 m σ H) ∧ ∀ i m σ H, W i m σ H →
      ((Itt K a).stop i H ∧ D.nx σ H) ∨ ((Itt K a).go i H ∧ ∃ N : St → Hp → Prop, (∀ σ' H', N σ' H' → ∃ m', m' < m ∧ W (i + 1) m' σ' H') ∧ ∀ x H', (Itt K a).yld i H x H' → g x σ H' fun σ2 H2 => tb { D with nx := N, ct := N, bk := D.nx } σ2 H2) := by
  refine ⟨fun i m σ H => m = xs.length - i ∧ i ≤ xs.length ∧ Pv i σ H, ⟨xs.length, by simp, Nat.zero_le _, h0⟩, ?_⟩
  rintro i m σ H ⟨rfl, hi, p⟩
  have q := hl i σ H hi p
  by_cases hlt : i < xs.length
  · refine .inr ⟨⟨xs, xs[i], q, by simp [hlt]⟩, Pv (i + 1), fun σ' H' p' => ⟨xs.length - (i + 1), by omega, rfl, hlt, p'⟩, fun x H' y => ?_⟩
    obtain ⟨e, y⟩ := y
    subst e
    exact hs i x σ _ (y xs q) p
  · have e : i = xs.length := by omega
    subst e
    exact .inl ⟨⟨xs, q, Nat.le_refl _⟩, hd σ H p⟩
theorem for_range {lo : Int} {n : Nat} {g : TG} {tb : TS} {D : Ends} {σ : St} {H : Hp} (Pv : Nat → St → Hp → Prop) (h0 : Pv 0 σ H)
    (hs : ∀ i σ H, i < n → Pv i σ H → g (.int (lo + i)) σ H fun σ2 H2 => tb { D with nx := Pv (i + 1), ct := Pv (i + 1), bk := D.nx } σ2 H2) (hd : ∀ σ H, Pv n σ H → D.nx σ H) :
    ∃ W : Nat → Nat → St → Hp → Prop, (∃ m, W 0 m σ H) ∧ ∀ i m σ H, W i m σ H →
      ((Itr lo n).stop i H ∧ D.nx σ H) ∨ ((Itr lo n).go i H ∧ ∃ N : St → Hp → Prop, (∀ σ' H', N σ' H' → ∃ m', m' < m ∧ W (i + 1) m' σ' H') ∧ ∀ x H', (Itr lo n).yld i H x H' → g x σ H' fun σ2 H2 => tb { D with nx := N, ct := N, bk := D.nx } σ2 H2) := by
  refine ⟨fun i m σ H => m = n - i ∧ i ≤ n ∧ Pv i σ H, ⟨n, by simp, Nat.zero_le _, h0⟩, ?_⟩
  rintro i m σ H ⟨rfl, hi, p⟩
  by_cases hlt : i < n
  · refine .inr ⟨hlt, Pv (i + 1), fun σ' H' p' => ⟨n - (i + 1), by omega, rfl, hlt, p'⟩, fun x H' y => ?_⟩
    obtain ⟨e, y⟩ := y
    subst e y
    exact hs i σ _ hlt p
  · have e : i = n := by omega
    subst e
    exact .inl ⟨Nat.le_refl _, hd σ H p⟩
end L2

namespace L2
open PySem PySem.Spec PyProof.Rows

abbrev R2 := V → V → Hp → VK → Prop
/-- a two-place operation on values: f is binaryOp op, inplaceOp op or compareOp op -/
def OpR (X : Cx) (f : Value → Value → Sem Value) (r : R2) : Prop :=
  ∀ (pins : List (Addr × Obj)) (s : Shared) (σ : St) (H : Hp) (x y : V) (v u : Value) (Q : VK), Inv X pins σ H s → RelV x v → RelV y u → r x y H Q →
    wpAny (model X.prog X.w) X.A (f v u) (EP X pins σ Q) X.xe s
/-- a one-place operation -/
def UnR (X : Cx) (f : Value → Sem Value) (r : V → Hp → VK → Prop) : Prop :=
  ∀ (pins : List (Addr × Obj)) (s : Shared) (σ : St) (H : Hp) (x : V) (v : Value) (Q : VK), Inv X pins σ H s → RelV x v → r x H Q →
    wpAny (model X.prog X.w) X.A (f v) (EP X pins σ Q) X.xe s
/-- a call of a value that is known (a builtin, a type) with values -/
def CallR (X : Cx) (f : Value) (r : List V → Hp → VK → Prop) : Prop :=
  ∀ (pins : List (Addr × Obj)) (s : Shared) (σ : St) (H : Hp) (xs : List V) (us : List Value) (Q : VK), Inv X pins σ H s → Vals xs us → r xs H Q →
    wpAny (model X.prog X.w) X.A (call f us) (EP X pins σ Q) X.xe s
/-- a value's truth -/
def TruR (X : Cx) (r : V → Hp → (Bool → Hp → Prop) → Prop) : Prop :=
  ∀ (pins : List (Addr × Obj)) (s : Shared) (σ : St) (H : Hp) (x : V) (v : Value) (Q : Bool → Hp → Prop), Inv X pins σ H s → RelV x v → r x H Q →
    wpAny (model X.prog X.w) X.A (truthy v) (TP X pins σ Q) X.xe s

def tOp (r : R2) (ta tb : TE) : TE := fun σ H Q => ta σ H fun x H1 => tb σ H1 fun y H2 => r x y H2 Q
def tUn (r : V → Hp → VK → Prop) (ta : TE) : TE := fun σ H Q => ta σ H fun x H1 => r x H1 Q
/-- ints in, under C, and a value out -/
def rI (C : Int → Int → Prop) (g : Int → Int → V) : R2 := fun x y H Q => ∃ i j, x = .int i ∧ y = .int j ∧ C i j ∧ Q (g i j) H
def rI0 (g : Int → Int → V) : R2 := fun x y H Q => ∃ i j, x = .int i ∧ y = .int j ∧ Q (g i j) H
def rU (g : Int → V) : V → Hp → VK → Prop := fun x H Q => ∃ i, x = .int i ∧ Q (g i) H

section
variable {X : Cx} {a b c : Expr} {ta tb tc : TE} {pos : Pos}

theorem binT (ha : PE X a ta) (hb : PE X b tb) {pins : List (Addr × Obj)} {s : Shared} {σ : St} {H : Hp} {R : V → V → Hp → Prop} (I : Inv X pins σ H s)
    (h : ta σ H fun x H1 => tb σ H1 fun y H2 => R x y H2) {Q : Value → Shared → Prop} {f : Value → Value → Sem Value}
    (hf : ∀ v u s2 x y H2, Inv X pins σ H2 s2 → RelV x v → RelV y u → R x y H2 → wpAny (model X.prog X.w) X.A (f v u) Q X.xe s2) :
    wpAny (model X.prog X.w) X.A (eval a X.env) (fun v s₁ => wpAny (model X.prog X.w) X.A (eval b X.env) (fun u s₂ => wpAny (model X.prog X.w) X.A (f v u) Q X.xe s₂) X.xe s₁) X.xe s := by
  refine thn (ha pins s σ H _ I h) fun v s1 ⟨x, H1, I1, r1, q1⟩ => ?_
  refine thn (hb pins s1 σ H1 _ I1 q1) fun u s2 ⟨y, H2, I2, r2, q2⟩ => ?_
  exact hf v u s2 x y H2 I2 r1 r2 q2

theorem pe_op {op : Operator} {r : R2} (ho : OpR X (binaryOp op) r) (ha : PE X a ta) (hb : PE X b tb) : PE X (.BinOp a op b pos) (tOp r ta tb) := by
  intro pins s σ H Q I h
  exact wpAny_BinOp (binT ha hb I h fun v u s2 x y H2 I2 rx ry q => ho pins s2 σ H2 x y v u Q I2 rx ry q)
theorem pe_un {op : UnaryOp} {r : V → Hp → VK → Prop} (ho : UnR X (unaryOp op) r) (ha : PE X a ta) : PE X (.UnaryOp op a pos) (tUn r ta) := by
  intro pins s σ H Q I h
  exact UnaryOp_ (thn (ha pins s σ H _ I h) fun v s1 ⟨x, H1, I1, r1, q1⟩ => ho pins s1 σ H1 x v Q I1 r1 q1)
/-! ### ints -/
theorem opI {f : Value → Value → Sem Value} {C : Int → Int → Prop} {g : Int → Int → Int}
    (rule : ∀ (i j : Int) (t u : Tok) (s : Shared) (Q : Value → Shared → Prop) (E : Value → Shared → Prop), C i j → Q (.int (g i j) s.toks) { s with toks := s.toks + 1 } → wpAny (model X.prog X.w) X.A (f (.int i t) (.int j u)) Q E s) :
    OpR X f (rI C fun i j => .int (g i j)) := by
  intro pins s σ H x y v u Q I rx ry h
  obtain ⟨i, j, rfl, rfl, hc, q⟩ := h
  obtain ⟨t, rfl⟩ := rx
  obtain ⟨t', rfl⟩ := ry
  exact rule i j t t' s _ _ hc ⟨.int (g i j), H, I.tok _, ⟨_, rfl⟩, q⟩
theorem opI0 {f : Value → Value → Sem Value} {g : Int → Int → Int}
    (rule : ∀ (i j : Int) (t u : Tok) (s : Shared) (Q : Value → Shared → Prop) (E : Value → Shared → Prop), Q (.int (g i j) s.toks) { s with toks := s.toks + 1 } → wpAny (model X.prog X.w) X.A (f (.int i t) (.int j u)) Q E s) :
    OpR X f (rI0 fun i j => .int (g i j)) := by
  intro pins s σ H x y v u Q I rx ry h
  obtain ⟨i, j, rfl, rfl, q⟩ := h
  obtain ⟨t, rfl⟩ := rx
  obtain ⟨t', rfl⟩ := ry
  exact rule i j t t' s _ _ ⟨.int (g i j), H, I.tok _, ⟨_, rfl⟩, q⟩
theorem opB0 {f : Value → Value → Sem Value} {g : Int → Int → Bool}
    (rule : ∀ (i j : Int) (t u : Tok) (s : Shared) (Q : Value → Shared → Prop) (E : Value → Shared → Prop), Q (.bool (g i j)) s → wpAny (model X.prog X.w) X.A (f (.int i t) (.int j u)) Q E s) :
    OpR X f (rI0 fun i j => .bl (g i j)) := by
  intro pins s σ H x y v u Q I rx ry h
  obtain ⟨i, j, rfl, rfl, q⟩ := h
  obtain ⟨t, rfl⟩ := rx
  obtain ⟨t', rfl⟩ := ry
  exact rule i j t t' s _ _ ⟨.bl (g i j), H, I, rfl, q⟩

def CDiv (i j : Int) : Prop := 0 < j ∧ j < 1073741824
def CDivN (i j : Int) : Prop := j ≠ 0 ∧ j.natAbs < 1073741824
def CPow (i j : Int) : Prop := 0 ≤ j ∧ j ≤ 1000000 ∧ i.natAbs < 2 ^ 64
def CMul (i j : Int) : Prop := (-(2 ^ 64) < i ∧ i < 2 ^ 64) ∨ (-(2 ^ 64) < j ∧ j < 2 ^ 64)
theorem CMul.ok {i j : Int} (h : CMul i j) : IntMulOk i j := by
  rcases h with ⟨h1, h2⟩ | ⟨h1, h2⟩
  · exact .of_left (intBits_le_64 h1 h2)
  · exact .of_right (intBits_le_64 h1 h2)
theorem op_add : OpR X (binaryOp .Add) (rI0 fun i j => .int (i + j)) := opI0 fun _ _ _ _ _ _ _ q => add_int q
theorem op_sub : OpR X (binaryOp .Sub) (rI0 fun i j => .int (i - j)) := opI0 fun _ _ _ _ _ _ _ q => sub_int q
theorem op_mul : OpR X (binaryOp .Mult) (rI CMul fun i j => .int (i * j)) := opI fun _ _ _ _ _ _ _ hc q => mul_int q hc.ok
/-- // by a positive divisor -/
theorem op_fdiv : OpR X (binaryOp .FloorDiv) (rI CDiv fun i j => .int (i / j)) := opI fun i j _ _ _ _ _ hc q => by
  have h1 : (0 : Int) < j := hc.1
  have h2 : j < 1073741824 := hc.2
  exact floordiv_int (by omega) (by rw [Int.fdiv_eq_ediv_of_nonneg i (by omega)]; exact q) (.inl (PyProof.noPylong_small (by omega)))
/-- % by a positive divisor of any size -/
theorem op_mod : OpR X (binaryOp .Mod) (rI (fun _ j => 0 < j) fun i j => .int (i % j)) := opI fun i j _ _ _ _ _ hc q => by
  have h1 : (0 : Int) < j := hc
  exact mod_int' (by omega) (by rw [Int.fmod_eq_emod_of_nonneg i (by omega)]; exact q)
theorem op_pow : OpR X (binaryOp .Pow) (rI CPow fun i j => .int (i ^ j.toNat)) := opI fun _ _ _ _ _ _ _ hc q => pow_int_small hc.1 hc.2.1 hc.2.2 q
theorem unI {f : Value → Sem Value} {g : Int → Int}
    (rule : ∀ (i : Int) (t : Tok) (s : Shared) (Q : Value → Shared → Prop) (E : Value → Shared → Prop), Q (.int (g i) s.toks) { s with toks := s.toks + 1 } → wpAny (model X.prog X.w) X.A (f (.int i t)) Q E s) :
    UnR X f (rU fun i => .int (g i)) := by
  intro pins s σ H x v Q I rx h
  obtain ⟨i, rfl, q⟩ := h
  obtain ⟨t, rfl⟩ := rx
  exact rule i t s _ _ ⟨.int (g i), H, I.tok _, ⟨_, rfl⟩, q⟩
theorem un_neg : UnR X (unaryOp .USub) (rU fun i => .int (-i)) := unI fun _ _ _ _ _ q => neg_int q
/-! ### bools among ints: n += (a < b) -/
end

/-! ### comparisons -/
/-- the scalars that == tells apart as data does -/
def scal : V → V → Bool
  | .non, .non => true | .non, .int _ => true | .int _, .non => true | .non, .bl _ => true | .bl _, .non => true | .non, .str _ => true | .str _, .non => true
  | .int _, .int _ => true | .bl _, .bl _ => true | .str _, .str _ => true | .byt _, .byt _ => true
  | .int _, .str _ => true | .str _, .int _ => true | .bl _, .str _ => true | .str _, .bl _ => true
  | _, _ => false
def rEq : R2 := fun x y H Q => scal x y = true ∧ Q (.bl (decide (x = y))) H
def rNe : R2 := fun x y H Q => scal x y = true ∧ Q (.bl (!decide (x = y))) H

theorem dec_int {i j : Int} : decide (V.int i = V.int j) = (i == j) := by
  rw [Bool.eq_iff_iff]
  simp
theorem dec_bl {i j : Bool} : decide (V.bl i = V.bl j) = (i == j) := by
  rw [Bool.eq_iff_iff]
  simp
theorem dec_str {i j : Str} : decide (V.str i = V.str j) = (i == j) := by
  rw [Bool.eq_iff_iff]
  simp
theorem dec_byt {i j : Array UInt8} : decide (V.byt i = V.byt j) = (i.toList == j.toList) := by
  rw [Bool.eq_iff_iff]
  cases i
  cases j
  simp

section
variable {X : Cx} {a b c : Expr} {ta tb tc : TE} {pos : Pos}
theorem fin_bl {pins : List (Addr × Obj)} {σ : St} {H : Hp} {s : Shared} {Q : VK} {k k' : Bool} (I : Inv X pins σ H s) (q : Q (.bl k) H) (e : k = k') : EP X pins σ Q (.bool k') s := by
  subst e
  exact ⟨.bl k, H, I, rfl, q⟩
theorem op_eq : OpR X (compareOp .Eq) rEq := by
  intro pins s σ H x y v u Q I rx ry h
  obtain ⟨hs, q⟩ := h
  cases x with
  | non =>
    cases rx
    cases y with
    | non => cases ry; exact PySem.EqNone.eq_none_none (fin_bl I q (by simp))
    | bl j => cases ry; exact PySem.EqNone.eq_none_bool (fin_bl I q (by simp))
    | int j => obtain ⟨t', rfl⟩ := ry; exact PySem.EqNone.eq_none_int (fin_bl I q (by simp))
    | str j => obtain ⟨t', rfl⟩ := ry; exact PySem.EqNone.eq_none_str (fin_bl I q (by simp))
    | _ => exact absurd (show false = true from hs) Bool.false_ne_true
  | bl i =>
    cases rx
    cases y with
    | non => cases ry; exact PySem.EqNone.eq_bool_none (fin_bl I q (by simp))
    | bl j => cases ry; exact eq_bool (fin_bl I q dec_bl)
    | str j => obtain ⟨t', rfl⟩ := ry; exact PySem.EqMixed.eq_bool_str (fin_bl I q (by simp))
    | _ => exact absurd (show false = true from hs) Bool.false_ne_true
  | int i =>
    obtain ⟨t, rfl⟩ := rx
    cases y with
    | non => cases ry; exact PySem.EqNone.eq_int_none (fin_bl I q (by simp))
    | int j => obtain ⟨t', rfl⟩ := ry; exact eq_int (fin_bl I q dec_int)
    | str j => obtain ⟨t', rfl⟩ := ry; exact PySem.EqMixed.eq_int_str (fin_bl I q (by simp))
    | _ => exact absurd (show false = true from hs) Bool.false_ne_true
  | str i =>
    obtain ⟨t, rfl⟩ := rx
    cases y with
    | non => cases ry; exact PySem.EqNone.eq_str_none (fin_bl I q (by simp))
    | bl j => cases ry; exact PySem.EqMixed.eq_str_bool (fin_bl I q (by simp))
    | int j => obtain ⟨t', rfl⟩ := ry; exact PySem.EqMixed.eq_str_int (fin_bl I q (by simp))
    | str j => obtain ⟨t', rfl⟩ := ry; exact eq_str (fin_bl I q dec_str)
    | _ => exact absurd (show false = true from hs) Bool.false_ne_true
  | byt i =>
    obtain ⟨t, rfl⟩ := rx
    cases y with
    | byt j => obtain ⟨t', rfl⟩ := ry; exact PySem.W.eq_bytes (fin_bl I q dec_byt)
    | _ => exact absurd (show false = true from hs) Bool.false_ne_true
  | _ => cases y <;> exact absurd (show false = true from hs) Bool.false_ne_true
theorem op_ne : OpR X (compareOp .NotEq) rNe := by
  intro pins s σ H x y v u Q I rx ry h
  obtain ⟨hs, q⟩ := h
  cases x with
  | non =>
    cases rx
    cases y with
    | non => cases ry; exact PySem.EqNone.ne_none_none (fin_bl I q (by simp))
    | bl j => cases ry; exact PySem.EqNone.ne_none_bool (fin_bl I q (by simp))
    | int j => obtain ⟨t', rfl⟩ := ry; exact PySem.EqNone.ne_none_int (fin_bl I q (by simp))
    | str j => obtain ⟨t', rfl⟩ := ry; exact PySem.EqNone.ne_none_str (fin_bl I q (by simp))
    | _ => exact absurd (show false = true from hs) Bool.false_ne_true
  | bl i =>
    cases rx
    cases y with
    | non => cases ry; exact PySem.EqNone.ne_bool_none (fin_bl I q (by simp))
    | bl j => cases ry; exact ne_bool (fin_bl I q (congrArg not dec_bl))
    | str j => obtain ⟨t', rfl⟩ := ry; exact PySem.EqMixed.ne_bool_str (fin_bl I q (by simp))
    | _ => exact absurd (show false = true from hs) Bool.false_ne_true
  | int i =>
    obtain ⟨t, rfl⟩ := rx
    cases y with
    | non => cases ry; exact PySem.EqNone.ne_int_none (fin_bl I q (by simp))
    | int j => obtain ⟨t', rfl⟩ := ry; exact ne_int (fin_bl I q (congrArg not dec_int))
    | str j => obtain ⟨t', rfl⟩ := ry; exact PySem.EqMixed.ne_int_str (fin_bl I q (by simp))
    | _ => exact absurd (show false = true from hs) Bool.false_ne_true
  | str i =>
    obtain ⟨t, rfl⟩ := rx
    cases y with
    | non => cases ry; exact PySem.EqNone.ne_str_none (fin_bl I q (by simp))
    | bl j => cases ry; exact PySem.EqMixed.ne_str_bool (fin_bl I q (by simp))
    | int j => obtain ⟨t', rfl⟩ := ry; exact PySem.EqMixed.ne_str_int (fin_bl I q (by simp))
    | str j => obtain ⟨t', rfl⟩ := ry; exact ne_str (fin_bl I q (congrArg not dec_str))
    | _ => exact absurd (show false = true from hs) Bool.false_ne_true
  | byt i =>
    obtain ⟨t, rfl⟩ := rx
    cases y with
    | byt j => obtain ⟨t', rfl⟩ := ry; exact PySem.W.ne_bytes (fin_bl I q (congrArg not dec_byt))
    | _ => exact absurd (show false = true from hs) Bool.false_ne_true
  | _ => cases y <;> exact absurd (show false = true from hs) Bool.false_ne_true

theorem op_lt : OpR X (compareOp .Lt) (rI0 fun i j => .bl (decide (i < j))) := opB0 fun _ _ _ _ _ _ _ q => lt_int q
theorem op_le : OpR X (compareOp .LtE) (rI0 fun i j => .bl (decide (i ≤ j))) := opB0 fun _ _ _ _ _ _ _ q => le_int q
theorem op_gt : OpR X (compareOp .Gt) (rI0 fun i j => .bl (decide (j < i))) := opB0 fun _ _ _ _ _ _ _ q => gt_int q
/-- is, is not of two objects that are tracked lists or instances -/
def isObj : HO → Bool
  | .lst _ => true
  | .ins _ _ _ => true
  | _ => false
/-- two rules for one operation: by cases -/
theorem OpR.or {f : Value → Value → Sem Value} {r r' : R2} (h : OpR X f r) (h' : OpR X f r') : OpR X f (fun x y H Q => r x y H Q ∨ r' x y H Q) := by
  intro pins s σ H x y v u Q I rx ry q
  rcases q with q | q
  · exact h pins s σ H x y v u Q I rx ry q
  · exact h' pins s σ H x y v u Q I rx ry q

theorem nomark (b : Expr) {op : CmpOp} (h : op ≠ .In := by decide) (h2 : op ≠ .NotIn := by decide) : behindInMarks op b = false := by
  have e1 : (op == CmpOp.In) = false := by cases op <;> first | rfl | exact absurd rfl h
  have e2 : (op == CmpOp.NotIn) = false := by cases op <;> first | rfl | exact absurd rfl h2
  cases b <;> simp [behindInMarks, e1, e2]
/-- a comparison as a value; hm: nomark b, or (for in, not in) by with_unfolding_all rfl -/
theorem pe_cmpR {op : CmpOp} {r : R2} (ho : OpR X (compareOp op) r) (ha : PE X a ta) (hb : PE X b tb) (hm : behindInMarks op b = false) : PE X (.Compare a [op] [b] pos) (tOp r ta tb) := by
  intro pins s σ H Q I h
  exact wpAny_Compare1 (binT ha hb I h fun v u s2 x y H2 I2 rx ry q => ho pins s2 σ H2 x y v u Q I2 rx ry q) hm
/-- a reading of a value as a test -/
def tTest (t : TE) : TT := fun σ H Q => t σ H fun x H' => ∃ k, x = .bl k ∧ Q k H'
theorem pt_cmpR {op : CmpOp} {r : R2} (ho : OpR X (compareOp op) r) (ha : PE X a ta) (hb : PE X b tb) (hm : behindInMarks op b = false) : PT X (.Compare a [op] [b] pos) (tTest (tOp r ta tb)) := by
  intro pins s σ H Q I h
  refine wpAny_isTrue_Compare1 (thn (ha pins s σ H _ I h) fun v s1 ⟨x, H1, I1, r1, q1⟩ => thn (hb pins s1 σ H1 _ I1 q1) fun u s2 ⟨y, H2, I2, r2, q2⟩ =>
    thn (ho pins s2 σ H2 x y v u _ I2 r1 r2 q2) fun c s3 ⟨z, H3, I3, r3, k, e, q3⟩ => ?_) hm
  subst e
  cases r3
  exact wpAny_truthy_bool ⟨H3, I3, q3⟩
/-- a op1 b op2 c -/
def tChain (r r' : R2) (ta tb tc : TE) : TE := fun σ H Q => ta σ H fun x H1 => tb σ H1 fun y H2 => r x y H2 fun z H3 => ∃ k, z = .bl k ∧
  (if k = true then tc σ H3 fun w' H4 => r' y w' H4 Q else Q (.bl false) H3)
/-! ### truth -/
/-- a value's truth by the abstract heap -/
def TruV (K : PySem.W.Frag) (x : V) (H : Hp) (k : Bool) : Prop :=
  match x with
  | .non => k = false
  | .bl b => k = b
  | .int i => k = (i != 0)
  | .str y => y.length ≤ sizeLine ∧ k = ((y.length : Int) != 0)
  | .byt y => y.size ≤ sizeLine ∧ k = ((y.size : Int) != 0)
  | .ref p => (∃ xs, SqL K H p xs ∧ k = !xs.isEmpty) ∨ (∃ xs, SqT K H p xs ∧ k = !xs.isEmpty) ∨ ∃ kvs, H p = some (.dK kvs) ∧ k = !kvs.isEmpty
  | _ => False
theorem isEmpty_kv {κ : Type} {kvs : List (κ × V)} {vs : List (κ × Value)} (r : KV kvs vs) : (!vs.isEmpty) = !kvs.isEmpty := by
  cases r <;> rfl
theorem isEmpty_of {xs : List V} {its : List Value} (r : Vals xs its) : (!its.toArray.isEmpty) = !xs.isEmpty := by
  cases r <;> simp
theorem line63 : (sizeLine : Nat) < 2 ^ 63 := by rw [sizeLine_eq]; decide
theorem tru_ok : TruR X (fun x H Q => ∃ k, TruV X.K x H k ∧ Q k H) := by
  intro pins s σ H x v Q I rx h
  obtain ⟨k, e, q⟩ := h
  have hl := line63
  have hs : sizeLine = 16777216 := sizeLine_eq
  cases x with
  | non =>
    cases rx
    have e' : k = false := e
    subst e'
    exact truthy_none ⟨H, I, q⟩
  | bl b =>
    cases rx
    have e' : k = b := e
    subst e'
    exact wpAny_truthy_bool ⟨H, I, q⟩
  | int i =>
    obtain ⟨t, rfl⟩ := rx
    have e' : k = (i != 0) := e
    subst e'
    exact PySem.P.truthy_int ⟨H, I, q⟩
  | str y =>
    obtain ⟨t, rfl⟩ := rx
    obtain ⟨hy, e'⟩ : y.length ≤ sizeLine ∧ k = ((y.length : Int) != 0) := e
    subst e'
    exact PySem.P.truthy_str (by omega) ⟨H, I.tok _, q⟩
  | byt y =>
    obtain ⟨t, rfl⟩ := rx
    obtain ⟨hy, e'⟩ : y.size ≤ sizeLine ∧ k = ((y.size : Int) != 0) := e
    subst e'
    exact PySem.W.truthy_bytes (by omega) ⟨H, I.tok _, q⟩
  | ref p =>
    cases rx
    have e' : (∃ xs, SqL X.K H p xs ∧ k = !xs.isEmpty) ∨ (∃ xs, SqT X.K H p xs ∧ k = !xs.isEmpty) ∨ ∃ kvs, H p = some (.dK kvs) ∧ k = !kvs.isEmpty := e
    rcases e' with ⟨xs, hx, e'⟩ | ⟨xs, hx, e'⟩ | ⟨kvs, hx, e'⟩
    · subst e'
      obtain ⟨its, r, pl, hz⟩ := I.list hx
      have hlen := r.length
      exact wpAny_truthy_list pl.isList (by simp only [List.size_toArray]; omega) ⟨H, I.tok _, by rw [isEmpty_of r]; exact q⟩
    · subst e'
      obtain ⟨its, r, pl, hz⟩ := I.tuple hx
      have hlen := r.length
      exact truthy_tuple pl (by simp only [List.size_toArray]; omega) ⟨H, I.tok _, by rw [isEmpty_of r]; exact q⟩
    · subst e'
      obtain ⟨hz, hS, vs, r, m⟩ : kvs.length ≤ sizeLine ∧ (p == sysModules) = false ∧ ∃ vs, KV kvs vs ∧ s.heap.DictOf (mixKind X.prog X.w) p vs := I.hok p _ hx
      have hlen : kvs.length = vs.length := Paired.length r
      exact wpAny_truthy_dict hS m (by omega) ⟨H, I.tok _, by rw [isEmpty_kv r]; exact q⟩
  | _ => exact (show False from e).elim
/-! ### strs and bytes -/
def PlainIxT (b : Expr) : Prop := ∀ o i, subscripted b false o i = operate [o, i] (getItem o i)
/-! ### scalar builtins, by CallR -/
theorem vals1 {x : V} {us : List Value} (r : Vals [x] us) : ∃ u, us = [u] ∧ RelV x u := by
  cases r with
  | cons r1 r2 => cases r2; exact ⟨_, rfl, r1⟩
theorem vals2 {x y : V} {us : List Value} (r : Vals [x, y] us) : ∃ u w', us = [u, w'] ∧ RelV x u ∧ RelV y w' := by
  cases r with
  | cons r1 r2 =>
    cases r2 with
    | cons r3 r4 => cases r4; exact ⟨_, _, rfl, r1, r3⟩
theorem call_max2 (hc : X.calm = true) : CallR X (.builtin "max") (fun xs H Q => ∃ i j, xs = [.int i, .int j] ∧ Q (.int (if j > i then j else i)) H) := by
  intro pins s σ H xs us Q I r h
  obtain ⟨i, j, rfl, q⟩ := h
  obtain ⟨u, w', rfl, ⟨t, rfl⟩, ⟨t', rfl⟩⟩ := vals2 r
  refine max_two_ints (I.ok.hd hc) fun h' tk k => ⟨_, H, I.kept k, ?_, q⟩
  by_cases hj : j > i
  · rw [if_pos hj, if_pos hj]; exact ⟨_, rfl⟩
  · rw [if_neg hj, if_neg hj]; exact ⟨_, rfl⟩
theorem call_min2 (hc : X.calm = true) : CallR X (.builtin "min") (fun xs H Q => ∃ i j, xs = [.int i, .int j] ∧ Q (.int (if j < i then j else i)) H) := by
  intro pins s σ H xs us Q I r h
  obtain ⟨i, j, rfl, q⟩ := h
  obtain ⟨u, w', rfl, ⟨t, rfl⟩, ⟨t', rfl⟩⟩ := vals2 r
  refine min_two_ints (I.ok.hd hc) fun h' tk k => ⟨_, H, I.kept k, ?_, q⟩
  by_cases hj : j < i
  · rw [if_pos hj, if_pos hj]; exact ⟨_, rfl⟩
  · rw [if_neg hj, if_neg hj]; exact ⟨_, rfl⟩
theorem call_int1 : CallR X (.type "int") (fun xs H Q => (∃ i, xs = [.int i] ∧ Q (.int i) H) ∨ ∃ k, xs = [.bl k] ∧ Q (.int (if k then 1 else 0)) H) := by
  intro pins s σ H xs us Q I r h
  rcases h with ⟨i, rfl, q⟩ | ⟨k, rfl, q⟩
  · obtain ⟨u, rfl, t, rfl⟩ := vals1 r
    exact call_int_int ⟨.int i, H, I, ⟨_, rfl⟩, q⟩
  · obtain ⟨u, rfl, r1⟩ := vals1 r
    cases r1
    exact call_int_bool ⟨.int (if k then 1 else 0), H, I.tok _, ⟨_, rfl⟩, q⟩
/-- len of a str, a bytes, a list, a tuple -/
def LenV (K : PySem.W.Frag) (x : V) (H : Hp) (n : Nat) : Prop :=
  match x with
  | .str y => y.length ≤ sizeLine ∧ n = y.length
  | .byt y => y.size ≤ sizeLine ∧ n = y.size
  | .ref p => (∃ xs, SqL K H p xs ∧ n = xs.length) ∨ ∃ xs, SqT K H p xs ∧ n = xs.length
  | _ => False
end
end L2

namespace L2
open PySem PySem.Spec PyProof.Rows

/-! ### an instance, its attributes a map -/
structure ObjM (h : Heap) (x dx C : Addr) (mA : Str → Option Value) : Prop where
  obj : h.get? x = some (PySem.W.instObj C dx)
  ns : h.Ns1 dx mA
  ne : dx ≠ x

theorem lookIn_ns {h : Heap} {dx : Addr} {mA : Str → Option Value} (n : h.Ns1 dx mA) : ∃ od, h.get? dx = some od ∧ ∀ name, PySem.W.lookIn name od = some (mA name) := by
  obtain ⟨o, es, ep, ho, hd, hk, _, hm⟩ := n
  refine ⟨o, ho, fun name => ?_⟩
  have e := hm name
  unfold nsFind findBy at e
  rw [← Array.find?_toList] at e
  unfold PySem.W.lookIn
  rw [hd]
  dsimp only
  split
  · rename_i y q
    rw [q] at e
    exact congrArg some e
  · rename_i q
    rw [q] at e
    have a : es.toList.any (·.refKey) = false := by
      rw [List.any_eq_false]
      intro y hy
      obtain ⟨z, t, hkey⟩ := hk y (Array.mem_toList_iff.mp hy)
      simp [DictEntry.refKey, hkey]
    have a' : ¬ es.toList.any (·.refKey) = true := by rw [a]; exact Bool.false_ne_true
    rw [if_neg a']
    exact congrArg some e

theorem ObjM.look {h : Heap} {x dx C : Addr} {mA : Str → Option Value} (I : ObjM h x dx C mA) : ∃ od, PySem.W.InstAt h x (PySem.W.instObj C dx) C (some od) ∧ ∀ name, PySem.W.lookIn name od = some (mA name) :=
  let ⟨od, ho, hl⟩ := lookIn_ns I.ns
  ⟨od, ⟨I.obj, rfl, rfl, ho⟩, hl⟩

section
variable {prog : Program} {w : World} {A : Around} {E : Value → Shared → Prop} {s : Shared} {K : PySem.W.Frag} {x dx C f : Addr} {mA : Str → Option Value} {name : Str} {v : Value}

theorem get_map {expr : Bool} {Q : Value → Shared → Prop} (X : K.In s.heap) (I : ObjM s.heap x dx C mA) (hg : PySem.W.plainGet K C name = true) (hh : PySem.W.hasDictIn K C = true)
    (ha : PySem.W.findIn K (.ref C) name = some none) (hv : mA name = some v) (hv' : PySem.W.handedIn v = true) (h : Q v { s with toks := s.toks + 1 }) :
    wpAny (model prog w) A (getAttr (.ref x) name expr) Q E s := by
  obtain ⟨od, J, hl⟩ := I.look
  exact PySem.W.get_value X J (PySem.W.plainGet_of hg).1 (PySem.W.findObj_own hh ha rfl (by rw [hl, hv])) hv' h

theorem get_meth {pl : Sem Bool} {Q : Value × List Value → Shared → Prop} (X : K.In s.heap) (I : ObjM s.heap x dx C mA) (hg : PySem.W.plainGet K C name = true)
    (hf : PySem.W.findIn K (.ref C) name = some (some (.ref f))) (ht : PySem.W.isFn K (.ref f) = true) (hv : mA name = none) (h : Q (.ref f, [.ref x]) s) :
    wpAny (model prog w) A (getMethod (.ref x) name pl) Q E s := by
  obtain ⟨od, J, hl⟩ := I.look
  exact PySem.W.method_fn X J (PySem.W.plainGet_of hg).1 (PySem.W.plainGet_of hg).2 hf (beq_iff_eq.mp ht) (by show (PySem.W.lookIn name od).map (·.isSome) = some false; rw [hl, hv]; rfl) h

theorem set_map {ns : List Str} {Q : Unit → Shared → Prop} (X : K.In s.heap) (I : ObjM s.heap x dx C mA)
    (hs : PySem.W.findIn K (.ref C) "__setattr__" = some (some (.builtin "object.__setattr__"))) (hp : PySem.W.plainOver K C = true) (ht : PySem.W.takerIn K C name = some none) (hh : PySem.W.hasDictIn K C = true)
    (hw : PySem.Within mA ns) (hsz : ns.length ≤ sizeLine)
    (h : ∀ h', ObjM h' x dx C (fun y => if y = name then some v else mA y) → Heap.SameBut dx s.heap h' → Q () { s with heap := h', toks := s.toks + 2 }) :
    wpAny (model prog w) A (setAttr (.ref x) name v) Q E s := by
  obtain ⟨od, J, hl⟩ := I.look
  refine PySem.W.set_plain X J hs (PySem.W.osa_open (s := { s with toks := s.toks + 1 }) (r := none) X J hp ht fun b => ?_)
  obtain ⟨cd, hc, hd'⟩ := PySem.W.any_some hh
  have hx : s.heap.get? x = some ⟨.ref C, some dx, .plain, #[]⟩ := I.obj
  refine wpAny_bind (wpAny_pure (wpAny_bind (wpAny_bind (wpAny_loadPart hx (wpAny_bind (PySem.W.Looks.here (s := { s with toks := s.toks + 1 }) (PySem.W.looks_clsIn X hc) ?_))))))
  rw [hd']
  refine wpAny_pure (a := some dx) (wpAny_bind (wpAny_pure (wpAny_bind ?_)))
  refine wpAny_nsSet1 (s := { s with toks := s.toks + 1 }) I.ns fun h' hn2 hs2 => ?_
  obtain ⟨oD, esD, epD, hoD, hdD, hcD⟩ := hn2.count (PySem.Within.cons name v hw)
  refine wpAny_bind (wpAny_lookBehind hoD (by rw [hdD]; exact pastItsLine_dict (Nat.le_trans hcD (by rw [List.length_cons]; omega))) ?_)
  exact wpAny_pure (h _ ⟨(hs2.2 _ (Ne.symm I.ne)).trans I.obj, hn2, I.ne⟩ hs2)

/-- C(..): the dict at the heap's end, the instance behind it; then its __init__ -/
theorem make_map {R : Result → Shared → Prop} {vs : List Value} {kw : List (Str × Value)} (X : K.In s.heap) (hm : PySem.W.makesIn K C = true)
    (hi : PySem.W.findIn K (.ref C) "__init__" = some (some (.ref f))) (hf : PySem.W.typeIn K (.ref f) = some (.type "function"))
    (h : codeAny (model prog w) (A.under (.builtin "type.__call__" ⟨.ref C :: vs, kw⟩)) (.call (.ref f) ⟨.ref (s.heap.objs.size + 1) :: vs, kw⟩) (PySem.W.InitBack (s.heap.objs.size + 1) R)
      { s with heap := (s.heap.push PySem.W.emptyDict).push (PySem.W.instObj C s.heap.objs.size) }) :
    codeAny (model prog w) A (.call (.ref C) ⟨vs, kw⟩) R s := by
  obtain ⟨hh, g, d, t, os⟩ := s
  exact PySem.W.make_core (PySem.W.makes_of X hm) (PySem.W.looks_findIn X hi) (fun self => PySem.W.bind_fn X self hf) (.inl rfl) h
end

/-! ### the attributes as a list of pairs -/
def putF (f : Str) (v : V) : List (Str × V) → List (Str × V)
  | [] => [(f, v)]
  | (g, x) :: r => if g = f then (g, v) :: r else (g, x) :: putF f v r
theorem lookup_putF (f g : Str) (v : V) : ∀ fs : List (Str × V), (putF f v fs).lookup g = if g = f then some v else fs.lookup g
  | [] => by
    show List.lookup g [(f, v)] = _
    by_cases h : g = f
    · have hb : (g == f) = true := beq_iff_eq.mpr h
      simp only [List.lookup, hb, if_pos h]
    · have hb : (g == f) = false := beq_eq_false_iff_ne.mpr h
      simp only [List.lookup, hb, if_neg h]
  | (k, x) :: r => by
    have ih := lookup_putF f g v r
    rw [show putF f v ((k, x) :: r) = (if k = f then (k, v) :: r else (k, x) :: putF f v r) from rfl]
    by_cases hk : k = f
    · rw [if_pos hk]
      by_cases h : g = k
      · have hb : (g == k) = true := beq_iff_eq.mpr h
        simp only [List.lookup, hb, if_pos (h.trans hk)]
      · have hb : (g == k) = false := beq_eq_false_iff_ne.mpr h
        simp only [List.lookup, hb, if_neg (fun e : g = f => h (e.trans hk.symm))]
    · rw [if_neg hk]
      by_cases h : g = k
      · have hb : (g == k) = true := beq_iff_eq.mpr h
        simp only [List.lookup, hb, if_neg (fun e : g = f => hk (h.symm.trans e))]
      · have hb : (g == k) = false := beq_eq_false_iff_ne.mpr h
        simp only [List.lookup, hb]
        exact ih
theorem keys_putF (f : Str) (v : V) : ∀ fs : List (Str × V), f ∈ (putF f v fs).map (·.1) ∧ ∀ g, g ∈ fs.map (·.1) → g ∈ (putF f v fs).map (·.1)
  | [] => ⟨by simp [putF], fun g h => by simp at h⟩
  | (k, x) :: r => by
    obtain ⟨i1, i2⟩ := keys_putF f v r
    rw [show putF f v ((k, x) :: r) = (if k = f then (k, v) :: r else (k, x) :: putF f v r) from rfl]
    by_cases hk : k = f
    · rw [if_pos hk]
      subst hk
      exact ⟨by simp, fun g h => by simpa using h⟩
    · rw [if_neg hk]
      refine ⟨?_, fun g h => ?_⟩
      · rw [List.map_cons]
        exact List.mem_cons_of_mem _ i1
      · rw [List.map_cons] at h ⊢
        rcases List.mem_cons.mp h with e | e
        · exact List.mem_cons.mpr (.inl e)
        · exact List.mem_cons_of_mem _ (i2 g e)
theorem length_putF (f : Str) (v : V) : ∀ fs : List (Str × V), (putF f v fs).length ≤ fs.length + 1
  | [] => by simp [putF]
  | (k, x) :: r => by
    have ih := length_putF f v r
    rw [show putF f v ((k, x) :: r) = (if k = f then (k, v) :: r else (k, x) :: putF f v r) from rfl]
    by_cases hk : k = f
    · rw [if_pos hk, List.length_cons, List.length_cons]; omega
    · rw [if_neg hk, List.length_cons, List.length_cons]; omega

theorem RelO.some_of {v : V} {o : Option Value} (r : RelO (some v) o) : ∃ u, o = some u ∧ RelV v u := by
  cases o with
  | none => exact (show False from r).elim
  | some u => exact ⟨u, rfl, r⟩
theorem RelO.none_of {o : Option Value} (r : RelO none o) : o = none := by
  cases o with
  | none => rfl
  | some u => exact (show False from r).elim
theorem handed_of {v : V} {u : Value} (r : RelV v u) : PySem.W.handedIn u = true := by
  cases v with
  | non => cases (show u = Value.none from r); rfl
  | bl b => cases (show u = Value.bool b from r); rfl
  | int i => obtain ⟨t, e⟩ := (show ∃ t, u = Value.int i t from r); cases e; rfl
  | str x => obtain ⟨t, e⟩ := (show ∃ t, u = Value.str x t from r); cases e; rfl
  | byt b => obtain ⟨t, e⟩ := (show ∃ t, u = Value.bytes b t from r); cases e; rfl
  | flt b => obtain ⟨t, e⟩ := (show ∃ t, u = Value.float b t from r); cases e; rfl
  | ref a => cases (show u = Value.ref a from r); rfl
  | ty n => cases (show u = Value.type n from r); rfl

section
variable {P : Program} {w : World} {H H' : Hp} {h h' : Heap} {a C dx : Addr} {fs fs' : List (Str × V)}
theorem ins_get (hok : HOk P w H h) (e : H a = some (.ins C dx fs)) : ∃ mA, ObjM h a dx C mA ∧ (∀ f, RelO (fs.lookup f) (mA f)) ∧ PySem.Within mA (fs.map (·.1)) ∧ fs.length ≤ 1000 ∧ H dx = some (.own a) := by
  obtain ⟨d, z, ne, ob, mA, n, r, q⟩ := (show ObjOk P w H h a (.ins C dx fs) from hok a _ e)
  exact ⟨mA, ⟨ob, n, ne⟩, r, q, z, d⟩
end

/-! ### what of the text a class must have -/
structure Cls (K : PySem.W.Frag) (C : Addr) : Prop where
  pg : PySem.W.plainGet K C Str.empty = true
  hd : PySem.W.hasDictIn K C = true
  po : PySem.W.plainOver K C = true
  sa : PySem.W.findIn K (.ref C) "__setattr__" = some (some (.builtin "object.__setattr__"))
theorem Cls.get {K : PySem.W.Frag} {C : Addr} (c : Cls K C) (f : Str) : PySem.W.plainGet K C f = true := c.pg
/-- no class of it has the name -/
def NoAttr (K : PySem.W.Frag) (C : Addr) (f : Str) : Prop := PySem.W.findIn K (.ref C) f = some none
theorem NoAttr.taker {K : PySem.W.Frag} {C : Addr} {f : Str} (n : NoAttr K C f) : PySem.W.takerIn K C f = some none := by
  unfold PySem.W.takerIn
  rw [show PySem.W.findIn K (.ref C) f = some none from n]
  rfl
/-- a constant of the class -/
structure Con (K : PySem.W.Frag) (C : Addr) (f : Str) (v : V) (u : Value) : Prop where
  at_ : PySem.W.findIn K (.ref C) f = some (some u)
  rel : RelV v u
  get : PySem.W.specialIn K u "__get__" = some none
  cp : PySem.W.copiedNames.contains f = false
/-- a method: a plain def of the class or of one above it -/
structure Meth (K : PySem.W.Frag) (C : Addr) (m : Str) (f : Addr) : Prop where
  at_ : PySem.W.findIn K (.ref C) m = some (some (.ref f))
  fn : PySem.W.isFn K (.ref f) = true
  kp : PySem.W.keepIn K (.ref f) = true

section
variable {X : Cx} {pins : List (Addr × Obj)} {σ : St} {H : Hp} {s : Shared} {a C dx : Addr} {fs : List (Str × V)} {f : Str} {v : V} {A : Around} {E : Value → Shared → Prop}

theorem getattr_ok {b : Bool} {Q : Value → Shared → Prop} (I : Inv X pins σ H s) (e : H a = some (.ins C dx fs)) (c : Cls X.K C) (n : NoAttr X.K C f) (l : fs.lookup f = some v)
    (h : ∀ u s', Inv X pins σ H s' → RelV v u → Q u s') : wpAny (model X.prog X.w) A (getAttr (.ref a) f b) Q E s := by
  obtain ⟨mA, O, r, _, _, _⟩ := ins_get I.hok e
  obtain ⟨u, hu, ru⟩ := RelO.some_of (v := v) (o := mA f) (by rw [← l]; exact r f)
  exact get_map I.kIn O (c.get f) c.hd n hu (handed_of ru) (h u _ (I.tok _) ru)

theorem getmeth_ok {m : Str} {g : Addr} {pl : Sem Bool} {Q : Value × List Value → Shared → Prop} (I : Inv X pins σ H s) (e : H a = some (.ins C dx fs)) (c : Cls X.K C) (k : Meth X.K C m g) (l : fs.lookup m = none)
    (h : Q (.ref g, [.ref a]) s) : wpAny (model X.prog X.w) A (getMethod (.ref a) m pl) Q E s := by
  obtain ⟨mA, O, r, _, _, _⟩ := ins_get I.hok e
  have hn : mA m = none := RelO.none_of (by rw [← l]; exact r m)
  exact get_meth I.kIn O (c.get m) k.at_ k.fn hn h

theorem setattr_ok {y : V} {u : Value} {Q : Unit → Shared → Prop} (I : Inv X pins σ H s) (e : H a = some (.ins C dx fs)) (c : Cls X.K C) (n : NoAttr X.K C f) (hl : fs.length < 1000) (ry : RelV y u)
    (h : ∀ s', Inv X pins σ (upd H a (.ins C dx (putF f y fs))) s' → Q () s') : wpAny (model X.prog X.w) A (setAttr (.ref a) f u) Q E s := by
  obtain ⟨mA, O, r, wi, _, ho⟩ := ins_get I.hok e
  have hz : (fs.map (·.1)).length ≤ sizeLine := by rw [List.length_map, sizeLine_eq]; omega
  refine set_map I.kIn O c.sa c.po n.taker c.hd wi hz fun h' O' sb => h _ ?_
  have hd : ∃ o, h'.get? dx = some o := let ⟨o, _, _, e', _⟩ := O'.ns; ⟨o, e'⟩
  refine I.write (x := a) (e := dx) (by rw [e]; exact True.intro) (.inr ho) (fun b q hb z => (sb.2 b hb).trans z) hd ?_
  refine ⟨by rw [upd_ne O.ne]; exact ho, ?_, O.ne, O'.obj, _, O'.ns, fun g => ?_, fun g hg => ?_⟩
  · have := length_putF f y fs; omega
  · show RelO ((putF f y fs).lookup g) (if g = f then some u else mA g)
    rw [lookup_putF]
    by_cases q : g = f
    · rw [if_pos q, if_pos q]; exact ry
    · rw [if_neg q, if_neg q]; exact r g
  · by_cases q : g = f
    · rw [q]; exact (keys_putF f y fs).1
    · refine (keys_putF f y fs).2 g (wi g fun z => hg ?_)
      show (if g = f then some u else mA g) = none
      rw [if_neg q]; exact z

/-- a new instance, tracked, without attributes -/
theorem Inv.made (I : Inv X pins σ H s) : Inv X pins σ (upd (upd H s.heap.objs.size (.own (s.heap.objs.size + 1))) (s.heap.objs.size + 1) (.ins C s.heap.objs.size []))
    { s with heap := (s.heap.push PySem.W.emptyDict).push (PySem.W.instObj C s.heap.objs.size) } := by
  have e1 : (s.heap.push PySem.W.emptyDict).get? s.heap.objs.size = some PySem.W.emptyDict := Heap.get?_push_size s.heap rfl
  have e2 : ((s.heap.push PySem.W.emptyDict).push (PySem.W.instObj C s.heap.objs.size)).get? (s.heap.objs.size + 1) = some (PySem.W.instObj C s.heap.objs.size) := by
    have := Heap.get?_push_size (s.heap.push PySem.W.emptyDict) (o := PySem.W.instObj C s.heap.objs.size) rfl
    rwa [Heap.size_push] at this
  have e3 : (s.heap.push PySem.W.emptyDict).Ns s.heap.objs.size (fun _ => none) := ⟨PySem.W.emptyDict, #[], _, e1, rfl, (fun e he => absurd he (by simp)), fun _ => rfl⟩
  have I1 := I.laid (a := s.heap.objs.size) (o := .own (s.heap.objs.size + 1)) (h' := s.heap.push PySem.W.emptyDict) (t' := s.toks) (fun b u q => Heap.get?_push_of_some _ q) (Nat.le_refl _) ⟨_, e1⟩
  refine I1.laid (a := s.heap.objs.size + 1) (o := .ins C s.heap.objs.size []) (t' := s.toks) (fun b u q => Heap.get?_push_of_some _ q) (Nat.le_of_eq (Heap.size_push _ _)) ?_
  have ne : s.heap.objs.size ≠ s.heap.objs.size + 1 := Nat.ne_of_lt (Nat.lt_succ_self _)
  refine ⟨by rw [upd_ne ne, upd_same], Nat.zero_le _, ne, e2, fun _ => none, (Heap.Ns1.of_empty e3).at fun o q => Heap.get?_push_of_some _ q, fun _ => True.intro, fun y hy => absurd rfl hy⟩

/-- e.f where nothing but the object is asked: through attributeBase (super) and the last hold -/
theorem attr_of {prog : Program} {w : World} {env : Env} {e : Expr} {f : Str} {pos : Pos} {s : Shared} {Q : Value → Shared → Prop} (hb : attributeBase e f env (eval e env) = eval e env)
    (h : wpAny (model prog w) A (eval e env) (fun o s₁ => wpAny (model prog w) A (getAttr o f true) Q E s₁) E s) : wpAny (model prog w) A (eval (.Attribute e f pos) env) Q E s :=
  Attribute_any_ h (by rw [arm_eval_Attribute, hb])
end

/-! ### readings and rules -/
/-- e.f, an attribute of the instance -/
def tFld (K : PySem.W.Frag) (ta : TE) (f : Str) : TE := fun σ H Q => ta σ H fun x H1 => ∃ a C dx fs v, x = .ref a ∧ H1 a = some (.ins C dx fs) ∧ Cls K C ∧ NoAttr K C f ∧ fs.lookup f = some v ∧ Q v H1
/-- e.f, a constant of the class -/
def tCon (K : PySem.W.Frag) (ta : TE) (f : Str) : TE := fun σ H Q => ta σ H fun x H1 => ∃ a C dx fs v u, x = .ref a ∧ H1 a = some (.ins C dx fs) ∧ Cls K C ∧ Con K C f v u ∧ fs.lookup f = none ∧ Q v H1
/-- e.f = value -/
def sFld (K : PySem.W.Frag) (ta tv : TE) (f : Str) : TS := fun D σ H => tv σ H fun y H1 => ta σ H1 fun x H2 => ∃ a C dx fs, x = .ref a ∧ H2 a = some (.ins C dx fs) ∧ Cls K C ∧ NoAttr K C f ∧ fs.length < 1000 ∧
  D.nx σ (upd H2 a (.ins C dx (putF f y fs)))
/-- an augmented operator on two values -/
def InOp (X : Cx) (op : Operator) (rd : V → V → Hp → VK → Prop) : Prop :=
  ∀ (pins : List (Addr × Obj)) (s : Shared) (σ : St) (H : Hp) (x y : V) (u v : Value) (Q : VK), Inv X pins σ H s → RelV x u → RelV y v → rd x y H Q → wpAny (model X.prog X.w) X.A (inplaceOp op u v) (EP X pins σ Q) X.xe s
/-- e.f op= value -/
def sFldAug (K : PySem.W.Frag) (ta tv : TE) (rd : V → V → Hp → VK → Prop) (f : Str) : TS := fun D σ H => ta σ H fun x H1 => ∃ a C dx fs v, x = .ref a ∧ H1 a = some (.ins C dx fs) ∧ Cls K C ∧ NoAttr K C f ∧ fs.lookup f = some v ∧
  tv σ H1 fun y H2 => rd v y H2 fun z H3 => ∃ dx' fs', H3 a = some (.ins C dx' fs') ∧ fs'.length < 1000 ∧ D.nx σ (upd H3 a (.ins C dx' (putF f z fs')))

section
variable {X : Cx} {o e value : Expr} {f : Str} {pos pos' tpos : Pos} {ta tv : TE}
theorem pe_fld (he : PE X e ta) (hb : attributeBase e f X.env (eval e X.env) = eval e X.env) : PE X (.Attribute e f pos) (tFld X.K ta f) := by
  intro pins s σ H Q I h
  refine attr_of hb (thn (he pins s σ H _ I h) fun u s1 ⟨x, H1, I1, rx, a, C, dx, fs, v, ex, ea, c, n, l, q⟩ => ?_)
  subst ex
  obtain rfl : u = Value.ref a := rx
  exact getattr_ok I1 ea c n l fun u' s2 I2 ru => ⟨v, H1, I2, ru, q⟩
theorem ps_fld (ha : PE X o ta) (hv : PE X value tv) (hs : swapsWith value (some (.Attribute o f pos')) pos.line X.env = pure false) : PS X (.Assign [.Attribute o f pos'] value pos) (sFld X.K ta tv f) := by
  intro pins s σ H D I h
  refine plainObj_wpAny_Assign_Attribute (thn (hv pins s σ H _ I h) fun u s1 ⟨y, H1, I1, ry, q⟩ => thn (ha pins s1 σ H1 _ I1 q) fun ov s2 ⟨x, H2, I2, rx, a, C, dx, fs, ex, ea, c, n, l, q2⟩ => ?_) hs
  subst ex
  obtain rfl : ov = Value.ref a := rx
  exact setattr_ok I2 ea c n l ry fun s3 I3 => ⟨σ, _, I3, q2⟩
theorem ps_fldaug {op : Operator} {rd : V → V → Hp → VK → Prop} (ha : PE X o ta) (hv : PE X value tv) (hop : InOp X op rd) : PS X (.AugAssign (.Attribute o f tpos) op value pos) (sFldAug X.K ta tv rd f) := by
  intro pins s σ H D I h
  refine wpAny_AugAssign_AttributeAny (thn (ha pins s σ H _ I h) fun ov s1 ⟨x, H1, I1, rx, a, C, dx, fs, v, ex, ea, c, n, l, q⟩ => ?_)
  subst ex
  obtain rfl : ov = Value.ref a := rx
  refine getattr_ok I1 ea c n l fun u s2 I2 ru => thn (hv pins s2 σ H1 _ I2 q) fun w3 s3 ⟨y, H2, I3, ry, q3⟩ => thn (hop pins s3 σ H2 v y u w3 _ I3 ru ry q3) fun w4 s4 ⟨z, H3, I4, rz, dx', fs', ea', l', q4⟩ => ?_
  exact setattr_ok I4 ea' c n l' rz fun s5 I5 => ⟨σ, _, I5, q4⟩
def rAdd : V → V → Hp → VK → Prop := fun x y H Q => ∃ i j, x = .int i ∧ y = .int j ∧ Q (.int (i + j)) H
def rSub : V → V → Hp → VK → Prop := fun x y H Q => ∃ i j, x = .int i ∧ y = .int j ∧ Q (.int (i - j)) H
theorem in_add : InOp X .Add rAdd := by
  rintro pins s σ H x y u v Q I rx ry ⟨i, j, rfl, rfl, q⟩
  obtain ⟨t, rfl⟩ := (show ∃ t, u = Value.int i t from rx)
  obtain ⟨t', rfl⟩ := (show ∃ t', v = Value.int j t' from ry)
  exact PyProof.Rows.iadd_int ⟨.int (i + j), H, I.tok _, ⟨_, rfl⟩, q⟩
end

/-! ### isinstance -/
section
variable {X : Cx} {pins : List (Addr × Obj)} {σ : St} {H : Hp} {s : Shared} {A : Around} {E : Value → Shared → Prop} {Q : Value → Shared → Prop} {c : Value} {b : Bool}
/-- the type of a value, as the fragment's deciders take it; for an instance its class -/
inductive TyOf (K : PySem.W.Frag) (H : Hp) : V → Value → Prop where
  | non : TyOf K H .non (.type "NoneType")
  | bl (x : Bool) : TyOf K H (.bl x) (.type "bool")
  | int (i : Int) : TyOf K H (.int i) (.type "int")
  | str (x : Str) : TyOf K H (.str x) (.type "str")
  | flt (x : UInt64) : TyOf K H (.flt x) (.type "float")
  | lst {a : Addr} {xs : List V} (e : H a = some (.lst xs)) : TyOf K H (.ref a) (.type "list")
  | frz {a : Addr} {o : Obj} {xs : List V} (e : H a = some (.frz o (.lst xs))) : TyOf K H (.ref a) (.type "list")
  | tup {a : Addr} {xs : List V} (e : H a = some (.tup xs)) : TyOf K H (.ref a) (.type "tuple")
  | dK {a : Addr} {kvs : List (Key × V)} (e : H a = some (.dK kvs)) : TyOf K H (.ref a) (.type "dict")
  | dT {a : Addr} {kvs : List (List Key × V)} (e : H a = some (.dT kvs)) : TyOf K H (.ref a) (.type "dict")
  | ins {a C dx : Addr} {fs : List (Str × V)} (e : H a = some (.ins C dx fs)) (cl : Cls K C) (ha : PySem.W.findIn K (.ref C) "__class__" = some (some (.builtin "object.__class__")))
      (hn : PySem.W.specialIn K (.builtin "object.__class__") "__get__" = some (some (.builtin "getset_descriptor.__get__"))) (htk : PySem.W.takesIn K (.builtin "object.__class__") = some true)
      (hm : PySem.W.mroIn K C (.type "object") = some true) : TyOf K H (.ref a) (.ref C)
/-- isinstance(x, c) for one class c, a built-in or an own one: kitOne's answer -/
theorem isinst_ok {x : V} {u t : Value} (I : Inv X pins σ H s) (rx : RelV x u) (ty : TyOf X.K H x t) (e : PySem.W.kitOne X.K t c = some b) (h : ∀ tk, Q (.bool b) { s with toks := tk }) :
    wpAny (model X.prog X.w) A (call (.builtin "isinstance") [u, c]) Q E s := by
  cases ty with
  | non => cases (show u = Value.none from rx); exact PySem.W.kia_one PySem.W.kitx_none I.kIn True.intro e (fun z => nomatch z) h
  | bl y => cases (show u = Value.bool y from rx); exact PySem.W.kia_one PySem.W.kitx_bool I.kIn True.intro e (fun z => nomatch z) h
  | int i => obtain ⟨t, q⟩ := (show ∃ t, u = Value.int i t from rx); cases q; exact PySem.W.kia_one PySem.W.kitx_int I.kIn True.intro e (fun z => nomatch z) h
  | str y => obtain ⟨t, q⟩ := (show ∃ t, u = Value.str y t from rx); cases q; exact PySem.W.kia_one PySem.W.kitx_str I.kIn True.intro e (fun z => nomatch z) h
  | flt y => obtain ⟨t, q⟩ := (show ∃ t, u = Value.float y t from rx); cases q; exact PySem.W.kia_one PySem.W.kitx_float I.kIn True.intro e (fun z => nomatch z) h
  | @lst a xs ea =>
    cases (show u = Value.ref a from rx)
    obtain ⟨_, _, n, _, h1⟩ := (show ObjOk X.prog X.w H s.heap a (.lst xs) from I.hok a _ ea)
    exact PySem.W.kia_one PySem.W.kitx_list I.kIn ⟨_, h1, rfl⟩ e (fun z => nomatch z) h
  | @frz a ob xs ea =>
    cases (show u = Value.ref a from rx)
    obtain ⟨_, _, _, n, _, h1⟩ := (show ObjOk X.prog X.w H s.heap a (.frz ob (.lst xs)) from I.hok a _ ea)
    exact PySem.W.kia_one PySem.W.kitx_list I.kIn ⟨_, h1, rfl⟩ e (fun z => nomatch z) h
  | @tup a xs ea =>
    cases (show u = Value.ref a from rx)
    obtain ⟨_, _, _, p⟩ := (show ObjOk X.prog X.w H s.heap a (.tup xs) from I.hok a _ ea)
    obtain ⟨o, h1, h2, _⟩ := p
    exact PySem.W.kia_one PySem.W.kitx_tuple I.kIn ⟨o, h1, h2⟩ e (fun z => nomatch z) h
  | @dK a kvs ea =>
    cases (show u = Value.ref a from rx)
    obtain ⟨_, _, vs, _, p⟩ := (show ObjOk X.prog X.w H s.heap a (.dK kvs) from I.hok a _ ea)
    obtain ⟨o, es, ep, h1, h2, _⟩ := p
    exact PySem.W.kia_one PySem.W.kitx_dict I.kIn ⟨o, h1, h2.1⟩ e (fun z => nomatch z) h
  | @dT a kvs ea =>
    cases (show u = Value.ref a from rx)
    obtain ⟨_, _, xs, _, o, es, ep, h1, h2, _⟩ := (show ObjOk X.prog X.w H s.heap a (.dT kvs) from I.hok a _ ea)
    exact PySem.W.kia_one PySem.W.kitx_dict I.kIn ⟨o, h1, h2.1⟩ e (fun z => nomatch z) h
  | @ins a C dx fs ea cl ha hn htk hm =>
    cases (show u = Value.ref a from rx)
    obtain ⟨mA, O, _⟩ := ins_get I.hok ea
    obtain ⟨od, J, _⟩ := O.look
    exact PySem.W.kia_one (PySem.W.kitx_own (cl.get _) cl.hd ha hn htk hm) I.kIn J e (fun z => nomatch z) h
end
end L2

namespace L2
open PySem PySem.Spec PyProof.Rows

/-! ### room -/
structure Room (k : Nat) (A : Around) : Prop where
  hd : A.handled = none
  dp : A.depth + 3 * k + 5 < recursionLimit
  un : A.units + 16 * k + 200 < cLine
theorem Room.mono {j k : Nat} {A : Around} (r : Room k A) (h : j ≤ k) : Room j A := ⟨r.hd, by have := r.dp; omega, by have := r.un; omega⟩
theorem Room.deeper {k : Nat} {A : Around} (r : Room (k + 1) A) (env : Env) : Room k (A.deeper env) :=
  ⟨r.hd, by have := r.dp; show A.depth + 1 + 3 * k + 5 < _; omega, by have := r.un; show A.units + 3 + 16 * k + 200 < _; omega⟩
theorem Room.in1 {k : Nat} {A : Around} (r : Room (k + 1) A) : Room k A.in1 :=
  ⟨r.hd, by have := r.dp; show A.depth + 3 * k + 5 < _; omega, by have := r.un; show A.units + 1 + 16 * k + 200 < _; omega⟩
theorem make_depth {A : Around} {C : Addr} {us : List Value} {kw : List (Str × Value)} : (A.under (.builtin "type.__call__" ⟨.ref C :: us, kw⟩)).depth = A.depth + 1 := by
  first | rfl | simp [Around.under, Code.weight, Code.isCreation, Code.isGuard, Code.isCaller, Code.frames, Code.isFrame, guardIds]
theorem make_units {A : Around} {C : Addr} {us : List Value} {kw : List (Str × Value)} : (A.under (.builtin "type.__call__" ⟨.ref C :: us, kw⟩)).units = A.units + 1 := by
  first | rfl | simp [Around.under, Code.cUnits, Code.frames, Code.isFrame]
theorem Room.make {k : Nat} {A : Around} (r : Room (k + 1) A) (C : Addr) (us : List Value) (kw : List (Str × Value)) : Room k (A.under (.builtin "type.__call__" ⟨.ref C :: us, kw⟩)) :=
  ⟨r.hd, by have := r.dp; rw [make_depth]; omega, by have := r.un; rw [make_units]; omega⟩
theorem Room.depth {k : Nat} {A : Around} (r : Room k A) : A.depth < recursionLimit := by have := r.dp; omega
theorem Room.units {k : Nat} {A : Around} (r : Room k A) : A.units + 64 < cLine := by have := r.un; omega
/-! ### argument lists and displays -/
def tNil : TA := fun _ H Q => Q [] H
def tCons (ta : TE) (tr : TA) : TA := fun σ H Q => ta σ H fun x H1 => tr σ H1 fun xs H2 => Q (x :: xs) H2
section
variable {X : Cx} {e : Expr} {es : List Expr} {te : TE} {t : TA} {pos : Pos}
theorem pa_nil : PA X [] tNil := fun _ _ _ _ H Q I h => Calls.spliced_nil ⟨[], H, I, .nil, h⟩
theorem pa_cons (ha : PE X e te) (hr : PA X es t) (hs : starEach (e :: es) X.env = (false, eval e X.env) :: starEach es X.env := by rfl) : PA X (e :: es) (tCons te t) := by
  intro pos pins s σ H Q I h
  rw [hs]
  show wpAny _ _ (spliced ((false, eval e X.env) :: backTo pos (starEach es X.env))) _ _ s
  refine Calls.spliced_cons (thn (ha pins s σ H _ I h) fun u s1 ⟨x, H1, I1, r1, q1⟩ => ?_)
  exact thn (hr pos pins s1 σ H1 _ I1 q1) fun us s2 ⟨xs, H2, I2, r2, q2⟩ => ⟨x :: xs, H2, I2, .cons r1 r2, q2⟩

/-- a tuple, a list of written items -/
def tTup (t : TA) : TE := fun σ H Q => t σ H fun xs H1 => xs.length ≤ sizeLine ∧ ∀ p, H1 p = none → Q (.ref p) (upd H1 p (.tup xs))
def tLst (t : TA) : TE := fun σ H Q => t σ H fun xs H1 => xs.length ≤ sizeLine ∧ ∀ p, H1 p = none → Q (.ref p) (upd H1 p (.lst xs))
theorem pe_tup {x1} (h : PA X es t) : PE X (.Tuple es x1 pos) (tTup t) := by
  intro pins s σ H Q I hq
  refine wpAny_Tuple_spliced (thn (h pos pins s σ H _ I hq) fun us s1 ⟨xs, H1, I1, r, z, q⟩ => ⟨by rw [← r.length]; exact z, ?_⟩)
  have hf : H1 s1.heap.objs.size = none := I1.hok.fresh (Nat.le_refl _)
  refine ⟨.ref s1.heap.objs.size, upd H1 s1.heap.objs.size (.tup xs), I1.laid (t' := s1.toks) (fun b u e => Heap.get?_push_of_some _ e) (Nat.le_refl _) ?_, rfl, q _ hf⟩
  exact ⟨z, us, r, ⟨_, Heap.get?_push_size _ rfl, rfl, _, rfl, rfl⟩⟩
theorem pe_lst (h : PA X es t) : PE X (.List es pos) (tLst t) := by
  intro pins s σ H Q I hq
  refine wpAny_List_spliced (thn (h pos pins s σ H _ I hq) fun us s1 ⟨xs, H1, I1, r, z, q⟩ => ⟨by rw [← r.length]; exact z, ?_⟩)
  have hf : H1 s1.heap.objs.size = none := I1.hok.fresh (Nat.le_refl _)
  refine ⟨.ref s1.heap.objs.size, upd H1 s1.heap.objs.size (.lst xs), I1.laid (t' := s1.toks) (fun b u e => Heap.get?_push_of_some _ e) (Nat.le_refl _) ?_, rfl, q _ hf⟩
  exact ⟨z, us, 0, r, Heap.get?_push_size _ rfl⟩
end

/-! ### what a def promises -/
/-- a def's promise: the bound arguments in the parameters' order, the heap, the wanted end, the wanted exception -/
abbrev Sp := List V → Hp → VK → XK → Prop
/-- how an exception lies behind a call (file 08 gives it): the callers' frames, abstract heap and state ahead of the call, the wish, the exception, the state -/
abbrev CXT := List Env → Hp → Shared → XK → Value → Shared → Prop

/-- the state at a call -/
structure Env0 (P : Program) (w : World) (K : PySem.W.Frag) (mg : Str → Option Value) (base : Heap) (A : Around) (outer : List Env) (s : Shared) (H : Hp) : Prop where
  frames : A.frames = some outer
  mod : Mod K mg base
  bs : ∀ b o, base.get? b = some o → s.heap.get? b = some o ∧ H b = none
  bsz : base.objs.size ≤ s.heap.objs.size
  funs : s.heap.FunFrames base outer
  frf : ∀ b ∈ frs outer, H b = none
  hok : HOk P w H s.heap
  bare : AllBare s.gens
/-- a call's end -/
def CE (outer : List Env) (P : Program) (w : World) (H : Hp) (s : Shared) (Q : VK) (u : Value) (s' : Shared) : Prop :=
  ∃ v H', s'.os = s.os ∧ AllBare s'.gens ∧ Un (frs outer) [] H H' s.heap s'.heap ∧ HOk P w H' s'.heap ∧ RelV v u ∧ Q v H'
def CR (CX : CXT) (outer : List Env) (P : Program) (w : World) (H : Hp) (s : Shared) (Q : VK) (E : XK) (r : Result) (s' : Shared) : Prop :=
  match r with
  | .ok (.ret u) => CE outer P w H s Q u s'
  | .ok _ => False
  | .error e => CX outer H s E e s'
structure FnOk (P : Program) (w : World) (K : PySem.W.Frag) (mg : Str → Option Value) (base : Heap) (CX : CXT) (k : Nat) (f : Addr) (fd : FuncData) (ps : List Str) (sp : Sp) : Prop where
  len : ∀ vs H Q E, sp vs H Q E → vs.length = ps.length
  run : ∀ (A : Around) (outer : List Env) (s : Shared) (H : Hp) (args : Args) (us : List Value) (vs : List V) (Q : VK) (E : XK), Room k A → Env0 P w K mg base A outer s H → BindsTo s fd args (ps.zip us) → Vals vs us → sp vs H Q E →
    codeAny (model P w) A (.call (.ref f) args) (CR CX outer P w H s Q E) s
theorem FnOk.mono {P : Program} {w : World} {K : PySem.W.Frag} {mg : Str → Option Value} {base : Heap} {CX : CXT} {j k : Nat} {f : Addr} {fd : FuncData} {ps : List Str} {sp : Sp} (F : FnOk P w K mg base CX j f fd ps sp) (h : j ≤ k) :
    FnOk P w K mg base CX k f fd ps sp := ⟨F.len, fun A outer s H args us vs Q E hr => F.run A outer s H args us vs Q E (hr.mono h)⟩
theorem Env0.make {P : Program} {w : World} {K : PySem.W.Frag} {mg : Str → Option Value} {base : Heap} {A : Around} {outer : List Env} {s : Shared} {H : Hp} (e : Env0 P w K mg base A outer s H) (C : Addr) (us : List Value) (kw : List (Str × Value)) :
    Env0 P w K mg base (A.under (.builtin "type.__call__" ⟨.ref C :: us, kw⟩)) outer s H := ⟨by first | exact e.frames | (simpa [Around.under, Code.envs, Code.isFrame, pushEnvs] using e.frames), e.mod, e.bs, e.bsz, e.funs, e.frf, e.hok, e.bare⟩
theorem Env0.in1 {P : Program} {w : World} {K : PySem.W.Frag} {mg : Str → Option Value} {base : Heap} {A : Around} {outer : List Env} {s : Shared} {H : Hp} (e : Env0 P w K mg base A outer s H) :
    Env0 P w K mg base A.in1 outer s H := ⟨e.frames, e.mod, e.bs, e.bsz, e.funs, e.frf, e.hok, e.bare⟩

section
variable {X : Cx} {pins : List (Addr × Obj)} {σ : St} {H : Hp} {s s' : Shared}
/-- from a body: what a callee wants -/
theorem Inv.env0 (I : Inv X pins σ H s) : Env0 X.prog X.w X.K X.mg X.base X.A X.stack s H :=
  ⟨I.ok.frames, I.ok.mod, I.bs, Nat.le_trans I.ok.bsz I.sz, I.stack, I.stkFree, I.hok, I.bare⟩
/-- behind a call -/
theorem Inv.after {Q : VK} {u : Value} (I : Inv X pins σ H s) (h : CE X.stack X.prog X.w H s Q u s') : EP X pins σ Q u s' := by
  obtain ⟨v, H', os, bare, un, hok, r, q⟩ := h
  obtain ⟨hh, g, d, t, os'⟩ := s'
  obtain rfl : os' = s.os := os
  exact ⟨v, H', I.call (h' := hh) (g' := g) (d' := d) (t' := t) (ch := []) un hok bare (fun b z => absurd z (by simp)), r, q⟩
end

/-! ### calls -/
/-- f(..): the written arguments, then the defaults dvs; E: what is wanted of an exception -/
def tCall (sp : Sp) (dvs : List V) (E : XK) (t : TA) : TE := fun σ H Q => t σ H fun vs H1 => sp (vs ++ dvs) H1 Q E
/-- o.m(..) of an instance of the class at C -/
def tMeth (C : Addr) (m : Str) (sp : Sp) (dvs : List V) (E : XK) (ta : TE) (t : TA) : TE := fun σ H Q => ta σ H fun x H1 => ∃ a dx fs, x = .ref a ∧ H1 a = some (.ins C dx fs) ∧ fs.lookup m = none ∧
  t σ H1 fun vs H2 => sp (x :: (vs ++ dvs)) H2 Q E
/-- C(..): a new instance and its dict, then __init__ -/
def tMake (C : Addr) (sp : Sp) (dvs : List V) (E : XK) (t : TA) : TE := fun σ H Q => t σ H fun vs H1 => ∀ x dx, H1 x = none → H1 dx = none → dx ≠ x →
  sp (.ref x :: (vs ++ dvs)) (upd (upd H1 dx (.own x)) x (.ins C dx [])) (fun v H2 => v = .non ∧ Q (.ref x) H2) E

/-- how the parameters are bound: us the positional arguments, kw the keywords' values by name, ds the defaults that fill up -/
def Binds (K : PySem.W.Frag) (fd : FuncData) (ps : List Str) (ds : List Value) : Prop :=
  ∀ (s : Shared) (us : List Value), K.In s.heap → (us ++ ds).length = ps.length → BindsTo s fd ⟨us, []⟩ (ps.zip (us ++ ds))
/-- every parameter is given -/
theorem Binds.all {K : PySem.W.Frag} {fd : FuncData} {ps : List Str} (h : ∀ us : List Value, us.length = ps.length → bindArgs fd ⟨us, []⟩ = pure (ps.zip us)) : Binds K fd ps [] := fun s us _ hl => by
  rw [List.append_nil] at hl ⊢
  exact .of_eq (h us hl)

/-- an exception of a callee reaches what this body wants of exceptions -/
def Passes (CX : CXT) (X : Cx) (E : XK) : Prop := ∀ (pins : List (Addr × Obj)) (σ : St) (H : Hp) (s : Shared) (e : Value) (s' : Shared), Inv X pins σ H s → CX X.stack H s E e s' → X.xe e s'

section
variable {X : Cx} {CX : CXT} {k : Nat} {f C : Addr} {fd : FuncData} {ps : List Str} {sp : Sp} {dvs : List V} {ds : List Value} {E : XK} {x m : Str} {p pos apos : Pos} {e o : Expr} {es : List Expr} {ta : TE} {t : TA}

/-- the callee runs -/
theorem run_fn {pins : List (Addr × Obj)} {σ : St} {H : Hp} {s : Shared} {Q : VK} {us : List Value} {vs : List V} (F : FnOk X.prog X.w X.K X.mg X.base CX k f fd ps sp) (hr : Room k X.A) (hb : Binds X.K fd ps ds) (hd : Vals dvs ds) (hx : Passes CX X E)
    (I : Inv X pins σ H s) (r : Vals vs us) (h : sp (vs ++ dvs) H Q E) : wpAny (model X.prog X.w) X.A (call (.ref f) us) (EP X pins σ Q) X.xe s := by
  have r2 : Vals (vs ++ dvs) (us ++ ds) := r.append hd
  have hl : (us ++ ds).length = ps.length := by rw [← r2.length]; exact F.len _ _ _ _ h
  refine wpAny_call (codeAny_mono (F.run X.A X.stack s H ⟨us, []⟩ (us ++ ds) (vs ++ dvs) Q E hr I.env0 (hb s us I.kIn hl) r2 h) fun r s' hq => ?_)
  cases r with
  | error e => exact hx pins σ H s e s' I hq
  | ok fl =>
    cases fl with
    | ret u => exact I.after hq
    | next => exact False.elim hq
    | brk => exact False.elim hq
    | cont => exact False.elim hq

theorem pe_call (F : FnOk X.prog X.w X.K X.mg X.base CX k f fd ps sp) (hr : Room k X.A) (hg : Gl X x) (hm : X.mg x = some (.ref f)) (hk : PySem.W.keepIn X.K (.ref f) = true) (hb : Binds X.K fd ps ds) (hd : Vals dvs ds) (hx : Passes CX X E)
    (ha : PA X (e :: es) t) (hdb : (x == ("__debug__" : Str)) = false := by decide) (he : starEach (e :: es) X.env = (false, eval e X.env) :: starEach es X.env := by rfl) (hpl : (backTo pos (starEach es X.env)).any (·.1) = false := by rfl) :
    PE X (.Call (.Name x p) (e :: es) [] pos) (tCall sp dvs E t) := by
  intro pins s σ H Q I h
  refine wpAny_Call_Name_kw (ld_glob I hg hm ?_ hdb)
  refine PySem.W.callWith_K (h₀ := X.base) I.ok.mod.kin hk (thn (ha pos pins s σ H _ I h) fun us s1 ⟨vs, H1, I1, r, q⟩ => ⟨I1.kIn, ?_⟩) he hpl
  exact run_fn F hr hb hd hx I1 r q
/-- o.m(e, ..) -/
theorem pe_meth {pl : Sem Bool} (he : PE X o ta) (c : Cls X.K C) (hm : Meth X.K C m f) (F : FnOk X.prog X.w X.K X.mg X.base CX k f fd ps sp) (hr : Room k X.A) (hb : Binds X.K fd ps ds) (hd : Vals dvs ds) (hx : Passes CX X E) (ha : PA X (e :: es) t)
    (hst : starEach (e :: es) X.env = (false, eval e X.env) :: starEach es X.env := by rfl) (hpl : (backTo pos (starEach es X.env)).any (·.1) = false := by rfl)
    (ht : eval (.Call (.Attribute o m apos) (e :: es) [] pos) X.env = (do
      let ov ← eval o X.env
      standAt apos.atName
      let (f, first) ← holding [ov] (getMethod ov m pl)
      callWith pos f first (backTo pos (starEach (e :: es) X.env)) (backToKw pos (keywordEach [] X.env))) := by rfl) :
    PE X (.Call (.Attribute o m apos) (e :: es) [] pos) (tMeth C m sp dvs E ta t) := by
  intro pins s σ H Q I h
  refine PySem.W.methodCall_KW (pl := pl) (thn (he pins s σ H _ I h) fun u s1 ⟨x, H1, I1, rx, a, dx, fs, ex, ea, l, q⟩ => ?_) ht
  subst ex
  obtain rfl : u = Value.ref a := rx
  refine getmeth_ok I1 ea c hm l ?_
  refine PySem.W.callWith_K (first := [.ref a]) (h₀ := X.base) I.ok.mod.kin hm.kp (thn (ha pos pins s1 σ H1 _ I1 q) fun us s2 ⟨vs, H2, I2, r, q2⟩ => ⟨I2.kIn, ?_⟩) hst hpl
  exact run_fn (us := .ref a :: us) (vs := .ref a :: vs) F hr hb hd hx I2 (.cons rfl r) q2
/-- o.m() -/
theorem pe_meth0 {pl : Sem Bool} (he : PE X o ta) (c : Cls X.K C) (hm : Meth X.K C m f) (F : FnOk X.prog X.w X.K X.mg X.base CX k f fd ps sp) (hr : Room k X.A) (hb : Binds X.K fd ps ds) (hd : Vals dvs ds) (hx : Passes CX X E)
    (ht : eval (.Call (.Attribute o m apos) [] [] pos) X.env = (do
      let ov ← eval o X.env
      standAt apos.atName
      let (f, first) ← holding [ov] (getMethod ov m pl)
      callWith pos f first (backTo pos (starEach [] X.env)) (backToKw pos (keywordEach [] X.env))) := by rfl) :
    PE X (.Call (.Attribute o m apos) [] [] pos) (tMeth C m sp dvs E ta tNil) := by
  intro pins s σ H Q I h
  refine PySem.W.methodCall_KW (pl := pl) (thn (he pins s σ H _ I h) fun u s1 ⟨x, H1, I1, rx, a, dx, fs, ex, ea, l, q⟩ => ?_) ht
  subst ex
  obtain rfl : u = Value.ref a := rx
  refine getmeth_ok I1 ea c hm l ?_
  exact PySem.W.callWith_K0 (first := [.ref a]) I1.kIn hm.kp (run_fn (us := [.ref a]) (vs := [.ref a]) F hr hb hd hx I1 (.cons rfl .nil) q)

/-- what a class must have to be made -/
structure Mk (K : PySem.W.Frag) (C f : Addr) : Prop where
  makes : PySem.W.makesIn K C = true
  init : PySem.W.findIn K (.ref C) "__init__" = some (some (.ref f))
  fn : PySem.W.isFn K (.ref f) = true
  kp : PySem.W.keepIn K (.ref C) = true

theorem run_make {pins : List (Addr × Obj)} {σ : St} {H : Hp} {s : Shared} {Q : VK} {us : List Value} {vs : List V} (M : Mk X.K C f) (F : FnOk X.prog X.w X.K X.mg X.base CX k f fd ps sp) (hr : Room (k + 1) X.A) (hb : Binds X.K fd ps ds) (hd : Vals dvs ds)
    (hx : Passes CX X E) (I : Inv X pins σ H s) (r : Vals vs us)
    (h : ∀ x dx, H x = none → H dx = none → dx ≠ x → sp (.ref x :: (vs ++ dvs)) (upd (upd H dx (.own x)) x (.ins C dx [])) (fun v H2 => v = .non ∧ Q (.ref x) H2) E) :
    wpAny (model X.prog X.w) X.A (call (.ref C) us) (EP X pins σ Q) X.xe s := by
  have hq := h (s.heap.objs.size + 1) s.heap.objs.size (I.hok.fresh (Nat.le_succ _)) (I.hok.fresh (Nat.le_refl _)) (Nat.ne_of_lt (Nat.lt_succ_self _))
  have I2 := Inv.made (C := C) I
  have r2 : Vals (V.ref (s.heap.objs.size + 1) :: (vs ++ dvs)) (Value.ref (s.heap.objs.size + 1) :: (us ++ ds)) := .cons rfl (r.append hd)
  have hl : (Value.ref (s.heap.objs.size + 1) :: us ++ ds).length = ps.length := by
    have e := r2.length
    rw [F.len _ _ _ _ hq] at e
    exact e.symm
  refine wpAny_call (make_map (f := f) I.kIn M.makes M.init (beq_iff_eq.mp M.fn) (codeAny_mono (F.run _ X.stack _ _ ⟨Value.ref (s.heap.objs.size + 1) :: us, []⟩ (Value.ref (s.heap.objs.size + 1) :: (us ++ ds)) _ _ E (hr.make C us [])
    (I2.env0.make C us []) (hb _ (Value.ref (s.heap.objs.size + 1) :: us) I2.kIn hl) r2 hq) fun r s' hq' => ?_))
  cases r with
  | error e => exact hx pins σ _ _ e s' I2 hq'
  | ok fl =>
    cases fl with
    | ret u =>
      obtain ⟨v, H', I3, rv, ev, q3⟩ := I2.after hq'
      subst ev
      exact ⟨rv, ⟨V.ref (s.heap.objs.size + 1), H', I3, rfl, q3⟩⟩
    | next => exact False.elim hq'
    | brk => exact False.elim hq'
    | cont => exact False.elim hq'
theorem pe_make (M : Mk X.K C f) (F : FnOk X.prog X.w X.K X.mg X.base CX k f fd ps sp) (hr : Room (k + 1) X.A) (hg : Gl X x) (hm : X.mg x = some (.ref C)) (hb : Binds X.K fd ps ds) (hd : Vals dvs ds) (hx : Passes CX X E)
    (ha : PA X (e :: es) t) (hdb : (x == ("__debug__" : Str)) = false := by decide) (he : starEach (e :: es) X.env = (false, eval e X.env) :: starEach es X.env := by rfl) (hpl : (backTo pos (starEach es X.env)).any (·.1) = false := by rfl) :
    PE X (.Call (.Name x p) (e :: es) [] pos) (tMake C sp dvs E t) := by
  intro pins s σ H Q I h
  refine wpAny_Call_Name_kw (ld_glob I hg hm ?_ hdb)
  refine PySem.W.callWith_K (h₀ := X.base) I.ok.mod.kin M.kp (thn (ha pos pins s σ H _ I h) fun us s1 ⟨vs, H1, I1, r, q⟩ => ⟨I1.kIn, ?_⟩) he hpl
  exact run_make M F hr hb hd hx I1 r q
end

/-! ### keywords -/
/-- the values of the keywords, from the left -/
def PK (X : Cx) (kws : List Keyword) (t : TA) : Prop :=
  ∀ (pos : Pos) (pins : List (Addr × Obj)) (s : Shared) (σ : St) (H : Hp) (Q : List V → Hp → Prop), Inv X pins σ H s → t σ H Q → wpAny (model X.prog X.w) X.A (evalAll ((backToKw pos (keywordEach kws X.env)).map (·.2))) (AP X pins σ Q) X.xe s
section
variable {X : Cx} {CX : CXT} {k : Nat} {f C : Addr} {fd : FuncData} {ps ks : List Str} {sp : Sp} {E : XK} {x m : Str} {p pos apos kpos : Pos} {e o : Expr} {es : List Expr} {kws : List Keyword} {te ta : TE} {t tk : TA} {nm : Option Str}
/-- how a call with keywords binds: g puts the positional values us and the keywords' values ws (names ks) in the parameters' order, defaults among them -/
structure KBinds (K : PySem.W.Frag) (fd : FuncData) (ps ks : List Str) (g : List Value → List Value → List Value) (gV : List V → List V → List V) : Prop where
  to : ∀ (s : Shared) (us ws : List Value), K.In s.heap → (g us ws).length = ps.length → BindsTo s fd ⟨us, ks.zip ws⟩ (ps.zip (g us ws))
  rel : ∀ {vs : List V} {us : List Value} {zs : List V} {ws : List Value}, Vals vs us → Vals zs ws → Vals (gV vs zs) (g us ws)
def tCallK (sp : Sp) (gV : List V → List V → List V) (E : XK) (t tk : TA) : TE := fun σ H Q => t σ H fun vs H1 => tk σ H1 fun zs H2 => sp (gV vs zs) H2 Q E
variable {g : List Value → List Value → List Value} {gV : List V → List V → List V}
end

/-! ### a def's body keeps its promise -/
/-- names: the parameters first -/
structure FnScope (N P : List Str) (sc : Scope) : Prop where
  kind : sc.kind = .function
  co : sc.isCoroutine = false
  gen : sc.isGenerator = false
  nd : N.Nodup
  pre : N.take P.length = P
  par : ∀ x ∈ P, sc.names.lookup x = some .local ∨ sc.names.lookup x = some .cell
  nofree : ∀ y ∈ sc.names, y.2 ≠ .free

theorem bindL_out {kindOf : Str → Option NameKind} {x : Str} : ∀ {binds : List (Str × Value)} {m : Str → Option Value}, (∀ v, (x, v) ∉ binds) → bindL kindOf binds m x = m x
  | [], _, _ => rfl
  | (n, v) :: r, m, h => by
    unfold bindL
    rw [bindL_out fun w hw => h w (List.mem_cons_of_mem _ hw)]
    split
    · have : x ≠ n := by rintro rfl; exact h v List.mem_cons_self
      simp [this]
    · rfl
theorem bindC_out {kindOf : Str → Option NameKind} {x : Str} : ∀ {binds : List (Str × Value)} {m : Str → Option Value}, (∀ v, (x, v) ∉ binds) → bindC kindOf binds m x = m x
  | [], _, _ => rfl
  | (n, v) :: r, m, h => by
    unfold bindC
    rw [bindC_out fun w hw => h w (List.mem_cons_of_mem _ hw)]
    split
    · rfl
    · have : x ≠ n := by rintro rfl; exact h v List.mem_cons_self
      simp [this]
theorem bindL_get {kindOf : Str → Option NameKind} {x : Str} {v : Value} : ∀ {P : List Str} {vs : List Value} {i : Nat} {m : Str → Option Value}, P.Nodup → P[i]? = some x → vs[i]? = some v → kindOf x = some .local →
    bindL kindOf (P.zip vs) m x = some v
  | [], _, _, _, _, h, _, _ => by simp at h
  | _ :: _, [], _, _, _, _, h, _ => by simp at h
  | p :: P, w :: vs, 0, m, nd, h1, h2, hk => by
    simp at h1 h2; subst h1; subst h2
    show bindL kindOf ((p, w) :: P.zip vs) m p = _
    unfold bindL
    rw [bindL_out fun v hv => (List.nodup_cons.mp nd).1 (List.of_mem_zip hv).1, if_pos hk]
    simp
  | p :: P, w :: vs, i + 1, m, nd, h1, h2, hk => by
    show bindL kindOf ((p, w) :: P.zip vs) m x = _
    unfold bindL
    exact bindL_get (i := i) (List.nodup_cons.mp nd).2 (by simpa using h1) (by simpa using h2) hk
theorem bindC_get {kindOf : Str → Option NameKind} {x : Str} {v : Value} : ∀ {P : List Str} {vs : List Value} {i : Nat} {m : Str → Option Value}, P.Nodup → P[i]? = some x → vs[i]? = some v → kindOf x ≠ some .local →
    bindC kindOf (P.zip vs) m x = some v
  | [], _, _, _, _, h, _, _ => by simp at h
  | _ :: _, [], _, _, _, _, h, _ => by simp at h
  | p :: P, w :: vs, 0, m, nd, h1, h2, hk => by
    simp at h1 h2; subst h1; subst h2
    show bindC kindOf ((p, w) :: P.zip vs) m p = _
    unfold bindC
    rw [bindC_out fun v hv => (List.nodup_cons.mp nd).1 (List.of_mem_zip hv).1, if_neg hk]
    simp
  | p :: P, w :: vs, i + 1, m, nd, h1, h2, hk => by
    show bindC kindOf ((p, w) :: P.zip vs) m x = _
    unfold bindC
    exact bindC_get (i := i) (List.nodup_cons.mp nd).2 (by simpa using h1) (by simpa using h2) hk

/-- the names' values at the entry -/
def start (N : List Str) (vs : List V) : St := vs.map some ++ List.replicate (N.length - vs.length) none

/-- the context of a def's body, at its entry; an exception leaves the frame, then lies as CX says -/
def cxOf (CX : CXT) (P : Program) (w : World) (K : PySem.W.Frag) (mg : Str → Option Value) (base : Heap) (N : List Str) (qual : Str) (scope : Scope) (f : Addr) (cd : Value) (A : Around) (outer : List Env) (s : Shared) (H : Hp) (E : XK) : Cx where
  prog := P
  w := w
  K := K
  mg := mg
  base := base
  A := A.deeper (envOfC qual scope s.heap.objs.size f cd)
  N := N
  s₀ := s
  H₀ := H
  env := envOfC qual scope s.heap.objs.size f cd
  outer := outer
  stack := envOfC qual scope s.heap.objs.size f cd :: outer
  ex := []
  calm := true
  fn := fun _ => true
  pn := []
  xe := fun e s' => wpAny (model P w) (A.deeper (envOfC qual scope s.heap.objs.size f cd)) (leaving (envOfC qual scope s.heap.objs.size f cd) e) (fun _ s'' => CX outer H s E e s'') (fun e' s'' => CX outer H s E e' s'') s'

theorem cell_has {sc : Scope} {n : Nat} {x : Str} (h : sc.names.lookup x = some .cell) : ∃ c, (cellsFrom n sc.names []).lookup x = some c := by
  have q := PySem.W.cellsFrom_some sc.names n [] (.inl h)
  exact Option.isSome_iff_exists.mp q

theorem inv_start {CX : CXT} {P : Program} {w : World} {K : PySem.W.Frag} {mg : Str → Option Value} {base : Heap} {N ps : List Str} {qual : Str} {scope : Scope} {f : Addr} {cd : Value} {A : Around} {outer : List Env} {s s1 : Shared} {H : Hp} {E : XK} {us : List Value} {vs : List V}
    (S : FnScope N ps scope) (hd : A.handled = none) (e0 : Env0 P w K mg base A outer s H) (hl : vs.length = ps.length) (r : Vals vs us)
    (x : InCallC s s.heap.objs.size (bindL (envOfC qual scope s.heap.objs.size f cd).kindOf (ps.zip us) fun _ => none) (cellsFrom (s.heap.objs.size + 1) scope.names []) (bindC (envOfC qual scope s.heap.objs.size f cd).kindOf (ps.zip us) fun _ => none) s1) :
    Inv (cxOf CX P w K mg base N qual scope f cd A outer s H E) [] (start N vs) H s1 := by
  have hpl : ps.length ≤ N.length := by have := congrArg List.length S.pre; rw [List.length_take] at this; omega
  obtain ⟨h1, tk, rfl, hk⟩ := x.done
  have noA : ∀ b : Addr, b ∉ (cxOf CX P w K mg base N qual scope f cd A outer s H E).ex := fun b z => absurd (show b ∈ ([] : List Addr) from z) (by simp)
  refine ⟨⟨e0.mod, S.kind, rfl, rfl, Nat.le_refl _, fun y z c h1 h2 => ?_, fun y hy => ?_, fun y c _ h => ?_, fun _ => hd, Around.frames_deeper e0.frames, .inr ⟨rfl, rfl⟩, fun b z => absurd z (noA b), e0.bs, e0.bsz, fun b _ _ => noA b, fun b z => absurd z (noA b), e0.funs, e0.frf⟩,
    rfl, e0.bare, Un.kept hk, ⟨_, x.toInCall.ns, fun i y v h1 h2 h3 => ?_⟩, fun y c h => ⟨_, x.cell y c h⟩, e0.hok.fresh (Nat.le_refl _), fun y c h => ?_, fun p hp => absurd (show p ∈ ([] : List (Addr × Obj)) from hp) (by simp), e0.hok.kept hk, ?_⟩
  · exact name_of_addr x.apart (PySem.mem_of_lookup h1) (PySem.mem_of_lookup h2)
  · have hy : scope.names.lookup y = some .cell ∨ scope.names.lookup y = some .free := hy
    rcases hy with hy | hy
    · exact cell_has hy
    · exact absurd rfl (S.nofree _ (PySem.mem_of_lookup hy))
  · exact Nat.le_of_lt (x.above y c (PySem.mem_of_lookup h))
  · have hi : i < vs.length := by
      unfold start at h2
      by_cases hi : i < vs.length
      · exact hi
      · rw [List.getElem?_append_right (by simpa using hi)] at h2
        rw [List.getElem?_replicate] at h2
        split at h2 <;> cases h2
    have ha : vs[i]? = some v := by
      unfold start at h2
      rw [List.getElem?_append_left (by simpa using hi), List.getElem?_map] at h2
      cases e : vs[i]? with
      | none => rw [e] at h2; cases h2
      | some a => rw [e] at h2; cases h2; rfl
    obtain ⟨u, hu, rv⟩ := r.get ha
    have hp : ps[i]? = some y := by
      rw [← S.pre, List.getElem?_take_of_lt (by omega)]; exact h1
    have ndP : ps.Nodup := by rw [← S.pre]; exact S.nd.sublist (List.take_sublist _ _)
    refine ⟨u, rv, ?_⟩
    rcases S.par y (List.mem_of_getElem? hp) with k | k
    · exact .inl ⟨k, bindL_get ndP hp hu k⟩
    · obtain ⟨c, e⟩ := cell_has (n := s.heap.objs.size + 1) k
      refine .inr ⟨.inl k, c, e, ?_⟩
      have q := x.cell y c e
      rw [bindC_get ndP hp hu (by show scope.names.lookup y ≠ _; rw [k]; decide)] at q
      exact q
  · exact e0.hok.fresh (Nat.le_of_lt (x.above y c (PySem.mem_of_lookup h)))
  · unfold start
    show _ = N.length
    rw [List.length_append, List.length_map, List.length_replicate]
    omega

/-- THE RULE: a def (or a method) of the text, by its body. The body's reading t is chosen for each entry; it is run at the parameters' values -/
theorem fn_of {CX : CXT} {P : Program} {w : World} {K : PySem.W.Frag} {mg : Str → Option Value} {base : Heap} {k : Nat} {f : Addr} {name qual : Str} {params : Arguments} {body : List Stmt} {scope : Scope} {dV kV doc pm cdv ct oc : Value} {an od : Option Addr}
    {osl : Array (Option Value)} {N ps : List Str} {sp : Sp} (lk : K.lookup f = some ⟨oc, od, .func (PySem.W.fnOf name qual params body scope dV kV doc pm an cdv ct), osl⟩) (hcd : PySem.W.codeIn K cdv qual = true) (S : FnScope N ps scope)
    (len : ∀ vs H Q E, sp vs H Q E → vs.length = ps.length)
    (hbody : ∀ (A : Around) (outer : List Env) (s : Shared) (H : Hp) (vs : List V) (Q : VK) (E : XK), Room k (A.deeper (envOfC qual scope s.heap.objs.size f cdv)) → sp vs H Q E →
      ∃ t, PSs (cxOf CX P w K mg base N qual scope f cdv A outer s H E) body t ∧ t { nx := fun _ H' => Q .non H', rt := Q } (start N vs) H) :
    FnOk P w K mg base CX (k + 1) f (PySem.W.fnOf name qual params body scope dV kV doc pm an cdv ct) ps sp := by
  refine ⟨len, fun A outer s H args us vs Q E hr e0 hb r hsp => ?_⟩
  have hl := len _ _ _ _ hsp
  have KX : K.In s.heap := e0.mod.kin.keeps fun b o e => (e0.bs b o e).1
  have lim : s.heap.NoLimit := e0.mod.nolimit.keeps fun b o e => (e0.bs b o e).1
  have hkind : ∀ y ∈ ps.zip us, scope.names.lookup y.1 = some .local ∨ (scope.names.lookup y.1 = some .cell ∧ ((cellsFrom (s.heap.objs.size + 1) scope.names []).lookup y.1).isSome = true) := fun ⟨n, v⟩ hy => by
    rcases S.par n (List.of_mem_zip hy).1 with q | q
    · exact .inl q
    · exact .inr ⟨q, PySem.W.cellsFrom_some _ _ _ (.inl q)⟩
  refine codeAny_call_function hr.depth (KX _ _ lk) rfl S.co S.gen rfl (PySem.W.codeRec_of KX hcd) (hb _ _ _ _ ?_)
  refine wpAny_newFunctionEnv_cells S.kind hkind fun env he s1 x => ?_
  subst he
  refine ⟨lim.keeps x.toInCall.keep, codeAny_func ?_⟩
  obtain ⟨t, ht, hq⟩ := hbody A outer s H vs Q E (hr.deeper _) hsp
  have I : Inv (cxOf CX P w K mg base N qual scope f cdv A outer s H E) [] (start N vs) H s1 := inv_start S hr.hd e0 hl r x
  refine wpAny_mono (ht [] s1 (start N vs) H _ I hq) (fun fl s' hs => ?_) fun e s' hs => hs
  have fin : ∀ {σ' : St} {H' : Hp} {v : V} {u : Value}, Inv (cxOf CX P w K mg base N qual scope f cdv A outer s H E) [] σ' H' s' → RelV v u → Q v H' → CE outer P w H s Q u s' :=
    fun {σ' H' v u} J rv q => ⟨v, H', J.os, J.bare, J.base, J.hok, rv, q⟩
  cases fl with
  | ret u =>
    obtain ⟨v, σ', H', J, rv, q⟩ := hs
    exact fin J rv q
  | next =>
    obtain ⟨σ', H', J, q⟩ := hs
    exact fin (v := V.non) (u := Value.none) J rfl q
  | brk =>
    obtain ⟨_, _, _, q⟩ := hs
    exact False.elim q
  | cont =>
    obtain ⟨_, _, _, q⟩ := hs
    exact False.elim q
end L2

namespace L2
open PySem PySem.Spec PyProof.Rows
section
variable {X : Cx} {x : Str} {p pos : Pos} {e : Expr} {es : List Expr} {t : TA} {id T : String} {r : List V → Hp → VK → Prop}

def tCB (r : List V → Hp → VK → Prop) (t : TA) : TE := fun σ H Q => t σ H fun vs H1 => r vs H1 Q
/-- f(e, ..), f a built-in function -/
theorem pe_callB (hc : CallR X (.builtin id) r) (hg : Gl X x) (hm : X.mg x = none) (hv : bootBuiltins x = some (.builtin id)) (ha : PA X (e :: es) t) (hn : x ≠ "__name__" := by decide) (hdb : (x == ("__debug__" : Str)) = false := by decide)
    (he : starEach (e :: es) X.env = (false, eval e X.env) :: starEach es X.env := by rfl) (hpl : (backTo pos (starEach es X.env)).any (·.1) = false := by rfl) : PE X (.Call (.Name x p) (e :: es) [] pos) (tCB r t) := by
  intro pins s σ H Q I h
  refine wpAny_Call_Name_kw (ld_blt I hg hm hv ?_ hn hdb)
  exact PyProof.Rows.callWith_builtin1 (thn (ha pos pins s σ H _ I h) fun us s1 ⟨vs, H1, I1, r1, q1⟩ => hc pins s1 σ H1 vs us Q I1 r1 q1) he hpl
/-- T(e, ..), T a built-in type -/
theorem pe_callTy (hc : CallR X (.type T) r) (hg : Gl X x) (hm : X.mg x = none) (hv : bootBuiltins x = some (.type T)) (ha : PA X (e :: es) t) (hn : x ≠ "__name__" := by decide) (hdb : (x == ("__debug__" : Str)) = false := by decide)
    (he : starEach (e :: es) X.env = (false, eval e X.env) :: starEach es X.env := by rfl) (hpl : (backTo pos (starEach es X.env)).any (·.1) = false := by rfl) : PE X (.Call (.Name x p) (e :: es) [] pos) (tCB r t) := by
  intro pins s σ H Q I h
  refine wpAny_Call_Name_kw (ld_blt I hg hm hv ?_ hn hdb)
  exact PyProof.Rows.callWith_type1 (thn (ha pos pins s σ H _ I h) fun us s1 ⟨vs, H1, I1, r1, q1⟩ => hc pins s1 σ H1 vs us Q I1 r1 q1) he hpl
end
end L2

namespace HT
open PySem PyProof.Rows

/-- t < u of tuples of ints -/
def lexLt : List Int → List Int → Bool
  | [], [] => false
  | [], _ :: _ => true
  | _ :: _, [] => false
  | x :: xs, y :: ys => if x = y then lexLt xs ys else decide (x < y)
section
open PySem.SeqAt
open PySem.AutoSeq1 (wpAny_loadPart')
open PySem.MeetsSeq PySem.MeetsSeq2 PySem.MeetsSeq3

end

section
variable {prog : Program} {w : World} {A : Around} {E : Value → Shared → Prop} {s : Shared}

/-! ### t[a:b], not the whole -/
/-- a slice's bound as a place among n (d where it is left out) -/
def sIx (n d : Nat) : Option Int → Nat
  | none => d
  | some v => if v < 0 then (v + (n : Int)).toNat else min v.toNat n
end
end HT

namespace L2
open PySem PySem.Spec PyProof.Rows

/-! ### the parts of a slice -/
abbrev TO := St → Hp → (Option Int → Hp → Prop) → Prop
/-- a slice's part (left out, or an int) -/
def PO (X : Cx) (e : Option Expr) (t : TO) : Prop :=
  ∀ (pins : List (Addr × Obj)) (s : Shared) (σ : St) (H : Hp) (Q : Option Int → Hp → Prop), Inv X pins σ H s → t σ H Q →
    wpAny (model X.prog X.w) X.A (evalPart e X.env) (fun u s' => ∃ o H', Inv X pins σ H' s' ∧ IsPart u o ∧ Q o H') X.xe s
def tNoPart : TO := fun _ H Q => Q none H
def tPart (t : TE) : TO := fun σ H Q => t σ H fun x H1 => ∃ i, x = .int i ∧ Q (some i) H1

section
variable {X : Cx} {e : Expr} {te : TE} {lo hi : Option Expr} {tl th : TO} {pos p2 : Pos}

/-- what a slice of a value is, by values: the slice object stands at sl -/
def SlR (X : Cx) (r : V → Option Int → Option Int → Hp → VK → Prop) : Prop :=
  ∀ (pins : List (Addr × Obj)) (s : Shared) (σ : St) (H : Hp) (x : V) (v vl vu : Value) (lo hi : Option Int) (sl : Addr) (Q : VK), Inv X pins σ H s → RelV x v → s.heap.IsSliceOf sl vl vu .none → IsPart vl lo → IsPart vu hi → r x lo hi H Q →
    ∃ T id, typeLookup (.type T) "__getitem__" = pure (some (.builtin id)) ∧ s.TypeIs v T ∧ wpAny (model X.prog X.w) X.A (getItem v (.ref sl)) (EP X pins σ Q) X.xe s
theorem SlR.or {r r' : V → Option Int → Option Int → Hp → VK → Prop} (h : SlR X r) (h' : SlR X r') : SlR X (fun x lo hi H Q => r x lo hi H Q ∨ r' x lo hi H Q) := by
  intro pins s σ H x v vl vu lo hi sl Q I rx hs pl pu q
  rcases q with q | q
  · exact h pins s σ H x v vl vu lo hi sl Q I rx hs pl pu q
  · exact h' pins s σ H x v vl vu lo hi sl Q I rx hs pl pu q
def tSl (r : V → Option Int → Option Int → Hp → VK → Prop) (te : TE) (tl th : TO) : TE := fun σ H Q => te σ H fun x H1 => tl σ H1 fun l H2 => th σ H2 fun u H3 => r x l u H3 Q
/-- the items of xs[lo:hi] -/
def cutV (xs : List V) (lo hi : Option Int) : List V := (xs.drop (HT.sIx xs.length 0 lo)).take (HT.sIx xs.length xs.length hi - HT.sIx xs.length 0 lo)
/-- t[lo:hi], not the whole of it (the whole would be t itself) -/
def rSlT (K : PySem.W.Frag) : V → Option Int → Option Int → Hp → VK → Prop := fun x lo hi H Q => ∃ a xs, x = .ref a ∧ SqT K H a xs ∧
  ¬ (HT.sIx xs.length 0 lo = 0 ∧ HT.sIx xs.length xs.length hi = xs.length) ∧ ∀ p, H p = none → Q (.ref p) (upd H p (.tup (cutV xs lo hi)))
/-! ### t < u, t + u -/
def rLtT (K : PySem.W.Frag) : R2 := fun x y H Q => ∃ a b ns ms, x = .ref a ∧ y = .ref b ∧ SqT K H a (ns.map V.int) ∧ SqT K H b (ms.map V.int) ∧ Q (.bl (HT.lexLt ns ms)) H
/-- t + u, t not empty: u empty gives t itself -/
def rCatT (K : PySem.W.Frag) : R2 := fun x y H Q => ∃ a b xs ys, x = .ref a ∧ y = .ref b ∧ SqT K H a xs ∧ SqT K H b ys ∧ xs ≠ [] ∧ xs.length + ys.length ≤ sizeLine ∧
  (ys = [] → Q (.ref a) H) ∧ (ys ≠ [] → ∀ p, H p = none → Q (.ref p) (upd H p (.tup (xs ++ ys))))
end
end L2

namespace L2
open PySem PySem.Spec PyProof.Rows

/-! ### places -/
/-- the place that an index of any sign means -/
def ixN (n : Nat) (i : Int) : Option Nat := if 0 ≤ i then (if i < n then some i.toNat else none) else if -(n : Int) ≤ i then some (i + n).toNat else none
def atI {α : Type} (xs : List α) (i : Int) : Option α := (ixN xs.length i).bind fun j => xs[j]?
theorem ixN_seq {n : Nat} {i : Int} {j : Nat} (h : ixN n i = some j) : seqIndex? i n = some j ∧ j < n ∧ -(n : Int) ≤ i ∧ i < n := by
  unfold ixN at h
  by_cases h0 : 0 ≤ i
  · rw [if_pos h0] at h
    by_cases h1 : i < n
    · rw [if_pos h1] at h
      have e : i.toNat = j := Option.some.inj h
      exact ⟨by rw [seqIndex_of h0 h1, e], by omega, by omega, h1⟩
    · rw [if_neg h1] at h; cases h
  · rw [if_neg h0] at h
    by_cases h1 : -(n : Int) ≤ i
    · rw [if_pos h1] at h
      have e : (i + n).toNat = j := Option.some.inj h
      exact ⟨by rw [seqIndex_neg (by omega) h1, e], by omega, h1, by omega⟩
    · rw [if_neg h1] at h; cases h
theorem atI_get {α : Type} {xs : List α} {i : Int} {v : α} (h : atI xs i = some v) : ∃ j, seqIndex? i xs.length = some j ∧ xs[j]? = some v ∧ j < xs.length ∧ -(xs.length : Int) ≤ i ∧ i < xs.length := by
  unfold atI at h
  cases e : ixN xs.length i with
  | none => rw [e] at h; cases h
  | some j =>
    rw [e] at h
    obtain ⟨h1, h2, h3, h4⟩ := ixN_seq e
    exact ⟨j, h1, h, h2, h3, h4⟩
theorem atI_nat {α : Type} {xs : List α} {j : Nat} {v : α} (h : xs[j]? = some v) : atI xs (j : Int) = some v := by
  have hj : j < xs.length := (List.getElem?_eq_some_iff.mp h).1
  have e : ixN xs.length (j : Int) = some j := by
    unfold ixN
    rw [if_pos (by omega), if_pos (by omega)]; simp
  unfold atI; rw [e]; exact h
/-! ### what may be subscripted -/
/-- what stands as an index of a plain subscript -/
def PlainIx (b : Expr) : Prop := ∀ o i, subscripted b false o i = operate [o, i] (getItem o i)
/-- a subscript by values -/
def IxR (X : Cx) (r : R2) : Prop :=
  ∀ (value slice : Expr) (pins : List (Addr × Obj)) (s : Shared) (σ : St) (H : Hp) (x y : V) (v u : Value) (Q : VK), Inv X pins σ H s → RelV x v → RelV y u → r x y H Q →
    subscripted slice false v u = operate [v, u] (getItem v u) → wpAny (model X.prog X.w) X.A (subscriptTail value slice v u) (EP X pins σ Q) X.xe s
/-- a call of a builtin's method by values: the receiver, the arguments -/
def MtR (X : Cx) (id : String) (r : V → List V → Hp → VK → Prop) : Prop :=
  ∀ (pins : List (Addr × Obj)) (s : Shared) (σ : St) (H : Hp) (x : V) (xs : List V) (v : Value) (us : List Value) (Q : VK), Inv X pins σ H s → RelV x v → Vals xs us → r x xs H Q →
    wpAny (model X.prog X.w) X.A (call (.builtin id) (v :: us)) (EP X pins σ Q) X.xe s
section
variable {X : Cx} {a b : Expr} {ta tb : TE} {pos : Pos}
theorem IxR.or {r r' : R2} (h : IxR X r) (h' : IxR X r') : IxR X (fun x y H Q => r x y H Q ∨ r' x y H Q) := by
  intro value slice pins s σ H x y v u Q I rx ry q hs
  rcases q with q | q
  · exact h value slice pins s σ H x y v u Q I rx ry q hs
  · exact h' value slice pins s σ H x y v u Q I rx ry q hs
theorem MtR.or {id : String} {r r' : V → List V → Hp → VK → Prop} (h : MtR X id r) (h' : MtR X id r') : MtR X id (fun x xs H Q => r x xs H Q ∨ r' x xs H Q) := by
  intro pins s σ H x xs v us Q I rx rs q
  rcases q with q | q
  · exact h pins s σ H x xs v us Q I rx rs q
  · exact h' pins s σ H x xs v us Q I rx rs q
/-- a[b] -/
theorem pe_ix {r : R2} (hr : IxR X r) (ha : PE X a ta) (hb : PE X b tb) (hs : PlainIx b) : PE X (.Subscript a b pos) (tOp r ta tb) := by
  intro pins s σ H Q I h
  exact Subscript_ (binT ha hb I h fun v u s2 x y H2 I2 rx ry q => hr a b pins s2 σ H2 x y v u Q I2 rx ry q (hs _ _))

def rIxL (K : PySem.W.Frag) : R2 := fun x y H Q => ∃ p xs i v, x = .ref p ∧ y = .int i ∧ SqL K H p xs ∧ atI xs i = some v ∧ Q v H
def rIxT (K : PySem.W.Frag) : R2 := fun x y H Q => ∃ p xs i v, x = .ref p ∧ y = .int i ∧ SqT K H p xs ∧ atI xs i = some v ∧ Q v H
def rIxS : R2 := fun x y H Q => ∃ z i c, x = .str z ∧ y = .int i ∧ z.length ≤ sizeLine ∧ atI z.cps.toList i = some c ∧ Q (.str ⟨#[c]⟩) H
theorem ix_list : IxR X (rIxL X.K) := by
  intro value slice pins s σ H x y v u Q I rx ry h hs
  obtain ⟨p, xs, i, z, rfl, rfl, hq, he, q⟩ := h
  cases rx
  obtain ⟨t, rfl⟩ := ry
  obtain ⟨its, r, pl, hz⟩ := I.list hq
  obtain ⟨j, h1, h2, h3, h4, h5⟩ := atI_get he
  obtain ⟨w, ew, rw'⟩ := r.get h2
  have hl := r.length
  have hn := line63
  have fin : EP X pins σ Q w s := ⟨z, H, I, rw', q⟩
  by_cases h0 : 0 ≤ i
  · have hj : i.toNat = j := by
      rw [seqIndex_of h0 h5] at h1
      exact Option.some.inj h1
    exact item_listR pl.isList h0 (by omega) (by rw [hj]; simpa using ew) fin hs
  · have hj : (i + (its.toArray.size : Int)).toNat = j := by
      rw [seqIndex_neg (by omega) h4] at h1
      rw [List.size_toArray, ← hl]
      exact Option.some.inj h1
    exact subscriptTail_builtinR (x := w) pl.isList.typeIs slot_list_getitem.lookup
      (wpAny_getItem_list_neg (Q := fun r s' => r = w ∧ EP X pins σ Q r s') pl.isList (by omega) (by rw [List.size_toArray] <;> omega) (by omega) (by rw [hj]; simpa using ew) ⟨rfl, fin⟩) hs
theorem ix_tup : IxR X (rIxT X.K) := by
  intro value slice pins s σ H x y v u Q I rx ry h hs
  obtain ⟨p, xs, i, z, rfl, rfl, hq, he, q⟩ := h
  cases rx
  obtain ⟨t, rfl⟩ := ry
  obtain ⟨its, r, pl, hz⟩ := I.tuple hq
  obtain ⟨j, h1, h2, h3, h4, h5⟩ := atI_get he
  obtain ⟨w, ew, rw'⟩ := r.get h2
  have hl := r.length
  have hn := line63
  have fin : EP X pins σ Q w s := ⟨z, H, I, rw', q⟩
  exact subscriptTail_builtinR (x := w) pl.typeIs slot_tuple_getitem.lookup
    (getItem_tuple (j := j) (Q := fun r s' => r = w ∧ EP X pins σ Q r s') pl (by omega) (by omega) (by rw [List.size_toArray, ← hl]; exact h1) (by simpa using ew) ⟨rfl, fin⟩) hs
theorem ix_str : IxR X rIxS := by
  intro value slice pins s σ H x y v u Q I rx ry h hs
  obtain ⟨z, i, c, rfl, rfl, hz, he, q⟩ := h
  obtain ⟨t, rfl⟩ := rx
  obtain ⟨t', rfl⟩ := ry
  obtain ⟨j, h1, h2, h3, h4, h5⟩ := atI_get he
  have hl : z.cps.toList.length = z.length := by simp [Str.length]
  rw [hl] at h1 h4 h5
  have hn := line63
  exact tail_any (typeIs_str s z t) slot_str_getitem.lookup (getItem_str (c := c) (by
    have e1 : decide (i < -(2 ^ 63 : Int)) = false := decide_eq_false (by omega)
    have e2 : decide (i ≥ 2 ^ 63) = false := decide_eq_false (by omega)
    rw [e1, e2, Bool.or_false]) (by rw [h1]; simpa using h2) ⟨.str ⟨#[c]⟩, H, I.tok _, ⟨_, rfl⟩, q⟩) hs
/-- list, tuple or str -/
def rIx (K : PySem.W.Frag) : R2 := fun x y H Q => rIxL K x y H Q ∨ rIxT K x y H Q ∨ rIxS x y H Q
/-! ### xs[i] = v, any sign -/
/-- the list's object behind a store -/
theorem mapSeq_set (its : List Value) (n j : Nat) (u : Value) : Obj.mapSeq (·.setIfInBounds j u) { cls := .type "list", data := .seq its.toArray n } = { cls := .type "list", data := .seq (its.set j u).toArray n } := by
  simp [Obj.mapSeq]
theorem Inv.lst {pins : List (Addr × Obj)} {σ : St} {H : Hp} {s : Shared} {p : Addr} {xs : List V} (I : Inv X pins σ H s) (h : H p = some (.lst xs)) :
    ∃ (its : List Value) (n : Nat), Vals xs its ∧ s.heap.get? p = some { cls := .type "list", data := .seq its.toArray n } ∧ xs.length ≤ sizeLine := by
  obtain ⟨z, its, n, r, e⟩ := I.hok p _ h
  exact ⟨its, n, r, e, z⟩
/-- the list at p is written by an update of its object -/
theorem Inv.lstUpd {pins : List (Addr × Obj)} {σ : St} {H : Hp} {s : Shared} {p : Addr} {xs ys : List V} {its its' : List Value} {n n' : Nat} {f : Obj → Obj} (I : Inv X pins σ H s) (h : H p = some (.lst xs))
    (ho : s.heap.get? p = some { cls := .type "list", data := .seq its.toArray n }) (hf : f { cls := .type "list", data := .seq its.toArray n } = { cls := .type "list", data := .seq its'.toArray n' }) (r : Vals ys its') (hz : ys.length ≤ sizeLine) (t : Nat) :
    Inv X pins σ (upd H p (.lst ys)) { s with heap := s.heap.update p f, toks := t } := by
  have e : (s.heap.update p f).get? p = some { cls := .type "list", data := .seq its'.toArray n' } := by
    rw [Heap.get?_update_self f ho (by rw [hf] <;> rfl), hf]
  refine I.write (x := p) (e := p) (by rw [h]; trivial) (.inl rfl) (fun b u hb q => (Heap.get?_update_other _ _ (Ne.symm hb)).trans q) ⟨_, e⟩ ?_
  exact ⟨hz, its', n', r, e⟩
def rSetL : V → V → V → Hp → (Hp → Prop) → Prop := fun o i v H Q => ∃ p xs k j, o = .ref p ∧ i = .int k ∧ H p = some (.lst xs) ∧ ixN xs.length k = some j ∧ Q (upd H p (.lst (xs.set j v)))
theorem set_list : PSet X rSetL := by
  intro pins s σ H o i v ov iv u Q I ro ri rv h
  obtain ⟨p, xs, k, j, rfl, rfl, hp, hj, q⟩ := h
  cases ro
  obtain ⟨t, rfl⟩ := ri
  obtain ⟨its, n, r, ho, hz⟩ := I.lst hp
  obtain ⟨h1, h2, h3, h4⟩ := ixN_seq hj
  have hl := r.length
  have hn := line63
  have I' : Inv X pins σ (upd H p (.lst (xs.set j v))) { s with heap := s.heap.update p (Obj.mapSeq (·.setIfInBounds j u)) } :=
    I.lstUpd hp ho (mapSeq_set its n j u) (r.set rv j) (by rw [List.length_set]; exact hz) s.toks
  by_cases h0 : 0 ≤ k
  · have hk : k.toNat = j := by
      rw [seqIndex_of h0 h4] at h1
      exact Option.some.inj h1
    exact PySem.W.ki_setAt ho h0 (by omega) (by rw [List.size_toArray, ← hl]; exact h4) (by rw [hk]; exact ⟨_, I', q⟩)
  · have hk : (k + (its.toArray.size : Int)).toNat = j := by
      rw [seqIndex_neg (by omega) h3] at h1
      rw [List.size_toArray, ← hl]
      exact Option.some.inj h1
    exact PySem.W.ki_setBack ho (by omega) (by rw [List.size_toArray, ← hl]; exact h3) (by omega) (by rw [hk]; exact ⟨_, I', q⟩)

/-! ### slices -/
/-- xs[lo:hi] of a list: a new list -/
def rSlL (K : PySem.W.Frag) : V → Option Int → Option Int → Hp → VK → Prop := fun x lo hi H Q => ∃ a xs, x = .ref a ∧ SqL K H a xs ∧ ∀ p, H p = none → Q (.ref p) (upd H p (.lst (cutV xs lo hi)))
/-! ### in, not in: flat items -/
def flatV : V → Bool
  | .non => true
  | .bl _ => true
  | .int _ => true
  | .str _ => true
  | _ => false
/-- == of flat values -/
def eqV : V → V → Bool
  | .non, .non => true
  | .bl a, .bl b => a == b
  | .bl a, .int b => (if a then 1 else 0) == b
  | .int a, .bl b => a == (if b then 1 else 0)
  | .int a, .int b => a == b
  | .str a, .str b => a == b
  | _, _ => false
theorem eqAt_V {A : Around} {s : Shared} {y x : V} {u v : Value} (ry : RelV y u) (rx : RelV x v) (fy : flatV y = true) (fx : flatV x = true) : SeqAt.EqAt A s u v (eqV y x) := by
  cases y with
  | non =>
    cases ry
    cases x with
    | non => cases rx; exact SeqAt.EqAt.same _
    | bl b => cases rx; exact SeqAt.EqAt.none_bool b
    | int b => obtain ⟨t, rfl⟩ := rx; exact SeqAt.EqAt.none_int b t
    | str b => obtain ⟨t, rfl⟩ := rx; exact SeqAt.EqAt.none_str b t
    | _ => exact absurd (show false = true from fx) Bool.false_ne_true
  | bl a =>
    cases ry
    cases x with
    | non => cases rx; exact SeqAt.EqAt.bool_none a
    | bl b => cases rx; exact SeqAt.EqAt.bool_bool a b
    | int b => obtain ⟨t, rfl⟩ := rx; exact SeqAt.EqAt.bool_int a b t
    | str b => obtain ⟨t, rfl⟩ := rx; exact SeqAt.EqAt.bool_str a b t
    | _ => exact absurd (show false = true from fx) Bool.false_ne_true
  | int a =>
    obtain ⟨t', rfl⟩ := ry
    cases x with
    | non => cases rx; exact SeqAt.EqAt.int_none a t'
    | bl b => cases rx; exact SeqAt.EqAt.int_bool a t' b
    | int b => obtain ⟨t, rfl⟩ := rx; exact SeqAt.EqAt.int_int a t' b t
    | str b => obtain ⟨t, rfl⟩ := rx; exact SeqAt.EqAt.int_str a t' b t
    | _ => exact absurd (show false = true from fx) Bool.false_ne_true
  | str a =>
    obtain ⟨t', rfl⟩ := ry
    cases x with
    | non => cases rx; exact SeqAt.EqAt.str_none a t'
    | bl b => cases rx; exact SeqAt.EqAt.str_bool a t' b
    | int b => obtain ⟨t, rfl⟩ := rx; exact SeqAt.EqAt.str_int a t' b t
    | str b => obtain ⟨t, rfl⟩ := rx; exact SeqAt.EqAt.str_str a t' b t
    | _ => exact absurd (show false = true from fx) Bool.false_ne_true
  | _ => exact absurd (show false = true from fy) Bool.false_ne_true
/-- the items' answers, read off the values (a value's own answer does not lean on its token) -/
def eqU (x : V) (u : Value) : Bool := match u with
  | .none => eqV .non x
  | .bool b => eqV (.bl b) x
  | .int i _ => eqV (.int i) x
  | .str z _ => eqV (.str z) x
  | _ => false
theorem eqU_of {x y : V} {u : Value} (r : RelV y u) (f : flatV y = true) : eqU x u = eqV y x := by
  cases y with
  | non => cases r; rfl
  | bl b => cases r; rfl
  | int i => obtain ⟨t, rfl⟩ := r; rfl
  | str z => obtain ⟨t, rfl⟩ := r; rfl
  | _ => exact absurd (show false = true from f) Bool.false_ne_true
theorem any_eqU {x : V} : ∀ {xs : List V} {us : List Value}, Vals xs us → xs.all flatV = true → us.any (eqU x) = xs.any fun y => eqV y x
  | _, _, .nil, _ => rfl
  | y :: xs, u :: us, .cons r t, f => by
    rw [List.all_cons, Bool.and_eq_true] at f
    rw [List.any_cons, List.any_cons, eqU_of r f.1, any_eqU t f.2]
theorem mem_eqAt {A : Around} {s : Shared} {x : V} {v : Value} (rx : RelV x v) (fx : flatV x = true) : ∀ {xs : List V} {us : List Value}, Vals xs us → xs.all flatV = true → ∀ u ∈ us, SeqAt.EqAt A s u v (eqU x u)
  | _, _, .nil, _ => fun u hu => by cases hu
  | y :: xs, u :: us, .cons r t, f => fun u' hu => by
    rw [List.all_cons, Bool.and_eq_true] at f
    rcases List.mem_cons.mp hu with rfl | hu
    · rw [eqU_of r f.1]; exact eqAt_V r rx f.1 fx
    · exact mem_eqAt rx fx t f.2 u' hu
def inV (x : V) (xs : List V) : Bool := xs.any fun y => eqV y x
/-- x in a list or tuple of flat items -/
def rIn (K : PySem.W.Frag) (neg : Bool) : R2 := fun x y H Q => ∃ p xs, y = .ref p ∧ (SqL K H p xs ∨ SqT K H p xs) ∧ flatV x = true ∧ xs.all flatV = true ∧ Q (.bl (if neg then !inV x xs else inV x xs)) H
theorem op_notIn_seq : OpR X (compareOp .NotIn) (rIn X.K true) := by
  intro pins s σ H x y v u Q I rx ry h
  obtain ⟨p, xs, rfl, hq, fx, fs, q⟩ := h
  cases ry
  rcases hq with hq | hq
  · obtain ⟨its, r, pl, hz⟩ := I.list hq
    refine SeqAt.notIn_listAt (eqU x) pl.isList (fun w hw => mem_eqAt rx fx r fs w (by simpa using hw)) ⟨.bl _, H, I, rfl, ?_⟩
    rw [show its.toArray.any (eqU x) = its.any (eqU x) by simp, any_eqU r fs]
    exact q
  · obtain ⟨its, r, pl, hz⟩ := I.tuple hq
    refine SeqAt.notIn_tupleAt (eqU x) pl (fun w hw => mem_eqAt rx fx r fs w (by simpa using hw)) ⟨.bl _, H, I, rfl, ?_⟩
    rw [show its.toArray.any (eqU x) = its.any (eqU x) by simp, any_eqU r fs]
    exact q
/-! ### len, list(x), tuple(x) of any list or tuple that is read -/
theorem call_len_seq : CallR X (.builtin "len") (fun xs H Q => ∃ p ys, xs = [.ref p] ∧ (SqL X.K H p ys ∨ SqT X.K H p ys) ∧ Q (.int ys.length) H) := by
  intro pins s σ H xs us Q I r h
  obtain ⟨p, ys, rfl, hq, q⟩ := h
  obtain ⟨u, rfl, rx⟩ := vals1 r
  cases rx
  have hn := line63
  rcases hq with hq | hq
  · obtain ⟨its, r', pl, hz⟩ := I.list hq
    have hlen := r'.length
    exact Calls.call_len_list pl.isList (by simp only [List.size_toArray] <;> omega) ⟨.int ys.length, H, I.tok _, ⟨s.toks + 1, by rw [List.size_toArray, hlen]⟩, q⟩
  · obtain ⟨its, r', pl, hz⟩ := I.tuple hq
    have hlen := r'.length
    exact len_tuple pl (by simp only [List.size_toArray] <;> omega) ⟨.int ys.length, H, I.tok _, ⟨s.toks + 1, by rw [List.size_toArray, hlen]⟩, q⟩
theorem CallR.or {f : Value} {r r' : List V → Hp → VK → Prop} (h : CallR X f r) (h' : CallR X f r') : CallR X f (fun xs H Q => r xs H Q ∨ r' xs H Q) := by
  intro pins s σ H xs us Q I rs q
  rcases q with q | q
  · exact h pins s σ H xs us Q I rs q
  · exact h' pins s σ H xs us Q I rs q
theorem call_list_of : CallR X (.type "list") (fun xs H Q => ∃ p ys, xs = [.ref p] ∧ (SqL X.K H p ys ∨ SqT X.K H p ys) ∧ ∀ l, H l = none → Q (.ref l) (upd H l (.lst ys))) := by
  intro pins s σ H xs us Q I r h
  obtain ⟨p, ys, rfl, hq, q⟩ := h
  obtain ⟨u, rfl, rx⟩ := vals1 r
  cases rx
  have fin : ∀ (its : List Value), Vals ys its → ys.length ≤ sizeLine → ∀ (h' : Heap) (c' : Nat), (∀ b o', s.heap.get? b = some o' → h'.get? b = some o') →
      h'.get? s.heap.objs.size = some { cls := .type "list", dict := none, data := .seq its.toArray c', slots := #[] } → EP X pins σ Q (.ref s.heap.objs.size) { s with heap := h' } := fun its r' hz h' c' kp e =>
    ⟨.ref s.heap.objs.size, _, I.laid (t' := s.toks) kp (Nat.le_refl _) (show ObjOk X.prog X.w _ h' _ (.lst ys) from ⟨hz, its, c', r', e⟩), rfl, q _ (I.hok.fresh (Nat.le_refl _))⟩
  rcases hq with hq | hq
  · obtain ⟨its, r', pl, hz⟩ := I.list hq
    have hlen := r'.length
    obtain ⟨o, ho, hc, n, hd⟩ := pl.isList
    exact call_list_seq p (.inl rfl) ho hc hd (fun h' c' kp e => fin its r' hz h' c' kp e) (by simp only [List.size_toArray] <;> omega)
  · obtain ⟨its, r', pl, hz⟩ := I.tuple hq
    have hlen := r'.length
    obtain ⟨o, ho, hc, n, hd⟩ := pl
    exact call_list_seq p (.inr rfl) ho hc hd (fun h' c' kp e => fin its r' hz h' c' kp e) (by simp only [List.size_toArray] <;> omega)
theorem call_tuple_of : CallR X (.type "tuple") (fun xs H Q => ∃ p ys, xs = [.ref p] ∧ ((SqL X.K H p ys ∧ ∀ l, H l = none → Q (.ref l) (upd H l (.tup ys))) ∨ (SqT X.K H p ys ∧ Q (.ref p) H))) := by
  intro pins s σ H xs us Q I r h
  obtain ⟨p, ys, rfl, h⟩ := h
  obtain ⟨u, rfl, rx⟩ := vals1 r
  cases rx
  rcases h with ⟨hq, q⟩ | ⟨hq, q⟩
  · obtain ⟨its, r', pl, hz⟩ := I.list hq
    have hlen := r'.length
    refine call_tuple_list pl.isList (fun h' kp => ?_) (by simp only [List.size_toArray] <;> omega)
    have I1 : Inv X pins σ H { s with heap := h' } := I.kept (t' := s.toks) kp
    have I2 : Inv X pins σ (upd H h'.objs.size (.tup ys)) { s with heap := h'.push { cls := .type "tuple", data := .seq its.toArray } } :=
      I1.laid (t' := s.toks) (fun b o e => Heap.get?_push_of_some _ e) (Nat.le_refl _) (show ObjOk X.prog X.w _ _ _ (.tup ys) from ⟨hz, its, r', ⟨_, Heap.get?_push_size _ rfl, rfl, _, rfl, rfl⟩⟩)
    exact ⟨.ref h'.objs.size, _, I2, rfl, q _ (I1.hok.fresh (Nat.le_refl _))⟩
  · obtain ⟨its, r', pl, hz⟩ := I.tuple hq
    exact call_tuple_same pl ⟨.ref p, H, I, rfl, q⟩

/-! ### the call of a builtin's method: o.m(..) -/
/-- the value is of that builtin type -/
def tyV (K : PySem.W.Frag) (T : String) (x : V) (H : Hp) : Prop := match x with
  | .str _ => T = "str"
  | .int _ => T = "int"
  | .ref p => (T = "list" ∧ ∃ xs, SqL K H p xs) ∨ (T = "tuple" ∧ ∃ o, K.lookup p = some o ∧ o.cls = .type "tuple" ∧ o.dict = none) ∨
      (T = "dict" ∧ ((∃ kvs, H p = some (.dK kvs)) ∨ ∃ kvs, H p = some (.dT kvs))) ∨ (T = "set" ∧ ∃ S n, H p = some (.set S n))
  | _ => False
theorem tyV_is {pins : List (Addr × Obj)} {σ : St} {H : Hp} {s : Shared} {T : String} {x : V} {v : Value} (I : Inv X pins σ H s) (r : RelV x v) (ty : tyV X.K T x H) :
    s.TypeIs v T ∧ ∀ a, v = .ref a → ∃ ob, s.heap.get? a = some ob ∧ ob.dict = none := by
  cases x with
  | str z =>
    obtain ⟨t, rfl⟩ := r
    cases (show T = "str" from ty)
    exact ⟨typeIs_str s z t, fun _ e => nomatch e⟩
  | int i =>
    obtain ⟨t, rfl⟩ := r
    cases (show T = "int" from ty)
    exact ⟨typeIs_int s i t, fun _ e => nomatch e⟩
  | ref p =>
    cases r
    rcases ty with ⟨rfl, xs, hq⟩ | ⟨rfl, o, hk, hc, hd⟩ | ⟨rfl, hk⟩ | ⟨rfl, S, n, hk⟩
    · obtain ⟨its, _, pl, _⟩ := I.list hq
      refine ⟨pl.isList.typeIs, fun a e => ?_⟩
      cases e
      obtain ⟨o, n, e, c, hd, _⟩ := pl
      exact ⟨o, e, hd⟩
    · refine ⟨⟨o, I.kIn p o hk, hc⟩, fun a e => ?_⟩
      cases e
      exact ⟨o, I.kIn _ o hk, hd⟩
    · have z : ∃ o, s.heap.get? p = some o ∧ o.ExactDict := by
        rcases hk with ⟨kvs, hk⟩ | ⟨kvs, hk⟩
        · obtain ⟨_, _, _, _, o, _, _, e, ex, _⟩ := I.hok p _ hk
          exact ⟨o, e, ex⟩
        · obtain ⟨_, _, _, _, o, _, _, e, ex, _⟩ := I.hok p _ hk
          exact ⟨o, e, ex⟩
      obtain ⟨o, e, ex⟩ := z
      refine ⟨⟨o, e, ex.1⟩, fun a e2 => ?_⟩
      cases e2
      exact ⟨o, e, ex.2.1⟩
    · obtain ⟨o, _, _, _, e, ex, _⟩ := I.hok p _ hk
      refine ⟨⟨o, e, ex.1⟩, fun a e2 => ?_⟩
      cases e2
      exact ⟨o, e, ex.2.1⟩
  | _ => exact False.elim ty
def tBM0 (K : PySem.W.Frag) (T : String) (r : V → List V → Hp → VK → Prop) (to : TE) : TE := fun σ H Q => to σ H fun x H1 => tyV K T x H1 ∧ r x [] H1 Q
def tBM (K : PySem.W.Frag) (T : String) (r : V → List V → Hp → VK → Prop) (to : TE) (t : TA) : TE := fun σ H Q => to σ H fun x H1 => tyV K T x H1 ∧ t σ H1 fun xs H2 => r x xs H2 Q
variable {o e : Expr} {es : List Expr} {to : TE} {t : TA} {name : Str} {apos cpos : Pos} {T id : String} {r : V → List V → Hp → VK → Prop}
theorem pe_bm (pa : PlainAttrs T) (slot : Slot T name id) (hty : typeOf (.builtin id) = pure (.type "method_descriptor")) (hm : MtR X id r) (ho : PE X o to) (ha : PA X (e :: es) t)
    (hbase : attributeBase o name X.env (eval o X.env) = eval o X.env := by rfl)
    (hfew : ((backTo cpos (starEach (e :: es) X.env)).all (fun x => !x.1) && (backToKw cpos (keywordEach [] X.env)).all (fun x => x.1.isSome)
      && decide ((e :: es).length + ([] : List Keyword).length + (if ([] : List Keyword).isEmpty then 0 else 1) < 30)) = true := by rfl)
    (hline : (apos.endLine == cpos.line) = true := by rfl) (hs : starEach (e :: es) X.env = (false, eval e X.env) :: starEach es X.env := by rfl) (hplain : (backTo cpos (starEach es X.env)).any (·.1) = false := by rfl) :
    PE X (.Call (.Attribute o name apos) (e :: es) [] cpos) (tBM X.K T r to t) := by
  intro pins s σ H Q I h
  refine wpAny_Call_method_late hbase hfew hline rfl (thn (ho pins s σ H _ I h) fun v s1 ⟨x, H1, I1, r1, ty, q1⟩ => ?_)
  obtain ⟨h1, h2⟩ := tyV_is I1 r1 ty
  refine ⟨T, id, pa, slot, hty, h1, h2, ?_⟩
  have hA := ha cpos pins s1 σ H1 _ I1 q1
  rw [hs] at hA ⊢
  refine Calls.callWith_builtin (by show (false || (backTo cpos (starEach es X.env)).any (·.1)) = false; rw [hplain] <;> rfl) (Calls.evalArgs_plain ?_)
  exact thn hA fun us s2 ⟨vs, H2, I2, r2, q2⟩ => hm pins s2 σ H2 x vs v us Q I2 r1 r2 q2
/- xs.append(e), list.index on a module's tuple .. are MtR facts of 06m -/
end
end L2

namespace L2
open PySem PySem.Spec PyProof.Rows

def MtM (X : Cx) (id : String) (r : V → List V → Hp → VK → Prop) : Prop :=
  ∀ (pins : List (Addr × Obj)) (s : Shared) (σ : St) (H : Hp) (x : V) (xs : List V) (v : Value) (us : List Value) (Q : VK), Inv X pins σ H s → RelV x v → Vals xs us → r x xs H Q →
    wpAny (model X.prog X.w) X.A (call (.builtin id) (v :: us)) (EP X pins σ Q) X.xe s

/-! ### lists of values -/
theorem Vals.one : ∀ {x : V} {us : List Value}, Vals [x] us → ∃ u, us = [u] ∧ RelV x u
  | _, _, .cons r .nil => ⟨_, rfl, r⟩
theorem Vals.two : ∀ {x y : V} {us : List Value}, Vals [x, y] us → ∃ u v, us = [u, v] ∧ RelV x u ∧ RelV y v
  | _, _, _, .cons r (.cons q .nil) => ⟨_, _, rfl, r, q⟩
theorem Vals.dropLast {xs : List V} {us : List Value} (h : Vals xs us) : Vals xs.dropLast us.dropLast := by
  induction h with
  | nil => exact .nil
  | cons r t ih =>
    cases t with
    | nil => exact .nil
    | cons q t' => exact .cons r ih
theorem Vals.eraseIdx : ∀ {xs : List V} {us : List Value} (i : Nat), Vals xs us → Vals (xs.eraseIdx i) (us.eraseIdx i)
  | _, _, _, .nil => .nil
  | _, _, 0, .cons _ t => t
  | _, _, i + 1, .cons r t => .cons r (Vals.eraseIdx i t)
theorem Vals.reverse {xs : List V} {us : List Value} (h : Vals xs us) : Vals xs.reverse us.reverse := by
  induction h with
  | nil => exact .nil
  | cons r t ih => rw [List.reverse_cons, List.reverse_cons]; exact Vals.append ih (.cons r .nil)
section
variable {X : Cx} {pins : List (Addr × Obj)} {σ : St} {H : Hp} {s : Shared} {l b : Addr} {xs ys zs : List V}

/-! ### the two steps: a tracked list is rewritten, a new list is laid -/
theorem Inv.lset {its its' : List Value} {n : Nat} {f : Array Value → Array Value} {t' : Nat} (I : Inv X pins σ H s) (hH : H l = some (.lst xs))
    (e : s.heap.get? l = some { cls := .type "list", data := .seq its.toArray n }) (hf : f its.toArray = its'.toArray) (hv : Vals ys its') (hz : ys.length ≤ sizeLine) :
    Inv X pins σ (upd H l (.lst ys)) { s with heap := s.heap.update l (Obj.mapSeq f), toks := t' } := by
  have q := PySem.IsL.update e f
  rw [hf] at q
  refine I.write (x := l) (e := l) (by rw [hH]; exact trivial) (.inl rfl) (fun b' u hb hu => (Heap.get?_update_other s.heap (Obj.mapSeq f) (Ne.symm hb)).trans hu) ⟨_, q⟩ ?_
  exact ⟨hz, its', _, hv, q⟩
theorem Inv.fresh (I : Inv X pins σ H s) : H s.heap.objs.size = none := I.hok.fresh (Nat.le_refl _)
theorem Inv.lstM (I : Inv X pins σ H s) (hH : H l = some (.lst xs)) : xs.length ≤ sizeLine ∧ ∃ (its : List Value) (n : Nat), Vals xs its ∧ xs.length = its.length ∧ s.heap.get? l = some { cls := .type "list", data := .seq its.toArray n } := by
  obtain ⟨z, its, n, r, e⟩ := I.hok l _ hH
  exact ⟨z, its, n, r, r.length, e⟩

theorem notLongL {n : Nat} (h : n ≤ sizeLine) : Builtin.List.listTooLong n = false := by
  unfold Builtin.List.listTooLong
  exact decide_eq_false (by omega)
end

section
variable {X : Cx}

/-! ### methods -/
def rAppend : V → List V → Hp → VK → Prop := fun x vs H Q => ∃ l xs y, x = .ref l ∧ vs = [y] ∧ H l = some (.lst xs) ∧ xs.length < sizeLine ∧ Q .non (upd H l (.lst (xs ++ [y])))
theorem mt_append : MtM X "list.append" rAppend := by
  intro pins s σ H x vs v us Q I rx rv h
  obtain ⟨l, xs, y, rfl, rfl, hH, hz, q⟩ := h
  cases rx
  obtain ⟨u, rfl, ru⟩ := rv.one
  obtain ⟨z, its, n, r, hl, e⟩ := I.lstM hH
  refine call_meets F.slot_list_append ⟨_, e, rfl⟩ F.entry_list_append (F.args_list_append_2 _ _) (PySem.list_append l its.toArray n u (by rw [List.size_toArray]; omega)) ⟨e, ?_⟩
  refine ⟨.non, _, I.lset (its' := its ++ [u]) hH e (by simp) (r.append (.cons ru .nil)) ?_, rfl, q⟩
  rw [List.length_append, List.length_singleton]
  omega

def rExtend : V → List V → Hp → VK → Prop := fun x vs H Q => ∃ l b xs zs, x = .ref l ∧ vs = [.ref b] ∧ H l = some (.lst xs) ∧ H b = some (.lst zs) ∧ xs.length + zs.length ≤ sizeLine ∧ Q .non (upd H l (.lst (xs ++ zs)))
def rPop : V → List V → Hp → VK → Prop := fun x vs H Q => ∃ l xs y, x = .ref l ∧ vs = [] ∧ H l = some (.lst xs) ∧ xs[xs.length - 1]? = some y ∧ Q y (upd H l (.lst xs.dropLast))
def rPopAt : V → List V → Hp → VK → Prop := fun x vs H Q => ∃ l xs i k y, x = .ref l ∧ vs = [.int i] ∧ H l = some (.lst xs) ∧ -(2 ^ 63) ≤ i ∧ i < 2 ^ 63 ∧ seqIndex? i xs.length = some k ∧ xs[k]? = some y ∧ Q y (upd H l (.lst (xs.eraseIdx k)))
def rReverse : V → List V → Hp → VK → Prop := fun x vs H Q => ∃ l xs, x = .ref l ∧ vs = [] ∧ H l = some (.lst xs) ∧ Q .non (upd H l (.lst xs.reverse))
def rClear : V → List V → Hp → VK → Prop := fun x vs H Q => ∃ l xs, x = .ref l ∧ vs = [] ∧ H l = some (.lst xs) ∧ Q .non (upd H l (.lst []))
/-! ### list + list, list += list, list * int -/
def rCat : R2 := fun x y H Q => ∃ l b xs zs, x = .ref l ∧ y = .ref b ∧ H l = some (.lst xs) ∧ H b = some (.lst zs) ∧ xs.length + zs.length ≤ sizeLine ∧ ∀ p, H p = none → Q (.ref p) (upd H p (.lst (xs ++ zs)))
/-- a list times an int (a negative one is nothing) -/
def rRep : R2 := fun x y H Q => ∃ l k xs, x = .ref l ∧ y = .int k ∧ H l = some (.lst xs) ∧ -(2 ^ 63) ≤ k ∧ k < 2 ^ 63 ∧ xs.length * k.toNat ≤ sizeLine ∧
  ∀ p, H p = none → Q (.ref p) (upd H p (.lst (List.replicate k.toNat xs).flatten))
/-! ### del xs[i] -/
end

/-! ### xs[a:b] = ys -/
section
variable {prog : Program} {w : World} {A : Around} {E : Value → Shared → Prop} {s : Shared}
end

section
variable {X : Cx}
end
end L2

namespace Att
open PySem PySem.W PySem.Calls PyProof.Rows

/-! ### the script -/
theorem ints_of_wellAll {P : Params} {h : Heap} : ∀ (ns : List Int) (vs : List Value), WellAll P h vs (ns.map WData.int) → IntsAre vs ns := by
  intro ns
  induction ns with
  | nil =>
    intro vs w
    rw [List.map_nil] at w
    cases w
    exact .nil
  | cons n ns ih =>
    intro vs w
    rw [List.map_cons] at w
    cases w with
    | cons a b =>
      cases a
      exact .cons _ _ (ih _ b)

theorem script_of {l : OpenLaw} {n : Nat} (hn : l.most = some n) {P : Params} {h : Heap} {args : List WData} {vals : List Value}
    (hpre : l.row.toRowW.claim.pre args = true) (hwl : WellAll P h vals args) :
    ∃ a vs ns, vals = [Value.ref a] ∧ args = [WData.list (ns.map WData.int)] ∧ h.get? a = some { cls := .type "list", data := .seq vs.toArray } ∧ IntsAre vs ns ∧ ns.length ≤ n := by
  have hsh : WShape.hasAll [] args [.list .int] = true := (pre_splitW hpre).1
  have hc : l.pre.holds [] { args := args } = true := (pre_splitW hpre).2
  obtain ⟨d, r, rfl, h1, h2⟩ := hasAllW_cons hsh
  obtain rfl := hasAllW_nil h2
  obtain ⟨xs, rfl, h3⟩ := hasW_list h1
  obtain ⟨ns, rfl⟩ := items_int h3
  have hlen : ns.length ≤ n := by
    unfold OpenLaw.pre at hc
    have h4 : (WTm.not (.lt (.lit (.int (n : Int))) (.len (.arg 0)))).holds [] { args := [.list (ns.map .int)] } = true := by
      have h4 := (holds_andW hc).1
      rw [hn] at h4
      exact h4
    have h5 := condW_of h4 (w_not (w_lt w_lit (w_len_list (w_arg rfl))))
    rw [List.length_map] at h5
    refine Nat.le_of_not_lt fun q => ?_
    have q' : (n : Int) < ((ns.length : Nat) : Int) := by omega
    first
      | (rw [decide_eq_true q'] at h5; exact absurd h5 (by decide))
      | (simp at h5; omega)
  cases hwl with
  | cons w1 w2 =>
    cases w2
    cases w1 with
    | list ho hall => exact ⟨_, _, ns, rfl, rfl, ho, ints_of_wellAll ns _ hall, hlen⟩

theorem post_true (l : OpenLaw) (args : List WData) : l.row.toRowW.claim.post args (.bool true) args = true :=
  postW_of (r := l.row.toRowW) (X := (true == true))
    (show WShape.has [] (.bool true) .bool = true by first | rfl | decide | simp [WShape.has, WShape.arms, WShape.armsAll])
    (show (WTm.eq .res (.lit (.bool true))).value [] { args := args, res := some (.bool true), after := args } = some (.bool (true == true)) from w_eq_bool (w_res rfl) w_lit) rfl

/-! ### the attachment: holds_open's last premise (the goal 'hc' behind k_head) from a wpAny of the law's body -/
/-- the same from a codeAny of the CALL (for a layer whose function contracts speak of calls) -/
theorem attach_call {l : OpenLaw} {n : Nat} {q : Program} {loose : List Str} {XP : (Str → Option Value) → Heap → Prop} {YP : World → Heap → Prop} {d : DefRec}
    (hn : l.most = some n) (hdf : d.params.defaults = [])
    (call : ∀ (w : World) (s₀ s₁ : Shared) (mg mb : Str → Option Value) (fa : Addr) (o : Obj) (pm cd doc : Value) (a : Addr) (vs : List Value) (ns : List Int),
      Ground q loose [] XP w s₀ mg mb s₁.heap → YP w s₁.heap →
      s₁.heap.get? fa = some o → o.data = .func (docDef d.name d.params d.body d.scope pm cd doc) → s₁.heap.CodeRec cd d.name → mg d.name = some (.ref fa) →
      s₁.heap.get? a = some { cls := .type "list", data := .seq vs.toArray } → IntsAre vs ns → ns.length ≤ n → s₁.gens = #[] →
      codeAny (model l.prog w) callerA (.call (.ref fa) ⟨[.ref a], []⟩) (fun r s' => r = .ok (.ret (.bool true)) ∧ OldK s₁.heap s'.heap ∧ s'.os = s₁.os ∧ AllBare s'.gens) s₁) :
    WalkO q loose XP YP l.row.toRowW d [] (fun f vs => PySem.call f vs) := by
  intro w s₀ s₁ mg mb G Y fa o pm cd doc dV kV ho hd hcd hD hmg hg args vals as hpre hlay hrd hwl hlo
  obtain rfl : dV = .none := Dflts.none hD hdf
  obtain rfl : kV = .none := Dflts.noKw hD
  obtain ⟨a, vs, ns, rfl, rfl, hobj, hints, hlen⟩ := script_of hn hpre hwl
  refine enter_call (codeAny_mono (call w s₀ s₁ mg mb fa o pm cd doc a vs ns G Y ho (fd_plain hd) hcd hmg hobj hints hlen hg) fun r s' hq => ?_)
  obtain ⟨rfl, h2, h3, h4⟩ := hq
  exact ⟨.inl ⟨.bool true, .bool true, [], rfl, fun _ => rfl, .bool true, post_true l _, fun _ => ⟨List.Pairwise.nil, fun _ hm => (nomatch hm)⟩⟩, h2, h3, h4⟩

/-! ### rules over ANY heap (no ledger) from facts about the written part K: the library's own take a ledger (News) for what they write -/
section
variable {prog : Program} {w : World} {A : Around} {E : Value → Shared → Prop} {s : Shared} {K : Frag}

/-! the whole heap as the ledger: makes every rule that writes through a ledger a rule over any heap -/
def noObjs (h : Heap) : Heap := { h with objs := #[] }
def ledger (h : Heap) (L d : Addr) : List (Addr × Obj) := (List.range h.objs.size).filterMap fun a => if a = L ∨ a = d then none else (h.get? a).map fun o => (a, o)
end
end Att

namespace L2
open PySem PySem.Spec PyProof.Rows

theorem vals_ints : ∀ {vs : List Value} {ns : List Int}, IntsAre vs ns → Vals (ns.map V.int) vs
  | _, _, .nil => .nil
  | _, _, .cons n t h => .cons ⟨t, rfl⟩ (vals_ints h)

/-- nothing is tracked but the script, known to the object (or it is an object of the module) -/
def Only (H : Hp) : Prop := ∀ b, H b = none ∨ ∃ o xs, H b = some (.frz o (.lst xs))

/-- THE HEAD: the law's promise, at the heap behind the top. F, the promise of the law's def, may use that base is part of the heap (so K.In base, base.Ns mainGlobals mg stand in Mod) -/
theorem law_call {P : Program} {w : World} {K : PySem.W.Frag} {mg mb : Str → Option Value} {CX : CXT} {k : Nat} {fa a : Addr} {fd : FuncData} {x : Str} {sp : Sp} {s₁ : Shared} {vs : List Value} {ns : List Int}
    (KX : K.In s₁.heap) (hns : s₁.heap.Ns mainGlobals mg) (hb : s₁.heap.Ns builtinsNs mb) (hbb : ∀ x : Str, x ≠ "__name__" → mb x = bootBuiltins x) (hlim : s₁.heap.NoLimit) (hg : s₁.gens = #[])
    (ha : s₁.heap.get? a = some { cls := .type "list", data := .seq vs.toArray }) (hi : IntsAre vs ns) (hl : ns.length ≤ sizeLine) (hr : Room k callerA)
    (F : ∀ base : Heap, K.In base → base.Ns mainGlobals mg → FnOk P w K mg base CX k fa fd [x] sp) (hbind : ∀ (s : Shared) (u : Value), BindsTo s fd ⟨[u], []⟩ [(x, u)])
    (hsp : ∀ H : Hp, Only H → SqL K H a (ns.map V.int) → sp [.ref a] H (fun v _ => v = .bl true) fun _ _ _ => False)
    (hCX : ∀ H e s', CX [] H s₁ (fun _ _ _ => False) e s' → False) :
    codeAny (model P w) callerA (.call (.ref fa) ⟨[.ref a], []⟩) (fun r s' => r = .ok (.ret (.bool true)) ∧ OldK s₁.heap s'.heap ∧ s'.os = s₁.os ∧ AllBare s'.gens) s₁ := by
  have rv := vals_ints hi
  have lenV := hi.length
  -- from an abstract heap in which nothing but the script may be tracked
  have core : ∀ H : Hp, Only H → SqL K H a (ns.map V.int) → HOk P w H s₁.heap → (∀ b, H b ≠ none → b = a) → (H a ≠ none → K.lookup a = none) →
      codeAny (model P w) callerA (.call (.ref fa) ⟨[.ref a], []⟩) (fun r s' => r = .ok (.ret (.bool true)) ∧ OldK s₁.heap s'.heap ∧ s'.os = s₁.os ∧ AllBare s'.gens) s₁ := by
    intro H hO hS hok hA hK
    have base_of : ∀ {b : Addr} {o : Obj}, s₁.heap.get? b = some o → H b = none → (hidT s₁.heap H).get? b = some o := fun e n => hidT_get e n
    have noA : ∀ {b : Addr} {o : Obj} {es : Array DictEntry} {ep : Nat}, s₁.heap.get? b = some o → o.data = .dict es ep → H b = none := fun {b o es ep} e d => by
      cases q : H b with
      | none => rfl
      | some u =>
        have e' : b = a := hA b (by rw [q]; simp)
        subst e'
        rw [ha] at e; cases e
        have d' : Data.seq vs.toArray _ = Data.dict es ep := d
        cases d'
    have nsK : ∀ {b : Addr} {m : Str → Option Value}, s₁.heap.Ns b m → (hidT s₁.heap H).Ns b m := fun {b m} ⟨o, es, ep, e, d, r⟩ => ⟨o, es, ep, base_of e (noA e d), d, r⟩
    have hKb : K.In (hidT s₁.heap H) := fun b o e => base_of (KX b o e) (by
      cases q : H b with
      | none => rfl
      | some u =>
        have e' : b = a := hA b (by rw [q]; simp)
        subst e'
        rw [hK (by rw [q]; simp)] at e; cases e)
    have hM : Mod K mg (hidT s₁.heap H) := ⟨hKb, nsK hns, ⟨mb, nsK hb, hbb⟩, let ⟨mc, h1, h2⟩ := hlim; ⟨mc, nsK h1, h2⟩⟩
    have e0 : Env0 P w K mg (hidT s₁.heap H) callerA [] s₁ H := ⟨rfl, hM, fun b o e => of_hidT e, Nat.le_of_eq (hidT_size _ _), trivial, fun b hb => absurd (show b ∈ ([] : List Addr) from hb) (by simp), hok, .of_eq hg⟩
    refine codeAny_mono ((F _ hKb (nsK hns)).run callerA [] s₁ H ⟨[.ref a], []⟩ [.ref a] [.ref a] _ _ hr e0 (hbind s₁ (.ref a)) (.cons rfl .nil) (hsp H hO hS)) fun r s' h => ?_
    cases r with
    | error e => exact (hCX H e s' h).elim
    | ok fl =>
      cases fl with
      | next => exact False.elim h
      | brk => exact False.elim h
      | cont => exact False.elim h
      | ret u =>
        obtain ⟨v, H', os, bare, un, hok', r', q⟩ := h
        have q' : v = .bl true := q
        subst q'
        obtain rfl : u = Value.bool true := r'
        refine ⟨rfl, OldK.of_keep fun b o e => ?_, os, bare⟩
        cases q : H b with
        | none => exact un.keep b o e q (by intro z; exact absurd (show b ∈ ([] : List Addr) from z) (by simp)) (by simp)
        | some u =>
          rcases hO b with z | ⟨ob, xs, z⟩
          · rw [q] at z; cases z
          · have z2 := un.frzs b ob _ z
            obtain ⟨e1, _⟩ := hok b _ z
            obtain ⟨e2, _⟩ := hok' b _ z2
            rw [e] at e1; cases e1
            exact e2
  cases hk : K.lookup a with
  | some o =>
    -- the script is one of the module's own objects
    have e := KX a o hk
    rw [ha] at e
    cases e
    refine core (fun _ => none) (fun _ => .inl rfl) (.inr ⟨_, vs.toArray, _, hk, rfl, rfl, rfl, by rw [List.size_toArray, lenV]; exact hl, by simpa using rv⟩) (fun b u z => by have z' : (none : Option HO) = some u := z; cases z') (fun b z => absurd rfl z) fun z => absurd rfl z
  | none =>
    refine core (fun b => if b = a then some (.frz { cls := .type "list", data := .seq vs.toArray } (.lst (ns.map V.int))) else none) (fun b => ?_) (.inl (.inr ⟨{ cls := .type "list", data := .seq vs.toArray }, if_pos rfl⟩)) (fun b u z => ?_) (fun b z => ?_) fun _ => hk
    · by_cases hb : b = a
      · exact .inr ⟨_, _, if_pos hb⟩
      · exact .inl (if_neg hb)
    · by_cases hb : b = a
      · have z' := (if_pos hb).symm.trans z
        cases z'
        subst hb
        exact ⟨ha, by rw [List.length_map]; exact hl, vs, _, rv, ha⟩
      · have z' := (if_neg hb).symm.trans z
        cases z'
    · by_cases hb : b = a
      · exact hb
      · exact absurd (if_neg hb) z
end L2

namespace L2
open PySem PySem.Spec PyProof.Rows

abbrev KOf {K : PySem.W.Frag} {h : Heap} (_ : K.In h) : PySem.W.Frag := K

/-- the goal that k_head leaves (case hc), from the law's promise. F gives the function object fd (K's own) once, then the promise over every base -/
theorem walk_of {l : PySem.W.OpenLaw} {n k : Nat} {q : Program} {loose : List Str} {XP : (Str → Option Value) → Heap → Prop} {YP : World → Heap → Prop} {d : DefRec} {K : Params → PySem.W.Frag} {CX : World → CXT} {sp : World → Sp} {x : Str}
    (hn : l.most = some n) (hn2 : n ≤ sizeLine) (hdf : d.params.defaults = []) (hr : Room k callerA)
    (hY : ∀ (w : World) (h : Heap), YP w h → (K w.params).In h)
    (F : ∀ (w : World) (mg : Str → Option Value) (fa : Addr) (h : Heap), (K w.params).In h → h.Ns mainGlobals mg → mg d.name = some (.ref fa) →
      ∃ fd : FuncData, (∀ (s : Shared) (u : Value), BindsTo s fd ⟨[u], []⟩ [(x, u)]) ∧
        ∀ base : Heap, (K w.params).In base → base.Ns mainGlobals mg → FnOk l.prog w (K w.params) mg base (CX w) k fa fd [x] (sp w))
    (hsp : ∀ (w : World) (H : Hp) (a : Addr) (ns : List Int), ns.length ≤ n → Only H → SqL (K w.params) H a (ns.map V.int) → sp w [.ref a] H (fun v _ => v = .bl true) fun _ _ _ => False)
    (hCX : ∀ (w : World) (H : Hp) (s : Shared) (e : Value) (s' : Shared), CX w [] H s (fun _ _ _ => False) e s' → False) :
    PySem.W.WalkO q loose XP YP l.row.toRowW d [] (fun f vs => PySem.call f vs) := by
  refine Att.attach_call hn hdf fun w s₀ s₁ mg mb fa o pm cd doc a vs ns G Y ho hd hcd hmg hobj hints hlen hg => ?_
  have KX := hY w _ Y
  obtain ⟨fd, hb, hF⟩ := F w mg fa _ KX G.T.g hmg
  exact law_call KX G.T.g G.T.b G.T.builtins G.T.nolimit hg hobj hints (Nat.le_trans hlen hn2) hr hF hb (fun H hO hS => hsp w H a ns hlen hO hS) fun H e s' => hCX w H s₁ e s'
end L2

/- THE LAST THEOREM (shape; LID, My.* are yours):
   My.Adr: a structure of the addresses that your layer names (classes, functions); My.Txt K t: a structure (Prop) of the equations over K;
   My.txt_mk : {K} {implicit addresses ..} (e1 : nsIn K mainGlobals "law" = some (some (.ref f))) (e2 : K.lookup f = some ⟨oc, od, .func (fnOf "law" "law" params body scope dV kV doc pm an cdv ct), sl⟩) (e3 : codeIn K cdv "law" = true) .. : ∃ t, My.Txt K t

set_option maxRecDepth 100000 in
set_option maxHeartbeats 0 in
theorem PySem.Challenge.cw_LID_holds : PySem.Challenge.rw_LID.Holds := by
  w_on; o_law; k_head; (case hw => w_witness2)
  k_fill
  refine L2.walk_of (l := PySem.Challenge.rw_LID) (n := 63) (k := 40) (x := "script") (CX := fun w => ..) (sp := fun _ => My.sp_law) rfl (by decide) rfl ⟨rfl, by decide, by decide⟩ (fun w h Y => PySem.W.kIn_of Y) ?F ?S ?C
  case F =>
    intro w mg fa h KX G hmg
    have T : ∃ t, My.Txt (L2.KOf KX) t := by
      dsimp only [L2.KOf]                          -- K must stand as «<heap const> w.params» for k_is
      refine' My.txt_mk ?e1 ?e2 ?e3 ..
      (case e1 => PySem.W.k_is)                    -- in the order: a name -> its address -> its object -> its parts
      (case e2 => PySem.W.k_is)
      ..
    obtain ⟨t, T⟩ := T
    have e0 := hmg.symm.trans (PySem.W.mg_of KX G T.law)
    cases e0                                       -- fa is the law's own address
    exact ⟨_, fun s u => .of_eq rfl, fun base kb nb => My.law_fn T kb nb⟩     -- if «.of_eq rfl» comes too early: refine' ⟨_, ?b, fun base kb nb => My.law_fn T kb nb⟩; exact fun s u => .of_eq rfl
  case S => exact fun w H a ns hl hO hS => ..
  case C => exact ..
(the tactic k_is has no namespace: write k_is) -/

/-! SHORT WORDS over the layer: a def of the text, its body, what a loop and a test want. -/
namespace L2
open PySem PySem.Spec PyProof.Rows

/-! ### the text by places -/
/-- the j-th statement of a class's body -/
def inClass (s : Stmt) (j : Nat) : Stmt := match s with
  | .ClassDef _ _ _ body _ _ _ _ _ _ _ => body.getD j (.Pass ⟨0, 0, 0, 0⟩)
  | _ => .Pass ⟨0, 0, 0, 0⟩
def defArgs (s : Stmt) : Arguments := match s with
  | .FunctionDef _ a _ _ _ _ _ _ _ _ => a
  | _ => { posonlyargs := [], args := [], vararg := none, kwonlyargs := [], kw_defaults := [], kwarg := none, defaults := [] }
def defBody (s : Stmt) : List Stmt := match s with
  | .FunctionDef _ _ b _ _ _ _ _ _ _ => b
  | _ => []
def defScope (s : Stmt) : Scope := match s with
  | .FunctionDef _ _ _ _ _ _ sc _ _ _ => sc
  | _ => { kind := .function, names := [], isGenerator := false, isCoroutine := false }

/-! ### no exception leaves a def -/
abbrev CX0 : CXT := fun _ _ _ _ _ _ => False
abbrev E0 : XK := fun _ _ _ => False
theorem pass0 {X : Cx} : Passes CX0 X E0 := fun _ _ _ _ _ _ _ h => h.elim

/-! ### a def (or method) of the text as it stands behind the top -/
structure Fun (K : PySem.W.Frag) (x qual : Str) (st : Stmt) (f : Addr) (fd : FuncData) : Prop where
  ex : ∃ (oc : Value) (od : Option Addr) (kV doc pm : Value) (an : Option Addr) (cdv ct : Value) (osl : Array (Option Value)),
    fd = PySem.W.fnOf x qual (defArgs st) (defBody st) (defScope st) .none kV doc pm an cdv ct ∧ K.lookup f = some ⟨oc, od, .func fd, osl⟩ ∧ PySem.W.codeIn K cdv qual = true
  kp : PySem.W.keepIn K (.ref f) = true
section
variable {P : Program} {w : World} {K : PySem.W.Frag} {mg : Str → Option Value} {base : Heap}
/-- THE RULE for a def: its body as a term of rules, and the reading of that term -/
theorem Fun.ok {x qual : Str} {st : Stmt} {f : Addr} {fd : FuncData} {N ps : List Str} {k : Nat} {sp : Sp} (F : Fun K x qual st f fd) (S : FnScope N ps (defScope st)) (len : ∀ vs H Q E, sp vs H Q E → vs.length = ps.length)
    (hbody : ∀ (cdv : Value) (A : Around) (outer : List Env) (s : Shared) (H : Hp) (vs : List V) (Q : VK) (E : XK), Room k (A.deeper (envOfC qual (defScope st) s.heap.objs.size f cdv)) → sp vs H Q E →
      ∃ t, PSs (cxOf CX0 P w K mg base N qual (defScope st) f cdv A outer s H E).nox (defBody st) t ∧ t { nx := fun _ H' => Q .non H', rt := Q } (start N vs) H) : FnOk P w K mg base CX0 (k + 1) f fd ps sp := by
  obtain ⟨oc, od, kV, doc, pm, an, cdv, ct, osl, rfl, lk, hcd⟩ := F.ex
  refine fn_of lk hcd S len fun A outer s H vs Q E hr hsp => ?_
  obtain ⟨t, h, q⟩ := hbody cdv A outer s H vs Q E hr hsp
  exact ⟨t, h.nox, q⟩
/-- how its arguments bind (no defaults): h is «fun _ _ _ _ _ _ us hl => match us, hl with | [_, _], _ => rfl», one _ a parameter -/
theorem Fun.binds {x qual : Str} {st : Stmt} {f : Addr} {fd : FuncData} {ps : List Str} (F : Fun K x qual st f fd)
    (h : ∀ (kV doc pm : Value) (an : Option Addr) (cdv ct : Value) (us : List Value), us.length = ps.length → bindArgs (PySem.W.fnOf x qual (defArgs st) (defBody st) (defScope st) .none kV doc pm an cdv ct) ⟨us, []⟩ = pure (ps.zip us)) : Binds K fd ps [] := by
  obtain ⟨oc, od, kV, doc, pm, an, cdv, ct, osl, rfl, lk, hcd⟩ := F.ex
  exact .all (h kV doc pm an cdv ct)
theorem fun_mk {x qual : Str} {st : Stmt} {f : Addr} {oc : Value} {od an : Option Addr} {osl : Array (Option Value)} {kV doc pm cdv ct : Value} (l : K.lookup f = some ⟨oc, od, .func (PySem.W.fnOf x qual (defArgs st) (defBody st) (defScope st) .none kV doc pm an cdv ct), osl⟩)
    (c : PySem.W.codeIn K cdv qual = true) (k : PySem.W.keepIn K (.ref f) = true) : Fun K x qual st f (PySem.W.fnOf x qual (defArgs st) (defBody st) (defScope st) .none kV doc pm an cdv ct) := ⟨⟨oc, od, kV, doc, pm, an, cdv, ct, osl, rfl, l, c⟩, k⟩
end
theorem hu_of {A : Around} {k : Nat} (hr : Room k A) : A.units + 1 < cLine := Nat.lt_of_le_of_lt (Nat.add_le_add_left (by decide : 1 ≤ 64) _) hr.units
theorem small1000 {n : Nat} (h : n ≤ 1000) : n < sizeLine := Nat.lt_of_le_of_lt h (by decide)

/-! ### expressions in short: the name that stands in the i-th slot -/
section
variable {X : Cx}
theorem pv (i : Nat) {x : Str} {pos : Pos} (hN : X.N[i]? = some x := by rfl) (hv : Vis X.env.scope x := by first | exact Or.inl rfl | exact Or.inr (Or.inl rfl) | exact Or.inr (Or.inr rfl)) (hd : (x == ("__debug__" : Str)) = false := by decide)
    (hcd : (x == ("__classdict__" : Str)) = false := by decide) : PE X (.Name x pos) (tVar i) := pe_var hN hv hd hcd
end

/-! ### tests -/
theorem iteF {A B : Prop} (h : B) : if false = true then A else B := by
  rw [if_neg Bool.false_ne_true]
  exact h
theorem iteT {A B : Prop} (h : A) : if true = true then A else B := by
  rw [if_pos rfl]
  exact h
theorem ite2 {c A B : Prop} [Decidable c] (h1 : c → A) (h2 : ¬ c → B) : if c then A else B := by
  by_cases h : c
  · rw [if_pos h]
    exact h1 h
  · rw [if_neg h]
    exact h2 h
/-! ### heaps -/
/-- all that was tracked is as it was -/
def Same (H H' : Hp) : Prop := ∀ b o, H b = some o → H' b = some o
theorem Same.refl (H : Hp) : Same H H := fun _ _ h => h
theorem Same.trans {H H1 H2 : Hp} (a : Same H H1) (b : Same H1 H2) : Same H H2 := fun c o h => b c o (a c o h)
theorem Same.free {H H' : Hp} (e : Same H H') {l : Addr} (h : H' l = Option.none) : H l = Option.none := by
  cases q : H l with
  | none => rfl
  | some o =>
    rw [e l o q] at h
    cases h
theorem Same.seq {K : PySem.W.Frag} {H H' : Hp} {a : Addr} {xs : List V} (e : Same H H') (h : SqL K H a xs) : SqL K H' a xs := by
  rcases h with (h | ⟨o, h⟩) | h
  · exact .inl (.inl (e _ _ h))
  · exact .inl (.inr ⟨o, e _ _ h⟩)
  · exact .inr h

end L2

set_option Elab.async false
set_option linter.all false
set_option maxRecDepth 100000
namespace L2
open PySem PySem.Spec PyProof.Rows

/-! ### lists of pairs as tables -/
section
variable {κ : Type} [DecidableEq κ]
def valV (kvs : List (κ × V)) (k : κ) : Option V := (kvs.find? fun kv => decide (kv.1 = k)).map (·.2)
/-- in its place, or at the end -/
def putK (kvs : List (κ × V)) (k : κ) (v : V) : List (κ × V) :=
  if (kvs.any fun kv => decide (kv.1 = k)) = true then kvs.map (fun kv => if kv.1 = k then (kv.1, v) else kv) else kvs ++ [(k, v)]
def dropK (kvs : List (κ × V)) (k : κ) : List (κ × V) := kvs.filter fun kv => decide (kv.1 ≠ k)

theorem valV_pos {p : κ × V} {r : List (κ × V)} {k : κ} (e : p.1 = k) : valV (p :: r) k = some p.2 := by simp [valV, List.find?_cons, e]
theorem valV_neg {p : κ × V} {r : List (κ × V)} {k : κ} (e : ¬ p.1 = k) : valV (p :: r) k = valV r k := by simp [valV, List.find?_cons, e]
theorem valV_any (k : κ) : ∀ kvs : List (κ × V), (kvs.any fun kv => decide (kv.1 = k)) = (valV kvs k).isSome
  | [] => rfl
  | p :: r => by
    rw [List.any_cons]
    by_cases e : p.1 = k
    · simp only [valV_pos e, decide_eq_true e, Bool.true_or, Option.isSome_some]
    · rw [valV_neg e, decide_eq_false e, Bool.false_or]; exact valV_any k r
theorem valV_map (k j : κ) (y : V) : ∀ kvs : List (κ × V), valV (kvs.map fun kv => if kv.1 = k then (kv.1, y) else kv) j = (valV kvs j).map fun x => if j = k then y else x
  | [] => rfl
  | p :: r => by
    have ih := valV_map k j y r
    rw [List.map_cons]
    by_cases h : p.1 = k
    · rw [if_pos h]
      by_cases e : p.1 = j
      · rw [valV_pos (p := (p.1, y)) e, valV_pos e, Option.map_some, if_pos (e.symm.trans h)]
      · rw [valV_neg (p := (p.1, y)) e, valV_neg e, ih]
    · rw [if_neg h]
      by_cases e : p.1 = j
      · rw [valV_pos (p := p) e, valV_pos e, Option.map_some, if_neg (fun z => h (e.trans z))]
      · rw [valV_neg (p := p) e, valV_neg e, ih]
theorem valV_snoc (k j : κ) (y : V) : ∀ kvs : List (κ × V), valV kvs k = none → valV (kvs ++ [(k, y)]) j = if j = k then some y else valV kvs j
  | [], _ => by
    by_cases e : k = j
    · rw [if_pos e.symm]; exact valV_pos (p := (k, y)) e
    · rw [if_neg (fun z => e z.symm)]; exact valV_neg (p := (k, y)) e
  | p :: r, hn => by
    rw [List.cons_append]
    have hk : ¬ p.1 = k := fun z => by rw [valV_pos z] at hn; cases hn
    rw [valV_neg hk] at hn
    have ih := valV_snoc k j y r hn
    by_cases e : p.1 = j
    · rw [valV_pos e, valV_pos e, if_neg (fun z => hk (e.trans z))]
    · rw [valV_neg e, valV_neg e, ih]
theorem valV_put (kvs : List (κ × V)) (k j : κ) (y : V) : valV (putK kvs k y) j = if j = k then some y else valV kvs j := by
  unfold putK
  by_cases a : (kvs.any fun kv => decide (kv.1 = k)) = true
  · rw [if_pos a, valV_map]
    rw [valV_any] at a
    by_cases e : j = k
    · obtain ⟨x, hx⟩ := Option.isSome_iff_exists.mp a
      rw [if_pos e, e, hx, Option.map_some, if_pos rfl]
    · rw [if_neg e]
      cases valV kvs j with
      | none => rfl
      | some x => rw [Option.map_some, if_neg e]
  · rw [if_neg a]
    refine valV_snoc k j y kvs ?_
    rw [valV_any] at a
    cases q : valV kvs k with
    | none => rfl
    | some x => rw [q] at a; exact (a rfl).elim
theorem length_putK (kvs : List (κ × V)) (k : κ) (v : V) : (putK kvs k v).length ≤ kvs.length + 1 := by
  unfold putK
  split
  · rw [List.length_map]; omega
  · rw [List.length_append, List.length_cons, List.length_nil]; omega
theorem RelO.isSome_eq {o : Option V} {u : Option Value} (r : RelO o u) : o.isSome = u.isSome := by
  cases o with
  | none => cases u with
    | none => rfl
    | some _ => exact (show False from r).elim
  | some _ => cases u with
    | none => exact (show False from r).elim
    | some _ => rfl
theorem RelO.getD {o : Option V} {u : Option Value} {d : V} {d' : Value} (r : RelO o u) (rd : RelV d d') : RelV (o.getD d) (u.getD d') := by
  cases o with
  | none => cases u with
    | none => exact rd
    | some _ => exact (show False from r).elim
  | some _ => cases u with
    | none => exact (show False from r).elim
    | some _ => exact r

/-- raw tables of the same keys -/
theorem KV.val {kvs : List (κ × V)} {vs : List (κ × Value)} (r : KV kvs vs) (k : κ) : RelO (valV kvs k) (valueAt vs k) := by
  unfold KV at r
  induction r with
  | nil => exact True.intro
  | @cons p q ps qs h t ih =>
    obtain ⟨h1, h2⟩ := h
    by_cases e : p.1 = k
    · have e' : q.1 = k := h1.symm.trans e
      have b : valueAt (q :: qs) k = some q.2 := by simp [valueAt, List.find?_cons, e']
      rw [valV_pos e, b]; exact h2
    · have e' : ¬ q.1 = k := fun z => e (h1.trans z)
      have b : valueAt (q :: qs) k = valueAt qs k := by simp [valueAt, List.find?_cons, e']
      rw [valV_neg e, b]; exact ih
theorem KV.any {kvs : List (κ × V)} {vs : List (κ × Value)} (r : KV kvs vs) (k : κ) : (kvs.any fun kv => decide (kv.1 = k)) = vs.any fun kv => decide (kv.1 = k) := by
  unfold KV at r
  induction r with
  | nil => rfl
  | cons h t ih => rw [List.any_cons, List.any_cons, ih, h.1]
theorem KV.repl {kvs : List (κ × V)} {vs : List (κ × Value)} (r : KV kvs vs) (k : κ) {y : V} {u : Value} (ry : RelV y u) :
    KV (kvs.map fun kv => if kv.1 = k then (kv.1, y) else kv) (vs.map fun kv => if kv.1 = k then (kv.1, u) else kv) := by
  unfold KV at r ⊢
  induction r with
  | nil => exact .nil
  | @cons p q ps qs h t ih =>
    rw [List.map_cons, List.map_cons]
    refine .cons ?_ ih
    obtain ⟨h1, h2⟩ := h
    by_cases e : p.1 = k
    · rw [if_pos e, if_pos (h1.symm.trans e)]; exact ⟨h1, ry⟩
    · rw [if_neg e, if_neg (fun z => e (h1.trans z))]; exact ⟨h1, h2⟩
theorem KV.put {kvs : List (κ × V)} {vs : List (κ × Value)} (r : KV kvs vs) (k : κ) {y : V} {u : Value} (ry : RelV y u) : KV (putK kvs k y) (stored vs k u) := by
  unfold putK stored
  rw [r.any k]
  by_cases e : (vs.any fun kv => decide (kv.1 = k)) = true
  · rw [if_pos e, if_pos e]; exact r.repl k ry
  · rw [if_neg e, if_neg e]; exact Paired.snoc r ⟨rfl, ry⟩
theorem KV.drop {kvs : List (κ × V)} {vs : List (κ × Value)} (r : KV kvs vs) (k : κ) : KV (dropK kvs k) (without vs k) := by
  unfold KV at r ⊢
  unfold dropK without
  induction r with
  | nil => exact .nil
  | @cons p q ps qs h t ih =>
    obtain ⟨h1, h2⟩ := h
    rw [List.filter_cons, List.filter_cons]
    by_cases e : p.1 = k
    · have a : ¬ decide (p.1 ≠ k) = true := by simp [e]
      have b : ¬ decide (q.1 ≠ k) = true := by simp [h1.symm.trans e]
      rw [if_neg a, if_neg b]; exact ih
    · have e' : ¬ q.1 = k := fun z => e (h1.trans z)
      have a : decide (p.1 ≠ k) = true := by simp [e]
      have b : decide (q.1 ≠ k) = true := by simp [e']
      rw [if_pos a, if_pos b]; exact .cons ⟨h1, h2⟩ ih
theorem KV.keys {kvs : List (κ × V)} {vs : List (κ × Value)} (r : KV kvs vs) : kvs.map (·.1) = vs.map (·.1) := by
  unfold KV at r
  induction r with
  | nil => rfl
  | cons h t ih => rw [List.map_cons, List.map_cons, ih, h.1]
theorem KV.length {kvs : List (κ × V)} {vs : List (κ × Value)} (r : KV kvs vs) : kvs.length = vs.length := Paired.length r
end


/-! ### a tracked dict, its keys ints and texts or tuples of these -/
theorem kV_is {P : Program} {w : World} {k : Key} {u : Value} (r : RelV (kV k) u) : (mixKind P w).is k u = true := by
  cases k with
  | inl i => obtain ⟨t, e⟩ := (show ∃ t, u = Value.int i t from r); subst e; exact mixKind_int P w i t
  | inr x => obtain ⟨t, e⟩ := (show ∃ t, u = Value.str x t from r); subst e; exact mixKind_str P w x t
theorem items_are {P : Program} {w : World} : ∀ {ks : List Key} {us : List Value}, Vals (ks.map kV) us → ItemsAre (mixKind P w) ks us
  | [], _, r => by rw [List.map_nil] at r; cases r; exact .nil
  | k :: ks, _, r => by
    rw [List.map_cons] at r
    cases r with
    | cons h t => exact .cons (kV_is h) (items_are t)

/-- raw entries of a dict with tuple keys -/
abbrev KT (H : Hp) : List (List Key × V) → List (List Key × Addr × Value) → Prop := Paired fun p q => p.1 = q.1 ∧ H q.2.1 = some (.tup (p.1.map kV)) ∧ RelV p.2 q.2.2
theorem KT.val {H : Hp} {kvs : List (List Key × V)} {xs : List (List Key × Addr × Value)} (r : KT H kvs xs) (k : List Key) : RelO (valV kvs k) ((atKey xs k).map (·.2)) := by
  induction r with
  | nil => exact True.intro
  | @cons p q ps qs h t ih =>
    obtain ⟨h1, _, h2⟩ := h
    by_cases e : p.1 = k
    · have e' : q.1 = k := h1.symm.trans e
      have b : atKey (q :: qs) k = some q.2 := by simp [atKey, List.find?_cons, e']
      rw [valV_pos e, b]; exact h2
    · have e' : ¬ q.1 = k := fun z => e (h1.trans z)
      have b : atKey (q :: qs) k = atKey qs k := by simp [atKey, List.find?_cons, e']
      rw [valV_neg e, b]; exact ih
theorem KT.repl {H : Hp} {kvs : List (List Key × V)} {xs : List (List Key × Addr × Value)} (r : KT H kvs xs) (k : List Key) {y : V} {u : Value} (ry : RelV y u) :
    KT H (kvs.map fun kv => if kv.1 = k then (kv.1, y) else kv) (xs.map (putAt k u)) := by
  induction r with
  | nil => exact .nil
  | @cons p q ps qs h t ih =>
    rw [List.map_cons, List.map_cons]
    refine .cons ?_ ih
    obtain ⟨h1, h2, h3⟩ := h
    unfold putAt
    by_cases e : p.1 = k
    · rw [if_pos e, if_pos (h1.symm.trans e)]; exact ⟨h1, h2, ry⟩
    · rw [if_neg e, if_neg (fun z => e (h1.trans z))]; exact ⟨h1, h2, h3⟩
theorem KT.put {H : Hp} {kvs : List (List Key × V)} {xs : List (List Key × Addr × Value)} (r : KT H kvs xs) (k : List Key) {b : Addr} {y : V} {u : Value} (hb : H b = some (.tup (k.map kV))) (ry : RelV y u) :
    KT H (putK kvs k y) (storedH xs k b u) := by
  have e : (kvs.any fun kv => decide (kv.1 = k)) = (atKey xs k).isSome := by
    rw [valV_any, (r.val k).isSome_eq, Option.isSome_map]
  unfold putK storedH
  rw [e]
  by_cases q : (atKey xs k).isSome = true
  · rw [if_pos q, if_pos q]; exact r.repl k ry
  · rw [if_neg q, if_neg q]; exact Paired.snoc r ⟨rfl, hb, ry⟩
theorem KT.keeps {H H' : Hp} {kvs : List (List Key × V)} {xs : List (List Key × Addr × Value)} (r : KT H kvs xs) (ht : ∀ b ys, H b = some (.tup ys) → H' b = some (.tup ys)) : KT H' kvs xs :=
  Paired.mapP r fun _ _ z => ⟨z.1, ht _ _ z.2.1, z.2.2⟩

section
variable {P : Program} {w : World} {H : Hp} {h : Heap} {a : Addr}
theorem rd_of {u : HO} (ok : HOk P w H h) (e : Rd H a u) : ObjOk P w H h a u := e.ok ok
theorem dk_rd {kvs : List (Key × V)} (ok : HOk P w H h) (e : Rd H a (.dK kvs)) : kvs.length ≤ sizeLine ∧ (a == sysModules) = false ∧ ∃ vs, KV kvs vs ∧ h.DictOf (mixKind P w) a vs :=
  show ObjOk P w H h a (.dK kvs) from rd_of ok e
theorem dk_of {kvs : List (Key × V)} (ok : HOk P w H h) (e : H a = some (.dK kvs)) : kvs.length ≤ sizeLine ∧ (a == sysModules) = false ∧ ∃ vs, KV kvs vs ∧ h.DictOf (mixKind P w) a vs := dk_rd ok (.inl e)
/-- a tracked tuple of ints and texts is a key -/
theorem key_of {ks : List Key} (ok : HOk P w H h) (e : H a = some (.tup (ks.map kV))) : (tupleKind (mixKind P w)).is h ks a := by
  obtain ⟨_, its, r, o, h1, h2, n, h3⟩ := (show ObjOk P w H h a (.tup (ks.map kV)) from ok a _ e)
  exact ⟨o, its.toArray, n, h1, h2, h3.1, by simpa using items_are r⟩
theorem dt_rd {kvs : List (List Key × V)} (ok : HOk P w H h) (e : Rd H a (.dT kvs)) : kvs.length ≤ sizeLine ∧ (a == sysModules) = false ∧
    ∃ xs, KT H kvs xs ∧ h.DictOfH (tupleKind (mixKind P w)) a xs := by
  obtain ⟨z, y, xs, r, o, es, ep, h1, h2, h3, h4, h5⟩ := (show ObjOk P w H h a (.dT kvs) from rd_of ok e)
  refine ⟨z, y, xs, r, o, es, ep, h1, h2, h3, h4, fun x hx => ?_, h5⟩
  have all : ∀ {l : List (List Key × V)} {m : List (List Key × Addr × Value)}, KT H l m → ∀ x ∈ m, (tupleKind (mixKind P w)).is h x.1 x.2.1 := by
    intro l m q
    induction q with
    | nil => intro x hx; exact nomatch hx
    | @cons p q ps qs hq t ih =>
      intro x hx
      rcases List.mem_cons.mp hx with e | hx
      · subst e
        exact key_of ok (by rw [← hq.1]; exact hq.2.1)
      · exact ih x hx
  exact all r x hx
theorem dt_of {kvs : List (List Key × V)} (ok : HOk P w H h) (e : H a = some (.dT kvs)) : kvs.length ≤ sizeLine ∧ (a == sysModules) = false ∧
    ∃ xs, KT H kvs xs ∧ h.DictOfH (tupleKind (mixKind P w)) a xs := dt_rd ok (.inl e)
end

/-- what the dict at a holds at the key y -/
def DGet (H : Hp) (a : Addr) (y : V) (r : Option V) : Prop :=
  (∃ kvs k, Rd H a (.dK kvs) ∧ y = kV k ∧ r = valV kvs k) ∨ ∃ kvs k b, Rd H a (.dT kvs) ∧ y = .ref b ∧ H b = some (.tup (k.map kV)) ∧ r = valV kvs k
/-- the heap behind a[y] = v -/
def DPut (H : Hp) (a : Addr) (y v : V) (H' : Hp) : Prop :=
  (∃ kvs k, H a = some (.dK kvs) ∧ y = kV k ∧ kvs.length < sizeLine ∧ H' = upd H a (.dK (putK kvs k v))) ∨
  ∃ kvs k b, H a = some (.dT kvs) ∧ y = .ref b ∧ H b = some (.tup (k.map kV)) ∧ kvs.length < sizeLine ∧ H' = upd H a (.dT (putK kvs k v))
theorem DGet.k {H : Hp} {a : Addr} {kvs : List (Key × V)} {k : Key} (e : H a = some (.dK kvs)) : DGet H a (kV k) (valV kvs k) := .inl ⟨kvs, k, .inl e, rfl, rfl⟩
theorem DGet.t {H : Hp} {a b : Addr} {kvs : List (List Key × V)} {k : List Key} (e : H a = some (.dT kvs)) (eb : H b = some (.tup (k.map kV))) : DGet H a (.ref b) (valV kvs k) := .inr ⟨kvs, k, b, .inl e, rfl, eb, rfl⟩
theorem DPut.k {H : Hp} {a : Addr} {kvs : List (Key × V)} {k : Key} {v : V} (e : H a = some (.dK kvs)) (hl : kvs.length < sizeLine) : DPut H a (kV k) v (upd H a (.dK (putK kvs k v))) := .inl ⟨kvs, k, e, rfl, hl, rfl⟩
theorem DPut.t {H : Hp} {a b : Addr} {kvs : List (List Key × V)} {k : List Key} {v : V} (e : H a = some (.dT kvs)) (eb : H b = some (.tup (k.map kV))) (hl : kvs.length < sizeLine) :
    DPut H a (.ref b) v (upd H a (.dT (putK kvs k v))) := .inr ⟨kvs, k, b, e, rfl, eb, hl, rfl⟩


section
variable {X : Cx} {pins : List (Addr × Obj)} {σ : St} {H : Hp} {s : Shared} {a : Addr} {y v : V} {u r : Value} {o : Option V} {A : Around} {E : Value → Shared → Prop}

theorem Inv.big (I : Inv X pins σ H s) : sysModules < s.heap.objs.size := by
  have h : mainGlobals < s.heap.objs.size := (I.mod.glob.keeps I.bk).lt
  exact Nat.lt_trans (by decide) h

/-- a dict's object is replaced -/
theorem d_write {h' : Heap} {t' : Nat} {ob : HO} (I : Inv X pins σ H s) (mu : Mut (H a)) (hs : Heap.SameBut a s.heap h') (he : ∃ q, h'.get? a = some q) (new : ObjOk X.prog X.w (upd H a ob) h' a ob) :
    Inv X pins σ (upd H a ob) { s with heap := h', toks := t' } :=
  I.write (x := a) (e := a) mu (.inl rfl) (fun b q hb z => (hs.2 b hb).trans z) he new
theorem dk_new {P : Program} {w : World} {H' : Hp} {h' : Heap} {kvs : List (Key × V)} {vs : List (Key × Value)} (z : kvs.length ≤ sizeLine) (hd : (a == sysModules) = false) (rel : KV kvs vs) (dd : h'.DictOf (mixKind P w) a vs) :
    ObjOk P w H' h' a (.dK kvs) := ⟨z, hd, vs, rel, dd⟩
/-- d[y] = v -/
theorem d_setItem {H' : Hp} {Q : Unit → Shared → Prop} (hu : A.units + 1 < cLine) (I : Inv X pins σ H s) (g : DPut H a y v H') (ry : RelV y u) (rv : RelV v r) (h : ∀ s', Inv X pins σ H' s' → Q () s') :
    wpAny (model X.prog X.w) A (setItem (.ref a) u r) Q E s := by
  rcases g with ⟨kvs, k, e, ey, l, eH⟩ | ⟨kvs, k, b, e, ey, eb, l, eH⟩
  · subst ey eH
    obtain ⟨z, hd, vs, rel, dd⟩ := dk_of I.hok e
    have hz : vs.length ≤ sizeLine := by rw [← rel.length]; exact z
    have hl : (putK kvs k v).length ≤ sizeLine := by have := length_putK kvs k v; omega
    refine wpAny_setItem_pairs (hsz := hz) (kV_is ry) dd fun h' dd' hs => h _ ?_
    have he : ∃ q, h'.get? a = some q := let ⟨q, _, _, hq, _⟩ := dd'; ⟨q, hq⟩
    exact d_write I (by rw [e]; exact True.intro) hs he (dk_new hl hd (rel.put k rv) dd')
  · subst ey eH
    cases (show u = Value.ref b from ry)
    obtain ⟨z, hd, xs, rel, dd⟩ := dt_of I.hok e
    have hz : xs.length ≤ sizeLine := by rw [← Paired.length rel]; exact z
    have hl : (putK kvs k v).length ≤ sizeLine := by have := length_putK kvs k v; omega
    refine wpAny_setItem_heap (hsz := hz) (tupleKind_room_in1 hu) (key_of I.hok eb) dd fun h' dd' hs => h _ ?_
    obtain ⟨q, es, ep, hq, h2, h3, h4, _, h5⟩ := dd'
    refine d_write I (by rw [e]; exact True.intro) hs ⟨q, hq⟩ ⟨hl, hd, _, (rel.put k eb rv).keeps fun c ys ec => ?_, q, es, ep, hq, h2, h3, h4, h5⟩
    rw [upd_ne (ne_of ec e (fun z => nomatch z))]
    exact ec
end

section
variable {X : Cx} {pins : List (Addr × Obj)} {σ : St} {H : Hp} {s : Shared} {a : Addr} {kvs : List (Key × V)} {k : Key} {u : Value} {A : Around} {E : Value → Shared → Prop}
end


/-! ### readings and rules -/
/-- the element of a subscription, not a slice -/
def NoSl (i : Expr) : Prop := ∀ ov iv, subscripted i false ov iv = operate [ov, iv] (getItem ov iv)
/-- d[y] -/
def tDGet (td ty : TE) : TE := fun σ H Q => td σ H fun x H1 => ty σ H1 fun y H2 => ∃ a v, x = .ref a ∧ DGet H2 a y (some v) ∧ Q v H2
/-- y in d, y not in d -/
def tDIn (ty td : TE) : TE := fun σ H Q => ty σ H fun y H1 => td σ H1 fun x H2 => ∃ a o, x = .ref a ∧ DGet H2 a y o ∧ Q (.bl o.isSome) H2
def tDNotIn (ty td : TE) : TE := fun σ H Q => ty σ H fun y H1 => td σ H1 fun x H2 => ∃ a o, x = .ref a ∧ DGet H2 a y o ∧ Q (.bl (!o.isSome)) H2
/-- d[y] = v -/
def sDPut (td ty tv : TE) : TS := fun D σ H => tv σ H fun v H1 => td σ H1 fun x H2 => ty σ H2 fun y H3 => ∃ a H4, x = .ref a ∧ DPut H3 a y v H4 ∧ D.nx σ H4
/-- d[y] op= v -/
def sDAug (td ty tv : TE) (rd : V → V → Hp → VK → Prop) : TS := fun D σ H => td σ H fun x H1 => ty σ H1 fun y H2 => ∃ a v, x = .ref a ∧ DGet H2 a y (some v) ∧
  tv σ H2 fun y2 H3 => rd v y2 H3 fun z H4 => ∃ H5, DPut H4 a y z H5 ∧ D.nx σ H5
/-- del d[y] -/
def sDDel (td ty : TE) : TS := fun D σ H => td σ H fun x H1 => ty σ H1 fun y H2 => ∃ a kvs k, x = .ref a ∧ H2 a = some (.dK kvs) ∧ y = kV k ∧ (valV kvs k).isSome = true ∧ D.nx σ (upd H2 a (.dK (dropK kvs k)))

section
variable {X : Cx} {o i e value : Expr} {pos pos' tpos : Pos} {td ty tv : TE}
theorem ps_dput (hu : X.A.units + 1 < cLine) (ho : PE X o td) (hi : PE X i ty) (hv : PE X value tv) (hs : swapsWith value (some (.Subscript o i pos')) pos.line X.env = pure false) :
    PS X (.Assign [.Subscript o i pos'] value pos) (sDPut td ty tv) := by
  intro pins s σ H D I h
  refine wpAny_Assign_Subscript (thn (hv pins s σ H _ I h) fun r s1 ⟨v, H1, I1, rv, q1⟩ => thn (ho pins s1 σ H1 _ I1 q1) fun u s2 ⟨x, H2, I2, rx, q2⟩ => thn (hi pins s2 σ H2 _ I2 q2) fun iv s3 ⟨y, H3, I3, ry, a, H4, ex, g, q3⟩ => ?_) hs
  subst ex
  obtain rfl : u = Value.ref a := rx
  exact d_setItem hu I3 g ry rv fun s4 I4 => ⟨σ, H4, I4, q3⟩
end


/-! ### displays -/
theorem dk_empty {P : Program} {w : World} {H : Hp} (h : Heap) (hb : sysModules < h.objs.size) : ObjOk P w H (h.push { cls := .type "dict", data := .dict #[] }) h.objs.size (.dK []) :=
  ⟨Nat.zero_le _, beq_eq_false_iff_ne.mpr (Ne.symm (Nat.ne_of_lt hb)), [], .nil, Heap.DictOf.new h⟩
/-- {}, to be a dict of the kind that is wanted -/
def tDNewK : TE := fun _ H Q => ∀ p, H p = none → Q (.ref p) (upd H p (.dK []))
def tDNewT : TE := fun _ H Q => ∀ p, H p = none → Q (.ref p) (upd H p (.dT []))
section
variable {X : Cx} {pos : Pos}
theorem pe_dnewK : PE X (.Dict [] [] pos) tDNewK := fun pins s σ H Q I h =>
  wpAny_Dict_empty ⟨.ref s.heap.objs.size, _, I.laid (a := s.heap.objs.size) (o := .dK []) (t' := s.toks) (fun _ _ q => Heap.get?_push_of_some _ q) (Nat.le_refl _) (dk_empty s.heap I.big), rfl, h _ (I.hok.fresh (Nat.le_refl _))⟩
end

/-- the pairs of a display, from the left -/
def tPairs : List (TE × TE) → St → Hp → (List (V × V) → Hp → Prop) → Prop
  | [], _, H, Q => Q [] H
  | (tk, tv) :: r, σ, H, Q => tk σ H fun x H1 => tv σ H1 fun y H2 => tPairs r σ H2 fun ps H3 => Q ((x, y) :: ps) H3
abbrev VV : List (V × V) → List (Value × Value) → Prop := Paired fun p q => RelV p.1 q.1 ∧ RelV p.2 q.2
def PPs (X : Cx) (pos : Pos) (keys : List (Option Expr)) (values : List Expr) (trs : List (TE × TE)) : Prop :=
  ∀ (pins : List (Addr × Obj)) (s : Shared) (σ : St) (H : Hp) (Q : List (V × V) → Hp → Prop), Inv X pins σ H s → tPairs trs σ H Q →
    wpAny (model X.prog X.w) X.A (evalPairs (pairTrees keys values X.env pos)) (fun vs s' => ∃ ps H', Inv X pins σ H' s' ∧ VV ps vs ∧ Q ps H') X.xe s
theorem pps_nil {X : Cx} {pos : Pos} : PPs X pos [] [] [] := fun pins s σ H Q I h => pairTrees_nil_walk ⟨[], H, I, .nil, h⟩
theorem pps_cons {X : Cx} {pos : Pos} {k v : Expr} {ks : List (Option Expr)} {vs : List Expr} {tk tv : TE} {trs : List (TE × TE)} (hk : PE X k tk) (hv : PE X v tv) (hr : PPs X pos ks vs trs) :
    PPs X pos (some k :: ks) (v :: vs) ((tk, tv) :: trs) := fun pins s σ H Q I h =>
  pairTrees_cons_walk (thn (hk pins s σ H _ I h) fun u s1 ⟨x, H1, I1, rx, q1⟩ => thn (hv pins s1 σ H1 _ I1 q1) fun w2 s2 ⟨y, H2, I2, ry, q2⟩ =>
    thn (hr pins s2 σ H2 _ I2 q2) fun ws s3 ⟨ps, H3, I3, rel, q3⟩ => ⟨(x, y) :: ps, H3, I3, .cons ⟨rx, ry⟩ rel, q3⟩)

def mergeK (kvs more : List (Key × V)) : List (Key × V) := more.foldl (fun acc kv => putK acc kv.1 kv.2) kvs
theorem KV.merge : ∀ {more : List (Key × V)} {rs : List (Key × Value)} {kvs : List (Key × V)} {vs : List (Key × Value)}, KV more rs → KV kvs vs → KV (mergeK kvs more) (merged vs rs) := by
  intro more rs kvs vs r
  unfold KV at r
  induction r generalizing kvs vs with
  | nil => intro q; exact q
  | @cons p q ps qs h t ih =>
    intro r0
    have e : KV (putK kvs p.1 p.2) (stored vs q.1 q.2) := by
      have := r0.put p.1 h.2
      rw [← h.1]; exact this
    exact ih e
theorem length_mergeK : ∀ (more kvs : List (Key × V)), (mergeK kvs more).length ≤ kvs.length + more.length
  | [], kvs => by show kvs.length ≤ kvs.length + 0; omega
  | p :: r, kvs => by
    have h1 := length_mergeK r (putK kvs p.1 p.2)
    have h2 := length_putK kvs p.1 p.2
    show (mergeK (putK kvs p.1 p.2) r).length ≤ _
    rw [List.length_cons]; omega
theorem carries_of {P : Program} {w : World} : ∀ {kvs : List (Key × V)} {ws : List (Value × Value)}, VV (kvs.map fun kv => (kV kv.1, kv.2)) ws → ∃ rs, Carries (mixKind P w) ws rs ∧ KV kvs rs
  | [], _, r => by rw [List.map_nil] at r; cases r; exact ⟨[], True.intro, .nil⟩
  | p :: kvs, _, r => by
    rw [List.map_cons] at r
    cases r with
    | @cons a b as bs h t =>
      obtain ⟨rs, c, q⟩ := carries_of (P := P) (w := w) t
      obtain ⟨b1, b2⟩ := b
      exact ⟨(p.1, b2) :: rs, ⟨kV_is h.1, rfl, c⟩, .cons ⟨rfl, h.2⟩ q⟩
/-- {k: v, ..} with keys ints and texts; the new dict stands empty while the pairs are made -/
def tDisp (trs : List (TE × TE)) : TE := fun σ H Q => ∀ p, H p = none → tPairs trs σ (upd H p (.dK [])) fun ps H2 => H2 p = some (.dK []) ∧ ∃ kvs : List (Key × V), ps = kvs.map (fun kv => (kV kv.1, kv.2)) ∧ kvs.length ≤ 15 ∧ Q (.ref p) (upd H2 p (.dK (mergeK [] kvs)))
theorem pe_disp {X : Cx} {pos : Pos} {keys : List (Option Expr)} {values : List Expr} {trs : List (TE × TE)} (h : PPs X pos keys values trs) (hall : keys.all (·.isSome) = true) (hl : keys.length = values.length) (h0 : keys ≠ [])
    (h15 : keys.length ≤ 15) : PE X (.Dict keys values pos) (tDisp trs) := by
  intro pins s σ H Q I q
  have hn := I.hok.fresh (Nat.le_refl s.heap.objs.size)
  have I1 := I.laid (a := s.heap.objs.size) (o := .dK []) (h' := s.heap.push { cls := .type "dict", data := .dict #[] }) (t' := s.toks) (fun _ _ q => Heap.get?_push_of_some _ q) (Nat.le_refl _) (dk_empty s.heap I.big)
  refine wpAny_Dict_walk (knd := mixKind X.prog X.w) hall hl h0 h15 (thn (h pins _ σ _ _ I1 (q _ hn)) fun ws s2 ⟨ps, H2, I2, rel, e, kvs, ep, lk, q2⟩ => ?_)
  subst ep
  obtain ⟨rs, c, rk⟩ := carries_of (P := X.prog) (w := X.w) rel
  obtain ⟨z, hd, vs0, r0, dd⟩ := dk_of I2.hok e
  cases r0
  refine ⟨rs, c, dd, fun h' dd' hs => ⟨.ref s.heap.objs.size, _, ?_, rfl, q2⟩⟩
  have hz : (mergeK [] kvs).length ≤ sizeLine := by
    have h1 := length_mergeK kvs []
    rw [List.length_nil] at h1
    rw [sizeLine_eq]; omega
  have he : ∃ q, h'.get? s.heap.objs.size = some q := let ⟨q, _, _, hq, _⟩ := dd'; ⟨q, hq⟩
  exact d_write I2 (by rw [e]; exact True.intro) hs he (dk_new hz hd (rk.merge .nil) dd')


/-! ### methods -/
/-- a method call o.m(e) of a built-in, with one argument: what must be seen of the text -/
structure M1 (X : Cx) (o : Expr) (m : Str) (apos : Pos) (e : Expr) (cpos : Pos) : Prop where
  base : attributeBase o m X.env (eval o X.env) = eval o X.env
  few : ((backTo cpos (starEach [e] X.env)).all (fun x => !x.1) && (backToKw cpos (keywordEach [] X.env)).all (fun x => x.1.isSome)
    && decide (([e] : List Expr).length + ([] : List Keyword).length + (if ([] : List Keyword).isEmpty then 0 else 1) < 30)) = true
  line : (apos.endLine == cpos.line) = true
  trees : backTo cpos (starEach [e] X.env) = [(false, eval e X.env)]
structure M2 (X : Cx) (o : Expr) (m : Str) (apos : Pos) (e f : Expr) (cpos : Pos) : Prop where
  base : attributeBase o m X.env (eval o X.env) = eval o X.env
  few : ((backTo cpos (starEach [e, f] X.env)).all (fun x => !x.1) && (backToKw cpos (keywordEach [] X.env)).all (fun x => x.1.isSome)
    && decide (([e, f] : List Expr).length + ([] : List Keyword).length + (if ([] : List Keyword).isEmpty then 0 else 1) < 30)) = true
  line : (apos.endLine == cpos.line) = true
  trees : backTo cpos (starEach [e, f] X.env) = [(false, eval e X.env), (false, eval f X.env)]

/-- a is a dict, whatever its keys -/
def IsD (H : Hp) (a : Addr) : Prop := (∃ kvs, Rd H a (.dK kvs)) ∨ ∃ kvs, Rd H a (.dT kvs)
theorem isD_at {X : Cx} {pins : List (Addr × Obj)} {σ : St} {H : Hp} {s : Shared} {a : Addr} (I : Inv X pins σ H s) (d : IsD H a) :
    s.TypeIs (.ref a) "dict" ∧ (∀ b, Value.ref a = .ref b → ∃ ob, s.heap.get? b = some ob ∧ ob.dict = none) ∧ (a == sysModules) = false := by
  rcases d with ⟨kvs, e⟩ | ⟨kvs, e⟩
  · obtain ⟨_, hd, vs, _, dd⟩ := dk_rd I.hok e
    refine ⟨dd.typeIs, fun b q => ?_, hd⟩
    cases q
    obtain ⟨ob, _, _, h1, h2, _⟩ := dd
    exact ⟨ob, h1, h2.2.1⟩
  · obtain ⟨_, hd, xs, _, dd⟩ := dt_rd I.hok e
    refine ⟨dd.typeIs, fun b q => ?_, hd⟩
    cases q
    obtain ⟨ob, _, _, h1, h2, _⟩ := dd
    exact ⟨ob, h1, h2.2.1⟩

section
variable {X : Cx} {pins : List (Addr × Obj)} {σ : St} {H : Hp} {s : Shared} {a : Addr} {y d : V} {u r : Value} {o : Option V} {A : Around} {E : Value → Shared → Prop}
/-- d.get(y, x) -/
theorem d_get2 {Q : Value → Shared → Prop} (hu : A.units + 1 < cLine) (I : Inv X pins σ H s) (g : DGet H a y o) (ry : RelV y u) (rd : RelV d r) (h : ∀ w' s', Inv X pins σ H s' → RelV (o.getD d) w' → Q w' s') :
    wpAny (model X.prog X.w) A (call (.builtin "dict.get") [.ref a, u, r]) Q E s := by
  rcases g with ⟨kvs, k, e, ey, l⟩ | ⟨kvs, k, b, e, ey, eb, l⟩
  · subst ey
    obtain ⟨z, hd, vs, rel, dd⟩ := dk_rd I.hok e
    refine call_meetsIn PySem.F.slot_dict_get dd.typeIs PySem.F.entry_dict_get (PySem.F.args_dict_get_3 _ _ _) (meets_dict_get_default (mixKind X.prog X.w) a (kV_is ry) hd r) ⟨_, dd.mapOf, h _ _ (I.tok _) ?_⟩
    rw [l]
    exact (rel.val k).getD rd
  · subst ey
    cases (show u = Value.ref b from ry)
    obtain ⟨z, hd, xs, rel, dd⟩ := dt_rd I.hok e
    refine call_meetsIn PySem.F.slot_dict_get dd.typeIs PySem.F.entry_dict_get (PySem.F.args_dict_get_3 _ _ _) (meetsH_dict_get_default (tupleKind (mixKind X.prog X.w)) a b hd r) ⟨tupleKind_room_in1 hu, k, xs, key_of I.hok eb, dd, h _ _ (I.tok _) ?_⟩
    rw [l]
    exact (rel.val k).getD rd
end

def tDGet1 (td ty : TE) : TE := fun σ H Q => td σ H fun x H1 => ∃ a, x = .ref a ∧ IsD H1 a ∧ ty σ H1 fun y H2 => ∃ o, DGet H2 a y o ∧ Q (o.getD .non) H2
def tDGet2 (td ty tx : TE) : TE := fun σ H Q => td σ H fun x H1 => ∃ a, x = .ref a ∧ IsD H1 a ∧ ty σ H1 fun y H2 => tx σ H2 fun z H3 => ∃ o, DGet H3 a y o ∧ Q (o.getD z) H3
/-- d.pop(k): there; d.pop(k, x): there or not -/
def tDPop1 (td ty : TE) : TE := fun σ H Q => td σ H fun x H1 => ∃ a, x = .ref a ∧ IsD H1 a ∧ ty σ H1 fun y H2 => ∃ kvs k v, H2 a = some (.dK kvs) ∧ y = kV k ∧ valV kvs k = some v ∧ Q v (upd H2 a (.dK (dropK kvs k)))
def tDPop2 (td ty tx : TE) : TE := fun σ H Q => td σ H fun x H1 => ∃ a, x = .ref a ∧ IsD H1 a ∧ ty σ H1 fun y H2 => tx σ H2 fun z H3 => ∃ kvs k, H3 a = some (.dK kvs) ∧ y = kV k ∧
  (∀ v, valV kvs k = some v → Q v (upd H3 a (.dK (dropK kvs k)))) ∧ (valV kvs k = none → Q z H3)
section
variable {X : Cx} {o e f : Expr} {apos cpos : Pos} {td ty tx : TE}
end

/-! ### dict(d): a copy -/
section
variable {X : Cx} {pins : List (Addr × Obj)} {σ : St} {H : Hp} {s : Shared} {a : Addr} {kvs : List (Key × V)} {A : Around} {E : Value → Shared → Prop}
theorem d_copyOf {Q : Value → Shared → Prop} (I : Inv X pins σ H s) (e : Rd H a (.dK kvs)) (h : ∀ p s', H p = none → Inv X pins σ (upd H p (.dK kvs)) s' → Q (.ref p) s') : wpAny (model X.prog X.w) A (call (.type "dict") [.ref a]) Q E s := by
  obtain ⟨z, hd, vs, rel, dd⟩ := dk_rd I.hok e
  refine kt_call_dict hd dd (by rw [← rel.length]; exact z) fun h' dd' hs => ?_
  refine h _ _ (I.hok.fresh (Nat.le_refl _)) (I.laid (a := s.heap.objs.size) (o := .dK kvs) (t' := s.toks) (fun b q hq => ?_) (Nat.le_refl _) (dk_new z (beq_eq_false_iff_ne.mpr (Ne.symm (Nat.ne_of_lt I.big))) rel dd'))
  exact (hs.2 b (Nat.ne_of_lt (Heap.lt_size hq))).trans (Heap.get?_push_of_some _ hq)
end


section
variable {X : Cx} {pins : List (Addr × Obj)} {σ : St} {H : Hp} {s : Shared} {a : Addr} {y : V} {u : Value} {A : Around} {E : Value → Shared → Prop}
end
end L2
namespace L2
open PySem PySem.Spec PyProof.Rows
section
variable {X : Cx}
end
section
variable {κ : Type} [DecidableEq κ]
end
end L2

set_option Elab.async false
set_option linter.all false
set_option maxRecDepth 100000
namespace L2
open PySem PySem.Spec PyProof.Rows
section
variable {X : Cx}
/-! ### more of ints -/
theorem op_mulB : OpR X (binaryOp .Mult) (rI IntMulOk fun i j => .int (i * j)) := opI fun _ _ _ _ _ _ _ hc q => mul_int q hc
def CDivB (_i j : Int) : Prop := 0 < j ∧ j.natAbs.log2 < 9000
theorem op_fdivB : OpR X (binaryOp .FloorDiv) (rI CDivB fun i j => .int (i / j)) := opI fun i j _ _ _ _ _ hc q => by
  have h1 : (0 : Int) < j := hc.1
  exact floordiv_int (by omega) (by rw [Int.fdiv_eq_ediv_of_nonneg i (by omega)]; exact q) (.inl (PyProof.noPylong_of_log2 hc.2))
/-! ### isinstance by a builtin type -/
def rIsi (K : PySem.W.Frag) : List V → Hp → VK → Prop := fun xs H Q => ∃ x T t b, xs = [x, .ty T] ∧ TyOf K H x t ∧ PySem.W.kitOne K t (.type T) = some b ∧ Q (.bl b) H
theorem call_isi : CallR X (.builtin "isinstance") (rIsi X.K) := by
  intro pins s σ H vs us Q I rv h
  obtain ⟨x, T, t, b, rfl, ty, e, q⟩ := h
  obtain ⟨u, w', rfl, ru, rw'⟩ := vals2 rv
  cases (show w' = Value.type T from rw')
  exact isinst_ok I ru ty e fun tk => ⟨.bl b, H, I.tok tk, rfl, q⟩
/-! ### a call of a def of the text -/
structure Own (P : Program) (w : World) (K : PySem.W.Frag) (mg : Str → Option Value) (base : Heap) (x : Str) (k : Nat) (ps : List Str) (sp : Sp) : Prop where
  ex : ∃ f fd, FnOk P w K mg base CX0 k f fd ps sp ∧ mg x = some (.ref f) ∧ PySem.W.keepIn K (.ref f) = true ∧ Binds K fd ps []
variable {x : Str} {k : Nat} {ps : List Str} {sp : Sp} {e : Expr} {es : List Expr} {t : TA} {p pos : Pos}
theorem pe_own (o : Own X.prog X.w X.K X.mg X.base x k ps sp) (hr : Room k X.A) (hg : Gl X x) (ha : PA X (e :: es) t)
    (hdb : (x == ("__debug__" : Str)) = false := by decide) (he : starEach (e :: es) X.env = (false, eval e X.env) :: starEach es X.env := by rfl)
    (hpl : (backTo pos (starEach es X.env)).any (·.1) = false := by rfl) : PE X (.Call (.Name x p) (e :: es) [] pos) (tCall sp [] E0 t) := by
  obtain ⟨f, fd, F, hm, hk, hb⟩ := o.ex
  exact pe_call F hr hg hm hk hb .nil pass0 ha hdb he hpl
end
theorem at0 {α : Type} {x : α} {xs : List α} : atI (x :: xs) 0 = some x := atI_nat (j := 0) rfl
theorem at1 {α : Type} {x y : α} {xs : List α} : atI (x :: y :: xs) 1 = some y := atI_nat (j := 1) rfl
theorem at2 {α : Type} {x y z : α} {xs : List α} : atI (x :: y :: z :: xs) 2 = some z := atI_nat (j := 2) rfl
/-- an index that lies in the list -/
theorem at_in {α : Type} {xs : List α} {i : Int} (h0 : 0 ≤ i) (h1 : i < xs.length) : ∃ v, atI xs i = some v ∧ v ∈ xs := by
  obtain ⟨j, rfl⟩ : ∃ j : Nat, i = j := ⟨i.toNat, by omega⟩
  have hj : j < xs.length := by omega
  exact ⟨xs[j], atI_nat (by simp [hj]), List.getElem_mem hj⟩
theorem bt_len : bootBuiltins "len" = some (.builtin "len") := by decide +kernel
theorem bt_min : bootBuiltins "min" = some (.builtin "min") := by decide +kernel
theorem bt_max : bootBuiltins "max" = some (.builtin "max") := by decide +kernel
theorem bt_isinstance : bootBuiltins "isinstance" = some (.builtin "isinstance") := by decide +kernel
theorem bt_int : bootBuiltins "int" = some (.type "int") := by decide +kernel
theorem bt_bool : bootBuiltins "bool" = some (.type "bool") := by decide +kernel
theorem bt_tuple : bootBuiltins "tuple" = some (.type "tuple") := by decide +kernel
theorem bt_list : bootBuiltins "list" = some (.type "list") := by decide +kernel

/-! ### the laws' bag of draws -/
def Bag (H : Hp) (b : Addr) : Prop := ∃ x y : Int, H b = some (.lst [.int x, .int y]) ∧ 0 ≤ y ∧ y < 2147483648
/-- all that was tracked is as it was, but what stands at b -/
def Fix (b : Addr) (H H' : Hp) : Prop := ∀ c o, H c = some o → c ≠ b → H' c = some o
theorem Fix.refl (b : Addr) (H : Hp) : Fix b H H := fun _ _ h _ => h
theorem Fix.trans {b : Addr} {H H1 H2 : Hp} (u : Fix b H H1) (v : Fix b H1 H2) : Fix b H H2 := fun c o h n => v c o (u c o h n) n
theorem Fix.upd_b {b : Addr} {H : Hp} {o : HO} : Fix b H (upd H b o) := fun c u h n => by rw [upd_ne n]; exact h
theorem Fix.new {b p : Addr} {H : Hp} {o : HO} (hp : H p = none) : Fix b H (upd H p o) := fun c u h _ => by rw [upd_ne (ne_of_none h hp)]; exact h
theorem Fix.of_same {b : Addr} {H H' : Hp} (h : Same H H') : Fix b H H' := fun c o e _ => h c o e
theorem Same.new {p : Addr} {H : Hp} {o : HO} (hp : H p = none) : Same H (upd H p o) := fun c u h => by rw [upd_ne (ne_of_none h hp)]; exact h
theorem Bag.new {b p : Addr} {H : Hp} {o : HO} (h : Bag H b) (hp : H p = none) : Bag (upd H p o) b := by
  obtain ⟨x, y, e, q⟩ := h
  exact ⟨x, y, by rw [upd_ne (ne_of_none e hp)]; exact e, q⟩
theorem Bag.same {b : Addr} {H H' : Hp} (h : Bag H b) (s : Same H H') : Bag H' b := by
  obtain ⟨x, y, e, q⟩ := h
  exact ⟨x, y, s _ _ e, q⟩
theorem ln1 {α : Type} {x0 : α} : [x0].length ≤ sizeLine := by show 1 ≤ sizeLine; decide
theorem ln2 {α : Type} {x0 x1 : α} : [x0, x1].length ≤ sizeLine := by show 2 ≤ sizeLine; decide
theorem ln3 {α : Type} {x0 x1 x2 : α} : [x0, x1, x2].length ≤ sizeLine := by show 3 ≤ sizeLine; decide
theorem ln5 {α : Type} {x0 x1 x2 x3 x4 : α} : [x0, x1, x2, x3, x4].length ≤ sizeLine := by show 5 ≤ sizeLine; decide
theorem ln7 {α : Type} {x0 x1 x2 x3 x4 x5 x6 : α} : [x0, x1, x2, x3, x4, x5, x6].length ≤ sizeLine := by show 7 ≤ sizeLine; decide
theorem Same.of_fix {b : Addr} {H H1 H2 : Hp} (s : Same H H1) (n : H b = none) (f : Fix b H1 H2) : Same H H2 := fun c o e => f c o (s c o e) (ne_of_none e n)
theorem Bag.ne_tup {b p : Addr} {H : Hp} {xs : List V} (h : Bag H b) (e : H p = some (.tup xs)) : p ≠ b := by
  obtain ⟨x, y, e1, _⟩ := h
  exact ne_of e e1 (by intro z; cases z)
theorem Bag.ne_new {b p : Addr} {H : Hp} (h : Bag H b) (e : H p = none) : p ≠ b := by
  obtain ⟨x, y, e1, _⟩ := h
  exact fun z => ne_of_none e1 e z.symm
/-- numbers -/
theorem c10 {i j : Int} (h1 : i = 10) (h2 : 0 ≤ j) (h3 : j ≤ 1000) : CPow i j := by subst h1; exact ⟨h2, by omega, by decide⟩
/-- _law_bag -/
def spBag (K : PySem.W.Frag) : Sp := fun vs H Q _ => ∃ (a : Addr) (ns : List Int) (k : Int), vs = [.ref a, .int k] ∧ SqL K H a (ns.map V.int) ∧ 0 ≤ k ∧
  ∀ b H', H b = none → Bag H' b → Same H H' → Q (.ref b) H'
/-- _law_take -/
def spTake : Sp := fun vs H Q _ => ∃ (b : Addr) (m : Int), vs = [.ref b, .int m] ∧ Bag H b ∧ (0 < m ∧ m.natAbs.log2 < 9000) ∧
  ∀ r H', 0 ≤ r → r < m → Bag H' b → Fix b H H' → Q (.int r) H'
def spLaw (K : PySem.W.Frag) : Sp := fun vs H Q _ => ∃ (a : Addr) (ns : List Int), vs = [.ref a] ∧ SqL K H a (ns.map V.int) ∧ ns.length ≤ 63 ∧ ∀ H', Q (.bl true) H'
end L2

set_option Elab.async false
set_option linter.all false
set_option maxRecDepth 100000
namespace L2
open PySem PySem.Spec PyProof.Rows
/-! ### comprehensions: the cells that a block takes along -/
def clF (cells : List (Str × Addr)) : List (Str × NameKind) → List (Str × Addr) → List (Str × Addr)
  | [], cs => cs
  | (n, k) :: r, cs => clF cells r (if k == .free then (n, (cells.lookup n).getD 0) :: cs else cs)
theorem closure_eq {scope : Scope} {env : Env} (hf : ∀ y ∈ scope.names, y.2 = .free → ∃ c, env.cells.lookup y.1 = some c) : closureFor scope env = pure (clF env.cells scope.names []) := by
  have key : ∀ (names : List (Str × NameKind)) (cs : List (Str × Addr)), (∀ y ∈ names, y.2 = .free → ∃ c, env.cells.lookup y.1 = some c) →
      (forIn names cs fun x r => match x with
        | (name, kind) => if (kind == NameKind.free) = true then (do let a ← cellOf env name; pure (ForInStep.yield ((name, a) :: r))) else pure (ForInStep.yield r) : Sem (List (Str × Addr))) = pure (clF env.cells names cs) := by
    intro names
    induction names with
    | nil => intro cs _; rfl
    | cons y r ih =>
      intro cs hy
      obtain ⟨n, k⟩ := y
      have ih' := fun cs => ih cs fun z hz => hy z (List.mem_cons_of_mem _ hz)
      rw [List.forIn_cons]
      by_cases hk : (k == NameKind.free) = true
      · have e : k = .free := by simpa using hk
        obtain ⟨c, hc⟩ := hy (n, k) List.mem_cons_self e
        have hc' : env.cells.lookup n = some c := hc
        simp only [hk, if_true, cellOf, hc', pure_bind, clF, Option.getD_some]
        exact ih' _
      · have hk' : (k == NameKind.free) = false := by simpa using hk
        simp only [hk', Bool.false_eq_true, if_false, pure_bind, clF]
        exact ih' _
  unfold closureFor
  have e := key scope.names [] hf
  show ((forIn scope.names ([] : List (Str × Addr)) fun x r => match x with
        | (name, kind) => if (kind == NameKind.free) = true then (do let a ← cellOf env name; pure (ForInStep.yield ((name, a) :: r))) else pure (ForInStep.yield r) : Sem (List (Str × Addr))) >>= fun r => pure r) = _
  rw [e, pure_bind]
theorem clF_agree {cells : List (Str × Addr)} : ∀ (names : List (Str × NameKind)) (cs : List (Str × Addr)), (∀ y ∈ names, y.2 = .free → ∃ c, cells.lookup y.1 = some c) →
    (∀ x c, cs.lookup x = some c → cells.lookup x = some c) → ∀ x c, (clF cells names cs).lookup x = some c → cells.lookup x = some c
  | [], _, _, h, x, c, e => h x c e
  | (n, k) :: r, cs, hf, h, x, c, e => by
    refine clF_agree r _ (fun y hy => hf y (List.mem_cons_of_mem _ hy)) (fun z d hz => ?_) x c e
    by_cases hk : (k == NameKind.free) = true
    · rw [if_pos hk] at hz
      obtain ⟨c', hc⟩ := hf (n, k) List.mem_cons_self (by simpa using hk)
      have hc' : cells.lookup n = some c' := hc
      rw [List.lookup_cons] at hz
      cases hzn : z == n with
      | true =>
        rw [hzn] at hz
        have : z = n := by simpa using hzn
        subst this
        rw [hc'] at hz ⊢
        simpa using hz
      | false => rw [hzn] at hz; exact h z d hz
    · rw [if_neg hk] at hz; exact h z d hz
theorem clF_has {cells : List (Str × Addr)} {x : Str} : ∀ (names : List (Str × NameKind)) (cs : List (Str × Addr)), ((x, NameKind.free) ∈ names ∨ ∃ c, cs.lookup x = some c) → ∃ c, (clF cells names cs).lookup x = some c
  | [], _, h => by
    rcases h with h | h
    · cases h
    · exact h
  | (n, k) :: r, cs, h => by
    refine clF_has r _ ?_
    by_cases hk : (k == NameKind.free) = true
    · rw [if_pos hk]
      cases hxn : x == n with
      | true => exact .inr ⟨_, by rw [List.lookup_cons, hxn]⟩
      | false =>
        rcases h with h | ⟨c, h⟩
        · rcases List.mem_cons.mp h with h | h
          · have : x = n := (Prod.mk.inj h).1
            subst this
            simp at hxn
          · exact .inl h
        · exact .inr ⟨c, by rw [List.lookup_cons, hxn]; exact h⟩
    · rw [if_neg hk]
      rcases h with h | h
      · rcases List.mem_cons.mp h with h | h
        · have : NameKind.free = k := (Prod.mk.inj h).2
          subst this
          simp at hk
        · exact .inl h
      · exact .inr h
theorem relabel_back {env : Env} {x : Str} {k : NameKind} (hk : k = .cell ∨ k = .free) : ∀ {names : List (Str × NameKind)}, (∀ y ∈ names, y.2 ≠ .cell) →
    (names.map fun (n, k) => if (k == NameKind.free && env.scope.kind == .function && env.kindOf n == some .cell) then (n, NameKind.cell) else (n, k)).lookup x = some k → (x, NameKind.free) ∈ names
  | [], _, h => by simp at h
  | (n, q) :: r, hc, h => by
    have ih := relabel_back (env := env) (x := x) hk (names := r) (fun y hy => hc y (List.mem_cons_of_mem _ hy))
    have h' : List.lookup x ((if (q == NameKind.free && env.scope.kind == .function && env.kindOf n == some .cell) = true then (n, NameKind.cell) else (n, q)) :: _) = some k := h
    by_cases hq : (q == NameKind.free && env.scope.kind == .function && env.kindOf n == some .cell) = true
    · rw [if_pos hq, List.lookup_cons] at h'
      have eq : q = .free := by
        rw [Bool.and_eq_true, Bool.and_eq_true] at hq
        simpa using hq.1.1
      cases hxn : x == n with
      | true =>
        have : x = n := by simpa using hxn
        subst this; subst eq
        exact List.mem_cons_self
      | false => rw [hxn] at h'; exact List.mem_cons_of_mem _ (ih h')
    · rw [if_neg hq, List.lookup_cons] at h'
      cases hxn : x == n with
      | true =>
        rw [hxn] at h'
        have : x = n := by simpa using hxn
        subst this
        have e : q = k := Option.some.inj h'
        subst e
        rcases hk with hk | hk
        · exact absurd hk (hc (x, q) List.mem_cons_self)
        · subst hk; exact List.mem_cons_self
      | false => rw [hxn] at h'; exact List.mem_cons_of_mem _ (ih h')
theorem relabel_free {env : Env} {x : Str} : ∀ {names : List (Str × NameKind)}, names.lookup x = some .free →
    (names.map fun (n, k) => if (k == NameKind.free && env.scope.kind == .function && env.kindOf n == some .cell) then (n, NameKind.cell) else (n, k)).lookup x = some .cell ∨
    (names.map fun (n, k) => if (k == NameKind.free && env.scope.kind == .function && env.kindOf n == some .cell) then (n, NameKind.cell) else (n, k)).lookup x = some .free
  | [], h => by simp at h
  | (n, q) :: r, h => by
    have ih := relabel_free (env := env) (x := x) (names := r)
    show List.lookup x ((if (q == NameKind.free && env.scope.kind == .function && env.kindOf n == some .cell) = true then (n, NameKind.cell) else (n, q)) :: _) = some .cell ∨
      List.lookup x ((if (q == NameKind.free && env.scope.kind == .function && env.kindOf n == some .cell) = true then (n, NameKind.cell) else (n, q)) :: _) = some .free
    rw [List.lookup_cons] at h
    by_cases hq : (q == NameKind.free && env.scope.kind == .function && env.kindOf n == some .cell) = true
    · rw [if_pos hq, List.lookup_cons]
      cases hxn : x == n with
      | true => exact .inl rfl
      | false => rw [hxn] at h; exact ih h
    · rw [if_neg hq, List.lookup_cons]
      cases hxn : x == n with
      | true => rw [hxn] at h; exact .inr h
      | false => rw [hxn] at h; exact ih h

/-- the block's context -/
def blkCx (X : Cx) (scope : Scope) (C : Addr) (N' : List Str) (fp : List Addr) (s₁ : Shared) (H₁ : Hp) : Cx where
  prog := X.prog
  w := X.w
  K := X.K
  mg := X.mg
  base := X.base
  A := X.A
  N := N'
  s₀ := s₁
  H₀ := H₁
  env := compEnvC scope (clF X.env.cells scope.names []) C X.env
  outer := X.stack
  stack := X.stack
  ex := fp
  fn := fun _ => false
  calm := X.calm
  pn := []
  xe := fun _ _ => False
/-- the names that the block takes from outside: their places outside -/
def FrOk (X : Cx) (scope : Scope) : List Str → List Nat → Prop
  | [], [] => True
  | x :: fr, j :: js => (X.N[j]? = some x ∧ (X.env.kindOf x = some .cell ∨ X.env.kindOf x = some .free) ∧ scope.names.lookup x = some .free) ∧ FrOk X scope fr js
  | _, _ => False
theorem FrOk.len {X : Cx} {scope : Scope} : ∀ {fr : List Str} {js : List Nat}, FrOk X scope fr js → fr.length = js.length
  | [], [], _ => rfl
  | _ :: _, _ :: _, h => by simp [FrOk.len h.2]
  | [], _ :: _, h => h.elim
  | _ :: _, [], h => h.elim
theorem FrOk.mem {X : Cx} {scope : Scope} {x : Str} : ∀ {fr : List Str} {js : List Nat}, FrOk X scope fr js → x ∈ fr → X.env.kindOf x = some .cell ∨ X.env.kindOf x = some .free
  | [], [], _, h => by cases h
  | a :: fr, b :: js, h, hm => by
    rcases List.mem_cons.mp hm with rfl | hm
    · exact h.1.2.1
    · exact FrOk.mem h.2 hm
  | [], _ :: _, h, _ => h.elim
  | _ :: _, [], h, _ => h.elim
theorem FrOk.get {X : Cx} {scope : Scope} : ∀ {fr : List Str} {js : List Nat} {i : Nat} {x : Str} {j : Nat}, FrOk X scope fr js → fr[i]? = some x → js[i]? = some j →
    X.N[j]? = some x ∧ (X.env.kindOf x = some .cell ∨ X.env.kindOf x = some .free) ∧ scope.names.lookup x = some .free
  | [], [], _, _, _, _, h, _ => by simp at h
  | a :: fr, b :: js, 0, x, j, h, h1, h2 => by
    simp at h1 h2
    subst h1; subst h2
    exact h.1
  | a :: fr, b :: js, i + 1, x, j, h, h1, h2 => FrOk.get h.2 (by simpa using h1) (by simpa using h2)
  | [], _ :: _, _, _, _, h, _, _ => h.elim
  | _ :: _, [], _, _, _, h, _, _ => h.elim
/-- the block's names at its start -/
def blk (n : Nat) (js : List Nat) (σ : St) : St := List.replicate n none ++ js.map fun j => σ.getD j none

theorem blk_ok {X : Cx} {pins : List (Addr × Obj)} {σ : St} {H : Hp} {s : Shared} {scope : Scope} {fp : List Addr} {C : Addr} {N' : List Str} (I : Inv X pins σ H s) (hk : scope.kind = .function) (hcell : ∀ y ∈ scope.names, y.2 ≠ .cell)
    (hf : ∀ y ∈ scope.names, y.2 = .free → ∃ c, X.env.cells.lookup y.1 = some c) (hC : s.heap.objs.size ≤ C) (hfp : ∀ b ∈ fp, FpOk X pins H b) (hlt : ∀ b ∈ fp, b < s.heap.objs.size) : (blkCx X scope C N' fp s H).Ok := by
  have ag : ∀ x c, (clF X.env.cells scope.names []).lookup x = some c → X.env.cells.lookup x = some c := clF_agree scope.names [] hf fun x c e => by simp at e
  refine ⟨I.ok.mod, hk, I.ok.glob, I.ok.blt, hC, fun x y c h1 h2 => I.ok.inj x y c (ag x c h1) (ag y c h2), fun x hx => ?_, (fun x c h => (by cases h)), I.ok.hd, I.ok.frames, .inl rfl, fun b hb => ?_, I.bs, ?_, fun b o e hb => ?_, fun b hb => ?_, I.stack, I.stkFree⟩
  · refine clF_has scope.names [] (.inl ?_)
    rcases hx with hx | hx
    · exact relabel_back (.inl rfl) hcell hx
    · exact relabel_back (.inr rfl) hcell hx
  · obtain ⟨h1, h2, h3, h4, h5, h6⟩ := hfp b hb
    exact ⟨Nat.ne_of_lt (Nat.lt_of_lt_of_le (hlt b hb) hC), fun x c e => h5 x c (ag x c e)⟩
  · exact Nat.le_trans I.ok.bsz I.sz
  · obtain ⟨h1, h2, h3, h4, h5, h6⟩ := hfp b hb
    rcases h4 with h4 | h4
    · exact I.ok.noex b o e h4
    · exact absurd (Nat.lt_of_lt_of_le (Heap.lt_size e) (Nat.le_trans I.ok.bsz h4)) (Nat.lt_irrefl _)
  · obtain ⟨h1, h2, h3, h4, h5, h6⟩ := hfp b hb
    intro z
    rcases List.mem_cons.mp (I.stkSub b z) with z | z
    · exact h2 z
    · exact h3 z

/-- what a comprehension wants of its block: a word W by the turn, a measure, the items so far, the names, the heap -/
def LcG (J : It) (n : Nat) (js : List Nat) (g : TG) (ct : TT) (te : TE) (acc : Addr) (σ : St) (H1 : Hp) (Q : VK) : Prop :=
  ∃ W : Nat → Nat → List V → St → Hp → Prop, (∃ m, W 0 m [] (blk n js σ) (upd H1 acc (.lst []))) ∧ ∀ i m ys τ H2, W i m ys τ H2 → H2 acc = some (.lst ys) ∧ ys.length < sizeLine ∧
    ((J.stop i H2 ∧ Q (.ref acc) H2) ∨ (J.go i H2 ∧ ∃ N : List V → St → Hp → Prop, (∀ ys' τ' H', N ys' τ' H' → ∃ m', m' < m ∧ W (i + 1) m' ys' τ' H') ∧ ∀ x H3, J.yld i H2 x H3 → g x τ H3 fun τ1 H4 => ct τ1 H4 fun b H5 =>
      if b = true then te τ1 H5 fun y H6 => H6 acc = some (.lst ys) ∧ N (ys ++ [y]) τ1 (upd H6 acc (.lst (ys ++ [y]))) else N ys τ1 H5))
/-- [elt for tg in iter if c ..] -/
def tLC (n : Nat) (js : List Nat) (wi : TI) (g : TG) (ct : TT) (te : TE) : TE := fun σ H Q => wi σ H fun J H1 => ∀ acc, H1 acc = none → LcG J n js g ct te acc σ H1 Q
/-- the tests of a comprehension's clause -/
def PTs (X : Cx) (ifs : List Expr) (t : TT) : Prop :=
  ∀ (pins : List (Addr × Obj)) (s : Shared) (σ : St) (H : Hp) (Q : Bool → Hp → Prop), Inv X pins σ H s → t σ H Q →
    wpAny (model X.prog X.w) X.A (forIn ifs true fun c r => if r = true then do let ok ← isTrue c X.env (eval c X.env); pure (ForInStep.yield ok) else pure (ForInStep.yield r)) (TP X pins σ Q) X.xe s
def tYes : TT := fun _ H Q => Q true H
theorem pts_nil {X : Cx} : PTs X [] tYes := fun _ _ σ H Q I h => wpAny_pure ⟨H, I, h⟩
theorem pts_one {X : Cx} {c : Expr} {t : TT} (h : PT X c t) : PTs X [c] t := by
  intro pins s σ H Q I q
  rw [List.forIn_cons]
  simp only [if_true, bind_assoc, pure_bind]
  refine wpAny_bind (thn (h pins s σ H Q I q) fun b s1 h1 => ?_)
  exact wpAny_pure h1
section
variable {X : Cx} {pos : Pos}
theorem codeAny_compLoop_tg {prog : Program} {w : World} {A : Around} {R : Result → Shared → Prop} {s : Shared} {elt target iter : Expr} {ifs : List Expr} {scope : Scope} {pos : Pos} {it acc : Value} {env : Env} (I : Nat → Shared → Prop)
    (turn : ∀ n s, I n s → wpAny (model prog w) A (pyNext it) (fun r s₁ => match r with
      | none => R (.ok .next) s₁
      | some v => wpAny (model prog w) A (letOwnedTupleGo target it v) (fun _ s₁' => wpAny (model prog w) A (assign target env v) (fun _ s₂ =>
          wpAny (model prog w) A (forIn ifs true fun c r => if r = true then do let ok ← isTrue c env (eval c env); pure (ForInStep.yield ok) else pure (ForInStep.yield r)) (fun ok s₃ =>
            if ok = true then wpAny (model prog w) A (eval elt env) (fun x s₄ =>
              wpAny (model prog w) A (call (.builtin "list.append") [acc, x]) (fun _ s₅ => ∃ m, m < n ∧ I m s₅) (fun _ _ => False) s₄) (fun _ _ => False) s₃
            else ∃ m, m < n ∧ I m s₃) (fun _ _ => False) s₂) (fun _ _ => False) s₁') (fun _ _ => False) s₁) (fun _ _ => False) s)
    (n : Nat) (h : I n s) :
    codeAny (model prog w) A (.compLoop (.ListComp elt [⟨target, iter, ifs, 0⟩] scope pos) 0 it acc env) R s := by
  refine codeAny_loop rfl I (fun n s hI => ?_) n h
  show wpAny _ A ((compTurn (.ListComp elt [⟨target, iter, ifs, 0⟩] scope pos) 0 it acc env).onRaise (fun x => do noteFrame x env; theTreesLotGoes x)) _ _ s
  refine wpAny_noted ?_
  rw [compTurn_list]
  refine wpAny_bind (wpAny_standAt (wpAny_bind (wpAny_mono (turn n s hI) (fun r s₁ h₁ => ?_) fun _ _ h' => h'.elim)))
  cases r with
  | none => exact wpAny_pure h₁
  | some v =>
    refine wpAny_bind (wpAny_mono h₁ (fun _ s₁' h₁' => ?_) fun _ _ h' => h'.elim)
    refine wpAny_bind (wpAny_mono h₁' (fun _ s₂ h₂ => wpAny_bind (wpAny_mono h₂ (fun ok s₃ h₃ => ?_) fun _ _ h' => h'.elim)) fun _ _ h' => h'.elim)
    cases ok with
    | false => exact wpAny_pure ⟨rfl, h₃⟩
    | true =>
      exact wpAny_bind (wpAny_bind (wpAny_mono h₃ (fun x s₄ h₄ => wpAny_bind (wpAny_mono h₄ (fun _ s₅ h₅ => wpAny_pure (wpAny_pure ⟨rfl, h₅⟩)) fun _ _ h' => h'.elim)) fun _ _ h' => h'.elim))
/-- the block, from the iterator on -/
theorem lc_core {pins : List (Addr × Obj)} {σ : St} {H : Hp} {s : Shared} {E : Value → Shared → Prop} {tg elt iter : Expr} {ifs : List Expr} {scope : Scope} {g : TG} {ct : TT} {te : TE} {ts fr : List Str} {js : List Nat}
    {it : Addr} {fp : List Addr} {tn : Nat → Heap → Prop} {J : It} {Q : VK} {RR : Value → Addr → Result → Shared → Prop}
    (hc : X.calm = true) (hkind : scope.kind = .function) (hcell : ∀ y ∈ scope.names, y.2 ≠ .cell) (hfree : ∀ y ∈ scope.names, y.2 = .free → X.env.kindOf y.1 = some .cell ∨ X.env.kindOf y.1 = some .free)
    (hfr : FrOk X scope fr js) (htg : ∀ C fp s₁ H₁, PG (blkCx X scope C (ts ++ fr) fp s₁ H₁) tg g) (hct : ∀ C fp s₁ H₁, PTs (blkCx X scope C (ts ++ fr) fp s₁ H₁) ifs ct) (hte : ∀ C fp s₁ H₁, PE (blkCx X scope C (ts ++ fr) fp s₁ H₁) elt te)
    (I : Inv X pins σ H s) (T : Turn X.prog X.w X.K tg J fp it tn) (st : tn 0 s.heap) (hfp : ∀ b ∈ fp, FpOk X pins H b)
    (h : ∀ acc, H acc = none → LcG J ts.length js g ct te acc σ H Q)
    (hRR : ∀ acc C H' s' m, Inv X pins σ H' s' → s'.heap.Ns C m → H' C = none → s.heap.objs.size ≤ C → Q (.ref acc) H' → RR (.ref acc) C (.ok .next) s') :
    wpAny (model X.prog X.w) X.A (newList []) (fun acc s₃ => wpAny (model X.prog X.w) X.A (newFunctionEnv scope X.env.globals (clF X.env.cells scope.names []) [] X.env.qual none .none (some X.env)) (fun cenv s₄ =>
      codeAny (model X.prog X.w) X.A (.compStart (.ListComp elt [⟨tg, iter, ifs, 0⟩] scope pos) 0 (.ref it) acc { cenv with scope := relabel scope X.env }) (RR acc cenv.locals) s₄) E s₃) E s := by
  have hf : ∀ y ∈ scope.names, y.2 = .free → ∃ c, X.env.cells.lookup y.1 = some c := fun y hy e => I.ok.has y.1 (hfree y hy e)
  have ag : ∀ x c, (clF X.env.cells scope.names []).lookup x = some c → X.env.cells.lookup x = some c := clF_agree scope.names [] hf fun x c e => by simp at e
  have hlt : ∀ b ∈ fp, b < s.heap.objs.size := fun b hb => by
    obtain ⟨o, e, _⟩ := T.obj _ _ st b hb
    exact Heap.lt_size e
  refine wpAny_newObj_type (wpAny_newFunctionEnv hcell (by intro y hy; simp at hy) (fun h₁ hns₁ hsb₁ => ?_) hkind)
  dsimp only at hns₁ hsb₁ ⊢
  generalize hH2 : s.heap.push { cls := .type "list", dict := none, data := .seq ([] : List Value).toArray } = G2 at hns₁ hsb₁ ⊢
  have hC : G2.objs.size = s.heap.objs.size + 1 := by rw [← hH2, Heap.size_push]
  have hDC : s.heap.objs.size ≠ G2.objs.size := by rw [hC]; exact Nat.ne_of_lt (Nat.lt_succ_self _)
  have hCle : s.heap.objs.size ≤ G2.objs.size := by rw [hC]; exact Nat.le_succ _
  have below : ∀ b, b < s.heap.objs.size → b ≠ G2.objs.size ∧ b ≠ s.heap.objs.size := fun b hb => ⟨by rw [hC]; exact Nat.ne_of_lt (Nat.lt_succ_of_lt hb), Nat.ne_of_lt hb⟩
  have old : ∀ b o, s.heap.get? b = some o → h₁.get? b = some o := fun b o e => hsb₁.extBut b o (below b (Heap.lt_size e)).1 (Heap.get?_push_of_some _ (hH2 ▸ Heap.get?_push_of_some _ e))
  have hacc : h₁.get? s.heap.objs.size = some { cls := .type "list", data := .seq ([] : List Value).toArray } := hsb₁.extBut _ _ hDC (Heap.get?_push_of_some _ (hH2 ▸ Heap.get?_push_size _ rfl))
  have nD : H s.heap.objs.size = none := I.hok.fresh (Nat.le_refl _)
  have nC : H G2.objs.size = none := I.hok.fresh hCle
  obtain ⟨W, ⟨m0, w0⟩, turn⟩ := h s.heap.objs.size nD
  generalize hXb : blkCx X scope G2.objs.size (ts ++ fr) fp s H = Xb
  have Ib : ∀ tk, Inv Xb [] (blk ts.length js σ) (upd H s.heap.objs.size (.lst [])) { s with heap := h₁, toks := tk } := by
    intro tk
    subst hXb
    refine ⟨blk_ok I hkind hcell hf hCle hfp hlt, rfl, I.bare, Un.laid old (Nat.le_refl _) nD, ⟨_, hns₁, fun i x v e1 e2 e3 => ?_⟩, fun x c e => ?_, ?_, fun x c e => ?_, fun p hp => absurd (show p ∈ ([] : List (Addr × Obj)) from hp) (by simp), I.hok.laid old (Nat.le_refl _) ⟨by show 0 ≤ sizeLine; decide, [], _, .nil, hacc⟩, ?_⟩
    · have hi : ts.length ≤ i := by
        refine Nat.le_of_not_lt fun hi => ?_
        unfold blk at e2
        rw [List.getElem?_append_left (by simpa using hi), List.getElem?_replicate] at e2
        split at e2 <;> cases e2
      have e1' : fr[i - ts.length]? = some x := by
        have e1'' : (ts ++ fr)[i]? = some x := e1
        rw [List.getElem?_append_right hi] at e1''
        exact e1''
      unfold blk at e2
      rw [List.getElem?_append_right (by simpa using hi), List.length_replicate, List.getElem?_map] at e2
      cases ej : js[i - ts.length]? with
      | none => rw [ej] at e2; cases e2
      | some j =>
        rw [ej] at e2
        have e2' : σ.getD j none = some v := by simpa using e2
        obtain ⟨q1, q2, q3⟩ := hfr.get e1' ej
        have e2'' : σ[j]? = some (some v) := by
          rw [List.getD_eq_getElem?_getD] at e2'
          cases ez : σ[j]? with
          | none => rw [ez] at e2'; cases e2'
          | some z => rw [ez] at e2'; rw [show z = some v from e2']
        obtain ⟨m, hn, hl⟩ := I.loc
        obtain ⟨u, r, l⟩ := hl j x v q1 e2'' (by
          rcases q2 with q2 | q2
          · exact .inr (.inl q2)
          · exact .inr (.inr q2))
        refine ⟨u, r, .inr ⟨relabel_free q3, ?_⟩⟩
        rcases l with ⟨l, _⟩ | ⟨_, c, lc, lv⟩
        · rcases q2 with q2 | q2 <;> (rw [l] at q2; cases q2)
        · obtain ⟨c', hc'⟩ := clF_has (cells := X.env.cells) scope.names [] (.inl (PySem.mem_of_lookup q3))
          have := ag x c' hc'
          rw [lc] at this
          cases this
          obtain ⟨o, ho, hd⟩ := lv
          exact ⟨c, hc', o, old _ _ ho, hd⟩
    · obtain ⟨v, o, ho, hd⟩ := I.cell x c (ag x c e)
      exact ⟨v, o, old _ _ ho, hd⟩
    · show upd H s.heap.objs.size (.lst []) G2.objs.size = none
      rw [upd_ne hDC.symm]; exact nC
    · obtain ⟨v, o, ho, hd⟩ := I.cell x c (ag x c e)
      rw [upd_ne (Nat.ne_of_lt (Heap.lt_size ho))]
      exact I.freeC x c (ag x c e)
    · show (blk ts.length js σ).length = (ts ++ fr).length
      unfold blk
      rw [List.length_append, List.length_replicate, List.length_map, List.length_append, hfr.len]
  have fpB : ∀ {H' : Hp}, (∀ b ∈ fp, H' b = none) → ∀ b ∈ fp, FpOk Xb [] H' b := fun {H'} hn b hb => by
    subst hXb
    obtain ⟨h1, h2, h3, h4, h5, h6⟩ := hfp b hb
    refine ⟨hn b hb, (below b (hlt b hb)).1, fun z => ?_, .inl hb, fun x c e => h5 x c (ag x c e), fun p hp => absurd (show p ∈ ([] : List (Addr × Obj)) from hp) (by simp)⟩
    rcases List.mem_cons.mp (I.stkSub b z) with z | z
    · exact h2 z
    · exact h3 z
  have fin : ∀ {τ : St} {H' : Hp} {s' : Shared}, Inv Xb [] τ H' s' → Q (.ref s.heap.objs.size) H' → RR (.ref s.heap.objs.size) G2.objs.size (.ok .next) s' := fun {τ H' s'} Jb q => by
    subst hXb
    obtain ⟨m, hn, _⟩ := Jb.loc
    refine hRR _ _ H' s' m (I.call' (ch := fp) Jb.os Jb.base Jb.hok Jb.bare fun b hb => ?_) hn Jb.free hCle q
    obtain ⟨h1, h2, h3, h4, h5, h6⟩ := hfp b hb
    exact ⟨h4, h2, h5, h6⟩
  have loop : ∀ tk, codeAny (model X.prog X.w) X.A (.compLoop (.ListComp elt [⟨tg, iter, ifs, 0⟩] scope pos) 0 (.ref it) (.ref s.heap.objs.size) (compEnvC scope (clF X.env.cells scope.names []) G2.objs.size X.env))
        (RR (.ref s.heap.objs.size) G2.objs.size) { s with heap := h₁, toks := tk } := by
    intro tk
    refine codeAny_compLoop_tg (fun n s' => ∃ i ys τ H', Inv Xb [] τ H' s' ∧ tn i s'.heap ∧ (∀ b ∈ fp, H' b = none) ∧ W i n ys τ H') ?_ m0 ⟨0, [], _, _, Ib tk, T.keep _ _ _ st fun b hb o e => old b o e, fun b hb => ?_, w0⟩
    · rintro n s3 ⟨i, ys, τ, H3, I3, st3, fr3, w3⟩
      have htg' := htg G2.objs.size fp s H
      have hct' := hct G2.objs.size fp s H
      have hte' := hte G2.objs.size fp s H
      rw [hXb] at htg' hct' hte'
      have eP : Xb.prog = X.prog := by subst hXb; rfl
      have ew : Xb.w = X.w := by subst hXb; rfl
      have eK : Xb.K = X.K := by subst hXb; rfl
      have eA : Xb.A = X.A := by subst hXb; rfl
      have ec : Xb.calm = true := by subst hXb; exact hc
      have ee : Xb.env = compEnvC scope (clF X.env.cells scope.names []) G2.objs.size X.env := by subst hXb; rfl
      have ex : Xb.xe = fun _ _ => False := by subst hXb; rfl
      rw [← eP, ← ew, ← eA, ← ee]
      obtain ⟨ha, hl, turn'⟩ := turn i n ys τ H3 w3
      rcases turn' with ⟨stop, q⟩ | ⟨go, N, hN, step⟩
      · have hd := T.done Xb eP ew eK ec i [] s3 τ H3 (fun _ _ => False) I3 (fpB fr3) st3 stop
        rw [← eP, ← ew] at hd
        refine wpAny_mono hd (fun r s4 hr4 => ?_) fun _ _ z => z
        obtain ⟨hr, I4⟩ := hr4
        subst hr
        exact fin I4 q
      · have hd := T.item Xb eP ew eK ec i [] s3 τ H3 (fun _ _ => False) I3 (fpB fr3) st3 go
        rw [← eP, ← ew] at hd
        refine wpAny_mono hd (fun r s4 hr4 => ?_) fun _ _ z => z
        obtain ⟨u, hr, h4⟩ := hr4
        subst hr
        refine wpAny_mono h4 (fun _ s5 ⟨x, H5, I5, r5, y5, st5, fr5⟩ => ?_) fun _ _ z => z
        have I5' := I5.pinned (fpB fr5) (T.obj _ _ st5)
        have keepT : ∀ {σ7 : St} {H7 : Hp} {s7 : Shared}, Inv Xb ([] ++ pinsAt fp s5.heap) σ7 H7 s7 → tn (i + 1) s7.heap ∧ ∀ b ∈ fp, H7 b = none := fun {σ7 H7 s7} I7 => by
          refine ⟨T.keep _ _ _ st5 fun b hb o e => (I7.pin (b, o) (List.mem_append_right _ (List.mem_append_right _ (mem_pinsAt hb e)))).1, fun b hb => ?_⟩
          obtain ⟨o, e, d⟩ := T.obj _ _ st5 b hb
          exact (I7.pin (b, o) (List.mem_append_right _ (List.mem_append_right _ (mem_pinsAt hb e)))).2.1
        refine wpAny_mono (htg' _ s5 τ H5 x u _ I5' r5 (step x H5 y5)) (fun _ s6 ⟨τ6, H6, I6, q6⟩ => ?_) (fun _ _ z => by rw [ex] at z; exact z)
        refine wpAny_mono (hct' _ s6 τ6 H6 _ I6 q6) (fun ok s7 ⟨H7, I7, q7⟩ => ?_) (fun _ _ z => by rw [ex] at z; exact z)
        cases ok with
        | false =>
          have q7' : N ys τ6 H7 := by rw [if_neg (by simp)] at q7; exact q7
          rw [if_neg (by simp)]
          obtain ⟨m', hm, w7⟩ := hN _ _ _ q7'
          exact ⟨m', hm, i + 1, ys, τ6, H7, I7.unpinned, (keepT I7).1, (keepT I7).2, w7⟩
        | true =>
          rw [if_pos rfl] at q7 ⊢
          refine wpAny_mono (hte' _ s7 τ6 H7 _ I7 q7) (fun v s8 ⟨y, H8, I8, r8, ha8, n8⟩ => ?_) (fun _ _ z => by rw [ex] at z; exact z)
          refine wpAny_mono (mt_append (X := Xb) _ s8 τ6 H8 (.ref s.heap.objs.size) [y] (.ref s.heap.objs.size) [v] (fun _ H9 => H9 = upd H8 s.heap.objs.size (.lst (ys ++ [y]))) I8 rfl (.cons r8 .nil) ⟨_, ys, y, rfl, rfl, ha8, hl, rfl⟩) (fun _ s9 ⟨_, H9, I9, _, e9⟩ => ?_) (fun _ _ z => by rw [ex] at z; exact z)
          subst e9
          obtain ⟨m', hm, w8⟩ := hN _ _ _ n8
          exact ⟨m', hm, i + 1, _, τ6, _, I9.unpinned, (keepT I9).1, (keepT I9).2, w8⟩
    · rw [upd_ne (Nat.ne_of_lt (hlt b hb))]
      exact (hfp b hb).1
  exact codeAny_compStart_list (loop _) (T.self _ 0 _ _ _ (T.keep _ _ _ st fun b hb o e => old b o e) (loop _))

theorem Inv.let_go {pins : List (Addr × Obj)} {σ : St} {H H' : Hp} {s s' : Shared} {C : Addr} {h' : Heap} (I : Inv X pins σ H s) {σ' : St} (I' : Inv X pins σ' H' s') (hC : H' C = none) (hle : s.heap.objs.size ≤ C) (hsb : Heap.SameBut C s'.heap h') :
    Inv X pins σ' H' { s' with heap := h' } := by
  obtain ⟨h1, h2, h3, h4, h5, h6⟩ := I.fpOk (H' := H') hle hC
  exact I'.turned (t' := s'.toks) (fun b o hb e => hsb.extBut b o hb e) hC h2 h4 h5 h6
theorem pe_lcomp {tg elt iter : Expr} {ifs : List Expr} {scope : Scope} {wi : TI} {g : TG} {ct : TT} {te : TE} (ts fr : List Str) (js : List Nat)
    (hc : X.calm = true) (hi : PI X tg iter wi) (hkind : scope.kind = .function) (hcell : ∀ y ∈ scope.names, y.2 ≠ .cell) (hnames : ∀ y ∈ scope.names, y.2 = .local → scope.names.lookup y.1 = some .local)
    (hfree0 : ∀ y ∈ scope.names, y.2 = .free → y.1 ∈ fr) (hfr : FrOk X scope fr js)
    (htg : ∀ C fp s₁ H₁, PG (blkCx X scope C (ts ++ fr) fp s₁ H₁) tg g) (hct : ∀ C fp s₁ H₁, PTs (blkCx X scope C (ts ++ fr) fp s₁ H₁) ifs ct) (hte : ∀ C fp s₁ H₁, PE (blkCx X scope C (ts ++ fr) fp s₁ H₁) elt te)
    (hs : ∀ x, foldedSetIterable iter X.env x = pure x := by intro _; rfl) : PE X (.ListComp elt [⟨tg, iter, ifs, 0⟩] scope pos) (tLC ts.length js wi g ct te) := by
  have hfree : ∀ y ∈ scope.names, y.2 = .free → X.env.kindOf y.1 = some .cell ∨ X.env.kindOf y.1 = some .free := fun y hy e => hfr.mem (hfree0 y hy e)
  intro pins s σ H Q I h
  rw [eval_ListComp]
  refine wpAny_comprehension_free (use := none) rfl hs (closure_eq fun y hy e => I.ok.has y.1 (hfree y hy e)) hkind hnames (thn (hi pins s σ H _ I h) fun xv s1 h1 => thn h1 fun itv s2 h2 => ?_)
  obtain ⟨it, fp, tn, J, H2, e, I2, T, st2, f2, hW⟩ := h2
  subst e
  refine lc_core (RR := fun acc C => compPost (model X.prog X.w) X.A X.xe none (EP X pins σ Q) acc C) hc hkind hcell hfree hfr htg hct hte I2 T st2 f2 hW ?_
  intro acc C H' s' m I' hn hC hle q
  exact ⟨m, hn, fun h' hsb => ⟨.ref acc, H', I2.let_go I' hC hle hsb, rfl, q⟩⟩
/-- name = [.. for ..] -/
theorem ps_setLC {tg elt iter : Expr} {ifs : List Expr} {scope : Scope} {wi : TI} {g : TG} {ct : TT} {te : TE} {i : Nat} {y : Str} {py spos : Pos} (ts fr : List Str) (js : List Nat)
    (hsw : swapsWith (.ListComp elt [⟨tg, iter, ifs, 0⟩] scope pos) (some (.Name y py)) spos.line X.env = pure true) (hN : X.N.Nodup) (hi0 : X.N[i]? = some y) (hx : X.env.scope.names.lookup y = some .local)
    (hc : X.calm = true) (hi : PI X tg iter wi) (hkind : scope.kind = .function) (hcell : ∀ y ∈ scope.names, y.2 ≠ .cell) (hnames : ∀ y ∈ scope.names, y.2 = .local → scope.names.lookup y.1 = some .local)
    (hfree0 : ∀ y ∈ scope.names, y.2 = .free → y.1 ∈ fr) (hfr : FrOk X scope fr js)
    (htg : ∀ C fp s₁ H₁, PG (blkCx X scope C (ts ++ fr) fp s₁ H₁) tg g) (hct : ∀ C fp s₁ H₁, PTs (blkCx X scope C (ts ++ fr) fp s₁ H₁) ifs ct) (hte : ∀ C fp s₁ H₁, PE (blkCx X scope C (ts ++ fr) fp s₁ H₁) elt te)
    (hs : ∀ x, foldedSetIterable iter X.env x = pure x := by intro _; rfl) : PS X (.Assign [.Name y py] (.ListComp elt [⟨tg, iter, ifs, 0⟩] scope pos) spos) (tAsg (tLC ts.length js wi g ct te) (gName i)) := by
  have hfree : ∀ y ∈ scope.names, y.2 = .free → X.env.kindOf y.1 = some .cell ∨ X.env.kindOf y.1 = some .free := fun y hy e => hfr.mem (hfree0 y hy e)
  intro pins s σ H D I h
  rw [exec_Assign_Name_used _ _ _ _ hsw]
  refine wpAny_bind (wpAny_standAt (wpAny_bind ?_))
  show wpAny _ X.A (do let _ ← comprehension (.ListComp elt [⟨tg, iter, ifs, 0⟩] scope pos) scope X.env _ (newList []) false (eval iter X.env) (some (assign (.Name y py) X.env))) _ _ s
  refine wpAny_bind (wpAny_mono (wpAny_comprehension_free (use := some (assign (.Name y py) X.env)) (Q := fun _ s' => SP X pins D .next s') rfl hs (closure_eq fun y hy e => I.ok.has y.1 (hfree y hy e)) hkind hnames
    (thn (hi pins s σ H _ I h) fun xv s1 h1 => thn h1 fun itv s2 h2 => ?_)) (fun _ s' hq => wpAny_pure (wpAny_pure hq)) fun _ _ e => e)
  obtain ⟨it, fp, tn, J, H2, e, I2, T, st2, f2, hW⟩ := h2
  subst e
  refine lc_core (Q := fun v H' => D.nx (σ.set i (some v)) H') (RR := fun acc C => compPost (model X.prog X.w) X.A X.xe (some (assign (.Name y py) X.env)) (fun _ s' => SP X pins D .next s') acc C) hc hkind hcell hfree hfr htg hct hte I2 T st2 f2 hW ?_
  intro acc C H' s' m I' hn hC hle q
  show wpAny _ X.A (assign (.Name y py) X.env (.ref acc)) _ _ _
  refine wpAny_assign_Name (store_ok2 I' hN hi0 (.inl hx) (v := .ref acc) rfl (fun s'' I'' hch => ?_) (.inr hx))
  obtain ⟨h1, h2, h3, h4, h5, h6⟩ := I2.fpOk (H' := H') hle hC
  obtain ⟨a, hsb, ha⟩ := hch
  refine ⟨m, hn.sameBut hsb ?_, fun h' hsb' => ⟨_, H', I2.let_go I'' hC hle hsb', q⟩⟩
  rcases ha with ha | ha
  · rw [ha]; exact h2
  · exact fun z => h5 y a ha z.symm
end
/-! ### the forms one uses -/
theorem lc_tup {K : PySem.W.Frag} {a acc : Addr} {xs : List V} {n : Nat} {js : List Nat} {g : TG} {ct : TT} {te : TE} {σ : St} {H1 : Hp} {Q : VK} (Pv : Nat → List V → St → Hp → Prop) (h0 : Pv 0 [] (blk n js σ) (upd H1 acc (.lst [])))
    (hl : ∀ i ys τ H, i ≤ xs.length → Pv i ys τ H → SqT K H a xs ∧ H acc = some (.lst ys) ∧ ys.length < sizeLine)
    (hs : ∀ i x ys τ H, xs[i]? = some x → Pv i ys τ H → g x τ H fun τ1 H4 => ct τ1 H4 fun b H5 => if b = true then te τ1 H5 fun y H6 => H6 acc = some (.lst ys) ∧ Pv (i + 1) (ys ++ [y]) τ1 (upd H6 acc (.lst (ys ++ [y]))) else Pv (i + 1) ys τ1 H5)
    (hd : ∀ ys τ H, Pv xs.length ys τ H → Q (.ref acc) H) :
    LcG (Itt K a) n js g ct te acc σ H1 Q := by
  refine ⟨fun i m ys τ H => m = xs.length - i ∧ i ≤ xs.length ∧ Pv i ys τ H, ⟨xs.length, by simp, Nat.zero_le _, h0⟩, ?_⟩
  rintro i m ys τ H ⟨rfl, hi, p⟩
  obtain ⟨q, q2, q3⟩ := hl i ys τ H hi p
  refine ⟨q2, q3, ?_⟩
  by_cases hlt : i < xs.length
  · refine .inr ⟨⟨xs, xs[i], q, by simp [hlt]⟩, Pv (i + 1), fun ys' τ' H' p' => ⟨xs.length - (i + 1), by omega, rfl, hlt, p'⟩, fun x H' y => ?_⟩
    obtain ⟨e, y⟩ := y
    subst e
    exact hs i x ys τ _ (y xs q) p
  · have e : i = xs.length := by omega
    subst e
    exact .inl ⟨⟨xs, q, Nat.le_refl _⟩, hd ys τ H p⟩
theorem lc_range {lo : Int} {k : Nat} {acc : Addr} {n : Nat} {js : List Nat} {g : TG} {ct : TT} {te : TE} {σ : St} {H1 : Hp} {Q : VK} (Pv : Nat → List V → St → Hp → Prop) (h0 : Pv 0 [] (blk n js σ) (upd H1 acc (.lst [])))
    (hl : ∀ i ys τ H, i ≤ k → Pv i ys τ H → H acc = some (.lst ys) ∧ ys.length < sizeLine)
    (hs : ∀ i ys τ H, i < k → Pv i ys τ H → g (.int (lo + i)) τ H fun τ1 H4 => ct τ1 H4 fun b H5 => if b = true then te τ1 H5 fun y H6 => H6 acc = some (.lst ys) ∧ Pv (i + 1) (ys ++ [y]) τ1 (upd H6 acc (.lst (ys ++ [y]))) else Pv (i + 1) ys τ1 H5)
    (hd : ∀ ys τ H, Pv k ys τ H → Q (.ref acc) H) :
    LcG (Itr lo k) n js g ct te acc σ H1 Q := by
  refine ⟨fun i m ys τ H => m = k - i ∧ i ≤ k ∧ Pv i ys τ H, ⟨k, by simp, Nat.zero_le _, h0⟩, ?_⟩
  rintro i m ys τ H ⟨rfl, hi, p⟩
  obtain ⟨q2, q3⟩ := hl i ys τ H hi p
  refine ⟨q2, q3, ?_⟩
  by_cases hlt : i < k
  · refine .inr ⟨hlt, Pv (i + 1), fun ys' τ' H' p' => ⟨k - (i + 1), by omega, rfl, hlt, p'⟩, fun x H' y => ?_⟩
    obtain ⟨e, y⟩ := y
    subst e y
    exact hs i ys τ _ hlt p
  · have e : i = k := by omega
    subst e
    exact .inl ⟨Nat.le_refl _, hd ys τ H p⟩
section
variable {X : Cx}
/-- max of a list of ints -/
def rMaxL (K : PySem.W.Frag) : List V → Hp → VK → Prop := fun vs H Q => ∃ (p : Addr) (ns : List Int), vs = [.ref p] ∧ SqL K H p (ns.map V.int) ∧ 0 < ns.length ∧ ∀ M, M ∈ ns → (∀ a, a ∈ ns → a ≤ M) → Q (.int M) H
end

/-- a statement, cut behind it by a word of one's own -/
def tCut (t : TS) : TS := fun D σ H => ∃ M : St → Hp → Prop, t { D with nx := M } σ H ∧ ∀ σ' H', M σ' H' → D.nx σ' H'
theorem ps_cut {X : Cx} {st : Stmt} {t : TS} (h : PS X st t) : PS X st (tCut t) := by
  intro pins s σ H D I q
  obtain ⟨M, q, hM⟩ := q
  refine thn (h pins s σ H _ I q) fun f s' hs => ?_
  cases f with
  | next =>
    obtain ⟨σ', H', I', m⟩ := hs
    exact ⟨σ', H', I', hM _ _ m⟩
  | brk => exact hs
  | cont => exact hs
  | ret u => exact hs
theorem smallM {m : Int} (h0 : 0 < m) (h1 : m < 1073741824) : m.natAbs.log2 < 9000 := by
  have h : m.natAbs.log2 < 30 := (Nat.log2_lt (by omega)).mpr (by omega)
  omega
end L2

set_option Elab.async false
set_option linter.all false
set_option maxRecDepth 100000
namespace L2
open PySem PySem.Spec PyProof.Rows
/-! ### data within the heap: == and != at any depth -/
mutual
inductive RdD (H : Hp) : V → PyData → Prop
  | non : RdD H .non .none
  | bl (b : Bool) : RdD H (.bl b) (.bool b)
  | int (i : Int) : RdD H (.int i) (.int i)
  | str (x : Str) : RdD H (.str x) (.str x)
  | lst {p : Addr} {xs : List V} {ds : List PyData} : H p = some (.lst xs) → RdDs H xs ds → RdD H (.ref p) (.list ds)
  | tup {p : Addr} {xs : List V} {ds : List PyData} : H p = some (.tup xs) → RdDs H xs ds → RdD H (.ref p) (.tuple ds)
inductive RdDs (H : Hp) : List V → List PyData → Prop
  | nil : RdDs H [] []
  | cons {x : V} {xs : List V} {d : PyData} {ds : List PyData} : RdD H x d → RdDs H xs ds → RdDs H (x :: xs) (d :: ds)
end
section
variable {P : Program} {w : World} {H : Hp} {h : Heap}
mutual
theorem RdD.reads (ok : HOk P w H h) : ∀ {x : V} {d : PyData} {v : Value}, RdD H x d → RelV x v → ∃ as, Reads h v d as
  | _, _, v, .non, r => by
    cases (show v = Value.none from r)
    exact ⟨_, .none⟩
  | _, _, v, .bl b, r => by
    cases (show v = Value.bool b from r)
    exact ⟨_, .bool b⟩
  | _, _, v, .int i, r => by
    obtain ⟨t, e⟩ := (show ∃ t, v = Value.int i t from r)
    cases e
    exact ⟨_, .int i t⟩
  | _, _, v, .str x, r => by
    obtain ⟨t, e⟩ := (show ∃ t, v = Value.str x t from r)
    cases e
    exact ⟨_, .str x t⟩
  | _, _, v, .lst (p := p) (xs := xs) e ds, r => by
    cases (show v = Value.ref p from r)
    obtain ⟨_, its, n, rv, h1⟩ := (show ObjOk P w H h p (.lst xs) from ok p _ e)
    obtain ⟨as, ra⟩ := RdDs.reads ok ds rv
    exact ⟨_, .list (vs := its.toArray) h1 rfl rfl (by simpa using ra)⟩
  | _, _, v, .tup (p := p) (xs := xs) e ds, r => by
    cases (show v = Value.ref p from r)
    obtain ⟨_, its, rv, o, h1, h2, n, h3⟩ := (show ObjOk P w H h p (.tup xs) from ok p _ e)
    obtain ⟨as, ra⟩ := RdDs.reads ok ds rv
    exact ⟨_, .tuple (vs := its.toArray) h1 h2 h3.1 (by simpa using ra)⟩
theorem RdDs.reads (ok : HOk P w H h) : ∀ {xs : List V} {ds : List PyData} {vs : List Value}, RdDs H xs ds → Vals xs vs → ∃ as, ReadsAll h vs ds as
  | _, _, _, .nil, .nil => ⟨_, .nil⟩
  | _, _, _, .cons r rs, .cons q qs => by
    obtain ⟨as, ra⟩ := RdD.reads ok r q
    obtain ⟨bs, rb⟩ := RdDs.reads ok rs qs
    exact ⟨_, .cons ra rb⟩
end
end
section
variable {X : Cx}
def rEqD (neg : Bool) : R2 := fun x y H Q => ∃ dx dy, RdD H x dx ∧ RdD H y dy ∧ dx.canLay0 = true ∧ dy.canLay0 = true ∧ min dx.depth dy.depth ≤ 60 ∧ Q (.bl (if neg then !PyData.eqv dx dy else PyData.eqv dx dy)) H
theorem op_neD (hu : X.A.units + 64 < cLine) : OpR X (compareOp .NotEq) (rEqD true) := by
  intro pins s σ H x y v u Q I rx ry h
  obtain ⟨dx, dy, r1, r2, c1, c2, hd, q⟩ := h
  obtain ⟨as, ra⟩ := r1.reads I.hok rx
  obtain ⟨bs, rb⟩ := r2.reads I.hok ry
  exact PySem.SeqAt.neOverData X.prog X.w X.A X.xe s v u dx dy as bs _ ra rb c1 c2 (by omega) ⟨.bl _, H, I, rfl, q⟩
end
end L2

set_option Elab.async false
set_option linter.all false
set_option maxRecDepth 100000
namespace L2
open PySem PySem.Spec PyProof.Rows
/-! ### texts -/
def one (c : Nat) : Str := ⟨#[c]⟩
theorem glued_toList (rest : List Str) : ∀ a : Array Nat, (rest.foldl (fun acc p => acc ++ Str.empty.cps ++ p.cps) a).toList = a.toList ++ rest.flatMap (·.cps.toList) := by
  induction rest with
  | nil => intro a; simp
  | cons x r ih =>
    intro a
    rw [List.foldl_cons, ih]
    have e : Str.empty.cps = #[] := rfl
    simp [e]
theorem join_ones (cs : List Nat) : (Txt.join Str.empty (cs.map one)).cps.toList = cs := by
  cases cs with
  | nil => rfl
  | cons c r =>
    show (List.foldl (fun acc p => acc ++ Str.empty.cps ++ p.cps) (#[c] : Array Nat) (r.map one)).toList = c :: r
    rw [glued_toList]
    simp only [List.flatMap_map, one]
    simp
theorem empty_is : Str.ofString "" = Str.empty := by decide +kernel
theorem strsAre_of {ys : List Str} : ∀ {us : List Value}, Vals (ys.map V.str) us → StrsAre us ys := by
  induction ys with
  | nil => intro us r; cases r; exact .nil
  | cons y ys ih =>
    intro us r
    cases r with
    | cons h t =>
      obtain ⟨k, e⟩ := h
      subst e
      exact .cons y k (ih t)
section
variable {X : Cx}
/-- sep.join(list of texts) -/
def rJoin (K : PySem.W.Frag) : V → List V → Hp → VK → Prop := fun x vs H Q => ∃ (z : Str) (p : Addr) (ys : List Str), x = .str z ∧ vs = [.ref p] ∧ SqL K H p (ys.map V.str) ∧ (ys.map (·.length)).sum + ys.length * z.length ≤ 16777216 ∧ Q (.str (Txt.join z ys)) H
theorem mt_join : MtR X "str.join" (rJoin X.K) := by
  intro pins s σ H x vs v us Q I rx rv h
  obtain ⟨z, p, ys, rfl, rfl, hS, hz, q⟩ := h
  obtain ⟨t, e⟩ := (show ∃ t, v = Value.str z t from rx)
  subst e
  obtain ⟨u, rfl, ru⟩ := vals1 rv
  cases (show u = Value.ref p from ru)
  obtain ⟨its, rv', pl, _⟩ := I.list hS
  exact join_list pl.isList (by simpa using strsAre_of rv') hz fun t' k => ⟨.str _, H, I.tok k, ⟨_, rfl⟩, q⟩
end
/-! ### plans as data -/
inductive Deed where
  | put (x : Str) (n : Int)
  | copy (x y : Str)
  | add (x : Str) (n : Int)
  | read (x : Str)
  | tell (x : Str)
inductive End where
  | stop
  | go (p : Nat)
  | tst (less : Bool) (x : Str) (n : Int) (p q : Nat)
abbrev Piece := List Deed × End
def wT (b : Bool) : Str := if b = true then "less" else "is"
def dDeed : Deed → PyData
  | .put x n => .tuple [.str "put", .str x, .int n]
  | .copy x y => .tuple [.str "copy", .str x, .str y]
  | .add x n => .tuple [.str "add", .str x, .int n]
  | .read x => .tuple [.str "read", .str x]
  | .tell x => .tuple [.str "tell", .str x]
def dEnd : End → PyData
  | .stop => .tuple [.str "stop"]
  | .go p => .tuple [.str "go", .int p]
  | .tst b x n p q => .tuple [.str (wT b), .str x, .int n, .int p, .int q]
def dPiece (p : Piece) : PyData := .tuple [.tuple (p.1.map dDeed), dEnd p.2]
def dPlan (ps : List Piece) : PyData := .tuple (ps.map dPiece)
structure NameOk (x : Str) : Prop where
  lo : 1 ≤ x.length
  hi : x.length ≤ 8
  az : ∀ c ∈ x.cps.toList, 97 ≤ c ∧ c ≤ 122
def NumOk (n : Int) : Prop := -(10 ^ 40) < n ∧ n < 10 ^ 40
def DeedOk (xs : List Str) : Deed → Prop
  | .put x n => x ∈ xs ∧ NumOk n
  | .copy x y => x ∈ xs ∧ y ∈ xs
  | .add x n => x ∈ xs ∧ NumOk n
  | .read x => x ∈ xs
  | .tell x => x ∈ xs
def EndOk (xs : List Str) (count : Nat) : End → Prop
  | .stop => True
  | .go p => p < count
  | .tst _ x n p q => x ∈ xs ∧ NumOk n ∧ p < count ∧ q < count
structure PlanOk (xs : List Str) (most : Nat) (ps : List Piece) : Prop where
  deeds : ∀ p ∈ ps, p.1.length ≤ most ∧ ∀ d ∈ p.1, DeedOk xs d
  ends : ∀ p ∈ ps, EndOk xs ps.length p.2
/-! ### data of tuples alone stays -/
mutual
def noList : PyData → Bool
  | .list _ => false
  | .tuple xs => noLists xs
  | _ => true
def noLists : List PyData → Bool
  | [] => true
  | x :: xs => noList x && noLists xs
end
mutual
theorem RdD.tups {H H' : Hp} (k : ∀ p xs, H p = some (.tup xs) → H' p = some (.tup xs)) : ∀ {x : V} {d : PyData}, RdD H x d → noList d = true → RdD H' x d
  | _, _, .non, _ => .non
  | _, _, .bl b, _ => .bl b
  | _, _, .int i, _ => .int i
  | _, _, .str x, _ => .str x
  | _, _, .lst _ _, h => nomatch h
  | _, _, .tup e ds, h => .tup (k _ _ e) (RdDs.tups k ds h)
theorem RdDs.tups {H H' : Hp} (k : ∀ p xs, H p = some (.tup xs) → H' p = some (.tup xs)) : ∀ {xs : List V} {ds : List PyData}, RdDs H xs ds → noLists ds = true → RdDs H' xs ds
  | _, _, .nil, _ => .nil
  | _, _, .cons r rs, h => by
    simp only [noLists, Bool.and_eq_true] at h
    exact .cons (RdD.tups k r h.1) (RdDs.tups k rs h.2)
end
theorem RdD.fix {b : Addr} {H H' : Hp} {x : V} {d : PyData} (r : RdD H x d) (hb : Bag H b) (f : Fix b H H') (n : noList d = true) : RdD H' x d :=
  r.tups (fun p xs e => f p _ e (hb.ne_tup e)) n
theorem RdD.same {H H' : Hp} {x : V} {d : PyData} (r : RdD H x d) (f : Same H H') (n : noList d = true) : RdD H' x d :=
  r.tups (fun p xs e => f p _ e) n
theorem RdDs.fix {b : Addr} {H H' : Hp} {xs : List V} {ds : List PyData} (r : RdDs H xs ds) (hb : Bag H b) (f : Fix b H H') (n : noLists ds = true) : RdDs H' xs ds :=
  r.tups (fun p xs e => f p _ e (hb.ne_tup e)) n
theorem RdDs.same {H H' : Hp} {xs : List V} {ds : List PyData} (r : RdDs H xs ds) (f : Same H H') (n : noLists ds = true) : RdDs H' xs ds :=
  r.tups (fun p xs e => f p _ e) n
/-- a list is rewritten -/
theorem RdDs.put {H : Hp} {xs ys : List V} {ds : List PyData} {l : Addr} {o : HO} (r : RdDs H xs ds) (hl : H l = some (.lst ys)) (n : noLists ds = true) : RdDs (upd H l o) xs ds :=
  r.tups (fun p zs e => by rw [upd_ne (ne_of e hl (by intro z; cases z))]; exact e) n
theorem RdDs.app {H : Hp} {x : V} {d : PyData} : ∀ {xs : List V} {ds : List PyData}, RdDs H xs ds → RdD H x d → RdDs H (xs ++ [x]) (ds ++ [d])
  | _, _, .nil, q => .cons q .nil
  | _, _, .cons r rs, q => .cons r (RdDs.app rs q)
theorem RdDs.len {H : Hp} : ∀ {xs : List V} {ds : List PyData}, RdDs H xs ds → xs.length = ds.length
  | _, _, .nil => rfl
  | _, _, .cons _ rs => by simp [RdDs.len rs]
theorem noList_deed (d : Deed) : noList (dDeed d) = true := by cases d <;> rfl
theorem noList_end (e : End) : noList (dEnd e) = true := by cases e <;> rfl
theorem noLists_deeds : ∀ ds : List Deed, noLists (ds.map dDeed) = true
  | [] => rfl
  | d :: ds => by show (noList (dDeed d) && noLists (ds.map dDeed)) = true; rw [noList_deed, noLists_deeds ds]; rfl
theorem noList_piece (p : Piece) : noList (dPiece p) = true := by
  show (noLists (p.1.map dDeed) && (noList (dEnd p.2) && true)) = true
  rw [noLists_deeds, noList_end]; rfl
theorem noLists_pieces : ∀ ps : List Piece, noLists (ps.map dPiece) = true
  | [] => rfl
  | p :: ps => by show (noList (dPiece p) && noLists (ps.map dPiece)) = true; rw [noList_piece, noLists_pieces ps]; rfl
theorem noList_plan (ps : List Piece) : noList (dPlan ps) = true := noLists_pieces ps
/-! ### the promises of the laws' own drawing -/
/-- the list of names at l -/
structure NamesAt (H : Hp) (b l : Addr) (xs : List Str) : Prop where
  at_ : H l = some (.lst (xs.map V.str))
  ne : l ≠ b
  some_ : xs ≠ []
  few : xs.length ≤ 1000
  ok : ∀ x ∈ xs, NameOk x
theorem NamesAt.fix {H H' : Hp} {b l : Addr} {xs : List Str} (h : NamesAt H b l xs) (f : Fix b H H') : NamesAt H' b l xs := ⟨f l _ h.at_ h.ne, h.ne, h.some_, h.few, h.ok⟩
theorem NamesAt.pos {H : Hp} {b l : Addr} {xs : List Str} (h : NamesAt H b l xs) : 0 < ((xs.map V.str).length : Int) ∧ ((xs.map V.str).length : Int) < 1073741824 := by
  have h1 := h.some_
  have h2 := h.few
  have h3 : 0 < xs.length := by cases xs with | nil => exact absurd rfl h1 | cons _ _ => simp
  rw [List.length_map]
  omega
def spNames : Sp := fun vs H Q _ => ∃ (b : Addr), vs = [.ref b] ∧ Bag H b ∧ ∀ l xs H', NamesAt H' b l xs → xs.length ≤ 4 → Bag H' b → Fix b H H' → Q (.ref l) H'
def spNumber : Sp := fun vs H Q _ => ∃ (b : Addr), vs = [.ref b] ∧ Bag H b ∧ ∀ n H', NumOk n → Bag H' b → Fix b H H' → Q (.int n) H'
def spDeed : Sp := fun vs H Q _ => ∃ (b l : Addr) (xs : List Str), vs = [.ref b, .ref l] ∧ Bag H b ∧ NamesAt H b l xs ∧ ∀ v d H', RdD H' v (dDeed d) → DeedOk xs d → Bag H' b → Fix b H H' → Q v H'
def spEndP : Sp := fun vs H Q _ => ∃ (b l : Addr) (xs : List Str) (c : Nat), vs = [.ref b, .ref l, .int c] ∧ Bag H b ∧ NamesAt H b l xs ∧ 0 < c ∧ c < 1073741824 ∧ ∀ v e H', RdD H' v (dEnd e) → EndOk xs c e → Bag H' b → Fix b H H' → Q v H'
def spPlan : Sp := fun vs H Q _ => ∃ (b : Addr) (c m : Nat), vs = [.ref b, .int c, .int m] ∧ Bag H b ∧ 0 < c ∧ c ≤ 1000 ∧ m ≤ 1000 ∧ ∀ v xs ps H', RdD H' v (dPlan ps) → ps.length = c → PlanOk xs m ps → ((∀ x ∈ xs, NameOk x) ∧ xs.length ≤ 4) → Bag H' b → Fix b H H' → Q v H'
def spCount : Sp := fun vs H Q _ => ∃ (b : Addr) (m : Nat), vs = [.ref b, .int m] ∧ Bag H b ∧ 0 < m ∧ m ≤ 1000 ∧ ∀ (n : Nat) H', 0 < n → n ≤ max m 4 → Bag H' b → Fix b H H' → Q (.int n) H'
def abc : Str := "abcdefghijklmnopqrstuvwxyz"
theorem abc_list : abc.cps.toList = (List.range 26).map (· + 97) := by decide +kernel
theorem abc_len : abc.length ≤ sizeLine := by decide +kernel
theorem abc_at {r : Int} (h0 : 0 ≤ r) (h1 : r < 26) : ∃ c, atI abc.cps.toList r = some c ∧ 97 ≤ c ∧ c ≤ 122 := by
  have hl : abc.cps.toList.length = 26 := by rw [abc_list]; simp
  obtain ⟨c, hc, hm⟩ := at_in (xs := abc.cps.toList) h0 (by rw [hl]; exact h1)
  refine ⟨c, hc, ?_⟩
  rw [abc_list] at hm
  obtain ⟨k, hk, rfl⟩ := List.mem_map.mp hm
  have := List.mem_range.mp hk
  omega
/-- an item of a list of names -/
theorem names_at {xs : List Str} {r : Int} (h0 : 0 ≤ r) (h1 : r < ((xs.map V.str).length : Int)) : ∃ x, atI (xs.map V.str) r = some (V.str x) ∧ x ∈ xs := by
  obtain ⟨v, hv, hm⟩ := at_in h0 h1
  obtain ⟨x, hx, rfl⟩ := List.mem_map.mp hm
  exact ⟨x, hv, hx⟩
theorem yes_ {σ : L2.St} {H : Hp} {Q : Bool → Hp → Prop} (h : Q true H) : tYes σ H Q := h
theorem gname_ {i : Nat} {v : V} {σ : L2.St} {H : Hp} {Q : L2.St → Hp → Prop} (h : Q (σ.set i (some v)) H) : gName i v σ H Q := h
end L2

set_option Elab.async false
set_option linter.all false
set_option maxRecDepth 100000
namespace L2
open PySem PySem.Spec PyProof.Rows
/-! ### data, taken apart -/
theorem RdD.tup_inv {H : Hp} {v : V} {ds : List PyData} (h : RdD H v (.tuple ds)) : ∃ p xs, v = .ref p ∧ H p = some (.tup xs) ∧ RdDs H xs ds := by
  cases h with
  | tup e r => exact ⟨_, _, rfl, e, r⟩
theorem RdD.int_inv {H : Hp} {v : V} {i : Int} (h : RdD H v (.int i)) : v = .int i := by cases h; rfl
theorem RdD.str_inv {H : Hp} {v : V} {x : Str} (h : RdD H v (.str x)) : v = .str x := by cases h; rfl
theorem RdDs.cons_inv {H : Hp} {xs : List V} {d : PyData} {ds : List PyData} (h : RdDs H xs (d :: ds)) : ∃ x r, xs = x :: r ∧ RdD H x d ∧ RdDs H r ds := by
  cases h with
  | cons a b => exact ⟨_, _, rfl, a, b⟩
theorem RdDs.nil_inv {H : Hp} {xs : List V} (h : RdDs H xs []) : xs = [] := by cases h; rfl
theorem RdDs.get {H : Hp} : ∀ {xs : List V} {ds : List PyData} {i : Nat} {d : PyData}, RdDs H xs ds → ds[i]? = some d → ∃ x, xs[i]? = some x ∧ RdD H x d
  | _, _, _, _, .nil, e => by simp at e
  | _, _, 0, _, .cons r _, e => by
    simp at e
    subst e
    exact ⟨_, rfl, r⟩
  | _, _, i + 1, d, .cons _ t, e => by
    obtain ⟨x, h1, h2⟩ := RdDs.get (i := i) (d := d) t (by simpa using e)
    exact ⟨x, by simpa using h1, h2⟩
theorem RdDs.ints {H : Hp} : ∀ {xs : List V} {ns : List Int}, RdDs H xs (ns.map PyData.int) → xs = ns.map V.int
  | _, [], h => h.nil_inv
  | _, n :: ns, h => by
    obtain ⟨x, r, rfl, h1, h2⟩ := h.cons_inv
    rw [h1.int_inv, RdDs.ints h2]
    rfl
/-- the tuple of a deed, of an end -/
def vDeed : Deed → List V
  | .put x n => [.str "put", .str x, .int n]
  | .copy x y => [.str "copy", .str x, .str y]
  | .add x n => [.str "add", .str x, .int n]
  | .read x => [.str "read", .str x]
  | .tell x => [.str "tell", .str x]
def vEnd : End → List V
  | .stop => [.str "stop"]
  | .go p => [.str "go", .int p]
  | .tst b x n p q => [.str (wT b), .str x, .int n, .int p, .int q]
theorem rd_deed {H : Hp} {v : V} {d : Deed} (h : RdD H v (dDeed d)) : ∃ p, v = .ref p ∧ H p = some (.tup (vDeed d)) := by
  cases d <;> (
    obtain ⟨p, xs, rfl, e, r⟩ := RdD.tup_inv h
    obtain ⟨x1, r1, rfl, h1, r⟩ := r.cons_inv
    obtain ⟨x2, r2, rfl, h2, r⟩ := r.cons_inv
    first
      | (obtain ⟨x3, r3, rfl, h3, r⟩ := r.cons_inv
         have z := r.nil_inv
         subst z
         refine ⟨p, rfl, ?_⟩
         first
           | rw [e, h1.str_inv, h2.str_inv, h3.int_inv]; rfl
           | rw [e, h1.str_inv, h2.str_inv, h3.str_inv]; rfl)
      | (have z := r.nil_inv
         subst z
         refine ⟨p, rfl, ?_⟩
         rw [e, h1.str_inv, h2.str_inv]; rfl))
theorem rd_end {H : Hp} {v : V} {e : End} (h : RdD H v (dEnd e)) : ∃ p, v = .ref p ∧ H p = some (.tup (vEnd e)) := by
  cases e with
  | stop =>
    obtain ⟨p, xs, rfl, e, r⟩ := RdD.tup_inv h
    obtain ⟨x1, r1, rfl, h1, r⟩ := r.cons_inv
    have z := r.nil_inv
    subst z
    exact ⟨p, rfl, by rw [e, h1.str_inv]; rfl⟩
  | go q =>
    obtain ⟨p, xs, rfl, e, r⟩ := RdD.tup_inv h
    obtain ⟨x1, r1, rfl, h1, r⟩ := r.cons_inv
    obtain ⟨x2, r2, rfl, h2, r⟩ := r.cons_inv
    have z := r.nil_inv
    subst z
    exact ⟨p, rfl, by rw [e, h1.str_inv, h2.int_inv]; rfl⟩
  | tst b x n q q' =>
    obtain ⟨p, xs, rfl, e, r⟩ := RdD.tup_inv h
    obtain ⟨x1, r1, rfl, h1, r⟩ := r.cons_inv
    obtain ⟨x2, r2, rfl, h2, r⟩ := r.cons_inv
    obtain ⟨x3, r3, rfl, h3, r⟩ := r.cons_inv
    obtain ⟨x4, r4, rfl, h4, r⟩ := r.cons_inv
    obtain ⟨x5, r5, rfl, h5, r⟩ := r.cons_inv
    have z := r.nil_inv
    subst z
    exact ⟨p, rfl, by rw [e, h1.str_inv, h2.str_inv, h3.int_inv, h4.int_inv, h5.int_inv]; rfl⟩
/-- a piece of a plan -/
theorem rd_piece {H : Hp} {v : V} {ps : List Piece} {i : Nat} {ds : List Deed} {e : End} (h : RdD H v (dPlan ps)) (hi : ps[i]? = some (ds, e)) :
    ∃ p xs pc da ea vs, v = .ref p ∧ H p = some (.tup xs) ∧ xs.length = ps.length ∧ xs[i]? = some (.ref pc) ∧ H pc = some (.tup [.ref da, .ref ea]) ∧ H da = some (.tup vs) ∧ RdDs H vs (ds.map dDeed) ∧ H ea = some (.tup (vEnd e)) := by
  obtain ⟨p, xs, rfl, e1, r⟩ := RdD.tup_inv h
  have hl := r.len
  obtain ⟨x, hx, rx⟩ := r.get (i := i) (d := dPiece (ds, e)) (by rw [List.getElem?_map, hi]; rfl)
  obtain ⟨pc, ys, rfl, e2, r2⟩ := RdD.tup_inv rx
  obtain ⟨y1, t1, rfl, q1, r2⟩ := r2.cons_inv
  obtain ⟨y2, t2, rfl, q2, r2⟩ := r2.cons_inv
  have z := r2.nil_inv
  subst z
  obtain ⟨da, vs, rfl, e3, r3⟩ := RdD.tup_inv q1
  obtain ⟨ea, rfl, e4⟩ := rd_end q2
  exact ⟨p, xs, pc, da, ea, vs, rfl, e1, by rw [hl, List.length_map], hx, e2, e3, r3, e4⟩
theorem small1000' {n : Nat} (h : n ≤ 1000000) : n < sizeLine := Nat.lt_of_le_of_lt h (by decide)
theorem iteFb {c : Bool} {A B : Prop} (hc : c = false) (h : B) : if c = true then A else B := by subst hc; exact iteF h
theorem iteTb {c : Bool} {A B : Prop} (hc : c = true) (h : A) : if c = true then A else B := by subst hc; exact iteT h
/-- d.get(k, x), its value told apart -/
def tDGet2v (td ty tx : TE) : TE := fun σ H Q => td σ H fun x H1 => ∃ a, x = .ref a ∧ IsD H1 a ∧ ty σ H1 fun y H2 => tx σ H2 fun z H3 => ∃ o v, DGet H3 a y o ∧ o.getD z = v ∧ Q v H3
theorem pe_dget2v {X : Cx} {o e f : Expr} {apos cpos : Pos} {td ty tx : TE} (hu : X.A.units + 1 < cLine) (ho : PE X o td) (he : PE X e ty) (hf : PE X f tx) (m : M2 X o "get" apos e f cpos) : PE X (.Call (.Attribute o "get" apos) [e, f] [] cpos) (tDGet2v td ty tx) := by
  intro pins s σ H Q I h
  refine wpAny_Call_method m.base m.few m.line PySem.F.plainAttrs_dict PySem.F.slot_dict_get PySem.F.type_dict_get (thn (ho pins s σ H _ I h) fun u s1 ⟨x, H1, I1, rx, a, ex, d, q1⟩ => ?_)
  subst ex
  obtain rfl : u = Value.ref a := rx
  obtain ⟨t1, t2, _⟩ := isD_at I1 d
  refine ⟨t1, t2, ?_⟩
  rw [m.trees]
  refine Calls.callWith_builtin rfl (Calls.evalArgs_plain (Calls.spliced_cons (thn (he pins s1 σ H1 _ I1 q1) fun iv s2 ⟨y, H2, I2, ry, q2⟩ =>
    Calls.spliced_cons (thn (hf pins s2 σ H2 _ I2 q2) fun fv s3 ⟨z, H3, I3, rz, ov, v, g, ev, q3⟩ => Calls.spliced_nil ?_))))
  exact d_get2 hu I3 g ry rz fun w' s4 I4 rw' => ⟨v, H3, I4, by rw [← ev]; exact rw', q3⟩
/-! ### the run -/
structure RS where
  piece : Nat
  place : Nat
  w : Str → Int
  taken : Nat
  told : List Int
  word : Str
  been : List Nat
def setW (w : Str → Int) (x : Str) (n : Int) : Str → Int := fun y => if y = x then n else w y
def stepD (nums : List Int) (S : RS) : Deed → RS
  | .put x n => { S with w := setW S.w x n, place := S.place + 1 }
  | .copy x y => { S with w := setW S.w x (S.w y), place := S.place + 1 }
  | .add x n => { S with w := setW S.w x (S.w x + n), place := S.place + 1 }
  | .tell x => { S with told := S.told ++ [S.w x], place := S.place + 1 }
  | .read x => match nums[S.taken]? with
    | none => { S with word := "dry" }
    | some n => { S with w := setW S.w x n, taken := S.taken + 1, place := S.place + 1 }
def ansT (b : Bool) (u n : Int) : Bool := if b = true then decide (u < n) else decide (u = n)
def stepE (S : RS) : End → RS
  | .stop => { S with word := "stop" }
  | .go p => { S with piece := p, place := 0, been := S.been ++ [p] }
  | .tst b x n p q => { S with piece := if ansT b (S.w x) n = true then p else q, place := 0, been := S.been ++ [if ansT b (S.w x) n = true then p else q] }
def stepF (ps : List Piece) (nums : List Int) (S : RS) : RS := match ps[S.piece]? with
  | none => S
  | some (ds, e) => match ds[S.place]? with
    | some d => stepD nums S d
    | none => stepE S e
/-- the dict of worths -/
def DW (kvs : List (Key × V)) (w : Str → Int) : Prop := ∀ x : Str, (valV kvs (Sum.inr x : Key)).getD (.int 0) = .int (w x)
theorem DW.put {kvs : List (Key × V)} {w : Str → Int} (h : DW kvs w) (x : Str) (n : Int) : DW (putK kvs (Sum.inr x) (.int n)) (setW w x n) := fun y => by
  rw [valV_put]
  unfold setW
  by_cases e : y = x
  · subst e
    rw [if_pos rfl, if_pos rfl]; rfl
  · rw [if_neg (fun z => e (Sum.inr.inj z)), if_neg e]
    exact h y
/-- the walker's state as it lies: the tuple at st, the dict at d, what was told at tl, where it was at bl -/
structure StAt (H : Hp) (st d tl bl : Addr) (S : RS) (m : Nat) : Prop where
  at_ : H st = some (.tup [.int S.piece, .int S.place, .ref d, .int S.taken, .ref tl, .str S.word, .ref bl])
  dict : ∃ kvs, H d = some (.dK kvs) ∧ DW kvs S.w ∧ kvs.length ≤ m
  told : H tl = some (.lst (S.told.map V.int))
  been : H bl = some (.lst (S.been.map fun k => V.int (k : Nat)))
  ne : tl ≠ bl
  few : S.told.length ≤ m ∧ S.been.length ≤ m + 1
/-- but the three -/
def But (d tl bl : Addr) (H H' : Hp) : Prop := ∀ c o, H c = some o → c ≠ d → c ≠ tl → c ≠ bl → H' c = some o
theorem But.refl (d tl bl : Addr) (H : Hp) : But d tl bl H H := fun _ _ h _ _ _ => h
theorem But.trans {d tl bl : Addr} {H H1 H2 : Hp} (a : But d tl bl H H1) (b : But d tl bl H1 H2) : But d tl bl H H2 := fun c o h n1 n2 n3 => b c o (a c o h n1 n2 n3) n1 n2 n3
theorem But.new {d tl bl p : Addr} {H : Hp} {o : HO} (hp : H p = none) : But d tl bl H (upd H p o) := fun c u h _ _ _ => by rw [upd_ne (ne_of_none h hp)]; exact h
/-- all P lie in the plan -/
def InPlan (ps : List Piece) : Prop := ∀ p ∈ ps, match p.2 with
  | .stop => True
  | .go q => q < ps.length
  | .tst _ _ _ q r => q < ps.length ∧ r < ps.length
theorem PlanOk.inPlan {xs : List Str} {m : Nat} {ps : List Piece} (h : PlanOk xs m ps) : InPlan ps := fun p hp => by
  have := h.ends p hp
  cases e : p.2 with
  | stop => exact True.intro
  | go q => rw [e] at this; exact this
  | tst b x n q r => rw [e] at this; exact ⟨this.2.2.1, this.2.2.2⟩
def spStep : Sp := fun vs H Q _ => ∃ (pv : V) (st np d tl bl : Addr) (ps : List Piece) (nums : List Int) (S : RS) (m : Nat), vs = [pv, .ref st, .ref np] ∧ RdD H pv (dPlan ps) ∧ InPlan ps ∧ H np = some (.tup (nums.map V.int)) ∧ StAt H st d tl bl S m ∧
  S.piece < ps.length ∧ S.taken ≤ nums.length ∧ m ≤ 10000 ∧ ∀ st' H', StAt H' st' d tl bl (stepF ps nums S) (m + 1) → But d tl bl H H' → Q (.ref st') H'
theorem stepF_in {ps : List Piece} {nums : List Int} {S : RS} (hp : InPlan ps) (h : S.piece < ps.length) (ht : S.taken ≤ nums.length) : (stepF ps nums S).piece < ps.length ∧ (stepF ps nums S).taken ≤ nums.length := by
  unfold stepF
  have hx : ps[S.piece]? = some ps[S.piece] := by simp [h]
  rw [hx]
  generalize hpc : ps[S.piece] = pc
  obtain ⟨ds, e⟩ := pc
  have hm : (ds, e) ∈ ps := by rw [← hpc]; exact List.getElem_mem h
  dsimp only
  cases hd : ds[S.place]? with
  | some dd =>
    cases dd with
    | read x =>
      dsimp only [stepD]
      cases hn : nums[S.taken]? with
      | none => exact ⟨h, ht⟩
      | some n =>
        have : S.taken < nums.length := (List.getElem?_eq_some_iff.mp hn).1
        exact ⟨h, this⟩
    | _ => exact ⟨h, ht⟩
  | none =>
    have hq := hp (ds, e) hm
    cases e with
    | stop => exact ⟨h, ht⟩
    | go q => exact ⟨hq, ht⟩
    | tst b x n q r =>
      dsimp only [stepE]
      refine ⟨?_, ht⟩
      split
      · exact hq.1
      · exact hq.2
theorem StAt.mk_ {H1 : Hp} {st' d tl bl : Addr} {S' : RS} {m : Nat} {kvs : List (Key × V)} (h1 : H1 d = some (.dK kvs)) (dw : DW kvs S'.w) (hk : kvs.length ≤ m) (t1 : H1 tl = some (.lst (S'.told.map V.int)))
    (b1 : H1 bl = some (.lst (S'.been.map fun k => V.int (k : Nat)))) (ne : tl ≠ bl) (few : S'.told.length ≤ m ∧ S'.been.length ≤ m + 1) (hn : H1 st' = none) {xs : List V}
    (ex : xs = [.int S'.piece, .int S'.place, .ref d, .int S'.taken, .ref tl, .str S'.word, .ref bl]) : StAt (upd H1 st' (.tup xs)) st' d tl bl S' m := by
  subst ex
  exact ⟨upd_same, ⟨kvs, by rw [upd_ne (ne_of_none h1 hn)]; exact h1, dw, hk⟩, by rw [upd_ne (ne_of_none t1 hn)]; exact t1, by rw [upd_ne (ne_of_none b1 hn)]; exact b1, ne, few⟩
theorem But.put_d {d tl bl : Addr} {H : Hp} {o : HO} : But d tl bl H (upd H d o) := fun c u h n _ _ => by rw [upd_ne n]; exact h
theorem But.put_t {d tl bl : Addr} {H : Hp} {o : HO} : But d tl bl H (upd H tl o) := fun c u h _ n _ => by rw [upd_ne n]; exact h
theorem But.put_b {d tl bl : Addr} {H : Hp} {o : HO} : But d tl bl H (upd H bl o) := fun c u h _ _ n => by rw [upd_ne n]; exact h
theorem step_deed {ps : List Piece} {nums : List Int} {S : RS} {ds : List Deed} {e : End} {dd : Deed} (h1 : ps[S.piece]? = some (ds, e)) (h2 : ds[S.place]? = some dd) : stepF ps nums S = stepD nums S dd := by
  unfold stepF
  rw [h1]
  dsimp only
  rw [h2]
theorem step_end {ps : List Piece} {nums : List Int} {S : RS} {ds : List Deed} {e : End} (h1 : ps[S.piece]? = some (ds, e)) (h2 : ds[S.place]? = none) : stepF ps nums S = stepE S e := by
  unfold stepF
  rw [h1]
  dsimp only
  rw [h2]
end L2

set_option Elab.async false
set_option linter.all false
set_option maxRecDepth 100000
namespace L2
open PySem PySem.Spec PyProof.Rows
/-! ### parts of stretches -/
def vO : Option Int → V
  | none => .non
  | some i => .int i
def LEo : Option Int → Option Int → Prop
  | some a, some b => a ≤ b
  | _, _ => True
def liesB (n : Int) (lo hi : Option Int) : Bool := (match lo with | none => true | some a => decide (a ≤ n)) && (match hi with | none => true | some a => decide (n ≤ a))
abbrev Rs := Option (Option Int × Option Int)
/-- the parts -/
def topF (hi : Option Int) (n : Int) : Int := match hi with | none => n - 1 | some h => if n - 1 < h then n - 1 else h
def botF (lo : Option Int) (n : Int) : Int := match lo with | none => n | some l => if n > l then n else l
def belowF (lo hi : Option Int) (n : Int) : Rs :=
  match lo with | none => some (none, some (topF hi n)) | some l => if topF hi n < l then none else some (some l, some (topF hi n))
def fromF (lo hi : Option Int) (n : Int) : Rs :=
  match hi with | none => some (some (botF lo n), none) | some h => if h < botF lo n then none else some (some (botF lo n), some h)
def atF (lo hi : Option Int) (n : Int) : Rs := if liesB n lo hi = true then some (some n, some n) else none
def besF (lo hi : Option Int) (n : Int) : Rs := if lo = some n then (if hi = some n then none else some (some (n + 1), hi)) else if hi = some n then some (lo, some (n - 1)) else some (lo, hi)
def lessF (lo hi : Option Int) (n : Int) (side : Bool) : Rs := if side = true then belowF lo hi n else fromF lo hi n
def isF (lo hi : Option Int) (n : Int) (side : Bool) : Rs := if side = true then atF lo hi n else besF lo hi n
def partF (w : Str) (lo hi : Option Int) (n : Int) (side : Bool) : Rs := if w = "less" then lessF lo hi n side else isF lo hi n side
def ansF (rt rf : Rs) : Str := match rf with
  | none => "yes"
  | some _ => match rt with
    | none => "no"
    | some _ => "open"
/-- a part as it lies -/
def RV (H : Hp) (v : V) (r : Rs) : Prop := match r with
  | none => v = .non
  | some (a, b) => ∃ p, v = .ref p ∧ H p = some (.tup [vO a, vO b])
theorem RV.same {H H' : Hp} {v : V} {r : Rs} (h : RV H v r) (s : Same H H') : RV H' v r := by
  cases r with
  | none => exact h
  | some ab =>
    obtain ⟨p, e, h⟩ := h
    exact ⟨p, e, s _ _ h⟩
theorem RV.put {H : Hp} {v : V} {r : Rs} {l : Addr} {xs : List V} {o : HO} (h : RV H v r) (hl : H l = some (.lst xs)) : RV (upd H l o) v r := by
  cases r with
  | none => exact h
  | some ab =>
    obtain ⟨p, e, h⟩ := h
    exact ⟨p, e, by rw [upd_ne (ne_of h hl (by intro z; cases z))]; exact h⟩
def dO : Option Int → PyData
  | none => .none
  | some i => .int i
def dR : Rs → PyData
  | none => .none
  | some (a, b) => .tuple [dO a, dO b]
theorem rd_o {H : Hp} (o : Option Int) : RdD H (vO o) (dO o) := by
  cases o with
  | none => exact .non
  | some i => exact .int i
theorem RV.rd {H : Hp} {v : V} {r : Rs} (h : RV H v r) : RdD H v (dR r) := by
  cases r with
  | none => cases (show v = V.non from h); exact .non
  | some ab =>
    obtain ⟨a, b⟩ := ab
    obtain ⟨p, rfl, h⟩ := h
    exact .tup h (.cons (rd_o a) (.cons (rd_o b) .nil))
def spLies : Sp := fun vs H Q _ => ∃ (n : Int) (q : Addr) (lo hi : Option Int), vs = [.int n, .ref q] ∧ H q = some (.tup [vO lo, vO hi]) ∧ Q (.bl (liesB n lo hi)) H
def spP (F : Option Int → Option Int → Int → Rs) : Sp := fun vs H Q _ => ∃ (p : Addr) (n : Int) (lo hi : Option Int), vs = [.ref p, .int n] ∧ H p = some (.tup [vO lo, vO hi]) ∧ ∀ v H', RV H' v (F lo hi n) → Same H H' → Q v H'
def spL (F : Option Int → Option Int → Int → Bool → Rs) : Sp := fun vs H Q _ => ∃ (p : Addr) (n : Int) (side : Bool) (lo hi : Option Int), vs = [.ref p, .int n, .bl side] ∧ H p = some (.tup [vO lo, vO hi]) ∧ ∀ v H', RV H' v (F lo hi n side) → Same H H' → Q v H'
def spPart : Sp := fun vs H Q _ => ∃ (p : Addr) (w : Str) (n : Int) (side : Bool) (lo hi : Option Int), vs = [.ref p, .str w, .int n, .bl side] ∧ H p = some (.tup [vO lo, vO hi]) ∧ ∀ v H', RV H' v (partF w lo hi n side) → Same H H' → Q v H'
def spAns : Sp := fun vs H Q _ => ∃ (p : Addr) (w : Str) (n : Int) (lo hi : Option Int), vs = [.ref p, .str w, .int n] ∧ H p = some (.tup [vO lo, vO hi]) ∧ ∀ H', Same H H' → Q (.str (ansF (partF w lo hi n true) (partF w lo hi n false))) H'
theorem Same.put {H H' : Hp} {l : Addr} {o : HO} (s : Same H H') (n : H l = none) : Same H (upd H' l o) := fun c u e => by rw [upd_ne (ne_of_none e n)]; exact s c u e
theorem less_less : decide (V.str "less" = V.str "less") = true := by decide +kernel
theorem ne_is_less : ¬ (("is" : Str) = "less") := by decide +kernel
theorem dec_o {lo : Option Int} {n : Int} : decide (vO lo = V.int n) = decide (lo = some n) := by
  cases lo with
  | none => rfl
  | some i =>
    by_cases h : i = n
    · subst h; simp [vO]
    · have h1 : ¬ (V.int i = V.int n) := fun z => h (V.int.inj z)
      have h2 : ¬ ((some i : Option Int) = some n) := fun z => h (Option.some.inj z)
      rw [show vO (some i) = V.int i from rfl, decide_eq_false h1, decide_eq_false h2]
theorem scal_o {lo : Option Int} {n : Int} : scal (vO lo) (V.int n) = true := by cases lo <;> rfl
end L2

set_option Elab.async false
set_option linter.all false
set_option maxRecDepth 100000
namespace L2
open PySem PySem.Spec PyProof.Rows
/-! ### own classes -/
structure MOwn (P : Program) (w : World) (K : PySem.W.Frag) (mg : Str → Option Value) (base : Heap) (C : Addr) (m : Str) (k : Nat) (ps : List Str) (sp : Sp) : Prop where
  cl : Cls K C
  ex : ∃ f fd, FnOk P w K mg base CX0 k f fd ps sp ∧ Meth K C m f ∧ Binds K fd ps []
structure COwn (P : Program) (w : World) (K : PySem.W.Frag) (mg : Str → Option Value) (base : Heap) (C : Addr) (x : Str) (k : Nat) (ps : List Str) (sp : Sp) : Prop where
  ex : ∃ f fd, FnOk P w K mg base CX0 k f fd ps sp ∧ Mk K C f ∧ mg x = some (.ref C) ∧ Binds K fd ps []
section
variable {X : Cx} {C : Addr} {m x : Str} {k : Nat} {ps : List Str} {sp : Sp} {oe e : Expr} {es : List Expr} {ta : TE} {t : TA} {p pos apos : Pos}
theorem pe_mown {pl : Sem Bool} (o : MOwn X.prog X.w X.K X.mg X.base C m k ps sp) (he : PE X oe ta) (hr : Room k X.A) (ha : PA X (e :: es) t)
    (hst : starEach (e :: es) X.env = (false, eval e X.env) :: starEach es X.env := by rfl) (hpl : (backTo pos (starEach es X.env)).any (·.1) = false := by rfl)
    (ht : eval (.Call (.Attribute oe m apos) (e :: es) [] pos) X.env = (do
      let ov ← eval oe X.env
      standAt apos.atName
      let (f, first) ← holding [ov] (getMethod ov m pl)
      callWith pos f first (backTo pos (starEach (e :: es) X.env)) (backToKw pos (keywordEach [] X.env))) := by rfl) :
    PE X (.Call (.Attribute oe m apos) (e :: es) [] pos) (tMeth C m sp [] E0 ta t) := by
  obtain ⟨f, fd, F, hm, hb⟩ := o.ex
  exact pe_meth he o.cl hm F hr hb .nil pass0 ha hst hpl ht
theorem pe_mown0 {pl : Sem Bool} (o : MOwn X.prog X.w X.K X.mg X.base C m k ps sp) (he : PE X oe ta) (hr : Room k X.A)
    (ht : eval (.Call (.Attribute oe m apos) [] [] pos) X.env = (do
      let ov ← eval oe X.env
      standAt apos.atName
      let (f, first) ← holding [ov] (getMethod ov m pl)
      callWith pos f first (backTo pos (starEach [] X.env)) (backToKw pos (keywordEach [] X.env))) := by rfl) :
    PE X (.Call (.Attribute oe m apos) [] [] pos) (tMeth C m sp [] E0 ta tNil) := by
  obtain ⟨f, fd, F, hm, hb⟩ := o.ex
  exact pe_meth0 he o.cl hm F hr hb .nil pass0 ht
theorem pe_cown (o : COwn X.prog X.w X.K X.mg X.base C x k ps sp) (hr : Room (k + 1) X.A) (hg : Gl X x) (ha : PA X (e :: es) t)
    (hdb : (x == ("__debug__" : Str)) = false := by decide) (he : starEach (e :: es) X.env = (false, eval e X.env) :: starEach es X.env := by rfl)
    (hpl : (backTo pos (starEach es X.env)).any (·.1) = false := by rfl) : PE X (.Call (.Name x p) (e :: es) [] pos) (tMake C sp [] E0 t) := by
  obtain ⟨f, fd, F, M, hm, hb⟩ := o.ex
  exact pe_make M F hr hg hm hb .nil pass0 ha hdb he hpl
/-- dict(d) -/
theorem call_dict_of : CallR X (.type "dict") (fun vs H Q => ∃ a kvs, vs = [.ref a] ∧ H a = some (.dK kvs) ∧ ∀ q, H q = none → Q (.ref q) (upd H q (.dK kvs))) := by
  intro pins s σ H vs us Q I r h
  obtain ⟨a, kvs, rfl, hd, q⟩ := h
  obtain ⟨u, rfl, ru⟩ := vals1 r
  cases ru
  exact d_copyOf I (.inl hd) fun q' s' hn I' => ⟨.ref q', _, I', rfl, q q' hn⟩
end
theorem bt_dict : bootBuiltins "dict" = some (.type "dict") := by decide +kernel
/-! ### the fields of a walker's stand -/
theorem lk_h {k : Str} {v : V} {l : List (Str × V)} : ((k, v) :: l).lookup k = some v := by simp [List.lookup]
theorem lk_t {k k' : Str} {v : V} {l : List (Str × V)} {o : Option V} (h : ¬ k = k') (e : l.lookup k = o) : ((k', v) :: l).lookup k = o := by
  rw [List.lookup_cons, beq_false_of_ne h]; exact e
theorem pf_h {k : Str} {v u : V} {l : List (Str × V)} : putF k v ((k, u) :: l) = (k, v) :: l := by simp only [putF, if_true]
theorem pf_t {k k' : Str} {v u : V} {l l' : List (Str × V)} (h : ¬ k' = k) (e : putF k v l = l') : putF k v ((k', u) :: l) = (k', u) :: l' := by simp only [putF, if_neg h, e]
theorem pf_n {k : Str} {v : V} : putF k v [] = [(k, v)] := rfl
def sfl (a0 a1 a2 a3 a4 a5 a6 a7 : V) : List (Str × V) := [("pieces", a0), ("passed", a1), ("place", a2), ("worths", a3), ("numbers", a4), ("taken", a5), ("spoken", a6), ("over", a7)]
section
variable {a0 a1 a2 a3 a4 a5 a6 a7 z : V}
theorem lk_pieces : (sfl a0 a1 a2 a3 a4 a5 a6 a7).lookup ("pieces" : Str) = some a0 := lk_h
theorem lk_passed : (sfl a0 a1 a2 a3 a4 a5 a6 a7).lookup ("passed" : Str) = some a1 := (lk_t (by decide +kernel) lk_h)
theorem lk_place : (sfl a0 a1 a2 a3 a4 a5 a6 a7).lookup ("place" : Str) = some a2 := (lk_t (by decide +kernel) (lk_t (by decide +kernel) lk_h))
theorem lk_worths : (sfl a0 a1 a2 a3 a4 a5 a6 a7).lookup ("worths" : Str) = some a3 := (lk_t (by decide +kernel) (lk_t (by decide +kernel) (lk_t (by decide +kernel) lk_h)))
theorem lk_numbers : (sfl a0 a1 a2 a3 a4 a5 a6 a7).lookup ("numbers" : Str) = some a4 := (lk_t (by decide +kernel) (lk_t (by decide +kernel) (lk_t (by decide +kernel) (lk_t (by decide +kernel) lk_h))))
theorem lk_taken : (sfl a0 a1 a2 a3 a4 a5 a6 a7).lookup ("taken" : Str) = some a5 := (lk_t (by decide +kernel) (lk_t (by decide +kernel) (lk_t (by decide +kernel) (lk_t (by decide +kernel) (lk_t (by decide +kernel) lk_h)))))
theorem lk_spoken : (sfl a0 a1 a2 a3 a4 a5 a6 a7).lookup ("spoken" : Str) = some a6 := (lk_t (by decide +kernel) (lk_t (by decide +kernel) (lk_t (by decide +kernel) (lk_t (by decide +kernel) (lk_t (by decide +kernel) (lk_t (by decide +kernel) lk_h))))))
theorem lk_over : (sfl a0 a1 a2 a3 a4 a5 a6 a7).lookup ("over" : Str) = some a7 := (lk_t (by decide +kernel) (lk_t (by decide +kernel) (lk_t (by decide +kernel) (lk_t (by decide +kernel) (lk_t (by decide +kernel) (lk_t (by decide +kernel) (lk_t (by decide +kernel) lk_h)))))))
theorem no_worth : (sfl a0 a1 a2 a3 a4 a5 a6 a7).lookup ("worth" : Str) = none := (lk_t (by decide +kernel) (lk_t (by decide +kernel) (lk_t (by decide +kernel) (lk_t (by decide +kernel) (lk_t (by decide +kernel) (lk_t (by decide +kernel) (lk_t (by decide +kernel) (lk_t (by decide +kernel) rfl))))))))
theorem no_coming : (sfl a0 a1 a2 a3 a4 a5 a6 a7).lookup ("coming" : Str) = none := (lk_t (by decide +kernel) (lk_t (by decide +kernel) (lk_t (by decide +kernel) (lk_t (by decide +kernel) (lk_t (by decide +kernel) (lk_t (by decide +kernel) (lk_t (by decide +kernel) (lk_t (by decide +kernel) rfl))))))))
theorem no_lacks_number : (sfl a0 a1 a2 a3 a4 a5 a6 a7).lookup ("lacks_number" : Str) = none := (lk_t (by decide +kernel) (lk_t (by decide +kernel) (lk_t (by decide +kernel) (lk_t (by decide +kernel) (lk_t (by decide +kernel) (lk_t (by decide +kernel) (lk_t (by decide +kernel) (lk_t (by decide +kernel) rfl))))))))
theorem no_is_held : (sfl a0 a1 a2 a3 a4 a5 a6 a7).lookup ("is_held" : Str) = none := (lk_t (by decide +kernel) (lk_t (by decide +kernel) (lk_t (by decide +kernel) (lk_t (by decide +kernel) (lk_t (by decide +kernel) (lk_t (by decide +kernel) (lk_t (by decide +kernel) (lk_t (by decide +kernel) rfl))))))))
theorem no_take_number : (sfl a0 a1 a2 a3 a4 a5 a6 a7).lookup ("take_number" : Str) = none := (lk_t (by decide +kernel) (lk_t (by decide +kernel) (lk_t (by decide +kernel) (lk_t (by decide +kernel) (lk_t (by decide +kernel) (lk_t (by decide +kernel) (lk_t (by decide +kernel) (lk_t (by decide +kernel) rfl))))))))
theorem no_do_deed : (sfl a0 a1 a2 a3 a4 a5 a6 a7).lookup ("do_deed" : Str) = none := (lk_t (by decide +kernel) (lk_t (by decide +kernel) (lk_t (by decide +kernel) (lk_t (by decide +kernel) (lk_t (by decide +kernel) (lk_t (by decide +kernel) (lk_t (by decide +kernel) (lk_t (by decide +kernel) rfl))))))))
theorem no_come_to : (sfl a0 a1 a2 a3 a4 a5 a6 a7).lookup ("come_to" : Str) = none := (lk_t (by decide +kernel) (lk_t (by decide +kernel) (lk_t (by decide +kernel) (lk_t (by decide +kernel) (lk_t (by decide +kernel) (lk_t (by decide +kernel) (lk_t (by decide +kernel) (lk_t (by decide +kernel) rfl))))))))
theorem no_do_end : (sfl a0 a1 a2 a3 a4 a5 a6 a7).lookup ("do_end" : Str) = none := (lk_t (by decide +kernel) (lk_t (by decide +kernel) (lk_t (by decide +kernel) (lk_t (by decide +kernel) (lk_t (by decide +kernel) (lk_t (by decide +kernel) (lk_t (by decide +kernel) (lk_t (by decide +kernel) rfl))))))))
theorem no_do_step : (sfl a0 a1 a2 a3 a4 a5 a6 a7).lookup ("do_step" : Str) = none := (lk_t (by decide +kernel) (lk_t (by decide +kernel) (lk_t (by decide +kernel) (lk_t (by decide +kernel) (lk_t (by decide +kernel) (lk_t (by decide +kernel) (lk_t (by decide +kernel) (lk_t (by decide +kernel) rfl))))))))
theorem pf_place : putF "place" z (sfl a0 a1 a2 a3 a4 a5 a6 a7) = sfl a0 a1 z a3 a4 a5 a6 a7 := (pf_t (by decide +kernel) (pf_t (by decide +kernel) pf_h))
theorem pf_taken : putF "taken" z (sfl a0 a1 a2 a3 a4 a5 a6 a7) = sfl a0 a1 a2 a3 a4 z a6 a7 := (pf_t (by decide +kernel) (pf_t (by decide +kernel) (pf_t (by decide +kernel) (pf_t (by decide +kernel) (pf_t (by decide +kernel) pf_h)))))
theorem pf_over : putF "over" z (sfl a0 a1 a2 a3 a4 a5 a6 a7) = sfl a0 a1 a2 a3 a4 a5 a6 z := (pf_t (by decide +kernel) (pf_t (by decide +kernel) (pf_t (by decide +kernel) (pf_t (by decide +kernel) (pf_t (by decide +kernel) (pf_t (by decide +kernel) (pf_t (by decide +kernel) pf_h)))))))
theorem mk_pieces : putF "pieces" a0 ([] : List (Str × V)) = ([("pieces", a0)] : List (Str × V)) := pf_n
theorem mk_passed : putF "passed" a1 ([("pieces", a0)] : List (Str × V)) = ([("pieces", a0), ("passed", a1)] : List (Str × V)) := (pf_t (by decide +kernel) pf_n)
theorem mk_place : putF "place" a2 ([("pieces", a0), ("passed", a1)] : List (Str × V)) = ([("pieces", a0), ("passed", a1), ("place", a2)] : List (Str × V)) := (pf_t (by decide +kernel) (pf_t (by decide +kernel) pf_n))
theorem mk_worths : putF "worths" a3 ([("pieces", a0), ("passed", a1), ("place", a2)] : List (Str × V)) = ([("pieces", a0), ("passed", a1), ("place", a2), ("worths", a3)] : List (Str × V)) := (pf_t (by decide +kernel) (pf_t (by decide +kernel) (pf_t (by decide +kernel) pf_n)))
theorem mk_numbers : putF "numbers" a4 ([("pieces", a0), ("passed", a1), ("place", a2), ("worths", a3)] : List (Str × V)) = ([("pieces", a0), ("passed", a1), ("place", a2), ("worths", a3), ("numbers", a4)] : List (Str × V)) := (pf_t (by decide +kernel) (pf_t (by decide +kernel) (pf_t (by decide +kernel) (pf_t (by decide +kernel) pf_n))))
theorem mk_taken : putF "taken" a5 ([("pieces", a0), ("passed", a1), ("place", a2), ("worths", a3), ("numbers", a4)] : List (Str × V)) = ([("pieces", a0), ("passed", a1), ("place", a2), ("worths", a3), ("numbers", a4), ("taken", a5)] : List (Str × V)) := (pf_t (by decide +kernel) (pf_t (by decide +kernel) (pf_t (by decide +kernel) (pf_t (by decide +kernel) (pf_t (by decide +kernel) pf_n)))))
theorem mk_spoken : putF "spoken" a6 ([("pieces", a0), ("passed", a1), ("place", a2), ("worths", a3), ("numbers", a4), ("taken", a5)] : List (Str × V)) = ([("pieces", a0), ("passed", a1), ("place", a2), ("worths", a3), ("numbers", a4), ("taken", a5), ("spoken", a6)] : List (Str × V)) := (pf_t (by decide +kernel) (pf_t (by decide +kernel) (pf_t (by decide +kernel) (pf_t (by decide +kernel) (pf_t (by decide +kernel) (pf_t (by decide +kernel) pf_n))))))
theorem mk_over : putF "over" a7 ([("pieces", a0), ("passed", a1), ("place", a2), ("worths", a3), ("numbers", a4), ("taken", a5), ("spoken", a6)] : List (Str × V)) = ([("pieces", a0), ("passed", a1), ("place", a2), ("worths", a3), ("numbers", a4), ("taken", a5), ("spoken", a6), ("over", a7)] : List (Str × V)) := (pf_t (by decide +kernel) (pf_t (by decide +kernel) (pf_t (by decide +kernel) (pf_t (by decide +kernel) (pf_t (by decide +kernel) (pf_t (by decide +kernel) (pf_t (by decide +kernel) pf_n)))))))
end
structure StT (K : PySem.W.Frag) (C : Addr) : Prop where
  cl : Cls K C
  pieces : NoAttr K C "pieces"
  passed : NoAttr K C "passed"
  place : NoAttr K C "place"
  worths : NoAttr K C "worths"
  numbers : NoAttr K C "numbers"
  taken : NoAttr K C "taken"
  spoken : NoAttr K C "spoken"
  over : NoAttr K C "over"
/-- the stand as it lies: the list of pieces passed at pl, the worths at d, the numbers at nl, what was spoken at sl -/
structure SAt (C : Addr) (H : Hp) (p pl d nl sl : Addr) (plv : V) (nums : List Int) (S : RS) (m : Nat) : Prop where
  ob : ∃ dx, H p = some (.ins C dx (sfl plv (.ref pl) (.int S.place) (.ref d) (.ref nl) (.int S.taken) (.ref sl) (.bl (decide (S.word = "stop")))))
  passed : H pl = some (.lst (S.been.map fun k => V.int (k : Nat)))
  last : ∃ xs, S.been = xs ++ [S.piece]
  dict : ∃ kvs, H d = some (.dK kvs) ∧ DW kvs S.w ∧ kvs.length ≤ m
  nums : H nl = some (.lst (nums.map V.int))
  spoken : H sl = some (.lst (S.told.map V.int))
  ne : pl ≠ nl ∧ pl ≠ sl ∧ nl ≠ sl
  few : S.told.length ≤ m ∧ S.been.length ≤ m + 1
/-- but the four -/
def But4 (p pl d sl : Addr) (H H' : Hp) : Prop := ∀ c o, H c = some o → c ≠ p → c ≠ pl → c ≠ d → c ≠ sl → H' c = some o
theorem But4.refl (p pl d sl : Addr) (H : Hp) : But4 p pl d sl H H := fun _ _ h _ _ _ _ => h
theorem But4.trans {p pl d sl : Addr} {H H1 H2 : Hp} (a : But4 p pl d sl H H1) (b : But4 p pl d sl H1 H2) : But4 p pl d sl H H2 := fun c o h n1 n2 n3 n4 => b c o (a c o h n1 n2 n3 n4) n1 n2 n3 n4
theorem But4.put_p {p pl d sl : Addr} {H : Hp} {o : HO} : But4 p pl d sl H (upd H p o) := fun c u h n _ _ _ => by rw [upd_ne n]; exact h
theorem But4.put_pl {p pl d sl : Addr} {H : Hp} {o : HO} : But4 p pl d sl H (upd H pl o) := fun c u h _ n _ _ => by rw [upd_ne n]; exact h
theorem But4.put_d {p pl d sl : Addr} {H : Hp} {o : HO} : But4 p pl d sl H (upd H d o) := fun c u h _ _ n _ => by rw [upd_ne n]; exact h
theorem But4.put_sl {p pl d sl : Addr} {H : Hp} {o : HO} : But4 p pl d sl H (upd H sl o) := fun c u h _ _ _ n => by rw [upd_ne n]; exact h
theorem But4.of_same {p pl d sl : Addr} {H H' : Hp} (h : Same H H') : But4 p pl d sl H H' := fun c o e _ _ _ _ => h c o e
section
variable {C : Addr} {H H' : Hp} {p pl d nl sl : Addr} {plv : V} {nums : List Int} {S : RS} {m : Nat}
theorem SAt.nes (A : SAt C H p pl d nl sl plv nums S m) : p ≠ pl ∧ p ≠ d ∧ p ≠ nl ∧ p ≠ sl ∧ d ≠ pl ∧ d ≠ nl ∧ d ≠ sl := by
  obtain ⟨dx, h1⟩ := A.ob
  obtain ⟨kvs, h2, _⟩ := A.dict
  refine ⟨ne_of h1 A.passed ?_, ne_of h1 h2 ?_, ne_of h1 A.nums ?_, ne_of h1 A.spoken ?_, ne_of h2 A.passed ?_, ne_of h2 A.nums ?_, ne_of h2 A.spoken ?_⟩ <;> (intro z; cases z)
theorem SAt.tup {c : Addr} {xs : List V} (A : SAt C H p pl d nl sl plv nums S m) (b : But4 p pl d sl H H') (h : H c = some (.tup xs)) : H' c = some (.tup xs) := by
  obtain ⟨dx, h1⟩ := A.ob
  obtain ⟨kvs, h2, _⟩ := A.dict
  refine b c _ h (ne_of h h1 ?_) (ne_of h A.passed ?_) (ne_of h h2 ?_) (ne_of h A.spoken ?_) <;> (intro z; cases z)
theorem SAt.rd {x : V} {dd : PyData} (A : SAt C H p pl d nl sl plv nums S m) (b : But4 p pl d sl H H') (r : RdD H x dd) (n : noList dd = true) : RdD H' x dd :=
  r.tups (fun c xs e => A.tup b e) n
theorem SAt.same (A : SAt C H p pl d nl sl plv nums S m) (s : Same H H') : SAt C H' p pl d nl sl plv nums S m := by
  obtain ⟨⟨dx, h1⟩, h2, h3, ⟨kvs, h4, h5⟩, h6, h7, h8, h9⟩ := A
  exact ⟨⟨dx, s _ _ h1⟩, s _ _ h2, h3, ⟨kvs, s _ _ h4, h5⟩, s _ _ h6, s _ _ h7, h8, h9⟩
/-- the object is written, its fields alone -/
theorem SAt.obj {dx : Addr} {S' : RS} {fs : List (Str × V)} (A : SAt C H p pl d nl sl plv nums S m)
    (e : fs = sfl plv (.ref pl) (.int S'.place) (.ref d) (.ref nl) (.int S'.taken) (.ref sl) (.bl (decide (S'.word = "stop"))))
    (e1 : S'.been = S.been) (e2 : S'.piece = S.piece) (e3 : S'.w = S.w) (e4 : S'.told = S.told) : SAt C (upd H p (.ins C dx fs)) p pl d nl sl plv nums S' m := by
  obtain ⟨n1, n2, n3, n4, _⟩ := A.nes
  obtain ⟨kvs, h4, h5⟩ := A.dict
  subst e
  refine ⟨⟨dx, upd_same⟩, by rw [upd_ne n1.symm, e1]; exact A.passed, by rw [e1, e2]; exact A.last, ⟨kvs, by rw [upd_ne n2.symm]; exact h4, by rw [e3]; exact h5⟩, by rw [upd_ne n3.symm]; exact A.nums, by rw [upd_ne n4.symm, e4]; exact A.spoken, A.ne, by rw [e1, e4]; exact A.few⟩
/-- the worths are written -/
theorem SAt.worths {kvs : List (Key × V)} {x : Str} {n : Int} (A : SAt C H p pl d nl sl plv nums S m) (h : H d = some (.dK kvs)) (dw : DW kvs S.w) (hl : kvs.length ≤ m) :
    SAt C (upd H d (.dK (putK kvs (Sum.inr x) (.int n)))) p pl d nl sl plv nums { S with w := setW S.w x n } (m + 1) := by
  obtain ⟨n1, n2, n3, n4, n5, n6, n7⟩ := A.nes
  obtain ⟨dx, h1⟩ := A.ob
  refine ⟨⟨dx, by rw [upd_ne n2]; exact h1⟩, by rw [upd_ne n5.symm]; exact A.passed, A.last, ⟨_, upd_same, dw.put x n, ?_⟩, by rw [upd_ne n6.symm]; exact A.nums, by rw [upd_ne n7.symm]; exact A.spoken, A.ne, ⟨Nat.le_succ_of_le A.few.1, Nat.le_succ_of_le A.few.2⟩⟩
  have := length_putK kvs (Sum.inr x : Key) (V.int n)
  omega
/-- more is spoken -/
theorem SAt.speak {n : Int} (A : SAt C H p pl d nl sl plv nums S m) : SAt C (upd H sl (.lst (S.told.map V.int ++ [.int n]))) p pl d nl sl plv nums { S with told := S.told ++ [n] } (m + 1) := by
  obtain ⟨n1, n2, n3, n4, n5, n6, n7⟩ := A.nes
  obtain ⟨dx, h1⟩ := A.ob
  obtain ⟨kvs, h4, h5, h6⟩ := A.dict
  refine ⟨⟨dx, by rw [upd_ne n4]; exact h1⟩, by rw [upd_ne A.ne.2.1]; exact A.passed, A.last, ⟨kvs, by rw [upd_ne n7]; exact h4, h5, Nat.le_succ_of_le h6⟩, by rw [upd_ne A.ne.2.2]; exact A.nums, by rw [upd_same, List.map_append]; rfl, A.ne, ?_, Nat.le_succ_of_le A.few.2⟩
  have := A.few.1
  show (S.told ++ [n]).length ≤ m + 1
  rw [List.length_append]
  exact Nat.succ_le_succ this
/-- a piece more -/
theorem SAt.come {q : Nat} (A : SAt C H p pl d nl sl plv nums S m) : SAt C (upd H pl (.lst ((S.been.map fun k => V.int (k : Nat)) ++ [.int q]))) p pl d nl sl plv nums { S with piece := q, been := S.been ++ [q] } (m + 1) := by
  obtain ⟨n1, n2, n3, n4, n5, n6, n7⟩ := A.nes
  obtain ⟨dx, h1⟩ := A.ob
  obtain ⟨kvs, h4, h5, h6⟩ := A.dict
  refine ⟨⟨dx, by rw [upd_ne n1]; exact h1⟩, by rw [upd_same, List.map_append]; rfl, ⟨S.been, rfl⟩, ⟨kvs, by rw [upd_ne n5]; exact h4, h5, Nat.le_succ_of_le h6⟩, by rw [upd_ne A.ne.1.symm]; exact A.nums, by rw [upd_ne A.ne.2.1.symm]; exact A.spoken, A.ne, Nat.le_succ_of_le A.few.1, ?_⟩
  have := A.few.2
  show (S.been ++ [q]).length ≤ m + 1 + 1
  rw [List.length_append]
  exact Nat.succ_le_succ this
theorem SAt.mono {m' : Nat} (A : SAt C H p pl d nl sl plv nums S m) (h : m ≤ m') : SAt C H p pl d nl sl plv nums S m' := by
  obtain ⟨h1, h2, h3, ⟨kvs, h4, h5, h6⟩, h7, h8, h9, h10⟩ := A
  exact ⟨h1, h2, h3, ⟨kvs, h4, h5, Nat.le_trans h6 h⟩, h7, h8, h9, Nat.le_trans h10.1 h, Nat.le_trans h10.2 (Nat.succ_le_succ h)⟩
/-- where it is -/
theorem SAt.at_last (A : SAt C H p pl d nl sl plv nums S m) : atI (S.been.map fun k => V.int (k : Nat)) (-1) = some (.int S.piece) := by
  obtain ⟨xs, e⟩ := A.last
  rw [e]
  simp only [List.map_append, List.map_cons, List.map_nil]
  unfold atI ixN
  simp
  rw [if_pos (by omega)]
  have e1 : (-1 + ((xs.length : Int) + 1)).toNat = xs.length := by omega
  rw [e1]
  simp
end
/-! ### the promises -/
def spWorth (C : Addr) : Sp := fun vs H Q _ => ∃ (p pl d nl sl : Addr) (plv : V) (nums : List Int) (S : RS) (m : Nat) (x : Str), vs = [.ref p, .str x] ∧ SAt C H p pl d nl sl plv nums S m ∧ Q (.int (S.w x)) H
/-- what comes next: a deed or the end -/
inductive Nx (H : Hp) (ds : List Deed) (e : End) (i : Nat) (v : V) : Prop
  | deed (dd : Deed) (q : Addr) (h : ds[i]? = some dd) (hv : v = .ref q) (hq : H q = some (.tup (vDeed dd)))
  | end_ (q : Addr) (h : ds[i]? = none) (hv : v = .ref q) (hq : H q = some (.tup (vEnd e)))
def spComing (C : Addr) : Sp := fun vs H Q _ => ∃ (p pl d nl sl : Addr) (plv : V) (nums : List Int) (S : RS) (m : Nat) (ps : List Piece) (ds : List Deed) (e : End), vs = [.ref p] ∧ SAt C H p pl d nl sl plv nums S m ∧ RdD H plv (dPlan ps) ∧ ps[S.piece]? = some (ds, e) ∧
  ∀ v, Nx H ds e S.place v → Q v H
def isRead : Deed → Bool
  | .read _ => true
  | _ => false
def lackB (ps : List Piece) (nums : List Int) (S : RS) : Bool := match ps[S.piece]? with
  | none => false
  | some (ds, _) => match ds[S.place]? with
    | some dd => isRead dd && decide (S.taken = nums.length)
    | none => false
def spLacks (C : Addr) : Sp := fun vs H Q _ => ∃ (p pl d nl sl : Addr) (plv : V) (nums : List Int) (S : RS) (m : Nat) (ps : List Piece), vs = [.ref p] ∧ SAt C H p pl d nl sl plv nums S m ∧ RdD H plv (dPlan ps) ∧ S.piece < ps.length ∧ Q (.bl (lackB ps nums S)) H
def spTakeN (C : Addr) : Sp := fun vs H Q _ => ∃ (p pl d nl sl : Addr) (plv : V) (nums : List Int) (S : RS) (m : Nat) (n : Int), vs = [.ref p] ∧ SAt C H p pl d nl sl plv nums S m ∧ nums[S.taken]? = some n ∧
  ∀ H', SAt C H' p pl d nl sl plv nums { S with taken := S.taken + 1 } m → But4 p pl d sl H H' → Q (.int n) H'
def spDoDeed (C : Addr) : Sp := fun vs H Q _ => ∃ (p pl d nl sl q : Addr) (plv : V) (nums : List Int) (S : RS) (m : Nat) (dd : Deed), vs = [.ref p, .ref q] ∧ SAt C H p pl d nl sl plv nums S m ∧ H q = some (.tup (vDeed dd)) ∧ (isRead dd = true → S.taken < nums.length) ∧ m ≤ 10000 ∧
  ∀ H', SAt C H' p pl d nl sl plv nums (stepD nums S dd) (m + 1) → But4 p pl d sl H H' → Q .non H'
def spCome (C : Addr) : Sp := fun vs H Q _ => ∃ (p pl d nl sl : Addr) (plv : V) (nums : List Int) (S : RS) (m n : Nat), vs = [.ref p, .int n] ∧ SAt C H p pl d nl sl plv nums S m ∧ m ≤ 10000 ∧
  ∀ H', SAt C H' p pl d nl sl plv nums { S with piece := n, place := 0, been := S.been ++ [n] } (m + 1) → But4 p pl d sl H H' → Q .non H'
def spDoEnd (C : Addr) : Sp := fun vs H Q _ => ∃ (p pl d nl sl q : Addr) (plv : V) (nums : List Int) (S : RS) (m : Nat) (e : End), vs = [.ref p, .ref q] ∧ SAt C H p pl d nl sl plv nums S m ∧ H q = some (.tup (vEnd e)) ∧ m ≤ 10000 ∧
  ∀ H', SAt C H' p pl d nl sl plv nums (stepE S e) (m + 1) → But4 p pl d sl H H' → Q .non H'
def spDoStep (C : Addr) : Sp := fun vs H Q _ => ∃ (p pl d nl sl : Addr) (plv : V) (nums : List Int) (S : RS) (m : Nat) (ps : List Piece), vs = [.ref p] ∧ SAt C H p pl d nl sl plv nums S m ∧ RdD H plv (dPlan ps) ∧ S.piece < ps.length ∧ S.taken ≤ nums.length ∧ lackB ps nums S = false ∧ m ≤ 10000 ∧
  ∀ H', SAt C H' p pl d nl sl plv nums (stepF ps nums S) (m + 1) → But4 p pl d sl H H' → Q .non H'
/-! ### many steps -/
def onF (ps : List Piece) (nums : List Int) (S : RS) : RS := if S.word = "on" then stepF ps nums S else S
def walkF (ps : List Piece) (nums : List Int) : Nat → RS → RS
  | 0, S => S
  | n + 1, S => onF ps nums (walkF ps nums n S)
/-- no number lacks: the word is on, or a stop was done -/
theorem lack_not {ps : List Piece} {nums : List Int} {S : RS} (h : lackB ps nums S = false) (hw : S.word = "on") (ht : S.taken ≤ nums.length) : (stepF ps nums S).word = "on" ∨ (stepF ps nums S).word = "stop" := by
  unfold lackB at h
  unfold stepF
  cases hx : ps[S.piece]? with
  | none => exact .inl hw
  | some pc =>
    obtain ⟨ds, e⟩ := pc
    rw [hx] at h
    dsimp only at h ⊢
    cases hd : ds[S.place]? with
    | none =>
      dsimp only
      cases e with
      | stop => exact .inr rfl
      | go q => exact .inl hw
      | tst b x n q r => exact .inl hw
    | some dd =>
      rw [hd] at h
      dsimp only at h ⊢
      cases dd with
      | read x =>
        have hlt : S.taken < nums.length := by
          have : ¬ S.taken = nums.length := of_decide_eq_false (by simpa [isRead] using h)
          omega
        have hn : nums[S.taken]? = some nums[S.taken] := by simp [hlt]
        show (stepD nums S (.read x)).word = _ ∨ _
        unfold stepD
        rw [hn]
        exact .inl hw
      | put x n => exact .inl hw
      | copy x y => exact .inl hw
      | add x n => exact .inl hw
      | tell x => exact .inl hw
def start0 (pc : Nat) (w : Str → Int) : RS := ⟨pc, 0, w, 0, [], "on", [pc]⟩
/-! ### held: a stop was done, or a number lacks -/
def heldB (ps : List Piece) (nums : List Int) (S : RS) : Bool := decide (S.word = "stop") || lackB ps nums S
def goF (ps : List Piece) (nums : List Int) : Nat → RS → RS
  | 0, S => S
  | n + 1, S => if heldB ps nums (goF ps nums n S) = true then goF ps nums n S else stepF ps nums (goF ps nums n S)
def cntF (ps : List Piece) (nums : List Int) : Nat → RS → Nat
  | 0, _ => 0
  | n + 1, S => if heldB ps nums (goF ps nums n S) = true then cntF ps nums n S else cntF ps nums n S + 1
theorem go_not {ps : List Piece} {nums : List Int} {n : Nat} {S : RS} (h : heldB ps nums (goF ps nums n S) = false) : goF ps nums (n + 1) S = stepF ps nums (goF ps nums n S) ∧ cntF ps nums (n + 1) S = cntF ps nums n S + 1 := by
  have h' : ¬ heldB ps nums (goF ps nums n S) = true := by rw [h]; decide
  exact ⟨if_neg h', if_neg h'⟩
theorem go_held {ps : List Piece} {nums : List Int} {n : Nat} {S : RS} (h : heldB ps nums (goF ps nums n S) = true) : ∀ k, goF ps nums (n + k) S = goF ps nums n S ∧ cntF ps nums (n + k) S = cntF ps nums n S
  | 0 => ⟨rfl, rfl⟩
  | k + 1 => by
    have ih := go_held h k
    have h' : heldB ps nums (goF ps nums (n + k) S) = true := by rw [ih.1]; exact h
    exact ⟨(if_pos h').trans ih.1, (if_pos h').trans ih.2⟩
theorem cnt_le {ps : List Piece} {nums : List Int} {S : RS} : ∀ n, cntF ps nums n S ≤ n
  | 0 => Nat.le_refl _
  | n + 1 => by
    have ih := cnt_le (ps := ps) (nums := nums) (S := S) n
    unfold cntF
    split <;> omega
theorem go_in {ps : List Piece} {nums : List Int} {S : RS} (hp : InPlan ps) (h : S.piece < ps.length) (ht : S.taken ≤ nums.length) : ∀ n, (goF ps nums n S).piece < ps.length ∧ (goF ps nums n S).taken ≤ nums.length
  | 0 => ⟨h, ht⟩
  | n + 1 => by
    have ih := go_in hp h ht n
    unfold goF
    split
    · exact ih
    · exact stepF_in hp ih.1 ih.2
def spHeld (C : Addr) : Sp := fun vs H Q _ => ∃ (p pl d nl sl : Addr) (plv : V) (nums : List Int) (S : RS) (m : Nat) (ps : List Piece), vs = [.ref p] ∧ SAt C H p pl d nl sl plv nums S m ∧ RdD H plv (dPlan ps) ∧ S.piece < ps.length ∧ Q (.bl (heldB ps nums S)) H
/-- the stand at the end of the steps, and how many were done -/
def spGoOn (C : Addr) : Sp := fun vs H Q _ => ∃ (p pl d nl sl : Addr) (plv : V) (nums : List Int) (S : RS) (m n : Nat) (ps : List Piece), vs = [.ref p, .int n] ∧ SAt C H p pl d nl sl plv nums S m ∧ RdD H plv (dPlan ps) ∧ InPlan ps ∧ S.piece < ps.length ∧ S.taken ≤ nums.length ∧ m + n ≤ 10000 ∧
  ∀ H', SAt C H' p pl d nl sl plv nums (goF ps nums n S) (m + cntF ps nums n S) → But4 p pl d sl H H' → Q (.int (cntF ps nums n S : Nat)) H'
def spInitS (C : Addr) : Sp := fun vs H Q _ => ∃ (p dx d0 np : Addr) (plv : V) (pc : Nat) (kvs : List (Key × V)) (w : Str → Int) (nums : List Int), vs = [.ref p, plv, .int pc, .ref d0, .ref np] ∧ H p = some (.ins C dx []) ∧ H d0 = some (.dK kvs) ∧ DW kvs w ∧ H np = some (.tup (nums.map V.int)) ∧
  ∀ (pl d nl sl : Addr) (H' : Hp), SAt C H' p pl d nl sl plv nums (start0 pc w) kvs.length → (∀ c o, H c = some o → c ≠ p → H' c = some o) → H pl = none → H d = none → H nl = none → H sl = none → Q .non H'
def dRun (S : RS) : PyData := .tuple [.str S.word, .tuple (S.told.map PyData.int)]
def spRunAt : Sp := fun vs H Q _ => ∃ (d0 np : Addr) (plv : V) (pc n : Nat) (kvs : List (Key × V)) (w : Str → Int) (nums : List Int) (ps : List Piece), vs = [plv, .int pc, .ref d0, .ref np, .int n] ∧ RdD H plv (dPlan ps) ∧ InPlan ps ∧ pc < ps.length ∧ H d0 = some (.dK kvs) ∧ DW kvs w ∧ H np = some (.tup (nums.map V.int)) ∧ kvs.length ≤ 1000 ∧ n ≤ 2000 ∧
  ∀ v H', RdD H' v (dRun (walkF ps nums n (start0 pc w))) → Same H H' → Q v H'
def spRun : Sp := fun vs H Q _ => ∃ (np : Addr) (plv : V) (n : Nat) (nums : List Int) (ps : List Piece), vs = [plv, .ref np, .int n] ∧ RdD H plv (dPlan ps) ∧ InPlan ps ∧ 0 < ps.length ∧ H np = some (.tup (nums.map V.int)) ∧ n ≤ 2000 ∧
  ∀ v H', RdD H' v (dRun (walkF ps nums n (start0 0 fun _ => 0))) → Same H H' → Q v H'
def dSeen (S : RS) : PyData := .tuple (S.been.map fun k => PyData.int (k : Nat))
def spSeen : Sp := fun vs H Q _ => ∃ (np : Addr) (plv : V) (n : Nat) (nums : List Int) (ps : List Piece), vs = [plv, .ref np, .int n] ∧ RdD H plv (dPlan ps) ∧ InPlan ps ∧ 0 < ps.length ∧ H np = some (.tup (nums.map V.int)) ∧ n ≤ 2000 ∧
  ∀ v H', RdD H' v (dSeen (walkF ps nums n (start0 0 fun _ => 0))) → Same H H' → Q v H'
/-- of one number the answer is what the test says -/
theorem ans_pt {b : Bool} {u n : Int} : ansF (partF (wT b) (some u) (some u) n true) (partF (wT b) (some u) (some u) n false) = (if ansT b u n = true then ("yes" : Str) else ("no" : Str)) := by
  cases b with
  | true =>
    have e1 : ∀ s, partF (wT true) (some u) (some u) n s = lessF (some u) (some u) n s := fun s => by
      unfold partF
      rw [if_pos (show wT true = ("less" : Str) from rfl)]
    have e2 : lessF (some u) (some u) n true = belowF (some u) (some u) n := by
      unfold lessF
      rw [if_pos rfl]
    have e3 : lessF (some u) (some u) n false = fromF (some u) (some u) n := by
      unfold lessF
      rw [if_neg (by decide)]
    rw [e1, e1, e2, e3]
    by_cases h : u < n
    · have hb : botF (some u) n = n := by
        show (if n > u then n else u) = n
        exact if_pos h
      have f1 : fromF (some u) (some u) n = none := by
        show (if u < botF (some u) n then (none : Rs) else some (some (botF (some u) n), some u)) = none
        rw [hb, if_pos h]
      have f2 : ansT true u n = true := by
        unfold ansT
        rw [if_pos rfl]
        exact decide_eq_true h
      rw [f1, if_pos f2]
      rfl
    · have hb : botF (some u) n = u := by
        show (if n > u then n else u) = u
        exact if_neg h
      have ht : topF (some u) n = n - 1 := by
        show (if n - 1 < u then n - 1 else u) = n - 1
        exact if_pos (by omega)
      have f1 : fromF (some u) (some u) n = some (some u, some u) := by
        show (if u < botF (some u) n then (none : Rs) else some (some (botF (some u) n), some u)) = _
        rw [hb, if_neg (Int.lt_irrefl u)]
      have f3 : belowF (some u) (some u) n = none := by
        show (if topF (some u) n < u then (none : Rs) else some (some u, some (topF (some u) n))) = none
        rw [ht, if_pos (by omega)]
      have f2 : ansT true u n = false := by
        unfold ansT
        rw [if_pos rfl]
        exact decide_eq_false h
      rw [f1, f3, f2]
      rfl
  | false =>
    have e1 : ∀ s, partF (wT false) (some u) (some u) n s = isF (some u) (some u) n s := fun s => by
      unfold partF
      rw [if_neg (show ¬ wT false = ("less" : Str) from ne_is_less)]
    have e2 : isF (some u) (some u) n true = atF (some u) (some u) n := by
      unfold isF
      rw [if_pos rfl]
    have e3 : isF (some u) (some u) n false = besF (some u) (some u) n := by
      unfold isF
      rw [if_neg (by decide)]
    rw [e1, e1, e2, e3]
    by_cases h : u = n
    · subst h
      have f1 : besF (some u) (some u) u = none := by
        unfold besF
        rw [if_pos rfl, if_pos rfl]
      have f2 : ansT false u u = true := by
        unfold ansT
        rw [if_neg (by decide)]
        exact decide_eq_true rfl
      rw [f1, if_pos f2]
      rfl
    · have h1 : ¬ ((some u : Option Int) = some n) := fun z => h (Option.some.inj z)
      have f1 : besF (some u) (some u) n = some (some u, some u) := by
        unfold besF
        rw [if_neg h1, if_neg h1]
      have f3 : atF (some u) (some u) n = none := by
        have hl : liesB n (some u) (some u) = false := by
          show (decide (u ≤ n) && decide (n ≤ u)) = false
          by_cases g : u ≤ n
          · rw [decide_eq_false (show ¬ n ≤ u by omega), Bool.and_false]
          · rw [decide_eq_false g, Bool.false_and]
        unfold atF
        rw [hl, if_neg (by decide)]
      have f2 : ansT false u n = false := by
        unfold ansT
        rw [if_neg (by decide)]
        exact decide_eq_false h
      rw [f1, f3, f2]
      rfl
theorem rd_ints {H : Hp} : ∀ ns : List Int, RdDs H (ns.map V.int) (ns.map PyData.int)
  | [] => .nil
  | n :: ns => .cons (.int n) (rd_ints ns)
theorem two_keep {H1 : Hp} {p q c : Addr} {o o1 o2 : HO} (h : H1 c = some o) (n : c ≠ p) (hq : H1 q = none) : (upd (upd H1 q o1) p o2) c = some o := by
  rw [upd_ne n, upd_ne (ne_of_none h hq)]; exact h
theorem fresh_of {H H1 : Hp} {p q : Addr} {u : HO} (k : ∀ c o, H c = some o → c ≠ p → H1 c = some o) (h1 : H1 p = some u) (hn : H1 q = none) : H q = none ∧ q ≠ p := by
  have n : q ≠ p := fun z => by rw [z, h1] at hn; cases hn
  refine ⟨?_, n⟩
  cases e : H q with
  | none => rfl
  | some o => rw [k q o e n] at hn; cases hn
end L2

set_option Elab.async false
set_option linter.all false
set_option maxRecDepth 100000
namespace HT
open PySem PyProof.Rows PySem.Spec
section
variable {prog : Program} {w : World} {A : Around} {E : Value → Shared → Prop} {s : Shared}
end
end HT
namespace L2
open PySem PySem.Spec PyProof.Rows
section
variable {X : Cx}
theorem call_isiK {K : PySem.W.Frag} (h : X.K = K) : CallR X (.builtin "isinstance") (rIsi K) := by
  subst h
  exact call_isi
/-- t[lo:hi] -/
def rSlTA (K : PySem.W.Frag) : V → Option Int → Option Int → Hp → VK → Prop := fun x lo hi H Q => ∃ a xs, x = .ref a ∧ SqT K H a xs ∧
  ((HT.sIx xs.length 0 lo = 0 ∧ HT.sIx xs.length xs.length hi = xs.length) → Q (.ref a) H) ∧ (¬ (HT.sIx xs.length 0 lo = 0 ∧ HT.sIx xs.length xs.length hi = xs.length) → ∀ p, H p = none → Q (.ref p) (upd H p (.tup (cutV xs lo hi))))
end
theorem at4 {α : Type} {x y z u v : α} {xs : List α} : atI (x :: y :: z :: u :: v :: xs) 4 = some v := atI_nat (j := 4) rfl
theorem StAt.mono {H : Hp} {st d tl bl : Addr} {S : RS} {m m' : Nat} (h : StAt H st d tl bl S m) (le : m ≤ m') : StAt H st d tl bl S m' := by
  obtain ⟨h1, ⟨kvs, h2, h3, h4⟩, h5, h6, h7, h8⟩ := h
  exact ⟨h1, ⟨kvs, h2, h3, Nat.le_trans h4 le⟩, h5, h6, h7, Nat.le_trans h8.1 le, Nat.le_trans h8.2 (Nat.succ_le_succ le)⟩
theorem lay_ints : ∀ ns : List Int, (PyData.tuple (ns.map PyData.int)).canLay0 = true
  | [] => rfl
  | n :: ns => by
    show (true && (PyData.tuple (ns.map PyData.int)).canLay0) = true
    rw [lay_ints ns]; rfl
theorem depA_ints : ∀ ns : List Int, PyData.depthAll (ns.map PyData.int) = 0
  | [] => rfl
  | n :: ns => by
    show max 0 (PyData.depthAll (ns.map PyData.int)) = 0
    rw [depA_ints ns]; rfl
/-- the law's walk -/
def spWalkL : Sp := fun vs H Q _ => ∃ (np : Addr) (plv : V) (n : Nat) (nums : List Int) (ps : List Piece), vs = [plv, .ref np, .int n] ∧ RdD H plv (dPlan ps) ∧ InPlan ps ∧ 0 < ps.length ∧ H np = some (.tup (nums.map V.int)) ∧ n ≤ 2000 ∧
  ∀ st d tl bl H', StAt H' st d tl bl (walkF ps nums n (start0 0 fun _ => 0)) n → Same H H' → Q (.ref st) H'
def spInputL : Sp := fun vs H Q _ => ∃ (b : Addr), vs = [.ref b] ∧ Bag H b ∧ ∀ (t : Addr) (nums : List Int) (H' : Hp), H' t = some (.tup (nums.map V.int)) → Bag H' b → Fix b H H' → Q (.ref t) H'
def spRightL : Sp := fun vs H Q _ => ∃ (np : Addr) (plv : V) (n : Nat) (nums : List Int) (ps : List Piece), vs = [plv, .ref np, .int n] ∧ RdD H plv (dPlan ps) ∧ InPlan ps ∧ 0 < ps.length ∧ H np = some (.tup (nums.map V.int)) ∧ n ≤ 2000 ∧
  ∀ H', Same H H' → Q (.bl true) H'
end L2

set_option Elab.async false
set_option linter.all false
set_option maxRecDepth 100000
namespace L2
open PySem PySem.Spec PyProof.Rows
theorem mix_str_inv {P : Program} {w : World} {x : Str} {v : Value} (h : (mixKind P w).is (Sum.inr x) v = true) : ∃ t, v = .str x t := by
  cases v with
  | str y t =>
    have : y = x := by simpa [mixKind, keyIs, Value.isStrOf] using h
    exact ⟨t, by rw [this]⟩
  | _ => simp [mixKind, keyIs, Value.isStrOf] at h
theorem strsAre_at : ∀ {vs : List Value} {ks : List Str}, vs.length = ks.length → (∀ (j : Nat) (v : Value) (x : Str), vs[j]? = some v → ks[j]? = some x → ∃ t, v = .str x t) → StrsAre vs ks
  | [], [], _, _ => .nil
  | v :: vs, x :: ks, hl, h => by
    obtain ⟨t, rfl⟩ := h 0 v x rfl rfl
    exact .cons x t (strsAre_at (by simpa using hl) fun j v' x' h1 h2 => h (j + 1) v' x' (by simpa using h1) (by simpa using h2))
  | [], _ :: _, hl, _ => by simp at hl
  | _ :: _, [], hl, _ => by simp at hl
section
variable {prog : Program} {w : World} {A : Around} {E : Value → Shared → Prop} {s : Shared}
open PySem.Calls PySem.W in
/-- the items of a source, gathered; the heap has grown -/
theorem gather {T : String} {r d : Addr} {n : Nat} {P : Nat → Value → Prop} {OK : Heap → Prop} {G : List Value → Shared → Prop} (src : KdlSrc prog w T r d n P OK) (calm : A.handled = none) (ok : OK s.heap) (few : n ≤ sizeLine)
    (fin : ∀ (g : Heap) (tk : Nat) (got : Array Value), (∀ b o, s.heap.get? b = some o → g.get? b = some o) → ItemsOf P got n → s.heap.objs.size ≤ g.objs.size → G got.toList { s with heap := g, toks := tk }) :
    wpAny (model prog w) A (collect (.ref r)) G E s := by
  obtain ⟨lt1, lt2⟩ := src.there _ ok
  unfold collect
  refine wpAny_bind (wpAny_runValue (codeAny_builtin entry_proto_collect' ?_))
  rw [Around.under_plainId PySem.F.plain_proto_collect _]
  show wpAny _ A.in1 (newList [] >>= fun z => again (.builtin "list.__iadd__" ⟨[z, .ref r], []⟩)) _ _ s
  refine wpAny_bind (wpAny_newObj_type (wpAny_pure ⟨plainId_quiet PySem.F.plain_list_iadd _, codeAny_builtin entry_list_iadd' ?_⟩))
  rw [Around.under_plainId PySem.F.plain_list_iadd _]
  show wpAny _ A.in1 (Builtin.List.listExtendWith (.ref s.heap.objs.size) (.ref r) (.ref s.heap.objs.size)) _ _ _
  have made : (s.heap.push { cls := .type "list", data := .seq ([] : List Value).toArray }).get? s.heap.objs.size = some { cls := .type "list", data := .seq #[] } := Heap.get?_push_size _ rfl
  have run := kdl_extend (A := A) (s := { s with heap := s.heap.push { cls := .type "list", data := .seq ([] : List Value).toArray } })
    (R := fun (z : Result) (t : Shared) => ∃ (g : Heap) (tk : Nat) (got : Array Value) (c : Nat), z = .ok (.ret (.ref s.heap.objs.size)) ∧ t = { s with heap := g, toks := tk } ∧
      (∀ b o, s.heap.get? b = some o → g.get? b = some o) ∧ g.get? s.heap.objs.size = some { cls := .type "list", dict := none, data := .seq got c, slots := #[] } ∧ ItemsOf P got n)
    src calm (src.keep _ _ ok fun b _ o e => Heap.get?_push_of_some _ e) s.heap.objs.size (Nat.ne_of_gt lt1) (Nat.ne_of_gt lt2) (.ref s.heap.objs.size) 0 made
    (fun g tk got c kept at_ its => ⟨g, tk, got, c, rfl, rfl, fun b o e => kept b o (Nat.ne_of_lt (Heap.lt_size e)) (Heap.get?_push_of_some _ e), at_, its⟩) few
  refine wpAny_mono run (fun z t x => ?_) fun z t ⟨_, _, _, _, bad, _⟩ => by cases bad
  cases z with
  | done f =>
    obtain ⟨g, tk, got, c, e, rfl, kept, at_, its⟩ := x
    cases e
    show wpAny _ A (load s.heap.objs.size >>= _) _ _ _
    exact wpAny_bind (wpAny_load at_ (wpAny_pure (fin g tk got kept its (Nat.le_of_lt (Heap.lt_size at_)))))
  | again more =>
    refine ⟨x.1, codeAny_mono x.2 fun z' t' ⟨g, tk, got, c, e1, e2, kept, at_, its⟩ => ?_⟩
    subst e1 e2
    show wpAny _ A (load s.heap.objs.size >>= _) _ _ _
    exact wpAny_bind (wpAny_load at_ (wpAny_pure (fin g tk got kept its (Nat.le_of_lt (Heap.lt_size at_)))))
theorem sorted_dictS {a : Addr} {kvs : List (Key × Value)} {ks : List Str} {Q : Value → Shared → Prop} (hh : A.handled = none) (lo : (a == sysModules) = false) (dd : s.heap.DictOf (mixKind prog w) a kvs)
    (hk : kvs.map (·.1) = ks.map Sum.inr) (h64 : ks.length < 64)
    (h : ∀ (h' : Heap) (tk : Nat) (D : Addr) (out : Array Value) (ss' : List Str) (e : Nat), (∀ b o, s.heap.get? b = some o → h'.get? b = some o) → s.heap.objs.size ≤ D → h'.get? D = some { cls := .type "list", data := .seq out e } →
      StrsAre out.toList ss' → ss'.Perm ks → sortedS ss' = true → Q (.ref D) { s with heap := h', toks := tk }) :
    wpAny (model prog w) A (call (.builtin "sorted") [.ref a]) Q E s := by
  refine Calls.call_function_entry kind_sorted plain_sorted entry_sorted (args_sorted1 _) ?_
  unfold Builtin.«sorted»
  refine wpAny_bind (m := checkCount "sorted" 1 1 _) (wpAny_pure ?_)
  obtain ⟨ep, hat⟩ := dd.dictAt
  have hlk : kvs.length = ks.length := by have := congrArg List.length hk; simpa using this
  have hs : sizeLine = 16777216 ∨ 64 ≤ sizeLine := .inr (by decide)
  have hz : kvs.length ≤ sizeLine := by rw [hlk]; exact Nat.le_trans (Nat.le_of_lt h64) (by decide)
  refine wpAny_bind (gather (A := A.in1) (PySem.W.kdl_dict (knd := mixKind prog w) (kvs := kvs) (ep := ep) lo) hh hat hz fun h' tk acc hkeep hacc hsz => ?_)
  have hl : acc.toList.length = ks.length := by rw [Array.length_toList, hacc.1, hlk]
  have hS : StrsAre acc.toList ks := strsAre_at hl fun j v x h1 h2 => by
    obtain ⟨k, y, e1, e2⟩ := hacc.2 j v (by rw [← Array.getElem?_toList]; exact h1)
    have e3 : (kvs.map (·.1))[j]? = some k := by rw [List.getElem?_map, e1]; rfl
    rw [hk, List.getElem?_map, h2] at e3
    cases (Option.some.inj e3)
    exact mix_str_inv e2
  refine wpAny_bind (wpAny_newList ?_ (by rw [hl]; exact Nat.le_trans (Nat.le_of_lt h64) (by decide)))
  have hoL : (h'.push (seqObj "list" acc.toList.toArray 0)).get? h'.objs.size = some (seqObj "list" acc.toList.toArray 0) := Heap.get?_push_size _ rfl
  refine wpAny_bind (wpAny_holding (wpAny_call_entry slot_list_sort ⟨_, hoL, rfl⟩ entry_list_sort (list_sort_treeK strKind_oneLt hoL hS.keysOf (fun v₁ v₂ rest e => keyKind_strs (by rw [← e]; exact hS)) (by rw [hl]; exact h64) fun st' a1 a2 => ⟨_, rfl, ?_⟩) (args_list_sort _)))
  obtain ⟨ss', b1, b2, b3⟩ := sorted_out_str hS a1 a2
  obtain ⟨e, he⟩ := sortedHeap_at (out := (arrOf st').map (·.2)) hoL
  refine wpAny_pure ⟨_, rfl, h _ tk _ _ ss' e (fun b o ho => ?_) hsz he b1 b2 b3⟩
  have h1 := hkeep b o ho
  have hlt := Heap.lt_size h1
  rw [sortedHeap_old (Nat.ne_of_lt hlt) (by rw [size_push']; exact Nat.lt_succ_of_lt hlt)]
  exact Heap.get?_push_of_some _ h1
end
theorem valsStr : ∀ {us : List Value} {ys : List Str}, StrsAre us ys → Vals (ys.map V.str) us
  | _, _, .nil => .nil
  | _, _, .cons x t r => .cons ⟨t, rfl⟩ (valsStr r)
section
variable {X : Cx}
/-- sorted(d), keys texts -/
theorem call_sortedD (hc : X.calm = true) : CallR X (.builtin "sorted") (fun vs H Q => ∃ (a : Addr) (kvs : List (Key × V)) (ks : List Str), vs = [.ref a] ∧ H a = some (.dK kvs) ∧ kvs.map (·.1) = ks.map Sum.inr ∧ ks.length < 64 ∧
    ∀ (l : Addr) (ss : List Str), ss.Perm ks → sortedS ss = true → H l = none → Q (.ref l) (upd H l (.lst (ss.map V.str)))) := by
  intro pins s σ H xs us Q I r h
  obtain ⟨a, kvs, ks, rfl, ha, hk, h64, q⟩ := h
  obtain ⟨u, rfl, ru⟩ := vals1 r
  cases (show u = Value.ref a from ru)
  obtain ⟨z, hd, vs, rel, dd⟩ := dk_of I.hok ha
  refine sorted_dictS (I.ok.hd hc) hd dd (by rw [← rel.keys]; exact hk) h64 fun h' tk D out ss' e hkeep hD he hS hp hs => ?_
  have hv : Vals (ss'.map V.str) out.toList := valsStr hS
  refine ⟨.ref D, _, I.laid (t' := tk) (o := .lst (ss'.map V.str)) hkeep hD (show ObjOk X.prog X.w _ h' _ (.lst (ss'.map V.str)) from ⟨?_, out.toList, e, hv, by simpa using he⟩), rfl, q D ss' hp hs (I.hok.fresh hD)⟩
  rw [List.length_map, hp.length_eq]
  exact Nat.le_trans (Nat.le_of_lt h64) (by decide)
end
end L2
namespace L2
open PySem PySem.Spec PyProof.Rows
section
variable {X : Cx}
def rSameD (neg : Bool) : R2 := fun x y H Q => ∃ a b kvs, x = .ref a ∧ y = .ref b ∧ H a = some (.dK kvs) ∧ H b = some (.dK kvs) ∧ (∀ p ∈ kvs, ∃ i, p.2 = V.int i) ∧ Q (.bl (!neg)) H
end
theorem sub_len {α : Type} [DecidableEq α] : ∀ {l m : List α}, l.Nodup → (∀ x ∈ l, x ∈ m) → l.length ≤ m.length
  | [], _, _, _ => Nat.zero_le _
  | x :: l, m, nd, h => by
    rw [List.nodup_cons] at nd
    have hx := h x (List.mem_cons_self ..)
    have h1 := sub_len (l := l) (m := m.erase x) nd.2 fun y hy => (List.mem_erase_of_ne (fun z => nd.1 (by rw [← z]; exact hy))).mpr (h y (List.mem_cons_of_mem _ hy))
    rw [List.length_erase_of_mem hx] at h1
    have h2 : 0 < m.length := List.length_pos_of_mem hx
    show l.length + 1 ≤ m.length
    omega
end L2
namespace L2
open PySem PySem.Spec PyProof.Rows
theorem bt_sorted : bootBuiltins "sorted" = some (.builtin "sorted") := PyProof.Rows.boot_sorted
/-- keys texts out of xs, each once -/
def KOk (xs : List Str) (kvs : List (Key × V)) : Prop := ∃ ks : List Str, kvs.map (·.1) = ks.map Sum.inr ∧ ks.Nodup ∧ ∀ x ∈ ks, x ∈ xs
theorem putK_keys {kvs : List (Key × V)} {k : Key} {v : V} : (putK kvs k v).map (·.1) = kvs.map (·.1) ∧ k ∈ kvs.map (·.1) ∨ (putK kvs k v).map (·.1) = kvs.map (·.1) ++ [k] ∧ ¬ k ∈ kvs.map (·.1) := by
  unfold putK
  by_cases h : (kvs.any fun kv => decide (kv.1 = k)) = true
  · rw [if_pos h]
    refine .inl ⟨?_, ?_⟩
    · rw [List.map_map]
      refine List.map_congr_left fun p _ => ?_
      show (if p.1 = k then (p.1, v) else p).1 = p.1
      split <;> rfl
    · obtain ⟨p, hp, he⟩ := List.any_eq_true.mp h
      exact List.mem_map.mpr ⟨p, hp, of_decide_eq_true he⟩
  · rw [if_neg h]
    refine .inr ⟨by rw [List.map_append]; rfl, fun hm => h ?_⟩
    obtain ⟨p, hp, he⟩ := List.mem_map.mp hm
    exact List.any_eq_true.mpr ⟨p, hp, decide_eq_true he⟩
theorem KOk.put {xs : List Str} {kvs : List (Key × V)} (h : KOk xs kvs) {x : Str} (hx : x ∈ xs) (v : V) : KOk xs (putK kvs (Sum.inr x) v) := by
  obtain ⟨ks, e, nd, hm⟩ := h
  rcases putK_keys (kvs := kvs) (k := (Sum.inr x : Key)) (v := v) with ⟨e1, _⟩ | ⟨e1, hn⟩
  · exact ⟨ks, by rw [e1]; exact e, nd, hm⟩
  · have hx' : ¬ x ∈ ks := fun z => hn (by rw [e]; exact List.mem_map.mpr ⟨x, z, rfl⟩)
    refine ⟨ks ++ [x], by rw [e1, e, List.map_append]; rfl, ?_, fun y hy => ?_⟩
    · rw [List.nodup_append]
      refine ⟨nd, by simp, fun a ha b hb => ?_⟩
      rw [List.mem_singleton] at hb
      subst hb
      exact fun z => hx' (by rw [← z]; exact ha)
    · rcases List.mem_append.mp hy with hy | hy
      · exact hm y hy
      · rw [List.mem_singleton.mp hy]; exact hx
theorem KOk.len {xs : List Str} {kvs : List (Key × V)} (h : KOk xs kvs) : kvs.length ≤ xs.length := by
  obtain ⟨ks, e, nd, hm⟩ := h
  have h1 := sub_len nd hm
  have h2 := congrArg List.length e
  simp only [List.length_map] at h2
  omega
def nameD : Deed → Str
  | .put x _ => x
  | .copy x _ => x
  | .add x _ => x
  | .read x => x
  | .tell x => x
theorem at_nameD (dd : Deed) : atI (vDeed dd) 1 = some (.str (nameD dd)) := by cases dd <;> exact at1
theorem DeedOk.name {xs : List Str} {dd : Deed} (h : DeedOk xs dd) : nameD dd ∈ xs := by
  cases dd with
  | put x n => exact h.1
  | copy x y => exact h.1
  | add x n => exact h.1
  | read x => exact h
  | tell x => exact h
/-- worths off a dict of numbers -/
def wOf (kvs : List (Key × V)) : Str → Int := fun x => match valV kvs (Sum.inr x : Key) with
  | some (.int i) => i
  | _ => 0
def IntsIn (kvs : List (Key × V)) : Prop := ∀ p ∈ kvs, ∃ i, p.2 = V.int i
theorem valV_from {kvs : List (Key × V)} {k : Key} {v : V} (h : valV kvs k = some v) : ∃ p ∈ kvs, p.2 = v := by
  unfold valV at h
  cases e : kvs.find? fun kv => decide (kv.1 = k) with
  | none => rw [e] at h; cases h
  | some p => rw [e] at h; exact ⟨p, List.mem_of_find?_eq_some e, Option.some.inj h⟩
theorem IntsIn.dw {kvs : List (Key × V)} (h : IntsIn kvs) : DW kvs (wOf kvs) := fun x => by
  unfold wOf
  cases e : valV kvs (Sum.inr x : Key) with
  | none => rfl
  | some v =>
    obtain ⟨p, hp, rfl⟩ := valV_from e
    obtain ⟨i, hi⟩ := h p hp
    rw [hi]
    rfl
theorem IntsIn.put {kvs : List (Key × V)} (h : IntsIn kvs) (k : Key) (i : Int) : IntsIn (putK kvs k (.int i)) := fun p hp => by
  unfold putK at hp
  split at hp
  · obtain ⟨q, hq, rfl⟩ := List.mem_map.mp hp
    split
    · exact ⟨i, rfl⟩
    · exact h q hq
  · rcases List.mem_append.mp hp with hp | hp
    · exact h p hp
    · rw [List.mem_singleton.mp hp]; exact ⟨i, rfl⟩
def spNamesIn : Sp := fun vs H Q _ => ∃ (plv : V) (ps : List Piece) (xs : List Str) (m : Nat), vs = [plv] ∧ RdD H plv (dPlan ps) ∧ PlanOk xs m ps ∧ xs.length ≤ 4 ∧
  ∀ (l : Addr) (ss : List Str) (H' : Hp), H' l = some (.lst (ss.map V.str)) → ss.length ≤ 63 → Same H H' → Q (.ref l) H'
theorem Bag.put {H : Hp} {b p : Addr} {o : HO} (h : Bag H b) (n : b ≠ p) : Bag (upd H p o) b := by
  obtain ⟨x, y, e, z⟩ := h
  exact ⟨x, y, by rw [upd_ne n]; exact e, z⟩
end L2
namespace L2
open PySem PySem.Spec PyProof.Rows
end L2

set_option Elab.async false
set_option linter.all false
set_option maxRecDepth 100000
namespace L2
open PySem PySem.Spec PyProof.Rows
/-- what follows a statement, out of sight meanwhile -/
theorem seq_opq {t u : TS} {D : Ends} {σ : St} {H : Hp} (h : ∀ N : St → Hp → Prop, (∀ σ' H', u D σ' H' → N σ' H') → t { D with nx := N } σ H) : tSeq t u D σ H := h (u D) fun _ _ x => x
theorem lt_of_dec {a b : Nat} (h : decide ((a : Int) < ((b : Nat) : Int)) = true) : a < b := by have := of_decide_eq_true h; omega
theorem le_big {a m : Nat} (h : a ≤ m) (hm : m ≤ 10000) : a ≤ 1000000 := by omega
theorem le_big1 {a m : Nat} (h : a ≤ m + 1) (hm : m ≤ 10000) : a ≤ 1000000 := by omega
theorem put_le {l k m : Nat} (h : l ≤ k + 1) (hk : k ≤ m) : l ≤ m + 1 := by omega
/-- if t[j] == "..": -/
theorem if_item {Kx : PySem.W.Frag} {i : Nat} {j : Int} {y : Str} {t u : TS} {D : Ends} {σ : St} {H : Hp} {dp : Addr} {vs : List V} {x : Str} (h1 : σ[i]? = some (some (.ref dp))) (h2 : SqT Kx H dp vs) (h3 : atI vs j = some (.str x))
    (h : if decide (V.str x = V.str y) = true then t D σ H else u D σ H) : tIfS (tTest (tOp rEq (tOp (rIxT Kx) (tVar i) (tC (.int j))) (tC (.str y)))) t u D σ H :=
  ⟨_, h1, dp, _, _, _, rfl, rfl, h2, h3, rfl, _, rfl, h⟩
/-- list.extend by any tuple -/
theorem list_extend_tup (l : Addr) (items : Array Value) (n : Nat) (b : Addr) (items2 : Array Value) (n2 : Nat) (dd : Option Addr) (sl : Array (Option Value)) (hs0 : ¬(!items.isEmpty && Builtin.List.listTooLong (items.size + items2.size)) = true) (hs1 : items.size ≤ sizeLine) (hs2 : items.size + items2.size ≤ sizeLine + 1) :
    Meets (Builtin.«list.extend» ⟨[.ref l, .ref b], []⟩) (fun _ R s => s.heap.get? l = some { cls := .type "list", dict := none, data := .seq items n, slots := #[] } ∧ s.heap.get? b = some { cls := .type "tuple", dict := dd, data := .seq items2 n2, slots := sl } ∧ R (.ok (.ret Value.none)) { s with heap := s.heap.update l (Obj.mapSeq fun x => x ++ items2), toks := s.toks }) :=
  .of_wp fun prog w A R s h => by
    obtain ⟨hp, g, d, tk, os⟩ := s; obtain ⟨hl, hb, h⟩ := h; have f1 := AutoSeq1.idx_int; have f2 := AutoSeq1.sub_tuple_tuple; have f3 := AutoSeq1.sub_list_list; have f4 := AutoSeq1.sub_tuple_list; have f5 := AutoSeq1.sub_list_tuple
    have hz' : (items ++ items2).size ≤ sizeLine + 1 := by rw [Array.size_append]; exact hs2
    wp_walk using (wpAny_updateSeq hl rfl (hz := hs1) (_hz' := hz')), wpAny_loadPart' hl, wpAny_loadPart' hb; exact ⟨_, rfl, h⟩
section
variable {X : Cx}
def rExtendT (K : PySem.W.Frag) : V → List V → Hp → VK → Prop := fun x vs H Q => ∃ l b xs zs, x = .ref l ∧ vs = [.ref b] ∧ H l = some (.lst xs) ∧ SqT K H b zs ∧ xs.length + zs.length ≤ sizeLine ∧ Q .non (upd H l (.lst (xs ++ zs)))
theorem mt_extendT : MtM X "list.extend" (rExtendT X.K) := by
  intro pins s σ H x vs v us Q I rx rv h
  obtain ⟨l, b, xs, zs, rfl, rfl, hH, hB, hz, q⟩ := h
  cases rx
  obtain ⟨u, rfl, ru⟩ := rv.one
  cases ru
  obtain ⟨z, its, n, r, hl, e⟩ := I.lstM hH
  obtain ⟨its2, r2, ⟨o, e2, hc, n2, hd⟩, z2⟩ := I.tuple hB
  have hl2 := r2.length
  obtain ⟨oc, od, oda, os⟩ := o
  dsimp only at hc hd
  subst hc
  subst hd
  have hsz : its.toArray.size + its2.toArray.size ≤ sizeLine := by rw [List.size_toArray, List.size_toArray]; omega
  have hlong : ¬ (!its.toArray.isEmpty && Builtin.List.listTooLong (its.toArray.size + its2.toArray.size)) = true := by
    rw [notLongL hsz, Bool.and_false]
    exact Bool.false_ne_true
  refine call_meets F.slot_list_extend ⟨_, e, rfl⟩ F.entry_list_extend (F.args_list_extend_2 _ _)
    (list_extend_tup l its.toArray n b its2.toArray n2 od os hlong (by rw [List.size_toArray]; omega) (by omega)) ⟨e, e2, ?_⟩
  refine ⟨.non, _, I.lset (its' := its ++ its2) hH e (by simp) (r.append r2) ?_, rfl, q⟩
  rw [List.length_append]
  omega
/-- not e, by the value's truth -/
theorem pe_notT {a : Expr} {pos : Pos} {ta : TE} (ha : PE X a ta) : PE X (.UnaryOp .Not a pos) (fun σ H Q => ta σ H fun x H1 => ∃ k, TruV X.K x H1 k ∧ Q (.bl (!k)) H1) := by
  intro pins s σ H Q I h
  refine UnaryOp_ (thn (ha pins s σ H _ I h) fun v s1 ⟨x, H1, I1, r1, k, t, q1⟩ => ?_)
  exact not_of (thn (tru_ok pins s1 σ H1 x v (fun c H2 => Q (.bl (!c)) H2) I1 r1 ⟨k, t, q1⟩) fun c s2 ⟨H2, I2, q2⟩ => ⟨.bl (!c), H2, I2, rfl, q2⟩)
end
end L2

namespace L2
open PySem PySem.Spec PyProof.Rows
end L2

set_option Elab.async false
set_option linter.all false
set_option maxRecDepth 100000
namespace L2
open PySem PySem.Spec PyProof.Rows
/-! ### the fields of a walker -/
def wfl (a0 a1 : V) : List (Str × V) := [("stand", a0), ("done", a1)]
section
variable {a0 a1 z : V}
theorem lk_stand : (wfl a0 a1).lookup ("stand" : Str) = some a0 := lk_h
theorem lk_done : (wfl a0 a1).lookup ("done" : Str) = some a1 := (lk_t (by decide +kernel) lk_h)
theorem pf_done : putF "done" z (wfl a0 a1) = wfl a0 z := (pf_t (by decide +kernel) pf_h)
theorem mk_stand : putF "stand" a0 ([] : List (Str × V)) = ([("stand", a0)] : List (Str × V)) := pf_n
theorem mk_done : putF "done" a1 ([("stand", a0)] : List (Str × V)) = wfl a0 a1 := (pf_t (by decide +kernel) pf_n)
theorem wno_word : (wfl a0 a1).lookup ("word" : Str) = none := (lk_t (by decide +kernel) (lk_t (by decide +kernel) rfl))
theorem wno_piece : (wfl a0 a1).lookup ("piece" : Str) = none := (lk_t (by decide +kernel) (lk_t (by decide +kernel) rfl))
theorem wno_told : (wfl a0 a1).lookup ("told" : Str) = none := (lk_t (by decide +kernel) (lk_t (by decide +kernel) rfl))
theorem wno_worth : (wfl a0 a1).lookup ("worth" : Str) = none := (lk_t (by decide +kernel) (lk_t (by decide +kernel) rfl))
theorem wno_steps : (wfl a0 a1).lookup ("steps" : Str) = none := (lk_t (by decide +kernel) (lk_t (by decide +kernel) rfl))
theorem wno_go : (wfl a0 a1).lookup ("go" : Str) = none := (lk_t (by decide +kernel) (lk_t (by decide +kernel) rfl))
theorem wno_hand : (wfl a0 a1).lookup ("hand" : Str) = none := (lk_t (by decide +kernel) (lk_t (by decide +kernel) rfl))
end
structure WkT (K : PySem.W.Frag) (D : Addr) : Prop where
  cl : Cls K D
  stand : NoAttr K D "stand"
  done : NoAttr K D "done"
/-- the walker as it lies: its object at wp, the stand at p -/
structure WAt (C D : Addr) (H : Hp) (wp p pl d nl sl : Addr) (plv : V) (nums : List Int) (S : RS) (m : Nat) : Prop where
  ob : ∃ dx, H wp = some (.ins D dx (wfl (.ref p) (.int m)))
  st : SAt C H p pl d nl sl plv nums S m
  ne : wp ≠ p
def But6 (wp p pl d nl sl : Addr) (H H' : Hp) : Prop := ∀ c o, H c = some o → c ≠ wp → c ≠ p → c ≠ pl → c ≠ d → c ≠ nl → c ≠ sl → H' c = some o
theorem But6.refl (wp p pl d nl sl : Addr) (H : Hp) : But6 wp p pl d nl sl H H := fun _ _ h _ _ _ _ _ _ => h
theorem But6.trans {wp p pl d nl sl : Addr} {H H1 H2 : Hp} (a : But6 wp p pl d nl sl H H1) (b : But6 wp p pl d nl sl H1 H2) : But6 wp p pl d nl sl H H2 := fun c o h n1 n2 n3 n4 n5 n6 => b c o (a c o h n1 n2 n3 n4 n5 n6) n1 n2 n3 n4 n5 n6
theorem But6.of4 {wp p pl d nl sl : Addr} {H H1 : Hp} (b : But4 p pl d sl H H1) : But6 wp p pl d nl sl H H1 := fun c o h _ n2 n3 n4 _ n6 => b c o h n2 n3 n4 n6
theorem But6.put_wp {wp p pl d nl sl : Addr} {H : Hp} {o : HO} : But6 wp p pl d nl sl H (upd H wp o) := fun c u h n _ _ _ _ _ => by rw [upd_ne n]; exact h
theorem But6.put_nl {wp p pl d nl sl : Addr} {H : Hp} {o : HO} : But6 wp p pl d nl sl H (upd H nl o) := fun c u h _ _ _ _ n _ => by rw [upd_ne n]; exact h
section
variable {C D : Addr} {H H' : Hp} {wp p pl d nl sl : Addr} {plv : V} {nums : List Int} {S : RS} {m : Nat}
/-- the six stay -/
theorem SAt.keep (A : SAt C H p pl d nl sl plv nums S m) (k : ∀ c o, H c = some o → (c = p ∨ c = pl ∨ c = d ∨ c = nl ∨ c = sl) → H' c = some o) : SAt C H' p pl d nl sl plv nums S m := by
  obtain ⟨⟨dx, h1⟩, h2, h3, ⟨kvs, h4, h5⟩, h6, h7, h8, h9⟩ := A
  exact ⟨⟨dx, k _ _ h1 (.inl rfl)⟩, k _ _ h2 (.inr (.inl rfl)), h3, ⟨kvs, k _ _ h4 (.inr (.inr (.inl rfl))), h5⟩, k _ _ h6 (.inr (.inr (.inr (.inl rfl)))), k _ _ h7 (.inr (.inr (.inr (.inr rfl)))), h8, h9⟩
theorem WAt.keep (A : WAt C D H wp p pl d nl sl plv nums S m) (k : ∀ c o, H c = some o → (c = wp ∨ c = p ∨ c = pl ∨ c = d ∨ c = nl ∨ c = sl) → H' c = some o) : WAt C D H' wp p pl d nl sl plv nums S m := by
  obtain ⟨⟨dx, h1⟩, h2, h3⟩ := A
  exact ⟨⟨dx, k _ _ h1 (.inl rfl)⟩, h2.keep fun c o h z => k c o h (.inr z), h3⟩
theorem WAt.same (A : WAt C D H wp p pl d nl sl plv nums S m) (s : Same H H') : WAt C D H' wp p pl d nl sl plv nums S m := A.keep fun c o h _ => s c o h
/-- wp is none of the stand's -/
theorem WAt.nes (A : WAt C D H wp p pl d nl sl plv nums S m) : wp ≠ pl ∧ wp ≠ d ∧ wp ≠ nl ∧ wp ≠ sl := by
  obtain ⟨dx, h1⟩ := A.ob
  obtain ⟨kvs, h2, _⟩ := A.st.dict
  refine ⟨ne_of h1 A.st.passed ?_, ne_of h1 h2 ?_, ne_of h1 A.st.nums ?_, ne_of h1 A.st.spoken ?_⟩ <;> (intro z; cases z)
theorem SAt.put_other {o : HO} {c : Addr} (A : SAt C H p pl d nl sl plv nums S m) (n1 : c ≠ p) (n2 : c ≠ pl) (n3 : c ≠ d) (n4 : c ≠ nl) (n5 : c ≠ sl) : SAt C (upd H c o) p pl d nl sl plv nums S m :=
  A.keep fun x u h z => by
    rw [upd_ne ?_]
    · exact h
    · rcases z with rfl | rfl | rfl | rfl | rfl
      · exact n1.symm
      · exact n2.symm
      · exact n3.symm
      · exact n4.symm
      · exact n5.symm
/-- numbers are handed in -/
theorem SAt.handed {more : List Int} (A : SAt C H p pl d nl sl plv nums S m) : SAt C (upd H nl (.lst (nums.map V.int ++ more.map V.int))) p pl d nl sl plv (nums ++ more) S m := by
  obtain ⟨n1, n2, n3, n4, n5, n6, n7⟩ := A.nes
  obtain ⟨dx, h1⟩ := A.ob
  obtain ⟨kvs, h4, h5⟩ := A.dict
  exact ⟨⟨dx, by rw [upd_ne n3]; exact h1⟩, by rw [upd_ne A.ne.1]; exact A.passed, A.last, ⟨kvs, by rw [upd_ne n6]; exact h4, h5⟩, by rw [upd_same, List.map_append], by rw [upd_ne A.ne.2.2.symm]; exact A.spoken, A.ne, A.few⟩
/-- what is a tuple stays a tuple -/
theorem WAt.tup {c : Addr} {xs : List V} (A : WAt C D H wp p pl d nl sl plv nums S m) (b : But6 wp p pl d nl sl H H') (h : H c = some (.tup xs)) : H' c = some (.tup xs) := by
  obtain ⟨dx0, h0⟩ := A.ob
  obtain ⟨dx, h1⟩ := A.st.ob
  obtain ⟨kvs, h2, _⟩ := A.st.dict
  refine b c _ h (ne_of h h0 ?_) (ne_of h h1 ?_) (ne_of h A.st.passed ?_) (ne_of h h2 ?_) (ne_of h A.st.nums ?_) (ne_of h A.st.spoken ?_) <;> (intro z; cases z)
theorem WAt.rd {x : V} {dd : PyData} (A : WAt C D H wp p pl d nl sl plv nums S m) (b : But6 wp p pl d nl sl H H') (r : RdD H x dd) (n : noList dd = true) : RdD H' x dd :=
  r.tups (fun c xs e => A.tup b e) n
end
/-- the word of a stand -/
def standF (ps : List Piece) (nums : List Int) (S : RS) : Str := if S.word = "stop" then "stop" else if lackB ps nums S = true then "dry" else "on"
def WordOk (S : RS) : Prop := S.word = "on" ∨ S.word = "stop"
theorem stand_held {ps : List Piece} {nums : List Int} {S : RS} : (standF ps nums S = "on") ↔ heldB ps nums S = false := by
  unfold standF heldB
  by_cases h : S.word = "stop"
  · rw [if_pos h, decide_eq_true h]
    constructor
    · intro z; exact absurd z (by decide +kernel)
    · intro z; cases z
  · rw [if_neg h, decide_eq_false h]
    cases lackB ps nums S with
    | true => rw [if_pos rfl]; constructor; (intro z; exact absurd z (by decide +kernel)); (intro z; cases z)
    | false => rw [if_neg (by decide)]; exact ⟨fun _ => rfl, fun _ => rfl⟩
theorem go_word {ps : List Piece} {nums : List Int} {S : RS} (hin : InPlan ps) (hpc : S.piece < ps.length) (ht : S.taken ≤ nums.length) (hw : WordOk S) : ∀ n, WordOk (goF ps nums n S)
  | 0 => hw
  | n + 1 => by
    have ih := go_word hin hpc ht hw n
    have gi := go_in (ps := ps) (nums := nums) (S := S) hin hpc ht n
    cases hh : heldB ps nums (goF ps nums n S) with
    | true => rw [(go_held hh 1).1]; exact ih
    | false =>
      rw [(go_not hh).1]
      unfold heldB at hh
      have hl : lackB ps nums (goF ps nums n S) = false := by
        cases hz : lackB ps nums (goF ps nums n S) with
        | false => rfl
        | true => rw [hz, Bool.or_true] at hh; cases hh
      have hs : ¬ (goF ps nums n S).word = "stop" := fun z => by rw [decide_eq_true z, Bool.true_or] at hh; cases hh
      rcases ih with h | h
      · exact lack_not hl h gi.2
      · exact absurd h hs
/-! ### the promises of walkers.py -/
section
variable (C D : Addr)
def spWInit : Sp := fun vs H Q _ => ∃ (wp dx : Addr) (plv : V), vs = [.ref wp, plv] ∧ H wp = some (.ins D dx []) ∧
  ∀ (p pl d nl sl : Addr) (H' : Hp), WAt C D H' wp p pl d nl sl plv [] (start0 0 fun _ => 0) 0 → (∀ c o, H c = some o → c ≠ wp → H' c = some o) → H p = none → H pl = none → H d = none → H nl = none → H sl = none → Q .non H'
def spWHand : Sp := fun vs H Q _ => ∃ (wp p pl d nl sl t : Addr) (plv : V) (nums more : List Int) (S : RS) (m : Nat), vs = [.ref wp, .ref t] ∧ WAt C D H wp p pl d nl sl plv nums S m ∧ H t = some (.tup (more.map V.int)) ∧ nums.length + more.length ≤ 100000 ∧
  ∀ H', WAt C D H' wp p pl d nl sl plv (nums ++ more) S m → But6 wp p pl d nl sl H H' → Q .non H'
def spWGo : Sp := fun vs H Q _ => ∃ (wp p pl d nl sl : Addr) (plv : V) (nums : List Int) (S : RS) (m n : Nat) (ps : List Piece), vs = [.ref wp, .int n] ∧ WAt C D H wp p pl d nl sl plv nums S m ∧ RdD H plv (dPlan ps) ∧ InPlan ps ∧ S.piece < ps.length ∧ S.taken ≤ nums.length ∧ m + n ≤ 10000 ∧
  ∀ H', WAt C D H' wp p pl d nl sl plv nums (goF ps nums n S) (m + cntF ps nums n S) → But6 wp p pl d nl sl H H' → Q (.int (cntF ps nums n S : Nat)) H'
def spWWord : Sp := fun vs H Q _ => ∃ (wp p pl d nl sl : Addr) (plv : V) (nums : List Int) (S : RS) (m : Nat) (ps : List Piece), vs = [.ref wp] ∧ WAt C D H wp p pl d nl sl plv nums S m ∧ RdD H plv (dPlan ps) ∧ S.piece < ps.length ∧ Q (.str (standF ps nums S)) H
def spWPiece : Sp := fun vs H Q _ => ∃ (wp p pl d nl sl : Addr) (plv : V) (nums : List Int) (S : RS) (m : Nat), vs = [.ref wp] ∧ WAt C D H wp p pl d nl sl plv nums S m ∧ Q (.int S.piece) H
def spWTold : Sp := fun vs H Q _ => ∃ (wp p pl d nl sl : Addr) (plv : V) (nums : List Int) (S : RS) (m : Nat), vs = [.ref wp] ∧ WAt C D H wp p pl d nl sl plv nums S m ∧ ∀ t, H t = none → Q (.ref t) (upd H t (.tup (S.told.map V.int)))
def spWWorth : Sp := fun vs H Q _ => ∃ (wp p pl d nl sl : Addr) (plv : V) (nums : List Int) (S : RS) (m : Nat) (x : Str), vs = [.ref wp, .str x] ∧ WAt C D H wp p pl d nl sl plv nums S m ∧ Q (.int (S.w x)) H
def spWSteps : Sp := fun vs H Q _ => ∃ (wp p pl d nl sl : Addr) (plv : V) (nums : List Int) (S : RS) (m : Nat), vs = [.ref wp] ∧ WAt C D H wp p pl d nl sl plv nums S m ∧ Q (.int m) H
end
/-! ### the law's side -/
/-- the step, numbers in a list -/
def spStepL : Sp := fun vs H Q _ => ∃ (pv : V) (st np d tl bl : Addr) (ps : List Piece) (nums : List Int) (S : RS) (m : Nat), vs = [pv, .ref st, .ref np] ∧ RdD H pv (dPlan ps) ∧ InPlan ps ∧ H np = some (.lst (nums.map V.int)) ∧ StAt H st d tl bl S m ∧
  S.piece < ps.length ∧ S.taken ≤ nums.length ∧ m ≤ 10000 ∧ ∀ st' H', StAt H' st' d tl bl (stepF ps nums S) (m + 1) → But d tl bl H H' → Q (.ref st') H'
def spStandL : Sp := fun vs H Q _ => ∃ (pv : V) (st np d tl bl : Addr) (ps : List Piece) (nums : List Int) (S : RS) (m : Nat), vs = [pv, .ref st, .ref np] ∧ RdD H pv (dPlan ps) ∧ H np = some (.lst (nums.map V.int)) ∧ StAt H st d tl bl S m ∧ S.piece < ps.length ∧ WordOk S ∧ Q (.str (standF ps nums S)) H
def spGoneL : Sp := fun vs H Q _ => ∃ (pv : V) (st np d tl bl : Addr) (ps : List Piece) (nums : List Int) (S : RS) (m n : Nat), vs = [pv, .ref st, .ref np, .int n] ∧ RdD H pv (dPlan ps) ∧ InPlan ps ∧ H np = some (.lst (nums.map V.int)) ∧ StAt H st d tl bl S m ∧ np ≠ tl ∧ np ≠ bl ∧
  S.piece < ps.length ∧ S.taken ≤ nums.length ∧ WordOk S ∧ m + n ≤ 10000 ∧ ∀ st' r H', H' r = some (.tup [.ref st', .int (cntF ps nums n S : Nat)]) → StAt H' st' d tl bl (goF ps nums n S) (m + cntF ps nums n S) → But d tl bl H H' → Q (.ref r) H'
/-- the law's and the walker's parts apart -/
structure Sep (pl d nl sl d2 tl bl np : Addr) : Prop where
  d : d2 ≠ d
  t : tl ≠ pl ∧ tl ≠ nl ∧ tl ≠ sl
  b : bl ≠ pl ∧ bl ≠ nl ∧ bl ≠ sl
  n : np ≠ pl ∧ np ≠ nl ∧ np ≠ sl ∧ np ≠ tl ∧ np ≠ bl
section
variable {C D : Addr} {H H' : Hp} {wp p pl d nl sl st d2 tl bl np : Addr} {plv : V} {nums nums' : List Int} {S S' : RS} {m m' : Nat}
theorem StAt.keep (A : StAt H st d2 tl bl S m) (k : ∀ c o, H c = some o → (c = st ∨ c = d2 ∨ c = tl ∨ c = bl) → H' c = some o) : StAt H' st d2 tl bl S m := by
  obtain ⟨h1, ⟨kvs, h2, h3⟩, h4, h5, h6, h7⟩ := A
  exact ⟨k _ _ h1 (.inl rfl), ⟨kvs, k _ _ h2 (.inr (.inl rfl)), h3⟩, k _ _ h4 (.inr (.inr (.inl rfl))), k _ _ h5 (.inr (.inr (.inr rfl))), h6, h7⟩
theorem StAt.tup {c : Addr} {xs : List V} (A : StAt H st d2 tl bl S m) (b : But d2 tl bl H H') (h : H c = some (.tup xs)) : H' c = some (.tup xs) := by
  obtain ⟨a1, ⟨kvs2, a2, a3⟩, a4, a5, a6, a7⟩ := A
  refine b _ _ h (ne_of h a2 ?_) (ne_of h a4 ?_) (ne_of h a5 ?_) <;> (intro z; cases z)
theorem StAt.rd {x : V} {dd : PyData} (A : StAt H st d2 tl bl S m) (b : But d2 tl bl H H') (r : RdD H x dd) (n : noList dd = true) : RdD H' x dd :=
  r.tups (fun c xs e => A.tup b e) n
theorem StAt.same (A : StAt H st d2 tl bl S m) (s : Same H H') : StAt H' st d2 tl bl S m := A.keep fun c o h _ => s c o h
/-- the walker did something: the law's state stays -/
theorem StAt.but6 (A : StAt H st d2 tl bl S' m') (W : WAt C D H wp p pl d nl sl plv nums S m) (z : Sep pl d nl sl d2 tl bl np) (b : But6 wp p pl d nl sl H H') : StAt H' st d2 tl bl S' m' := by
  obtain ⟨dx0, h0⟩ := W.ob
  obtain ⟨dx, h1⟩ := W.st.ob
  obtain ⟨kvs, h2, _⟩ := W.st.dict
  obtain ⟨a1, ⟨kvs2, a2, a3⟩, a4, a5, a6, a7⟩ := A
  refine ⟨W.tup b a1, ⟨kvs2, ?_, a3⟩, ?_, ?_, a6, a7⟩
  · refine b _ _ a2 (ne_of a2 h0 ?_) (ne_of a2 h1 ?_) (ne_of a2 W.st.passed ?_) z.d (ne_of a2 W.st.nums ?_) (ne_of a2 W.st.spoken ?_) <;> (intro z; cases z)
  · refine b _ _ a4 (ne_of a4 h0 ?_) (ne_of a4 h1 ?_) z.t.1 (ne_of a4 h2 ?_) z.t.2.1 z.t.2.2 <;> (intro z; cases z)
  · refine b _ _ a5 (ne_of a5 h0 ?_) (ne_of a5 h1 ?_) z.b.1 (ne_of a5 h2 ?_) z.b.2.1 z.b.2.2 <;> (intro z; cases z)
theorem np_but6 (a : H np = some (.lst (nums'.map V.int))) (W : WAt C D H wp p pl d nl sl plv nums S m) (z : Sep pl d nl sl d2 tl bl np) (b : But6 wp p pl d nl sl H H') : H' np = some (.lst (nums'.map V.int)) := by
  obtain ⟨dx0, h0⟩ := W.ob
  obtain ⟨dx, h1⟩ := W.st.ob
  obtain ⟨kvs, h2, _⟩ := W.st.dict
  refine b _ _ a (ne_of a h0 ?_) (ne_of a h1 ?_) z.n.1 (ne_of a h2 ?_) z.n.2.1 z.n.2.2.1 <;> (intro z; cases z)
/-- the law did something: the walker stays -/
theorem WAt.but (W : WAt C D H wp p pl d nl sl plv nums S m) (A : StAt H st d2 tl bl S' m') (z : Sep pl d nl sl d2 tl bl np) (b : But d2 tl bl H H') : WAt C D H' wp p pl d nl sl plv nums S m := by
  obtain ⟨dx0, h0⟩ := W.ob
  obtain ⟨dx, h1⟩ := W.st.ob
  obtain ⟨kvs, h2, h2'⟩ := W.st.dict
  obtain ⟨a1, ⟨kvs2, a2, a3⟩, a4, a5, a6, a7⟩ := A
  refine ⟨⟨dx0, b _ _ h0 (ne_of h0 a2 ?_) (ne_of h0 a4 ?_) (ne_of h0 a5 ?_)⟩, ⟨⟨dx, b _ _ h1 (ne_of h1 a2 ?_) (ne_of h1 a4 ?_) (ne_of h1 a5 ?_)⟩, b _ _ W.st.passed (ne_of W.st.passed a2 ?_) z.t.1.symm z.b.1.symm, W.st.last,
    ⟨kvs, b _ _ h2 z.d.symm (ne_of h2 a4 ?_) (ne_of h2 a5 ?_), h2'⟩, b _ _ W.st.nums (ne_of W.st.nums a2 ?_) z.t.2.1.symm z.b.2.1.symm, b _ _ W.st.spoken (ne_of W.st.spoken a2 ?_) z.t.2.2.symm z.b.2.2.symm, W.st.ne, W.st.few⟩, W.ne⟩ <;> (intro z; cases z)
theorem np_but (a : H np = some (.lst (nums'.map V.int))) (A : StAt H st d2 tl bl S' m') (z : Sep pl d nl sl d2 tl bl np) (b : But d2 tl bl H H') : H' np = some (.lst (nums'.map V.int)) := by
  obtain ⟨a1, ⟨kvs2, a2, a3⟩, a4, a5, a6, a7⟩ := A
  refine b _ _ a (ne_of a a2 ?_) z.n.2.2.2.1 z.n.2.2.2.2 <;> (intro z; cases z)
/-- the law's numbers are written -/
theorem WAt.put_np {o : HO} (W : WAt C D H wp p pl d nl sl plv nums S m) (a : H np = some (.lst (nums'.map V.int))) (z : Sep pl d nl sl d2 tl bl np) : WAt C D (upd H np o) wp p pl d nl sl plv nums S m := by
  obtain ⟨dx0, h0⟩ := W.ob
  obtain ⟨dx, h1⟩ := W.st.ob
  obtain ⟨kvs, h2, h2'⟩ := W.st.dict
  refine W.keep fun c u h e => ?_
  rw [upd_ne ?_]
  · exact h
  · rcases e with rfl | rfl | rfl | rfl | rfl | rfl
    · exact ne_of h0 a (by intro z; cases z)
    · exact ne_of h1 a (by intro z; cases z)
    · exact z.n.1.symm
    · exact ne_of h2 a (by intro z; cases z)
    · exact z.n.2.1.symm
    · exact z.n.2.2.1.symm
theorem StAt.put_np {o : HO} (A : StAt H st d2 tl bl S m) (a : H np = some (.lst (nums'.map V.int))) (z : Sep pl d nl sl d2 tl bl np) : StAt (upd H np o) st d2 tl bl S m := by
  obtain ⟨a1, ⟨kvs2, a2, a3⟩, a4, a5, a6, a7⟩ := A
  exact ⟨by rw [upd_ne (ne_of a1 a (by intro z; cases z))]; exact a1, ⟨kvs2, by rw [upd_ne (ne_of a2 a (by intro z; cases z))]; exact a2, a3⟩, by rw [upd_ne z.n.2.2.2.1.symm]; exact a4, by rw [upd_ne z.n.2.2.2.2.symm]; exact a5, a6, a7⟩
end
section
variable (C D : Addr)
def spTellsL : Sp := fun vs H Q _ => ∃ (wp p pl d nl sl st np d2 tl bl : Addr) (plv : V) (ps : List Piece) (xs : List Str) (k : Nat) (nums : List Int) (S : RS) (m : Nat), vs = [.ref wp, plv, .ref st, .ref np, .int m] ∧ WAt C D H wp p pl d nl sl plv nums S m ∧ StAt H st d2 tl bl S m ∧ H np = some (.lst (nums.map V.int)) ∧ RdD H plv (dPlan ps) ∧ PlanOk xs k ps ∧ xs.length ≤ 4 ∧ S.piece < ps.length ∧ WordOk S ∧ m ≤ 10000 ∧
  ∀ H', Same H H' → Q (.bl true) H'
end
/-! ### both together -/
structure Fr10 (H0 : Hp) (wp p pl d nl sl d2 tl bl np : Addr) : Prop where
  wp : H0 wp = none
  p : H0 p = none
  pl : H0 pl = none
  d : H0 d = none
  nl : H0 nl = none
  sl : H0 sl = none
  d2 : H0 d2 = none
  tl : H0 tl = none
  bl : H0 bl = none
  np : H0 np = none
structure Joint (C D : Addr) (H : Hp) (wp p pl d nl sl st d2 tl bl np : Addr) (plv : V) (nums : List Int) (S : RS) (m : Nat) : Prop where
  w : WAt C D H wp p pl d nl sl plv nums S m
  l : StAt H st d2 tl bl S m
  n : H np = some (.lst (nums.map V.int))
  z : Sep pl d nl sl d2 tl bl np
section
variable {C D : Addr} {H0 H H1 H2 : Hp} {wp p pl d nl sl st st' d2 tl bl np b : Addr} {plv : V} {nums more : List Int} {S S' : RS} {m m' : Nat}
theorem Fr10.but6 (f : Fr10 H0 wp p pl d nl sl d2 tl bl np) (b : But6 wp p pl d nl sl H H1) {c : Addr} {o : HO} (e : H0 c = some o) (h : H c = some o) : H1 c = some o :=
  b c o h (ne_of_none e f.wp) (ne_of_none e f.p) (ne_of_none e f.pl) (ne_of_none e f.d) (ne_of_none e f.nl) (ne_of_none e f.sl)
theorem Fr10.but (f : Fr10 H0 wp p pl d nl sl d2 tl bl np) (b : But d2 tl bl H H1) {c : Addr} {o : HO} (e : H0 c = some o) (h : H c = some o) : H1 c = some o :=
  b c o h (ne_of_none e f.d2) (ne_of_none e f.tl) (ne_of_none e f.bl)
/-- an object that is old stays, whatever lies there now -/
theorem Fr10.but6_at (f : Fr10 H0 wp p pl d nl sl d2 tl bl np) (b : But6 wp p pl d nl sl H H1) {c : Addr} {o o' : HO} (e : H0 c = some o) (h : H c = some o') : H1 c = some o' :=
  b c o' h (ne_of_none e f.wp) (ne_of_none e f.p) (ne_of_none e f.pl) (ne_of_none e f.d) (ne_of_none e f.nl) (ne_of_none e f.sl)
theorem Fr10.but_at (f : Fr10 H0 wp p pl d nl sl d2 tl bl np) (b : But d2 tl bl H H1) {c : Addr} {o o' : HO} (e : H0 c = some o) (h : H c = some o') : H1 c = some o' :=
  b c o' h (ne_of_none e f.d2) (ne_of_none e f.tl) (ne_of_none e f.bl)
theorem Joint.same (J : Joint C D H wp p pl d nl sl st d2 tl bl np plv nums S m) (s : Same H H1) : Joint C D H1 wp p pl d nl sl st d2 tl bl np plv nums S m :=
  ⟨J.w.same s, J.l.same s, s _ _ J.n, J.z⟩
/-- numbers are handed to both -/
theorem Joint.handed (J : Joint C D H wp p pl d nl sl st d2 tl bl np plv nums S m) (W : WAt C D H1 wp p pl d nl sl plv (nums ++ more) S m) (b : But6 wp p pl d nl sl H H1) :
    H1 np = some (.lst (nums.map V.int)) ∧ Joint C D (upd H1 np (.lst (nums.map V.int ++ more.map V.int))) wp p pl d nl sl st d2 tl bl np plv (nums ++ more) S m := by
  have n1 := np_but6 J.n J.w J.z b
  exact ⟨n1, W.put_np n1 J.z, (J.l.but6 J.w J.z b).put_np n1 J.z, by rw [upd_same, List.map_append], J.z⟩
/-- both went on -/
theorem Joint.went (J : Joint C D H wp p pl d nl sl st d2 tl bl np plv nums S m) (A1 : StAt H1 st' d2 tl bl S' m') (b1 : But d2 tl bl H H1) (W2 : WAt C D H2 wp p pl d nl sl plv nums S' m') (b2 : But6 wp p pl d nl sl H1 H2) :
    Joint C D H2 wp p pl d nl sl st' d2 tl bl np plv nums S' m' := by
  have W1 := J.w.but J.l J.z b1
  have n1 := np_but J.n J.l J.z b1
  exact ⟨W2, A1.but6 W1 J.z b2, np_but6 n1 W1 J.z b2, J.z⟩
theorem Joint.fixb (J : Joint C D H wp p pl d nl sl st d2 tl bl np plv nums S m) (f : Fr10 H0 wp p pl d nl sl d2 tl bl np) {o : HO} (hb : H0 b = some o) (B : Bag H b) (x : Fix b H H1) : Joint C D H1 wp p pl d nl sl st d2 tl bl np plv nums S m := by
  refine ⟨J.w.keep fun c u h e => x c u h ?_, J.l.keep fun c u h e => x c u h ?_, x _ _ J.n (ne_of_none hb f.np).symm, J.z⟩
  · rcases e with rfl | rfl | rfl | rfl | rfl | rfl
    · exact (ne_of_none hb f.wp).symm
    · exact (ne_of_none hb f.p).symm
    · exact (ne_of_none hb f.pl).symm
    · exact (ne_of_none hb f.d).symm
    · exact (ne_of_none hb f.nl).symm
    · exact (ne_of_none hb f.sl).symm
  · rcases e with rfl | rfl | rfl | rfl
    · exact B.ne_tup J.l.at_
    · exact (ne_of_none hb f.d2).symm
    · exact (ne_of_none hb f.tl).symm
    · exact (ne_of_none hb f.bl).symm
end
theorem dep_ints (ns : List Int) : (PyData.tuple (ns.map PyData.int)).depth ≤ 60 := by
  simp [PyData.depth, depA_ints]
/-- what is asked of a walker next -/
def spCallL : Sp := fun vs H Q _ => ∃ (b : Addr) (left : Nat), vs = [.ref b, .int left] ∧ Bag H b ∧ left ≤ 600 ∧
  ((∀ t t2 (ns : List Int) H', H' t2 = some (.tup [.str "hand", .ref t]) → H' t = some (.tup (ns.map V.int)) → ns.length ≤ left → Bag H' b → Fix b H H' → Q (.ref t2) H') ∧
   (∀ t2 (n : Nat) H', H' t2 = some (.tup [.str "go", .int n]) → n ≤ 2000 → Bag H' b → Fix b H H' → Q (.ref t2) H'))
end L2

set_option Elab.async false
set_option linter.all false
set_option maxRecDepth 100000
namespace My
open PySem PySem.Spec PyProof.Rows L2
def top (i : Nat) : Stmt := PySem.Challenge.pw_ledpast_k29_walkers.main.body.getD i (.Pass ⟨0, 0, 0, 0⟩)
structure Bl (mg : Str → Option Value) : Prop where
  len : mg "len" = none
  min : mg "min" = none
  max : mg "max" = none
  range : mg "range" = none
  list : mg "list" = none
  tuple : mg "tuple" = none
  int : mg "int" = none
  dict : mg "dict" = none
  isinstance : mg "isinstance" = none
  bool : mg "bool" = none
  sorted : mg "sorted" = none
abbrev s_lies_in : Stmt := top 1
theorem sc_lies_in : FnScope ["number", "stretch", "low", "high"] ["number", "stretch"] (defScope s_lies_in) := ⟨rfl, rfl, rfl, by decide +kernel, rfl, by decide +kernel, by decide +kernel⟩
abbrev s_part_below : Stmt := top 2
theorem sc_part_below : FnScope ["stretch", "number", "low", "high", "top"] ["stretch", "number"] (defScope s_part_below) := ⟨rfl, rfl, rfl, by decide +kernel, rfl, by decide +kernel, by decide +kernel⟩
abbrev s_part_from : Stmt := top 3
theorem sc_part_from : FnScope ["stretch", "number", "low", "high", "bottom"] ["stretch", "number"] (defScope s_part_from) := ⟨rfl, rfl, rfl, by decide +kernel, rfl, by decide +kernel, by decide +kernel⟩
abbrev s_part_at : Stmt := top 4
theorem sc_part_at : FnScope ["stretch", "number"] ["stretch", "number"] (defScope s_part_at) := ⟨rfl, rfl, rfl, by decide +kernel, rfl, by decide +kernel, by decide +kernel⟩
abbrev s_part_beside : Stmt := top 5
theorem sc_part_beside : FnScope ["stretch", "number", "low", "high"] ["stretch", "number"] (defScope s_part_beside) := ⟨rfl, rfl, rfl, by decide +kernel, rfl, by decide +kernel, by decide +kernel⟩
abbrev s_part_of : Stmt := top 6
theorem sc_part_of : FnScope ["stretch", "word", "number", "side"] ["stretch", "word", "number", "side"] (defScope s_part_of) := ⟨rfl, rfl, rfl, by decide +kernel, rfl, by decide +kernel, by decide +kernel⟩
abbrev s_answer_of : Stmt := top 7
theorem sc_answer_of : FnScope ["stretch", "word", "number"] ["stretch", "word", "number"] (defScope s_answer_of) := ⟨rfl, rfl, rfl, by decide +kernel, rfl, by decide +kernel, by decide +kernel⟩
abbrev s_Stand_worth : Stmt := inClass (top 9) 1
theorem sc_Stand_worth : FnScope ["self", "name"] ["self", "name"] (defScope s_Stand_worth) := ⟨rfl, rfl, rfl, by decide +kernel, rfl, by decide +kernel, by decide +kernel⟩
abbrev s_Stand_coming : Stmt := inClass (top 9) 2
theorem sc_Stand_coming : FnScope ["self", "deeds", "end"] ["self"] (defScope s_Stand_coming) := ⟨rfl, rfl, rfl, by decide +kernel, rfl, by decide +kernel, by decide +kernel⟩
abbrev s_Stand_lacks_number : Stmt := inClass (top 9) 3
theorem sc_Stand_lacks_number : FnScope ["self"] ["self"] (defScope s_Stand_lacks_number) := ⟨rfl, rfl, rfl, by decide +kernel, rfl, by decide +kernel, by decide +kernel⟩
abbrev s_Stand_is_held : Stmt := inClass (top 9) 4
theorem sc_Stand_is_held : FnScope ["self"] ["self"] (defScope s_Stand_is_held) := ⟨rfl, rfl, rfl, by decide +kernel, rfl, by decide +kernel, by decide +kernel⟩
abbrev s_Stand_take_number : Stmt := inClass (top 9) 5
theorem sc_Stand_take_number : FnScope ["self"] ["self"] (defScope s_Stand_take_number) := ⟨rfl, rfl, rfl, by decide +kernel, rfl, by decide +kernel, by decide +kernel⟩
abbrev s_Stand_do_deed : Stmt := inClass (top 9) 6
theorem sc_Stand_do_deed : FnScope ["self", "deed", "word", "name"] ["self", "deed"] (defScope s_Stand_do_deed) := ⟨rfl, rfl, rfl, by decide +kernel, rfl, by decide +kernel, by decide +kernel⟩
abbrev s_Stand_come_to : Stmt := inClass (top 9) 7
theorem sc_Stand_come_to : FnScope ["self", "piece"] ["self", "piece"] (defScope s_Stand_come_to) := ⟨rfl, rfl, rfl, by decide +kernel, rfl, by decide +kernel, by decide +kernel⟩
abbrev s_Stand_do_end : Stmt := inClass (top 9) 8
theorem sc_Stand_do_end : FnScope ["self", "end", "word", "name", "number", "yes", "no", "worth"] ["self", "end"] (defScope s_Stand_do_end) := ⟨rfl, rfl, rfl, by decide +kernel, rfl, by decide +kernel, by decide +kernel⟩
abbrev s_Stand_do_step : Stmt := inClass (top 9) 9
theorem sc_Stand_do_step : FnScope ["self", "deeds", "end"] ["self"] (defScope s_Stand_do_step) := ⟨rfl, rfl, rfl, by decide +kernel, rfl, by decide +kernel, by decide +kernel⟩
abbrev s_Stand___init__ : Stmt := inClass (top 9) 0
theorem sc_Stand___init__ : FnScope ["self", "pieces", "begin", "worths", "numbers"] ["self", "pieces", "begin", "worths", "numbers"] (defScope s_Stand___init__) := ⟨rfl, rfl, rfl, by decide +kernel, rfl, by decide +kernel, by decide +kernel⟩
abbrev s_go_on : Stmt := top 10
theorem sc_go_on : FnScope ["stand", "steps", "done"] ["stand", "steps"] (defScope s_go_on) := ⟨rfl, rfl, rfl, by decide +kernel, rfl, by decide +kernel, by decide +kernel⟩
abbrev s_Walker___init__ : Stmt := inClass (top 12) 0
theorem sc_Walker___init__ : FnScope ["self", "plan"] ["self", "plan"] (defScope s_Walker___init__) := ⟨rfl, rfl, rfl, by decide +kernel, rfl, by decide +kernel, by decide +kernel⟩
abbrev s_Walker_hand : Stmt := inClass (top 12) 1
theorem sc_Walker_hand : FnScope ["self", "numbers"] ["self", "numbers"] (defScope s_Walker_hand) := ⟨rfl, rfl, rfl, by decide +kernel, rfl, by decide +kernel, by decide +kernel⟩
abbrev s_Walker_go : Stmt := inClass (top 12) 2
theorem sc_Walker_go : FnScope ["self", "many", "done"] ["self", "many"] (defScope s_Walker_go) := ⟨rfl, rfl, rfl, by decide +kernel, rfl, by decide +kernel, by decide +kernel⟩
abbrev s_Walker_word : Stmt := inClass (top 12) 3
theorem sc_Walker_word : FnScope ["self"] ["self"] (defScope s_Walker_word) := ⟨rfl, rfl, rfl, by decide +kernel, rfl, by decide +kernel, by decide +kernel⟩
abbrev s_Walker_piece : Stmt := inClass (top 12) 4
theorem sc_Walker_piece : FnScope ["self"] ["self"] (defScope s_Walker_piece) := ⟨rfl, rfl, rfl, by decide +kernel, rfl, by decide +kernel, by decide +kernel⟩
abbrev s_Walker_told : Stmt := inClass (top 12) 5
theorem sc_Walker_told : FnScope ["self"] ["self"] (defScope s_Walker_told) := ⟨rfl, rfl, rfl, by decide +kernel, rfl, by decide +kernel, by decide +kernel⟩
abbrev s_Walker_worth : Stmt := inClass (top 12) 6
theorem sc_Walker_worth : FnScope ["self", "name"] ["self", "name"] (defScope s_Walker_worth) := ⟨rfl, rfl, rfl, by decide +kernel, rfl, by decide +kernel, by decide +kernel⟩
abbrev s_Walker_steps : Stmt := inClass (top 12) 7
theorem sc_Walker_steps : FnScope ["self"] ["self"] (defScope s_Walker_steps) := ⟨rfl, rfl, rfl, by decide +kernel, rfl, by decide +kernel, by decide +kernel⟩
abbrev s_law_bag : Stmt := top 14
theorem sc_law_bag : FnScope ["script", "k", "cell"] ["script", "k"] (defScope s_law_bag) := ⟨rfl, rfl, rfl, by decide +kernel, rfl, by decide +kernel, by decide +kernel⟩
abbrev s_law_take : Stmt := top 15
theorem sc_law_take : FnScope ["bag", "many", "found"] ["bag", "many"] (defScope s_law_take) := ⟨rfl, rfl, rfl, by decide +kernel, rfl, by decide +kernel, by decide +kernel⟩
abbrev s_law_names : Stmt := top 16
theorem sc_law_names : FnScope ["bag", "letters", "many", "base", "at", "names", "k", "name"] ["bag"] (defScope s_law_names) := ⟨rfl, rfl, rfl, by decide +kernel, rfl, by decide +kernel, by decide +kernel⟩
abbrev s_law_number : Stmt := top 17
theorem sc_law_number : FnScope ["bag"] ["bag"] (defScope s_law_number) := ⟨rfl, rfl, rfl, by decide +kernel, rfl, by decide +kernel, by decide +kernel⟩
abbrev s_law_deed : Stmt := top 18
theorem sc_law_deed : FnScope ["bag", "names", "word", "name"] ["bag", "names"] (defScope s_law_deed) := ⟨rfl, rfl, rfl, by decide +kernel, rfl, by decide +kernel, by decide +kernel⟩
abbrev s_law_end : Stmt := top 19
theorem sc_law_end : FnScope ["bag", "names", "count", "way", "word", "name"] ["bag", "names", "count"] (defScope s_law_end) := ⟨rfl, rfl, rfl, by decide +kernel, rfl, by decide +kernel, by decide +kernel⟩
abbrev s_law_plan : Stmt := top 20
theorem sc_law_plan : FnScope ["bag", "count", "most", "names", "pieces", "k", "many", "end"] ["bag", "count", "most"] (defScope s_law_plan) := ⟨rfl, rfl, rfl, by decide +kernel, rfl, by decide +kernel, by decide +kernel⟩
abbrev s_law_count : Stmt := top 21
theorem sc_law_count : FnScope ["bag", "most"] ["bag", "most"] (defScope s_law_count) := ⟨rfl, rfl, rfl, by decide +kernel, rfl, by decide +kernel, by decide +kernel⟩
abbrev s_law_step : Stmt := top 22
theorem sc_law_step : FnScope ["plan", "state", "numbers", "piece", "place", "worths", "taken", "told", "word", "been", "deeds", "end", "deed", "worth", "there", "yes"] ["plan", "state", "numbers"] (defScope s_law_step) := ⟨rfl, rfl, rfl, by decide +kernel, rfl, by decide +kernel, by decide +kernel⟩
abbrev s_law_stand : Stmt := top 23
theorem sc_law_stand : FnScope ["plan", "state", "numbers", "piece", "place", "worths", "taken", "told", "word", "been", "deeds"] ["plan", "state", "numbers"] (defScope s_law_stand) := ⟨rfl, rfl, rfl, by decide +kernel, rfl, by decide +kernel, by decide +kernel⟩
abbrev s_law_gone : Stmt := top 24
theorem sc_law_gone : FnScope ["plan", "state", "numbers", "many", "done"] ["plan", "state", "numbers", "many"] (defScope s_law_gone) := ⟨rfl, rfl, rfl, by decide +kernel, rfl, by decide +kernel, by decide +kernel⟩
abbrev s_law_names_in : Stmt := top 25
theorem sc_law_names_in : FnScope ["plan", "names", "deeds", "end", "deed"] ["plan"] (defScope s_law_names_in) := ⟨rfl, rfl, rfl, by decide +kernel, rfl, by decide +kernel, by decide +kernel⟩
abbrev s_law_tells : Stmt := top 26
theorem sc_law_tells : FnScope ["walker", "plan", "state", "numbers", "steps", "k", "name"] ["walker", "plan", "state", "numbers", "steps"] (defScope s_law_tells) := ⟨rfl, rfl, rfl, by decide +kernel, rfl, by decide +kernel, by decide +kernel⟩
abbrev s_law_call : Stmt := top 27
theorem sc_law_call : FnScope ["bag", "left", "many"] ["bag", "left"] (defScope s_law_call) := ⟨rfl, rfl, rfl, by decide +kernel, rfl, by decide +kernel, by decide +kernel⟩
abbrev s_law : Stmt := top 28
theorem sc_law : FnScope ["script", "bag", "plan", "walker", "state", "numbers", "steps", "k", "word", "some", "done", "found", "more"] ["script"] (defScope s_law) := ⟨rfl, rfl, rfl, by decide +kernel, rfl, by decide +kernel, by decide +kernel⟩

end My

set_option Elab.async false
set_option linter.all false
set_option maxRecDepth 100000
namespace My
open PySem PySem.Spec PyProof.Rows L2
section
variable {P : Program} {w : World} {K : PySem.W.Frag} {mg : Str → Option Value} {base : Heap}
set_option maxHeartbeats 4000000 in
theorem ok_lies_in {f : Addr} {fd : FuncData} (F : Fun K "lies_in" "lies_in" s_lies_in f fd) (Z : Bl mg)  : FnOk P w K mg base CX0 1 f fd ["number", "stretch"] spLies := by
  refine F.ok (k := 0) sc_lies_in (fun vs H Q E h => ?_) (fun cdv A outer s H vs Q E hr h => ?_)
  · obtain ⟨n, q, lo, hi, rfl, _⟩ := h
    rfl
  · obtain ⟨n, q, lo, hi, rfl, hq, k⟩ := h
    refine ⟨_, (pss_cons (ps_asg (pv 1) (pg_tup rfl (pgs_cons (pg_name (i := 2) sc_lies_in.nd rfl (Or.inl rfl)) (pgs_cons (pg_name (i := 3) sc_lies_in.nd rfl (Or.inl rfl)) pgs_nil))))
      (pss_one (ps_ret (pe_and (pe_or (pe_cmp (pc_isN (pv 2))) (pe_one (pe_cmpR op_le (pv 2) (pv 0) (nomark _)))) (pe_one (pe_or (pe_cmp (pc_isN (pv 3))) (pe_one (pe_cmpR op_le (pv 0) (pv 3) (nomark _))))))))), ?_⟩

    refine ⟨_, rfl, q, _, rfl, SqT.of hq, rfl, _, _, rfl, _, _, rfl, rfl, ?_⟩
    cases lo with
    | none =>
      refine ⟨_, rfl, _, rfl, iteT ⟨_, rfl, iteT ?_⟩⟩
      cases hi with
      | none => exact ⟨_, rfl, _, rfl, iteT k⟩
      | some b =>
        refine ⟨_, rfl, _, rfl, iteF ⟨_, rfl, _, rfl, _, _, rfl, rfl, ?_⟩⟩
        simpa only [liesB, Bool.true_and] using k
    | some a =>
      refine ⟨_, rfl, _, rfl, iteF ⟨_, rfl, _, rfl, _, _, rfl, rfl, _, rfl, ?_⟩⟩
      cases hx : decide (a ≤ n) with
      | false => exact iteF (by have k' := k; simp only [liesB, hx, Bool.false_and] at k'; exact k')
      | true =>
        refine iteT ?_
        cases hi with
        | none => exact ⟨_, rfl, _, rfl, iteT (by have k' := k; simp only [liesB, hx, Bool.true_and] at k'; exact k')⟩
        | some b =>
          refine ⟨_, rfl, _, rfl, iteF ⟨_, rfl, _, rfl, _, _, rfl, rfl, ?_⟩⟩
          have k' := k
          simp only [liesB, hx, Bool.true_and] at k'
          exact k'
end
end My

set_option Elab.async false
set_option linter.all false
set_option maxRecDepth 100000
namespace My
open PySem PySem.Spec PyProof.Rows L2
section
variable {P : Program} {w : World} {K : PySem.W.Frag} {mg : Str → Option Value} {base : Heap}
set_option maxHeartbeats 4000000 in
theorem ok_part_below {f : Addr} {fd : FuncData} (F : Fun K "part_below" "part_below" s_part_below f fd) (Z : Bl mg)  : FnOk P w K mg base CX0 1 f fd ["stretch", "number"] (spP belowF) := by
  refine F.ok (k := 0) sc_part_below (fun vs H Q E h => ?_) (fun cdv A outer s H vs Q E hr h => ?_)
  · obtain ⟨p, n, lo, hi, rfl, _⟩ := h
    rfl
  · obtain ⟨p, n, lo, hi, rfl, hp, q⟩ := h
    refine ⟨_, (pss_cons (ps_asg (pv 0) (pg_tup rfl (pgs_cons (pg_name (i := 2) sc_part_below.nd rfl (Or.inl rfl)) (pgs_cons (pg_name (i := 3) sc_part_below.nd rfl (Or.inl rfl)) pgs_nil))))
      (pss_cons (ps_set (i := 4) sc_part_below.nd rfl (Or.inl rfl) (pe_ifExp (pt_cmp (pc_isN (pv 3))) (pe_op op_sub (pv 1) pe_int) (pe_callB (call_min2 rfl) rfl Z.min bt_min (pa_cons (pv 3) (pa_cons (pe_op op_sub (pv 1) pe_int) pa_nil)))))
      (pss_cons (ps_if (PW.pt (pw_and (pt_cmp (pc_notN (pv 2))) (pw_and1 (pt_cmpR op_gt (pv 2) (pv 4) (nomark _)))))
      (pss_one (ps_ret pe_non))
      pss_nil)
      (pss_one (ps_ret (pe_tup (pa_cons (pv 2) (pa_cons (pv 4) pa_nil)))))))), ?_⟩
    refine ⟨_, rfl, p, _, rfl, SqT.of hp, rfl, _, _, rfl, _, _, rfl, rfl, ?_⟩
    cases hi with
    | none =>
      refine ⟨_, rfl, _, rfl, iteT ⟨_, rfl, _, _, rfl, rfl, ?_⟩⟩
      cases lo with
      | none =>
        refine ⟨_, rfl, _, rfl, iteF (iteF ⟨_, rfl, _, rfl, ln2, fun l hl => ?_⟩)⟩
        exact q _ _ ⟨l, rfl, upd_same⟩ (Same.new hl)
      | some i =>
        refine ⟨_, rfl, _, rfl, iteT ⟨_, rfl, _, rfl, _, _, rfl, rfl, _, rfl, ?_⟩⟩
        refine ite2 (fun hc => ?_) (fun hc => ?_)
        · have hlt : topF none n < i := of_decide_eq_true hc
          exact q _ _ (by simp only [belowF]; rw [if_pos hlt]; rfl) (Same.refl H)
        · have hlt : ¬ topF none n < i := fun z => hc (decide_eq_true z)
          refine ⟨_, rfl, _, rfl, ln2, fun l hl => ?_⟩
          exact q _ _ (by simp only [belowF]; rw [if_neg hlt]; exact ⟨l, rfl, upd_same⟩) (Same.new hl)
    | some j =>
      refine ⟨_, rfl, _, rfl, iteF ⟨_, rfl, _, rfl, _, _, rfl, rfl, _, _, rfl, ?_⟩⟩
      cases lo with
      | none =>
        refine ⟨_, rfl, _, rfl, iteF (iteF ⟨_, rfl, _, rfl, ln2, fun l hl => ?_⟩)⟩
        exact q _ _ ⟨l, rfl, upd_same⟩ (Same.new hl)
      | some i =>
        refine ⟨_, rfl, _, rfl, iteT ⟨_, rfl, _, rfl, _, _, rfl, rfl, _, rfl, ?_⟩⟩
        refine ite2 (fun hc => ?_) (fun hc => ?_)
        · have hlt : topF (some j) n < i := of_decide_eq_true hc
          exact q _ _ (by simp only [belowF]; rw [if_pos hlt]; rfl) (Same.refl H)
        · have hlt : ¬ topF (some j) n < i := fun z => hc (decide_eq_true z)
          refine ⟨_, rfl, _, rfl, ln2, fun l hl => ?_⟩
          exact q _ _ (by simp only [belowF]; rw [if_neg hlt]; exact ⟨l, rfl, upd_same⟩) (Same.new hl)
end
end My

set_option Elab.async false
set_option linter.all false
set_option maxRecDepth 100000
namespace My
open PySem PySem.Spec PyProof.Rows L2
section
variable {P : Program} {w : World} {K : PySem.W.Frag} {mg : Str → Option Value} {base : Heap}
set_option maxHeartbeats 4000000 in
theorem ok_part_from {f : Addr} {fd : FuncData} (F : Fun K "part_from" "part_from" s_part_from f fd) (Z : Bl mg)  : FnOk P w K mg base CX0 1 f fd ["stretch", "number"] (spP fromF) := by
  refine F.ok (k := 0) sc_part_from (fun vs H Q E h => ?_) (fun cdv A outer s H vs Q E hr h => ?_)
  · obtain ⟨p, n, lo, hi, rfl, _⟩ := h
    rfl
  · obtain ⟨p, n, lo, hi, rfl, hp, q⟩ := h
    refine ⟨_, (pss_cons (ps_asg (pv 0) (pg_tup rfl (pgs_cons (pg_name (i := 2) sc_part_from.nd rfl (Or.inl rfl)) (pgs_cons (pg_name (i := 3) sc_part_from.nd rfl (Or.inl rfl)) pgs_nil))))
      (pss_cons (ps_set (i := 4) sc_part_from.nd rfl (Or.inl rfl) (pe_ifExp (pt_cmp (pc_isN (pv 2))) (pv 1) (pe_callB (call_max2 rfl) rfl Z.max bt_max (pa_cons (pv 2) (pa_cons (pv 1) pa_nil)))))
      (pss_cons (ps_if (PW.pt (pw_and (pt_cmp (pc_notN (pv 3))) (pw_and1 (pt_cmpR op_gt (pv 4) (pv 3) (nomark _)))))
      (pss_one (ps_ret pe_non))
      pss_nil)
      (pss_one (ps_ret (pe_tup (pa_cons (pv 4) (pa_cons (pv 3) pa_nil)))))))), ?_⟩
    refine ⟨_, rfl, p, _, rfl, SqT.of hp, rfl, _, _, rfl, _, _, rfl, rfl, ?_⟩
    cases lo with
    | none =>
      refine ⟨_, rfl, _, rfl, iteT ⟨_, rfl, ?_⟩⟩
      cases hi with
      | none =>
        refine ⟨_, rfl, _, rfl, iteF (iteF ⟨_, rfl, _, rfl, ln2, fun l hl => ?_⟩)⟩
        exact q _ _ ⟨l, rfl, upd_same⟩ (Same.new hl)
      | some j =>
        refine ⟨_, rfl, _, rfl, iteT ⟨_, rfl, _, rfl, _, _, rfl, rfl, _, rfl, ?_⟩⟩
        refine ite2 (fun hc => ?_) (fun hc => ?_)
        · have hlt : j < botF none n := of_decide_eq_true hc
          exact q _ _ (by simp only [fromF]; rw [if_pos hlt]; rfl) (Same.refl H)
        · have hlt : ¬ j < botF none n := fun z => hc (decide_eq_true z)
          refine ⟨_, rfl, _, rfl, ln2, fun l hl => ?_⟩
          exact q _ _ (by simp only [fromF]; rw [if_neg hlt]; exact ⟨l, rfl, upd_same⟩) (Same.new hl)
    | some i =>
      refine ⟨_, rfl, _, rfl, iteF ⟨_, rfl, _, rfl, _, _, rfl, ?_⟩⟩
      cases hi with
      | none =>
        refine ⟨_, rfl, _, rfl, iteF (iteF ⟨_, rfl, _, rfl, ln2, fun l hl => ?_⟩)⟩
        exact q _ _ ⟨l, rfl, upd_same⟩ (Same.new hl)
      | some j =>
        refine ⟨_, rfl, _, rfl, iteT ⟨_, rfl, _, rfl, _, _, rfl, rfl, _, rfl, ?_⟩⟩
        refine ite2 (fun hc => ?_) (fun hc => ?_)
        · have hlt : j < botF (some i) n := of_decide_eq_true hc
          exact q _ _ (by simp only [fromF]; rw [if_pos hlt]; rfl) (Same.refl H)
        · have hlt : ¬ j < botF (some i) n := fun z => hc (decide_eq_true z)
          refine ⟨_, rfl, _, rfl, ln2, fun l hl => ?_⟩
          exact q _ _ (by simp only [fromF]; rw [if_neg hlt]; exact ⟨l, rfl, upd_same⟩) (Same.new hl)
end
end My

set_option Elab.async false
set_option linter.all false
set_option maxRecDepth 100000
namespace My
open PySem PySem.Spec PyProof.Rows L2
section
variable {P : Program} {w : World} {K : PySem.W.Frag} {mg : Str → Option Value} {base : Heap}
set_option maxHeartbeats 4000000 in
theorem ok_part_at {f : Addr} {fd : FuncData} (F : Fun K "part_at" "part_at" s_part_at f fd) (Z : Bl mg) (O_lies_in : Own P w K mg base "lies_in" 1 ["number", "stretch"] spLies) : FnOk P w K mg base CX0 2 f fd ["stretch", "number"] (spP atF) := by
  refine F.ok (k := 1) sc_part_at (fun vs H Q E h => ?_) (fun cdv A outer s H vs Q E hr h => ?_)
  · obtain ⟨p, n, lo, hi, rfl, _⟩ := h
    rfl
  · obtain ⟨p, n, lo, hi, rfl, hp, q⟩ := h
    refine ⟨_, (pss_cons (ps_if (pt_val (pe_own O_lies_in (hr.mono (by decide)) rfl (pa_cons (pv 1) (pa_cons (pv 0) pa_nil))))
      (pss_one (ps_ret (pe_tup (pa_cons (pv 1) (pa_cons (pv 1) pa_nil)))))
      pss_nil)
      (pss_one (ps_ret pe_non))), ?_⟩

    refine ⟨_, rfl, _, rfl, n, p, lo, hi, rfl, hp, _, rfl, ?_⟩
    refine ite2 (fun hc => ?_) (fun hc => ?_)
    · refine ⟨_, rfl, _, rfl, ln2, fun l hl => ?_⟩
      exact q _ _ (by simp only [atF, if_pos hc]; exact ⟨l, rfl, upd_same⟩) (Same.new hl)
    · exact q _ _ (by simp only [atF, if_neg hc]; rfl) (Same.refl H)
end
end My

set_option Elab.async false
set_option linter.all false
set_option maxRecDepth 100000
namespace My
open PySem PySem.Spec PyProof.Rows L2
section
variable {P : Program} {w : World} {K : PySem.W.Frag} {mg : Str → Option Value} {base : Heap}
set_option maxHeartbeats 4000000 in
theorem ok_part_beside {f : Addr} {fd : FuncData} (F : Fun K "part_beside" "part_beside" s_part_beside f fd) (Z : Bl mg)  : FnOk P w K mg base CX0 1 f fd ["stretch", "number"] (spP besF) := by
  refine F.ok (k := 0) sc_part_beside (fun vs H Q E h => ?_) (fun cdv A outer s H vs Q E hr h => ?_)
  · obtain ⟨p, n, lo, hi, rfl, _⟩ := h
    rfl
  · obtain ⟨p, n, lo, hi, rfl, hp, q⟩ := h
    refine ⟨_, (pss_cons (ps_asg (pv 0) (pg_tup rfl (pgs_cons (pg_name (i := 2) sc_part_beside.nd rfl (Or.inl rfl)) (pgs_cons (pg_name (i := 3) sc_part_beside.nd rfl (Or.inl rfl)) pgs_nil))))
      (pss_cons (ps_if (PW.pt (pw_and (pt_cmpR op_eq (pv 2) (pv 1) (nomark _)) (pw_and1 (pt_cmpR op_eq (pv 3) (pv 1) (nomark _)))))
      (pss_one (ps_ret pe_non))
      pss_nil)
      (pss_cons (ps_if (pt_cmpR op_eq (pv 2) (pv 1) (nomark _))
      (pss_one (ps_ret (pe_tup (pa_cons (pe_op op_add (pv 1) pe_int) (pa_cons (pv 3) pa_nil)))))
      pss_nil)
      (pss_cons (ps_if (pt_cmpR op_eq (pv 3) (pv 1) (nomark _))
      (pss_one (ps_ret (pe_tup (pa_cons (pv 2) (pa_cons (pe_op op_sub (pv 1) pe_int) pa_nil)))))
      pss_nil)
      (pss_one (ps_ret (pe_tup (pa_cons (pv 2) (pa_cons (pv 3) pa_nil))))))))), ?_⟩
    refine ⟨_, rfl, p, _, rfl, SqT.of hp, rfl, _, _, rfl, _, _, rfl, rfl, ?_⟩
    refine ⟨_, rfl, _, rfl, scal_o, _, rfl, ?_⟩
    rw [dec_o]
    refine ite2 (fun hc => ?_) (fun hc => ?_)
    · have h1 : lo = some n := of_decide_eq_true hc
      refine ⟨_, rfl, _, rfl, scal_o, _, rfl, ?_⟩
      rw [dec_o]
      refine ite2 (fun hd => ?_) (fun hd => ?_)
      · have h2 : hi = some n := of_decide_eq_true hd
        exact q _ _ (by simp only [besF, if_pos h1, if_pos h2]; rfl) (Same.refl H)
      · have h2 : ¬ hi = some n := fun z => hd (decide_eq_true z)
        refine ⟨_, rfl, _, rfl, scal_o, _, rfl, ?_⟩
        rw [dec_o, hc]
        refine iteT ⟨_, rfl, _, _, rfl, rfl, _, rfl, ln2, fun l hl => ?_⟩
        exact q _ _ (by simp only [besF, if_pos h1, if_neg h2]; exact ⟨l, rfl, upd_same⟩) (Same.new hl)
    · have h1 : ¬ lo = some n := fun z => hc (decide_eq_true z)
      refine iteF ?_
      refine ⟨_, rfl, _, rfl, scal_o, _, rfl, ?_⟩
      rw [dec_o, show decide (lo = some n) = false from decide_eq_false h1]
      refine iteF ?_
      refine ⟨_, rfl, _, rfl, scal_o, _, rfl, ?_⟩
      rw [dec_o]
      refine ite2 (fun hd => ?_) (fun hd => ?_)
      · have h2 : hi = some n := of_decide_eq_true hd
        refine ⟨_, rfl, _, rfl, _, _, rfl, rfl, ln2, fun l hl => ?_⟩
        exact q _ _ (by simp only [besF, if_neg h1, if_pos h2]; exact ⟨l, rfl, upd_same⟩) (Same.new hl)
      · have h2 : ¬ hi = some n := fun z => hd (decide_eq_true z)
        refine ⟨_, rfl, _, rfl, ln2, fun l hl => ?_⟩
        exact q _ _ (by simp only [besF, if_neg h1, if_neg h2]; exact ⟨l, rfl, upd_same⟩) (Same.new hl)
end
end My

set_option Elab.async false
set_option linter.all false
set_option maxRecDepth 100000
namespace My
open PySem PySem.Spec PyProof.Rows L2
section
variable {P : Program} {w : World} {K : PySem.W.Frag} {mg : Str → Option Value} {base : Heap}
set_option maxHeartbeats 4000000 in
theorem ok_part_of {f : Addr} {fd : FuncData} (F : Fun K "part_of" "part_of" s_part_of f fd) (Z : Bl mg) (O_part_below : Own P w K mg base "part_below" 1 ["stretch", "number"] (spP belowF)) (O_part_from : Own P w K mg base "part_from" 1 ["stretch", "number"] (spP fromF)) (O_part_at : Own P w K mg base "part_at" 2 ["stretch", "number"] (spP atF)) (O_part_beside : Own P w K mg base "part_beside" 1 ["stretch", "number"] (spP besF)) : FnOk P w K mg base CX0 3 f fd ["stretch", "word", "number", "side"] spPart := by
  refine F.ok (k := 2) sc_part_of (fun vs H Q E h => ?_) (fun cdv A outer s H vs Q E hr h => ?_)
  · obtain ⟨p, w, n, side, lo, hi, rfl, _⟩ := h
    rfl
  · obtain ⟨p, w, n, side, lo, hi, rfl, hp, q⟩ := h
    refine ⟨_, (pss_cons (ps_if (pt_cmpR op_eq (pv 1) pe_str (nomark _))
      (pss_one (ps_ret (pe_ifExp (pt_val (pv 3)) (pe_own O_part_below (hr.mono (by decide)) rfl (pa_cons (pv 0) (pa_cons (pv 2) pa_nil))) (pe_own O_part_from (hr.mono (by decide)) rfl (pa_cons (pv 0) (pa_cons (pv 2) pa_nil))))))
      pss_nil)
      (pss_one (ps_ret (pe_ifExp (pt_val (pv 3)) (pe_own O_part_at (hr.mono (by decide)) rfl (pa_cons (pv 0) (pa_cons (pv 2) pa_nil))) (pe_own O_part_beside (hr.mono (by decide)) rfl (pa_cons (pv 0) (pa_cons (pv 2) pa_nil))))))), ?_⟩

    refine ⟨_, rfl, rfl, _, rfl, ?_⟩
    by_cases hw : w = "less"
    · subst hw
      rw [less_less]
      refine iteT ⟨_, rfl, _, rfl, ?_⟩
      cases side with
      | true => exact iteT ⟨_, rfl, _, rfl, p, n, lo, hi, rfl, hp, fun v H1 r s1 => q v H1 (by simp only [partF, lessF, if_true]; exact r) s1⟩
      | false => exact iteF ⟨_, rfl, _, rfl, p, n, lo, hi, rfl, hp, fun v H1 r s1 => q v H1 (by simp only [partF, lessF, if_true, Bool.false_eq_true, if_false]; exact r) s1⟩
    · have e : decide (V.str w = V.str "less") = false := decide_eq_false fun z => hw (V.str.inj z)
      rw [e]
      refine iteF ⟨_, rfl, _, rfl, ?_⟩
      cases side with
      | true => exact iteT ⟨_, rfl, _, rfl, p, n, lo, hi, rfl, hp, fun v H1 r s1 => q v H1 (by simp only [partF, isF, if_neg hw, if_true]; exact r) s1⟩
      | false => exact iteF ⟨_, rfl, _, rfl, p, n, lo, hi, rfl, hp, fun v H1 r s1 => q v H1 (by simp only [partF, isF, if_neg hw, Bool.false_eq_true, if_false]; exact r) s1⟩
end
end My

set_option Elab.async false
set_option linter.all false
set_option maxRecDepth 100000
namespace My
open PySem PySem.Spec PyProof.Rows L2
section
variable {P : Program} {w : World} {K : PySem.W.Frag} {mg : Str → Option Value} {base : Heap}
set_option maxHeartbeats 4000000 in
theorem ok_answer_of {f : Addr} {fd : FuncData} (F : Fun K "answer_of" "answer_of" s_answer_of f fd) (Z : Bl mg) (O_part_of : Own P w K mg base "part_of" 3 ["stretch", "word", "number", "side"] spPart) : FnOk P w K mg base CX0 4 f fd ["stretch", "word", "number"] spAns := by
  refine F.ok (k := 3) sc_answer_of (fun vs H Q E h => ?_) (fun cdv A outer s H vs Q E hr h => ?_)
  · obtain ⟨p, w, n, lo, hi, rfl, _⟩ := h
    rfl
  · obtain ⟨p, w, n, lo, hi, rfl, hp, q⟩ := h
    refine ⟨_, (pss_cons (ps_if (pt_cmp (pc_isN (pe_own O_part_of (hr.mono (by decide)) rfl (pa_cons (pv 0) (pa_cons (pv 1) (pa_cons (pv 2) (pa_cons pe_bl pa_nil)))))))
      (pss_one (ps_ret pe_str))
      pss_nil)
      (pss_cons (ps_if (pt_cmp (pc_isN (pe_own O_part_of (hr.mono (by decide)) rfl (pa_cons (pv 0) (pa_cons (pv 1) (pa_cons (pv 2) (pa_cons pe_bl pa_nil)))))))
      (pss_one (ps_ret pe_str))
      pss_nil)
      (pss_one (ps_ret pe_str)))), ?_⟩

    refine ⟨_, rfl, _, rfl, _, rfl, p, w, n, false, lo, hi, rfl, hp, fun v H1 r s1 => ⟨_, rfl, ?_⟩⟩
    cases e : partF w lo hi n false with
    | none =>
      rw [e] at r
      cases (show v = V.non from r)
      exact iteT (by have q' := q H1 s1; rw [e] at q'; exact q')
    | some ab =>
      rw [e] at r
      obtain ⟨a, b⟩ := ab
      obtain ⟨l, rfl, hl⟩ := r
      refine iteF ?_
      refine ⟨_, rfl, _, rfl, _, rfl, p, w, n, true, lo, hi, rfl, s1 _ _ hp, fun v2 H2 r2 s2 => ⟨_, rfl, ?_⟩⟩
      cases e2 : partF w lo hi n true with
      | none =>
        rw [e2] at r2
        cases (show v2 = V.non from r2)
        exact iteT (by have q' := q H2 (s1.trans s2); rw [e, e2] at q'; exact q')
      | some cd =>
        rw [e2] at r2
        obtain ⟨c, d⟩ := cd
        obtain ⟨l2, rfl, hl2⟩ := r2
        exact iteF (by have q' := q H2 (s1.trans s2); rw [e, e2] at q'; exact q')
end
end My

set_option Elab.async false
set_option linter.all false
set_option maxRecDepth 100000
namespace My
open PySem PySem.Spec PyProof.Rows L2
section
variable {P : Program} {w : World} {K : PySem.W.Frag} {mg : Str → Option Value} {base : Heap}
set_option maxHeartbeats 4000000 in
theorem ok_Stand_worth {f : Addr} {fd : FuncData} (F : Fun K "worth" "Stand.worth" s_Stand_worth f fd) (Z : Bl mg) {C : Addr} (T : StT K C)  : FnOk P w K mg base CX0 1 f fd ["self", "name"] (spWorth C) := by
  refine F.ok (k := 0) sc_Stand_worth (fun vs H Q E h => ?_) (fun cdv A outer s H vs Q E hr h => ?_)
  · obtain ⟨p, pl, d, nl, sl, plv, nums, S, m, x, rfl, _⟩ := h
    rfl
  · obtain ⟨p, pl, d, nl, sl, plv, nums, S, m, x, rfl, A, q⟩ := h
    refine ⟨_, (pss_one (ps_ret (pe_dget2v (hu_of hr) (pe_fld (pv 0) rfl) (pv 1) pe_int ⟨rfl, rfl, rfl, rfl⟩))), ?_⟩

    obtain ⟨dx, hob⟩ := A.ob
    obtain ⟨kvs, hd, dw, hk⟩ := A.dict
    exact ⟨_, rfl, p, C, dx, _, _, rfl, hob, T.cl, T.worths, lk_worths, d, rfl, .inl ⟨kvs, .inl hd⟩, _, rfl, _, _, DGet.k (k := Sum.inr x) hd, dw x, q⟩
end
end My

set_option Elab.async false
set_option linter.all false
set_option maxRecDepth 100000
namespace My
open PySem PySem.Spec PyProof.Rows L2
section
variable {P : Program} {w : World} {K : PySem.W.Frag} {mg : Str → Option Value} {base : Heap}
set_option maxHeartbeats 4000000 in
theorem ok_Stand_coming {f : Addr} {fd : FuncData} (F : Fun K "coming" "Stand.coming" s_Stand_coming f fd) (Z : Bl mg) {C : Addr} (T : StT K C)  : FnOk P w K mg base CX0 1 f fd ["self"] (spComing C) := by
  refine F.ok (k := 0) sc_Stand_coming (fun vs H Q E h => ?_) (fun cdv A outer s H vs Q E hr h => ?_)
  · obtain ⟨p, pl, d, nl, sl, plv, nums, S, m, ps, ds, e, rfl, _⟩ := h
    rfl
  · obtain ⟨p, pl, d, nl, sl, plv, nums, S, m, ps, ds, e, rfl, A, hp, hx, q⟩ := h
    refine ⟨_, (pss_cons (ps_cut (ps_asg (pe_ix ix_tup (pe_fld (pv 0) rfl) (pe_ix ix_list (pe_fld (pv 0) rfl) (pe_un un_neg pe_int) (fun _ _ => rfl)) (fun _ _ => rfl)) (pg_tup rfl (pgs_cons (pg_name (i := 1) sc_Stand_coming.nd rfl (Or.inl rfl)) (pgs_cons (pg_name (i := 2) sc_Stand_coming.nd rfl (Or.inl rfl)) pgs_nil)))))
      (pss_one (ps_ret (pe_ifExp (pt_cmpR op_lt (pe_fld (pv 0) rfl) (pe_callB call_len_seq rfl Z.len bt_len (pa_cons (pv 1) pa_nil)) (nomark _)) (pe_ix ix_tup (pv 1) (pe_fld (pv 0) rfl) (fun _ _ => rfl)) (pv 2))))), ?_⟩

    obtain ⟨dx, hob⟩ := A.ob
    obtain ⟨pp, xs, pc, da, ea, vs, rfl, e1, el, hx', e2, e3, r3, e4⟩ := rd_piece hp hx
    have hvl : vs.length = ds.length := by rw [r3.len, List.length_map]
    refine ⟨fun σ' H' => σ' = [some (.ref p), some (.ref da), some (.ref ea)] ∧ H = H', ⟨_, rfl, p, C, dx, _, _, rfl, hob, T.cl, T.pieces, lk_pieces, _, rfl, p, C, dx, _, _, rfl, hob, T.cl, T.passed, lk_passed, _, rfl, pl, _, _, _, rfl, rfl, SqL.of A.passed, A.at_last, pp, xs, _, _, rfl, rfl, SqT.of e1, atI_nat hx', pc, _, rfl, SqT.of e2, rfl, _, _, rfl, _, _, rfl, rfl, rfl, rfl⟩, ?_⟩
    rintro σ' H' ⟨rfl, rfl⟩
    refine ⟨_, rfl, p, C, dx, _, _, rfl, hob, T.cl, T.place, lk_place, _, rfl, da, _, rfl, .inr (SqT.of e3), _, _, rfl, rfl, _, rfl, ?_⟩
    refine ite2 (fun hc => ?_) (fun hc => ?_)
    · have hlt : S.place < vs.length := by have := of_decide_eq_true hc; omega
      have hdd : ds[S.place]? = some (ds[S.place]'(by omega)) := by simp [show S.place < ds.length by omega]
      generalize hde : ds[S.place]'(by omega) = dd at hdd
      obtain ⟨v, hv, rd⟩ := r3.get (i := S.place) (d := dDeed dd) (by rw [List.getElem?_map, hdd]; rfl)
      obtain ⟨dp, rfl, hdp⟩ := rd_deed rd
      exact ⟨_, rfl, _, rfl, p, C, dx, _, _, rfl, hob, T.cl, T.place, lk_place, da, _, _, _, rfl, rfl, SqT.of e3, atI_nat hv, q _ (.deed dd dp hdd rfl hdp)⟩
    · have hge : ¬ S.place < vs.length := fun z => hc (decide_eq_true (by omega))
      exact ⟨_, rfl, q _ (.end_ ea (by simp; omega) rfl e4)⟩
end
end My

set_option Elab.async false
set_option linter.all false
set_option maxRecDepth 100000
namespace My
open PySem PySem.Spec PyProof.Rows L2
section
variable {P : Program} {w : World} {K : PySem.W.Frag} {mg : Str → Option Value} {base : Heap}
set_option maxHeartbeats 4000000 in
theorem ok_Stand_lacks_number {f : Addr} {fd : FuncData} (F : Fun K "lacks_number" "Stand.lacks_number" s_Stand_lacks_number f fd) (Z : Bl mg) {C : Addr} (T : StT K C) (O_Stand_coming : MOwn P w K mg base C "coming" 1 ["self"] (spComing C)) : FnOk P w K mg base CX0 2 f fd ["self"] (spLacks C) := by
  refine F.ok (k := 1) sc_Stand_lacks_number (fun vs H Q E h => ?_) (fun cdv A outer s H vs Q E hr h => ?_)
  · obtain ⟨p, pl, d, nl, sl, plv, nums, S, m, ps, rfl, _⟩ := h
    rfl
  · obtain ⟨p, pl, d, nl, sl, plv, nums, S, m, ps, rfl, A, hp, hpc, q⟩ := h
    refine ⟨_, (pss_one (ps_ret (pe_and (pe_cmpR op_eq (pe_ix ix_tup (pe_mown0 O_Stand_coming (pv 0) (hr.mono (by decide))) pe_int (fun _ _ => rfl)) pe_str (nomark _)) (pe_one (pe_cmpR op_eq (pe_fld (pv 0) rfl) (pe_callB call_len_seq rfl Z.len bt_len (pa_cons (pe_fld (pv 0) rfl) pa_nil)) (nomark _)))))), ?_⟩

    obtain ⟨dx, hob⟩ := A.ob
    have hx : ps[S.piece]? = some ps[S.piece] := by simp [hpc]
    generalize hpe : ps[S.piece] = pe at hx
    obtain ⟨ds, e⟩ := pe
    unfold lackB at q
    rw [hx] at q
    dsimp only at q
    refine ⟨_, rfl, p, dx, _, rfl, hob, no_coming, p, pl, d, nl, sl, plv, nums, S, m, ps, ds, e, rfl, A, hp, hx, fun v hv => ?_⟩
    cases hv with
    | deed dd w h hv hw =>
      subst hv
      rw [h] at q
      dsimp only at q
      cases dd
      case read x =>
        refine ⟨w, _, 0, _, rfl, rfl, SqT.of hw, at0, rfl, _, rfl, ?_⟩
        refine iteTb (show decide (V.str "read" = V.str "read") = true by decide +kernel) ?_
        refine ⟨_, rfl, p, C, dx, _, _, rfl, hob, T.cl, T.taken, lk_taken, _, rfl, p, C, dx, _, _, rfl, hob, T.cl, T.numbers, lk_numbers, nl, _, rfl, .inl (SqL.of A.nums), rfl, ?_⟩
        have ez : decide (V.int (S.taken : Int) = V.int ((nums.map V.int).length : Nat)) = (isRead (.read x) && decide (S.taken = nums.length)) := by
          rw [dec_int, List.length_map]
          show _ = decide (S.taken = nums.length)
          by_cases hh : S.taken = nums.length
          · rw [hh]; simp
          · rw [decide_eq_false hh]
            exact beq_false_of_ne fun z => hh (by omega)
        rw [ez]
        exact q
      case put x n =>
        refine ⟨w, _, 0, _, rfl, rfl, SqT.of hw, at0, rfl, _, rfl, ?_⟩
        exact iteFb (show decide (V.str "put" = V.str "read") = false by decide +kernel) q
      case copy x n =>
        refine ⟨w, _, 0, _, rfl, rfl, SqT.of hw, at0, rfl, _, rfl, ?_⟩
        exact iteFb (show decide (V.str "copy" = V.str "read") = false by decide +kernel) q
      case add x n =>
        refine ⟨w, _, 0, _, rfl, rfl, SqT.of hw, at0, rfl, _, rfl, ?_⟩
        exact iteFb (show decide (V.str "add" = V.str "read") = false by decide +kernel) q
      case tell x =>
        refine ⟨w, _, 0, _, rfl, rfl, SqT.of hw, at0, rfl, _, rfl, ?_⟩
        exact iteFb (show decide (V.str "tell" = V.str "read") = false by decide +kernel) q
    | end_ w h hv hw =>
      subst hv
      rw [h] at q
      dsimp only at q
      cases e
      case stop =>
        refine ⟨w, _, 0, _, rfl, rfl, SqT.of hw, at0, rfl, _, rfl, ?_⟩
        exact iteFb (show decide (V.str "stop" = V.str "read") = false by decide +kernel) q
      case go x =>
        refine ⟨w, _, 0, _, rfl, rfl, SqT.of hw, at0, rfl, _, rfl, ?_⟩
        exact iteFb (show decide (V.str "go" = V.str "read") = false by decide +kernel) q
      case tst b x n u v =>
        refine ⟨w, _, 0, _, rfl, rfl, SqT.of hw, at0, rfl, _, rfl, ?_⟩
        refine iteFb ?_ q
        cases b
        · show decide (V.str "is" = V.str "read") = false
          decide +kernel
        · show decide (V.str "less" = V.str "read") = false
          decide +kernel
end
end My

set_option Elab.async false
set_option linter.all false
set_option maxRecDepth 100000
namespace My
open PySem PySem.Spec PyProof.Rows L2
section
variable {P : Program} {w : World} {K : PySem.W.Frag} {mg : Str → Option Value} {base : Heap}
set_option maxHeartbeats 4000000 in
theorem ok_Stand_is_held {f : Addr} {fd : FuncData} (F : Fun K "is_held" "Stand.is_held" s_Stand_is_held f fd) (Z : Bl mg) {C : Addr} (T : StT K C) (O_Stand_lacks_number : MOwn P w K mg base C "lacks_number" 2 ["self"] (spLacks C)) : FnOk P w K mg base CX0 3 f fd ["self"] (spHeld C) := by
  refine F.ok (k := 2) sc_Stand_is_held (fun vs H Q E h => ?_) (fun cdv A outer s H vs Q E hr h => ?_)
  · obtain ⟨p, pl, d, nl, sl, plv, nums, S, m, ps, rfl, _⟩ := h
    rfl
  · obtain ⟨p, pl, d, nl, sl, plv, nums, S, m, ps, rfl, A, hp, hpc, q⟩ := h
    refine ⟨_, (pss_one (ps_ret (pe_or (pe_fld (pv 0) rfl) (pe_one (pe_mown0 O_Stand_lacks_number (pv 0) (hr.mono (by decide))))))), ?_⟩

    obtain ⟨dx, hob⟩ := A.ob
    unfold heldB at q
    refine ⟨_, rfl, p, C, dx, _, _, rfl, hob, T.cl, T.over, lk_over, _, rfl, ?_⟩
    cases ho : decide (S.word = ("stop" : Str)) with
    | true =>
      refine iteTb rfl ?_
      rw [ho] at q
      exact q
    | false =>
      refine iteFb rfl ?_
      rw [ho] at q
      exact ⟨_, rfl, p, dx, _, rfl, hob, no_lacks_number, p, pl, d, nl, sl, plv, nums, S, m, ps, rfl, A, hp, hpc, q⟩
end
end My

set_option Elab.async false
set_option linter.all false
set_option maxRecDepth 100000
namespace My
open PySem PySem.Spec PyProof.Rows L2
section
variable {P : Program} {w : World} {K : PySem.W.Frag} {mg : Str → Option Value} {base : Heap}
set_option maxHeartbeats 4000000 in
theorem ok_Stand_take_number {f : Addr} {fd : FuncData} (F : Fun K "take_number" "Stand.take_number" s_Stand_take_number f fd) (Z : Bl mg) {C : Addr} (T : StT K C)  : FnOk P w K mg base CX0 1 f fd ["self"] (spTakeN C) := by
  refine F.ok (k := 0) sc_Stand_take_number (fun vs H Q E h => ?_) (fun cdv A outer s H vs Q E hr h => ?_)
  · obtain ⟨p, pl, d, nl, sl, plv, nums, S, m, n, rfl, _⟩ := h
    rfl
  · obtain ⟨p, pl, d, nl, sl, plv, nums, S, m, n, rfl, A, hn, q⟩ := h
    refine ⟨_, (pss_cons (ps_fldaug (pv 0) pe_int in_add)
      (pss_one (ps_ret (pe_ix ix_list (pe_fld (pv 0) rfl) (pe_op op_sub (pe_fld (pv 0) rfl) pe_int) (fun _ _ => rfl))))), ?_⟩

    obtain ⟨dx, hob⟩ := A.ob
    refine ⟨_, rfl, p, C, dx, _, _, rfl, hob, T.cl, T.taken, lk_taken, _, _, rfl, rfl, dx, _, hob, (by show 8 < 1000; decide), ?_⟩
    have A1 : SAt C (upd H p (.ins C dx (putF "taken" (.int ((S.taken : Int) + 1)) (sfl plv (.ref pl) (.int S.place) (.ref d) (.ref nl) (.int S.taken) (.ref sl) (.bl (decide (S.word = "stop"))))))) p pl d nl sl plv nums { S with taken := S.taken + 1 } m :=
      A.obj (by rw [pf_taken]; rfl) rfl rfl rfl rfl
    have q1 := q _ A1 But4.put_p
    clear q
    revert A1 q1
    generalize (upd H p (.ins C dx (putF "taken" (.int ((S.taken : Int) + 1)) (sfl plv (.ref pl) (.int S.place) (.ref d) (.ref nl) (.int S.taken) (.ref sl) (.bl (decide (S.word = "stop"))))))) = H1
    intro A1 q1
    obtain ⟨dx1, hob1⟩ := A1.ob
    refine ⟨_, rfl, p, C, dx1, _, _, rfl, hob1, T.cl, T.numbers, lk_numbers, _, rfl, p, C, dx1, _, _, rfl, hob1, T.cl, T.taken, lk_taken, _, _, rfl, rfl, nl, _, _, _, rfl, rfl, SqL.of A1.nums, ?_, q1⟩
    have e1 : (((S.taken + 1 : Nat) : Int) - 1) = (S.taken : Nat) := by omega
    show atI (nums.map V.int) (((S.taken + 1 : Nat) : Int) - 1) = some (V.int n)
    rw [e1]
    exact atI_nat (by rw [List.getElem?_map, hn]; rfl)
end
end My

set_option Elab.async false
set_option linter.all false
set_option maxRecDepth 100000
namespace My
open PySem PySem.Spec PyProof.Rows L2
section
variable {P : Program} {w : World} {K : PySem.W.Frag} {mg : Str → Option Value} {base : Heap}
set_option maxHeartbeats 4000000 in
theorem ok_Stand_do_deed {f : Addr} {fd : FuncData} (F : Fun K "do_deed" "Stand.do_deed" s_Stand_do_deed f fd) (Z : Bl mg) {C : Addr} (T : StT K C) (O_Stand_worth : MOwn P w K mg base C "worth" 1 ["self", "name"] (spWorth C)) (O_Stand_take_number : MOwn P w K mg base C "take_number" 1 ["self"] (spTakeN C)) : FnOk P w K mg base CX0 2 f fd ["self", "deed"] (spDoDeed C) := by
  refine F.ok (k := 1) sc_Stand_do_deed (fun vs H Q E h => ?_) (fun cdv A outer s H vs Q E hr h => ?_)
  · obtain ⟨p, pl, d, nl, sl, w, plv, nums, S, m, dd, rfl, _⟩ := h
    rfl
  · obtain ⟨p, pl, d, nl, sl, w, plv, nums, S, m, dd, rfl, A, hw, hrd, hm, q⟩ := h
    refine ⟨_, (pss_cons (ps_cut (ps_par (i := 2) (j := 3) rfl sc_Stand_do_deed.nd rfl rfl (by decide) rfl rfl (pa_cons (pe_ix ix_tup (pv 1) pe_int (fun _ _ => rfl)) (pa_cons (pe_ix ix_tup (pv 1) pe_int (fun _ _ => rfl)) pa_nil)) rfl))
      (pss_cons (ps_if (pt_cmpR op_eq (pv 2) pe_str (nomark _))
      (pss_one (ps_dput (hu_of hr) (pe_fld (pv 0) rfl) (pv 3) (pe_ix ix_tup (pv 1) pe_int (fun _ _ => rfl)) rfl))
      (pss_one (ps_if (pt_cmpR op_eq (pv 2) pe_str (nomark _))
      (pss_one (ps_dput (hu_of hr) (pe_fld (pv 0) rfl) (pv 3) (pe_mown O_Stand_worth (pv 0) (hr.mono (by decide)) (pa_cons (pe_ix ix_tup (pv 1) pe_int (fun _ _ => rfl)) pa_nil)) rfl))
      (pss_one (ps_if (pt_cmpR op_eq (pv 2) pe_str (nomark _))
      (pss_one (ps_dput (hu_of hr) (pe_fld (pv 0) rfl) (pv 3) (pe_op op_add (pe_mown O_Stand_worth (pv 0) (hr.mono (by decide)) (pa_cons (pv 3) pa_nil)) (pe_ix ix_tup (pv 1) pe_int (fun _ _ => rfl))) rfl))
      (pss_one (ps_if (pt_cmpR op_eq (pv 2) pe_str (nomark _))
      (pss_one (ps_dput (hu_of hr) (pe_fld (pv 0) rfl) (pv 3) (pe_mown0 O_Stand_take_number (pv 0) (hr.mono (by decide))) rfl))
      (pss_one (ps_expr (pe_bm PySem.F.plainAttrs_list PySem.F.slot_list_append PySem.F.type_list_append mt_append (pe_fld (pv 0) rfl) (pa_cons (pe_mown O_Stand_worth (pv 0) (hr.mono (by decide)) (pa_cons (pv 3) pa_nil)) pa_nil)))))))))))
      (pss_one (ps_fldaug (pv 0) pe_int in_add)))), ?_⟩

    obtain ⟨dx, hob⟩ := A.ob
    obtain ⟨kvs, hd, dw, hk⟩ := A.dict
    cases dd
    case put x n =>
        refine ⟨fun σ' H' => σ' = [some (.ref p), some (.ref w), some (.str "put"), some (.str x)] ∧ H = H', ⟨_, rfl, w, _, 0, _, rfl, rfl, SqT.of hw, at0, _, rfl, w, _, 1, _, rfl, rfl, SqT.of hw, at1, _, _, rfl, rfl, rfl⟩, ?_⟩
        rintro σ' H' ⟨rfl, rfl⟩
        refine ⟨_, rfl, rfl, _, rfl, ?_⟩
        refine iteTb (show decide (V.str "put" = V.str "put") = true by decide +kernel) ?_
        refine ⟨_, rfl, w, _, 2, _, rfl, rfl, SqT.of hw, at2, _, rfl, p, C, dx, _, _, rfl, hob, T.cl, T.worths, lk_worths, _, rfl, d, _, rfl, DPut.k (k := Sum.inr x) hd (small1000' (by omega)), ?_⟩
        have A1 := A.worths (x := x) (n := n) hd dw hk
        obtain ⟨dx1, hob1⟩ := A1.ob
        refine ⟨_, rfl, p, C, dx1, _, _, rfl, hob1, T.cl, T.place, lk_place, _, _, rfl, rfl, dx1, _, hob1, (by show 8 < 1000; decide), ?_⟩
        exact q _ (A1.obj (by rw [pf_place]; rfl) rfl rfl rfl rfl) (But4.put_d.trans But4.put_p)

    case copy x y =>
        refine ⟨fun σ' H' => σ' = [some (.ref p), some (.ref w), some (.str "copy"), some (.str x)] ∧ H = H', ⟨_, rfl, w, _, 0, _, rfl, rfl, SqT.of hw, at0, _, rfl, w, _, 1, _, rfl, rfl, SqT.of hw, at1, _, _, rfl, rfl, rfl⟩, ?_⟩
        rintro σ' H' ⟨rfl, rfl⟩
        refine ⟨_, rfl, rfl, _, rfl, ?_⟩
        refine iteFb (show decide (V.str "copy" = V.str "put") = false by decide +kernel) ?_
        refine ⟨_, rfl, rfl, _, rfl, ?_⟩
        refine iteTb (show decide (V.str "copy" = V.str "copy") = true by decide +kernel) ?_
        refine ⟨_, rfl, p, dx, _, rfl, hob, no_worth, _, rfl, w, _, 2, _, rfl, rfl, SqT.of hw, at2, p, pl, d, nl, sl, plv, nums, S, m, y, rfl, A, _, rfl, p, C, dx, _, _, rfl, hob, T.cl, T.worths, lk_worths, _, rfl, d, _, rfl, DPut.k (k := Sum.inr x) hd (small1000' (by omega)), ?_⟩
        have A1 := A.worths (x := x) (n := S.w y) hd dw hk
        obtain ⟨dx1, hob1⟩ := A1.ob
        refine ⟨_, rfl, p, C, dx1, _, _, rfl, hob1, T.cl, T.place, lk_place, _, _, rfl, rfl, dx1, _, hob1, (by show 8 < 1000; decide), ?_⟩
        exact q _ (A1.obj (by rw [pf_place]; rfl) rfl rfl rfl rfl) (But4.put_d.trans But4.put_p)

    case add x n =>
        refine ⟨fun σ' H' => σ' = [some (.ref p), some (.ref w), some (.str "add"), some (.str x)] ∧ H = H', ⟨_, rfl, w, _, 0, _, rfl, rfl, SqT.of hw, at0, _, rfl, w, _, 1, _, rfl, rfl, SqT.of hw, at1, _, _, rfl, rfl, rfl⟩, ?_⟩
        rintro σ' H' ⟨rfl, rfl⟩
        refine ⟨_, rfl, rfl, _, rfl, ?_⟩
        refine iteFb (show decide (V.str "add" = V.str "put") = false by decide +kernel) ?_
        refine ⟨_, rfl, rfl, _, rfl, ?_⟩
        refine iteFb (show decide (V.str "add" = V.str "copy") = false by decide +kernel) ?_
        refine ⟨_, rfl, rfl, _, rfl, ?_⟩
        refine iteTb (show decide (V.str "add" = V.str "add") = true by decide +kernel) ?_
        refine ⟨_, rfl, p, dx, _, rfl, hob, no_worth, _, rfl, p, pl, d, nl, sl, plv, nums, S, m, x, rfl, A, _, rfl, w, _, 2, _, rfl, rfl, SqT.of hw, at2, _, _, rfl, rfl, _, rfl, p, C, dx, _, _, rfl, hob, T.cl, T.worths, lk_worths, _, rfl, d, _, rfl, DPut.k (k := Sum.inr x) hd (small1000' (by omega)), ?_⟩
        have A1 := A.worths (x := x) (n := S.w x + n) hd dw hk
        obtain ⟨dx1, hob1⟩ := A1.ob
        refine ⟨_, rfl, p, C, dx1, _, _, rfl, hob1, T.cl, T.place, lk_place, _, _, rfl, rfl, dx1, _, hob1, (by show 8 < 1000; decide), ?_⟩
        exact q _ (A1.obj (by rw [pf_place]; rfl) rfl rfl rfl rfl) (But4.put_d.trans But4.put_p)

    case read x =>
        refine ⟨fun σ' H' => σ' = [some (.ref p), some (.ref w), some (.str "read"), some (.str x)] ∧ H = H', ⟨_, rfl, w, _, 0, _, rfl, rfl, SqT.of hw, at0, _, rfl, w, _, 1, _, rfl, rfl, SqT.of hw, at1, _, _, rfl, rfl, rfl⟩, ?_⟩
        rintro σ' H' ⟨rfl, rfl⟩
        have hlt := hrd rfl
        have hn : nums[S.taken]? = some nums[S.taken] := by simp [hlt]
        generalize nums[S.taken] = n at hn
        have es : stepD nums S (.read x) = { S with w := setW S.w x n, taken := S.taken + 1, place := S.place + 1 } := by
          unfold stepD
          rw [hn]
        rw [es] at q
        refine ⟨_, rfl, rfl, _, rfl, ?_⟩
        refine iteFb (show decide (V.str "read" = V.str "put") = false by decide +kernel) ?_
        refine ⟨_, rfl, rfl, _, rfl, ?_⟩
        refine iteFb (show decide (V.str "read" = V.str "copy") = false by decide +kernel) ?_
        refine ⟨_, rfl, rfl, _, rfl, ?_⟩
        refine iteFb (show decide (V.str "read" = V.str "add") = false by decide +kernel) ?_
        refine ⟨_, rfl, rfl, _, rfl, ?_⟩
        refine iteTb (show decide (V.str "read" = V.str "read") = true by decide +kernel) ?_
        refine ⟨_, rfl, p, dx, _, rfl, hob, no_take_number, p, pl, d, nl, sl, plv, nums, S, m, n, rfl, A, hn, fun H1 A1 b1 => ?_⟩
        obtain ⟨dx1, hob1⟩ := A1.ob
        obtain ⟨kvs1, hd1, dw1, hk1⟩ := A1.dict
        refine ⟨_, rfl, p, C, dx1, _, _, rfl, hob1, T.cl, T.worths, lk_worths, _, rfl, d, _, rfl, DPut.k (k := Sum.inr x) hd1 (small1000' (by omega)), ?_⟩
        have A2 := A1.worths (x := x) (n := n) hd1 dw1 hk1
        obtain ⟨dx2, hob2⟩ := A2.ob
        refine ⟨_, rfl, p, C, dx2, _, _, rfl, hob2, T.cl, T.place, lk_place, _, _, rfl, rfl, dx2, _, hob2, (by show 8 < 1000; decide), ?_⟩
        exact q _ (A2.obj (by rw [pf_place]; rfl) rfl rfl rfl rfl) ((b1.trans But4.put_d).trans But4.put_p)

    case tell x =>
        refine ⟨fun σ' H' => σ' = [some (.ref p), some (.ref w), some (.str "tell"), some (.str x)] ∧ H = H', ⟨_, rfl, w, _, 0, _, rfl, rfl, SqT.of hw, at0, _, rfl, w, _, 1, _, rfl, rfl, SqT.of hw, at1, _, _, rfl, rfl, rfl⟩, ?_⟩
        rintro σ' H' ⟨rfl, rfl⟩
        refine ⟨_, rfl, rfl, _, rfl, ?_⟩
        refine iteFb (show decide (V.str "tell" = V.str "put") = false by decide +kernel) ?_
        refine ⟨_, rfl, rfl, _, rfl, ?_⟩
        refine iteFb (show decide (V.str "tell" = V.str "copy") = false by decide +kernel) ?_
        refine ⟨_, rfl, rfl, _, rfl, ?_⟩
        refine iteFb (show decide (V.str "tell" = V.str "add") = false by decide +kernel) ?_
        refine ⟨_, rfl, rfl, _, rfl, ?_⟩
        refine iteFb (show decide (V.str "tell" = V.str "read") = false by decide +kernel) ?_
        refine ⟨_, rfl, p, C, dx, _, _, rfl, hob, T.cl, T.spoken, lk_spoken, .inl ⟨rfl, _, SqL.of A.spoken⟩, _, rfl, p, dx, _, rfl, hob, no_worth, _, rfl, p, pl, d, nl, sl, plv, nums, S, m, x, rfl, A, sl, _, _, rfl, rfl, A.spoken, (by rw [List.length_map]; exact small1000' (by have := A.few.1; omega)), ?_⟩
        have A1 := A.speak (n := S.w x)
        obtain ⟨dx1, hob1⟩ := A1.ob
        refine ⟨_, rfl, p, C, dx1, _, _, rfl, hob1, T.cl, T.place, lk_place, _, _, rfl, rfl, dx1, _, hob1, (by show 8 < 1000; decide), ?_⟩
        exact q _ (A1.obj (by rw [pf_place]; rfl) rfl rfl rfl rfl) (But4.put_sl.trans But4.put_p)
end
end My

set_option Elab.async false
set_option linter.all false
set_option maxRecDepth 100000
namespace My
open PySem PySem.Spec PyProof.Rows L2
section
variable {P : Program} {w : World} {K : PySem.W.Frag} {mg : Str → Option Value} {base : Heap}
set_option maxHeartbeats 4000000 in
theorem ok_Stand_come_to {f : Addr} {fd : FuncData} (F : Fun K "come_to" "Stand.come_to" s_Stand_come_to f fd) (Z : Bl mg) {C : Addr} (T : StT K C)  : FnOk P w K mg base CX0 1 f fd ["self", "piece"] (spCome C) := by
  refine F.ok (k := 0) sc_Stand_come_to (fun vs H Q E h => ?_) (fun cdv A outer s H vs Q E hr h => ?_)
  · obtain ⟨p, pl, d, nl, sl, plv, nums, S, m, n, rfl, _⟩ := h
    rfl
  · obtain ⟨p, pl, d, nl, sl, plv, nums, S, m, n, rfl, A, hm, q⟩ := h
    refine ⟨_, (pss_cons (ps_expr (pe_bm PySem.F.plainAttrs_list PySem.F.slot_list_append PySem.F.type_list_append mt_append (pe_fld (pv 0) rfl) (pa_cons (pv 1) pa_nil)))
      (pss_one (ps_fld (pv 0) pe_int rfl))), ?_⟩

    obtain ⟨dx, hob⟩ := A.ob
    refine ⟨_, rfl, p, C, dx, _, _, rfl, hob, T.cl, T.passed, lk_passed, .inl ⟨rfl, _, SqL.of A.passed⟩, _, rfl, pl, _, _, rfl, rfl, A.passed, (by rw [List.length_map]; exact small1000' (by have := A.few.2; omega)), ?_⟩
    have A1 := A.come (q := n)
    obtain ⟨dx1, hob1⟩ := A1.ob
    refine ⟨_, rfl, p, C, dx1, _, rfl, hob1, T.cl, T.place, (by show 8 < 1000; decide), ?_⟩
    exact q _ (A1.obj (by rw [pf_place]; rfl) rfl rfl rfl rfl) (But4.put_pl.trans But4.put_p)
end
end My

set_option Elab.async false
set_option linter.all false
set_option maxRecDepth 100000
namespace My
open PySem PySem.Spec PyProof.Rows L2
section
variable {P : Program} {w : World} {K : PySem.W.Frag} {mg : Str → Option Value} {base : Heap}
set_option maxHeartbeats 4000000 in
theorem ok_Stand_do_end {f : Addr} {fd : FuncData} (F : Fun K "do_end" "Stand.do_end" s_Stand_do_end f fd) (Z : Bl mg) {C : Addr} (T : StT K C) (O_Stand_worth : MOwn P w K mg base C "worth" 1 ["self", "name"] (spWorth C)) (O_Stand_come_to : MOwn P w K mg base C "come_to" 1 ["self", "piece"] (spCome C)) (O_answer_of : Own P w K mg base "answer_of" 4 ["stretch", "word", "number"] spAns) : FnOk P w K mg base CX0 5 f fd ["self", "end"] (spDoEnd C) := by
  refine F.ok (k := 4) sc_Stand_do_end (fun vs H Q E h => ?_) (fun cdv A outer s H vs Q E hr h => ?_)
  · obtain ⟨p, pl, d, nl, sl, w, plv, nums, S, m, e, rfl, _⟩ := h
    rfl
  · obtain ⟨p, pl, d, nl, sl, w, plv, nums, S, m, e, rfl, A, hw, hm, q⟩ := h
    refine ⟨_, (pss_one (ps_if (pt_cmpR op_eq (pe_ix ix_tup (pv 1) pe_int (fun _ _ => rfl)) pe_str (nomark _))
      (pss_one (ps_fld (pv 0) pe_bl rfl))
      (pss_one (ps_if (pt_cmpR op_eq (pe_ix ix_tup (pv 1) pe_int (fun _ _ => rfl)) pe_str (nomark _))
      (pss_one (ps_expr (pe_mown O_Stand_come_to (pv 0) (hr.mono (by decide)) (pa_cons (pe_ix ix_tup (pv 1) pe_int (fun _ _ => rfl)) pa_nil))))
      (pss_cons (ps_cut (ps_asg (pv 1) (pg_tup rfl (pgs_cons (pg_name (i := 2) sc_Stand_do_end.nd rfl (Or.inl rfl)) (pgs_cons (pg_name (i := 3) sc_Stand_do_end.nd rfl (Or.inl rfl)) (pgs_cons (pg_name (i := 4) sc_Stand_do_end.nd rfl (Or.inl rfl)) (pgs_cons (pg_name (i := 5) sc_Stand_do_end.nd rfl (Or.inl rfl)) (pgs_cons (pg_name (i := 6) sc_Stand_do_end.nd rfl (Or.inl rfl)) pgs_nil))))))))
      (pss_cons (ps_set (i := 7) sc_Stand_do_end.nd rfl (Or.inl rfl) (pe_mown O_Stand_worth (pv 0) (hr.mono (by decide)) (pa_cons (pv 3) pa_nil)))
      (pss_one (ps_expr (pe_mown O_Stand_come_to (pv 0) (hr.mono (by decide)) (pa_cons (pe_ifExp (pt_cmpR op_eq (pe_own O_answer_of (hr.mono (by decide)) rfl (pa_cons (pe_tup (pa_cons (pv 7) (pa_cons (pv 7) pa_nil))) (pa_cons (pv 2) (pa_cons (pv 4) pa_nil)))) pe_str (nomark _)) (pv 5) (pv 6)) pa_nil)))))))))), ?_⟩

    obtain ⟨dx, hob⟩ := A.ob
    cases e
    case stop =>
      refine ⟨_, rfl, w, _, 0, _, rfl, rfl, SqT.of hw, at0, rfl, _, rfl, ?_⟩
      refine iteTb (show decide (V.str "stop" = V.str "stop") = true by decide +kernel) ?_
      refine ⟨_, rfl, p, C, dx, _, rfl, hob, T.cl, T.over, (by show 8 < 1000; decide), ?_⟩
      refine q _ (SAt.mono (m := m) (A.obj ?_ rfl rfl rfl rfl) (Nat.le_succ m)) But4.put_p
      rw [pf_over]
      exact congrArg (fun b => sfl plv (.ref pl) (.int S.place) (.ref d) (.ref nl) (.int S.taken) (.ref sl) (V.bl b)) (show true = decide (("stop" : Str) = "stop") by decide +kernel)
    case go n =>
      refine ⟨_, rfl, w, _, 0, _, rfl, rfl, SqT.of hw, at0, rfl, _, rfl, ?_⟩
      refine iteFb (show decide (V.str "go" = V.str "stop") = false by decide +kernel) ?_
      refine ⟨_, rfl, w, _, 0, _, rfl, rfl, SqT.of hw, at0, rfl, _, rfl, ?_⟩
      refine iteTb (show decide (V.str "go" = V.str "go") = true by decide +kernel) ?_
      exact ⟨_, rfl, p, dx, _, rfl, hob, no_come_to, _, rfl, w, _, 1, _, rfl, rfl, SqT.of hw, at1, p, pl, d, nl, sl, plv, nums, S, m, n, rfl, A, hm, fun H1 A1 b1 => q _ A1 b1⟩
    case tst b x n u v =>
      refine ⟨_, rfl, w, _, 0, _, rfl, rfl, SqT.of hw, at0, rfl, _, rfl, ?_⟩
      refine iteFb (by cases b; (show decide (V.str "is" = V.str "stop") = false; decide +kernel); (show decide (V.str "less" = V.str "stop") = false; decide +kernel)) ?_
      refine ⟨_, rfl, w, _, 0, _, rfl, rfl, SqT.of hw, at0, rfl, _, rfl, ?_⟩
      refine iteFb (by cases b; (show decide (V.str "is" = V.str "go") = false; decide +kernel); (show decide (V.str "less" = V.str "go") = false; decide +kernel)) ?_
      refine ⟨fun σ' H' => σ' = [some (.ref p), some (.ref w), some (.str (wT b)), some (.str x), some (.int n), some (.int u), some (.int v), none] ∧ H = H', ⟨_, rfl, w, _, rfl, SqT.of hw, rfl, _, _, rfl, _, _, rfl, _, _, rfl, _, _, rfl, _, _, rfl, rfl, rfl, rfl⟩, ?_⟩
      rintro σ' H' ⟨rfl, rfl⟩
      refine ⟨_, rfl, p, dx, _, rfl, hob, no_worth, _, rfl, p, pl, d, nl, sl, plv, nums, S, m, x, rfl, A, ?_⟩
      refine ⟨_, rfl, p, dx, _, rfl, hob, no_come_to, _, rfl, _, rfl, ln2, fun t ht => ⟨_, rfl, _, rfl, t, wT b, n, some (S.w x), some (S.w x), rfl, upd_same, fun H1 s1 => ⟨rfl, _, rfl, ?_⟩⟩⟩
      have s2 : Same H H1 := (Same.new ht).trans s1
      have A1 := A.same s2
      cases hc : ansT b (S.w x) n with
      | true =>
        refine iteTb (by rw [ans_pt, if_pos hc]; decide +kernel) ?_
        refine ⟨_, rfl, p, pl, d, nl, sl, plv, nums, S, m, u, rfl, A1, hm, fun H2 A2 b2 => q _ ?_ ((But4.of_same s2).trans b2)⟩
        simp only [stepE, hc, if_true]
        exact A2
      | false =>
        refine iteFb (by rw [ans_pt, hc]; decide +kernel) ?_
        refine ⟨_, rfl, p, pl, d, nl, sl, plv, nums, S, m, v, rfl, A1, hm, fun H2 A2 b2 => q _ ?_ ((But4.of_same s2).trans b2)⟩
        simp only [stepE, hc, Bool.false_eq_true, if_false]
        exact A2
end
end My

set_option Elab.async false
set_option linter.all false
set_option maxRecDepth 100000
namespace My
open PySem PySem.Spec PyProof.Rows L2
section
variable {P : Program} {w : World} {K : PySem.W.Frag} {mg : Str → Option Value} {base : Heap}
set_option maxHeartbeats 4000000 in
theorem ok_Stand_do_step {f : Addr} {fd : FuncData} (F : Fun K "do_step" "Stand.do_step" s_Stand_do_step f fd) (Z : Bl mg) {C : Addr} (T : StT K C) (O_Stand_do_deed : MOwn P w K mg base C "do_deed" 2 ["self", "deed"] (spDoDeed C)) (O_Stand_do_end : MOwn P w K mg base C "do_end" 5 ["self", "end"] (spDoEnd C)) : FnOk P w K mg base CX0 6 f fd ["self"] (spDoStep C) := by
  refine F.ok (k := 5) sc_Stand_do_step (fun vs H Q E h => ?_) (fun cdv A outer s H vs Q E hr h => ?_)
  · obtain ⟨p, pl, d, nl, sl, plv, nums, S, m, ps, rfl, _⟩ := h
    rfl
  · obtain ⟨p, pl, d, nl, sl, plv, nums, S, m, ps, rfl, A, hp, hpc, htk, hlk, hm, q⟩ := h
    refine ⟨_, (pss_cons (ps_cut (ps_asg (pe_ix ix_tup (pe_fld (pv 0) rfl) (pe_ix ix_list (pe_fld (pv 0) rfl) (pe_un un_neg pe_int) (fun _ _ => rfl)) (fun _ _ => rfl)) (pg_tup rfl (pgs_cons (pg_name (i := 1) sc_Stand_do_step.nd rfl (Or.inl rfl)) (pgs_cons (pg_name (i := 2) sc_Stand_do_step.nd rfl (Or.inl rfl)) pgs_nil)))))
      (pss_one (ps_if (pt_cmpR op_lt (pe_fld (pv 0) rfl) (pe_callB call_len_seq rfl Z.len bt_len (pa_cons (pv 1) pa_nil)) (nomark _))
      (pss_one (ps_expr (pe_mown O_Stand_do_deed (pv 0) (hr.mono (by decide)) (pa_cons (pe_ix ix_tup (pv 1) (pe_fld (pv 0) rfl) (fun _ _ => rfl)) pa_nil))))
      (pss_one (ps_expr (pe_mown O_Stand_do_end (pv 0) (hr.mono (by decide)) (pa_cons (pv 2) pa_nil))))))), ?_⟩

    obtain ⟨dx, hob⟩ := A.ob
    have hx : ps[S.piece]? = some ps[S.piece] := by simp [hpc]
    generalize hpe : ps[S.piece] = pe at hx
    obtain ⟨ds, e⟩ := pe
    obtain ⟨pp, xs, pc, da, ea, vs, rfl, e1, el, hx', e2, e3, r3, e4⟩ := rd_piece hp hx
    have hvl : vs.length = ds.length := by rw [r3.len, List.length_map]
    refine ⟨fun σ' H' => σ' = [some (.ref p), some (.ref da), some (.ref ea)] ∧ H = H', ⟨_, rfl, p, C, dx, _, _, rfl, hob, T.cl, T.pieces, lk_pieces, _, rfl, p, C, dx, _, _, rfl, hob, T.cl, T.passed, lk_passed, _, rfl, pl, _, _, _, rfl, rfl, SqL.of A.passed, A.at_last, pp, xs, _, _, rfl, rfl, SqT.of e1, atI_nat hx', pc, _, rfl, SqT.of e2, rfl, _, _, rfl, _, _, rfl, rfl, rfl, rfl⟩, ?_⟩
    rintro σ' H' ⟨rfl, rfl⟩
    refine ⟨_, rfl, p, C, dx, _, _, rfl, hob, T.cl, T.place, lk_place, _, rfl, da, _, rfl, .inr (SqT.of e3), _, _, rfl, rfl, _, rfl, ?_⟩
    refine ite2 (fun hc => ?_) (fun hc => ?_)
    · have hlt : S.place < vs.length := by have := of_decide_eq_true hc; omega
      have hdd : ds[S.place]? = some (ds[S.place]'(by omega)) := by simp [show S.place < ds.length by omega]
      generalize hde : ds[S.place]'(by omega) = dd at hdd
      obtain ⟨v, hv, rd⟩ := r3.get (i := S.place) (d := dDeed dd) (by rw [List.getElem?_map, hdd]; rfl)
      obtain ⟨dp, rfl, hdp⟩ := rd_deed rd
      rw [step_deed hx hdd] at q
      have hrd : isRead dd = true → S.taken < nums.length := fun hr => by
        unfold lackB at hlk
        rw [hx] at hlk
        dsimp only at hlk
        rw [hdd] at hlk
        dsimp only at hlk
        rw [hr] at hlk
        have : ¬ S.taken = nums.length := of_decide_eq_false (by simpa using hlk)
        omega
      exact ⟨_, rfl, p, dx, _, rfl, hob, no_do_deed, _, rfl, _, rfl, p, C, dx, _, _, rfl, hob, T.cl, T.place, lk_place, da, _, _, _, rfl, rfl, SqT.of e3, atI_nat hv, p, pl, d, nl, sl, dp, _, nums, S, m, dd, rfl, A, hdp, hrd, hm, q⟩
    · have hge : ¬ S.place < vs.length := fun z => hc (decide_eq_true (by omega))
      rw [step_end hx (by simp; omega)] at q
      exact ⟨_, rfl, p, dx, _, rfl, hob, no_do_end, _, rfl, p, pl, d, nl, sl, ea, _, nums, S, m, e, rfl, A, e4, hm, q⟩
end
end My

set_option Elab.async false
set_option linter.all false
set_option maxRecDepth 100000
namespace My
open PySem PySem.Spec PyProof.Rows L2
section
variable {P : Program} {w : World} {K : PySem.W.Frag} {mg : Str → Option Value} {base : Heap}
set_option maxHeartbeats 4000000 in
theorem ok_Stand___init__ {f : Addr} {fd : FuncData} (F : Fun K "__init__" "Stand.__init__" s_Stand___init__ f fd) (Z : Bl mg) {C : Addr} (T : StT K C)  : FnOk P w K mg base CX0 1 f fd ["self", "pieces", "begin", "worths", "numbers"] (spInitS C) := by
  refine F.ok (k := 0) sc_Stand___init__ (fun vs H Q E h => ?_) (fun cdv A outer s H vs Q E hr h => ?_)
  · obtain ⟨p, dx, d0, np, plv, pc, kvs, w, nums, rfl, _⟩ := h
    rfl
  · obtain ⟨p, dx, d0, np, plv, pc, kvs, w, nums, rfl, hp, hd0, dw, hnp, q⟩ := h
    refine ⟨_, (pss_cons (ps_cut (ps_fld (pv 0) (pv 1) rfl))
      (pss_cons (ps_cut (ps_fld (pv 0) (pe_lst (pa_cons (pv 2) pa_nil)) rfl))
      (pss_cons (ps_cut (ps_fld (pv 0) pe_int rfl))
      (pss_cons (ps_cut (ps_fld (pv 0) (pe_callTy call_dict_of rfl Z.dict bt_dict (pa_cons (pv 3) pa_nil)) rfl))
      (pss_cons (ps_cut (ps_fld (pv 0) (pe_callTy call_list_of rfl Z.list bt_list (pa_cons (pv 4) pa_nil)) rfl))
      (pss_cons (ps_cut (ps_fld (pv 0) pe_int rfl))
      (pss_cons (ps_cut (ps_fld (pv 0) (pe_lst pa_nil) rfl))
      (pss_one (ps_cut (ps_fld (pv 0) pe_bl rfl)))))))))), ?_⟩
    have h0 := hp
    have k0 : ∀ c o, H c = some o → c ≠ p → H c = some o := fun _ _ e _ => e
    refine ⟨fun σ' H1 => σ' = [some (.ref p), some plv, some (.int pc), some (.ref d0), some (.ref np)] ∧ H1 p = some (.ins C dx [("pieces", plv)]) ∧ (∀ c o, H c = some o → c ≠ p → H1 c = some o), ⟨_, rfl, _, rfl, p, C, dx, _, rfl, h0, T.cl, T.pieces, (by show 0 < 1000; decide), rfl, (by rw [upd_same, mk_pieces]), fun c o e n => by rw [upd_ne n]; exact k0 c o e n⟩, ?_⟩
    clear k0 h0 
    rintro σ' H1 ⟨rfl, h0, k0⟩
    refine ⟨fun σ' H1 => σ' = [some (.ref p), some plv, some (.int pc), some (.ref d0), some (.ref np)] ∧ ∃ (pl : Addr), H1 p = some (.ins C dx [("pieces", plv), ("passed", V.ref pl)]) ∧ (∀ c o, H c = some o → c ≠ p → H1 c = some o) ∧ H pl = none ∧ pl ≠ p ∧ H1 pl = some (.lst [.int pc]), ⟨_, rfl, ln1, fun pl hn => ⟨_, rfl, p, C, dx, _, rfl, (by rw [upd_ne (ne_of_none h0 hn)]; exact h0), T.cl, T.passed, (by show 1 < 1000; decide), rfl, pl, (by rw [upd_same, mk_passed]), fun c o e n => two_keep (k0 c o e n) n hn, (fresh_of k0 h0 hn).1, (fresh_of k0 h0 hn).2, (by rw [upd_ne (fresh_of k0 h0 hn).2, upd_same])⟩⟩, ?_⟩
    clear k0 h0 
    rintro σ' H1 ⟨rfl, pl, h0, k0, n_pl, m_pl, h_pl⟩
    refine ⟨fun σ' H1 => σ' = [some (.ref p), some plv, some (.int pc), some (.ref d0), some (.ref np)] ∧ ∃ (pl : Addr), H1 p = some (.ins C dx [("pieces", plv), ("passed", V.ref pl), ("place", V.int 0)]) ∧ (∀ c o, H c = some o → c ≠ p → H1 c = some o) ∧ H pl = none ∧ pl ≠ p ∧ H1 pl = some (.lst [.int pc]), ⟨_, rfl, p, C, dx, _, rfl, h0, T.cl, T.place, (by show 2 < 1000; decide), rfl, pl, (by rw [upd_same, mk_place]), fun c o e n => by rw [upd_ne n]; exact k0 c o e n, n_pl, m_pl, (by rw [upd_ne m_pl]; exact h_pl)⟩, ?_⟩
    clear k0 h0 n_pl m_pl h_pl
    rintro σ' H1 ⟨rfl, pl, h0, k0, n_pl, m_pl, h_pl⟩
    refine ⟨fun σ' H1 => σ' = [some (.ref p), some plv, some (.int pc), some (.ref d0), some (.ref np)] ∧ ∃ (pl d : Addr), H1 p = some (.ins C dx [("pieces", plv), ("passed", V.ref pl), ("place", V.int 0), ("worths", V.ref d)]) ∧ (∀ c o, H c = some o → c ≠ p → H1 c = some o) ∧ H pl = none ∧ pl ≠ p ∧ H1 pl = some (.lst [.int pc]) ∧ H d = none ∧ d ≠ p ∧ H1 d = some (.dK kvs), ⟨_, rfl, d0, kvs, rfl, k0 d0 _ hd0 (ne_of hd0 hp (by intro z; cases z)), fun d hn => ⟨_, rfl, p, C, dx, _, rfl, (by rw [upd_ne (ne_of_none h0 hn)]; exact h0), T.cl, T.worths, (by show 3 < 1000; decide), rfl, pl, d, (by rw [upd_same, mk_worths]), fun c o e n => two_keep (k0 c o e n) n hn, n_pl, m_pl, two_keep h_pl m_pl hn, (fresh_of k0 h0 hn).1, (fresh_of k0 h0 hn).2, (by rw [upd_ne (fresh_of k0 h0 hn).2, upd_same])⟩⟩, ?_⟩
    clear k0 h0 n_pl m_pl h_pl
    rintro σ' H1 ⟨rfl, pl, d, h0, k0, n_pl, m_pl, h_pl, n_d, m_d, h_d⟩
    refine ⟨fun σ' H1 => σ' = [some (.ref p), some plv, some (.int pc), some (.ref d0), some (.ref np)] ∧ ∃ (pl d nl : Addr), H1 p = some (.ins C dx [("pieces", plv), ("passed", V.ref pl), ("place", V.int 0), ("worths", V.ref d), ("numbers", V.ref nl)]) ∧ (∀ c o, H c = some o → c ≠ p → H1 c = some o) ∧ H pl = none ∧ pl ≠ p ∧ H1 pl = some (.lst [.int pc]) ∧ H d = none ∧ d ≠ p ∧ H1 d = some (.dK kvs) ∧ H nl = none ∧ nl ≠ p ∧ H1 nl = some (.lst (nums.map V.int)) ∧ pl ≠ nl, ⟨_, rfl, np, _, rfl, .inr (SqT.of (k0 np _ hnp (ne_of hnp hp (by intro z; cases z)))), fun nl hn => ⟨_, rfl, p, C, dx, _, rfl, (by rw [upd_ne (ne_of_none h0 hn)]; exact h0), T.cl, T.numbers, (by show 4 < 1000; decide), rfl, pl, d, nl, (by rw [upd_same, mk_numbers]), fun c o e n => two_keep (k0 c o e n) n hn, n_pl, m_pl, two_keep h_pl m_pl hn, n_d, m_d, two_keep h_d m_d hn, (fresh_of k0 h0 hn).1, (fresh_of k0 h0 hn).2, (by rw [upd_ne (fresh_of k0 h0 hn).2, upd_same]), ne_of_none h_pl hn⟩⟩, ?_⟩
    clear k0 h0 n_pl m_pl h_pl n_d m_d h_d
    rintro σ' H1 ⟨rfl, pl, d, nl, h0, k0, n_pl, m_pl, h_pl, n_d, m_d, h_d, n_nl, m_nl, h_nl, x1⟩
    refine ⟨fun σ' H1 => σ' = [some (.ref p), some plv, some (.int pc), some (.ref d0), some (.ref np)] ∧ ∃ (pl d nl : Addr), H1 p = some (.ins C dx [("pieces", plv), ("passed", V.ref pl), ("place", V.int 0), ("worths", V.ref d), ("numbers", V.ref nl), ("taken", V.int 0)]) ∧ (∀ c o, H c = some o → c ≠ p → H1 c = some o) ∧ H pl = none ∧ pl ≠ p ∧ H1 pl = some (.lst [.int pc]) ∧ H d = none ∧ d ≠ p ∧ H1 d = some (.dK kvs) ∧ H nl = none ∧ nl ≠ p ∧ H1 nl = some (.lst (nums.map V.int)) ∧ pl ≠ nl, ⟨_, rfl, p, C, dx, _, rfl, h0, T.cl, T.taken, (by show 5 < 1000; decide), rfl, pl, d, nl, (by rw [upd_same, mk_taken]), fun c o e n => by rw [upd_ne n]; exact k0 c o e n, n_pl, m_pl, (by rw [upd_ne m_pl]; exact h_pl), n_d, m_d, (by rw [upd_ne m_d]; exact h_d), n_nl, m_nl, (by rw [upd_ne m_nl]; exact h_nl), x1⟩, ?_⟩
    clear k0 h0 n_pl m_pl h_pl n_d m_d h_d n_nl m_nl h_nl x1
    rintro σ' H1 ⟨rfl, pl, d, nl, h0, k0, n_pl, m_pl, h_pl, n_d, m_d, h_d, n_nl, m_nl, h_nl, x1⟩
    refine ⟨fun σ' H1 => σ' = [some (.ref p), some plv, some (.int pc), some (.ref d0), some (.ref np)] ∧ ∃ (pl d nl sl : Addr), H1 p = some (.ins C dx [("pieces", plv), ("passed", V.ref pl), ("place", V.int 0), ("worths", V.ref d), ("numbers", V.ref nl), ("taken", V.int 0), ("spoken", V.ref sl)]) ∧ (∀ c o, H c = some o → c ≠ p → H1 c = some o) ∧ H pl = none ∧ pl ≠ p ∧ H1 pl = some (.lst [.int pc]) ∧ H d = none ∧ d ≠ p ∧ H1 d = some (.dK kvs) ∧ H nl = none ∧ nl ≠ p ∧ H1 nl = some (.lst (nums.map V.int)) ∧ H sl = none ∧ sl ≠ p ∧ H1 sl = some (.lst []) ∧ pl ≠ nl ∧ pl ≠ sl ∧ nl ≠ sl, ⟨(by show 0 ≤ sizeLine; decide), fun sl hn => ⟨_, rfl, p, C, dx, _, rfl, (by rw [upd_ne (ne_of_none h0 hn)]; exact h0), T.cl, T.spoken, (by show 6 < 1000; decide), rfl, pl, d, nl, sl, (by rw [upd_same, mk_spoken]), fun c o e n => two_keep (k0 c o e n) n hn, n_pl, m_pl, two_keep h_pl m_pl hn, n_d, m_d, two_keep h_d m_d hn, n_nl, m_nl, two_keep h_nl m_nl hn, (fresh_of k0 h0 hn).1, (fresh_of k0 h0 hn).2, (by rw [upd_ne (fresh_of k0 h0 hn).2, upd_same]), x1, ne_of_none h_pl hn, ne_of_none h_nl hn⟩⟩, ?_⟩
    clear k0 h0 n_pl m_pl h_pl n_d m_d h_d n_nl m_nl h_nl x1
    rintro σ' H1 ⟨rfl, pl, d, nl, sl, h0, k0, n_pl, m_pl, h_pl, n_d, m_d, h_d, n_nl, m_nl, h_nl, n_sl, m_sl, h_sl, x1, x2, x3⟩
    refine ⟨fun σ' H1 => σ' = [some (.ref p), some plv, some (.int pc), some (.ref d0), some (.ref np)] ∧ ∃ (pl d nl sl : Addr), H1 p = some (.ins C dx [("pieces", plv), ("passed", V.ref pl), ("place", V.int 0), ("worths", V.ref d), ("numbers", V.ref nl), ("taken", V.int 0), ("spoken", V.ref sl), ("over", V.bl false)]) ∧ (∀ c o, H c = some o → c ≠ p → H1 c = some o) ∧ H pl = none ∧ pl ≠ p ∧ H1 pl = some (.lst [.int pc]) ∧ H d = none ∧ d ≠ p ∧ H1 d = some (.dK kvs) ∧ H nl = none ∧ nl ≠ p ∧ H1 nl = some (.lst (nums.map V.int)) ∧ H sl = none ∧ sl ≠ p ∧ H1 sl = some (.lst []) ∧ pl ≠ nl ∧ pl ≠ sl ∧ nl ≠ sl, ⟨_, rfl, p, C, dx, _, rfl, h0, T.cl, T.over, (by show 7 < 1000; decide), rfl, pl, d, nl, sl, (by rw [upd_same, mk_over]), fun c o e n => by rw [upd_ne n]; exact k0 c o e n, n_pl, m_pl, (by rw [upd_ne m_pl]; exact h_pl), n_d, m_d, (by rw [upd_ne m_d]; exact h_d), n_nl, m_nl, (by rw [upd_ne m_nl]; exact h_nl), n_sl, m_sl, (by rw [upd_ne m_sl]; exact h_sl), x1, x2, x3⟩, ?_⟩
    clear k0 h0 n_pl m_pl h_pl n_d m_d h_d n_nl m_nl h_nl n_sl m_sl h_sl x1 x2 x3
    rintro σ' H1 ⟨rfl, pl, d, nl, sl, h0, k0, n_pl, m_pl, h_pl, n_d, m_d, h_d, n_nl, m_nl, h_nl, n_sl, m_sl, h_sl, x1, x2, x3⟩
    refine q pl d nl sl H1 ⟨⟨dx, ?_⟩, h_pl, ⟨[], rfl⟩, ⟨kvs, h_d, dw, Nat.le_refl _⟩, h_nl, h_sl, ⟨x1, x2, x3⟩, ⟨Nat.zero_le _, Nat.le_add_left _ _⟩⟩ k0 n_pl n_d n_nl n_sl
    rw [h0]
    exact congrArg (fun b => some (HO.ins C dx (sfl plv (.ref pl) (.int 0) (.ref d) (.ref nl) (.int 0) (.ref sl) (V.bl b)))) (show false = decide (("on" : Str) = "stop") by decide +kernel)
end
end My

set_option Elab.async false
set_option linter.all false
set_option maxRecDepth 100000
namespace My
open PySem PySem.Spec PyProof.Rows L2
section
variable {P : Program} {w : World} {K : PySem.W.Frag} {mg : Str → Option Value} {base : Heap}
set_option maxHeartbeats 4000000 in
theorem ok_go_on {f : Addr} {fd : FuncData} (F : Fun K "go_on" "go_on" s_go_on f fd) (Z : Bl mg) {C : Addr} (T : StT K C) (O_Stand_is_held : MOwn P w K mg base C "is_held" 3 ["self"] (spHeld C)) (O_Stand_do_step : MOwn P w K mg base C "do_step" 6 ["self"] (spDoStep C)) : FnOk P w K mg base CX0 7 f fd ["stand", "steps"] (spGoOn C) := by
  refine F.ok (k := 6) sc_go_on (fun vs H Q E h => ?_) (fun cdv A outer s H vs Q E hr h => ?_)
  · obtain ⟨p, pl, d, nl, sl, plv, nums, S, m, n, ps, rfl, _⟩ := h
    rfl
  · obtain ⟨p, pl, d, nl, sl, plv, nums, S, m, n, ps, rfl, A, hp, hin, hpc, htk, hm, q⟩ := h
    refine ⟨_, (pss_cons (ps_set (i := 2) sc_go_on.nd rfl (Or.inl rfl) pe_int)
      (pss_cons (ps_while PassesOwn.never (PW.pt (pw_and (pt_cmpR op_lt (pv 2) (pv 1) (nomark _)) (pw_and1 (pt_not (pt_val (pe_mown0 O_Stand_is_held (pv 0) (hr.mono (by decide))))))))
      (pss_cons (ps_expr (pe_mown0 O_Stand_do_step (pv 0) (hr.mono (by decide))))
      (pss_one (ps_aug (i := 2) sc_go_on.nd rfl (Or.inl rfl) pe_int ip_add))))
      (pss_one (ps_ret (pv 2))))), ?_⟩

    refine ⟨fun μ σ' H' => ∃ i : Nat, i + μ = n ∧ σ' = [some (.ref p), some (.int n), some (.int i)] ∧ SAt C H' p pl d nl sl plv nums (goF ps nums i S) (m + i) ∧ cntF ps nums i S = i ∧ RdD H' plv (dPlan ps) ∧ But4 p pl d sl H H', ⟨n, 0, by omega, rfl, A, rfl, hp, But4.refl _ _ _ _ _⟩, ?_⟩
    rintro μ σ' H1 ⟨i, hi, rfl, A1, c1, p1, b1⟩
    have wi := go_in (ps := ps) (nums := nums) (S := S) hin hpc htk i
    refine ⟨_, rfl, _, rfl, _, _, rfl, rfl, _, rfl, ?_⟩
    refine ite2 (fun hc => ?_) (fun hc => ?_)
    · have hlt : i < n := by have := of_decide_eq_true hc; omega
      obtain ⟨dx, hob⟩ := A1.ob
      refine ⟨_, rfl, p, dx, _, rfl, hob, no_is_held, p, pl, d, nl, sl, plv, nums, _, _, ps, rfl, A1, p1, wi.1, _, rfl, ?_⟩
      cases hh : heldB ps nums (goF ps nums i S) with
      | true =>
        refine iteFb rfl ?_
        have g := go_held hh (n - i)
        rw [show i + (n - i) = n by omega] at g
        have q' := q H1 (by rw [g.1, g.2, c1]; exact A1) b1
        rw [g.2, c1] at q'
        exact ⟨_, rfl, q'⟩
      | false =>
        refine iteTb rfl ?_
        have g := go_not hh
        have hl : lackB ps nums (goF ps nums i S) = false := by
          unfold heldB at hh
          cases hz : lackB ps nums (goF ps nums i S) with
          | false => rfl
          | true => rw [hz] at hh; simp at hh
        refine ⟨_, fun σ2 H2 z => ⟨n - (i + 1), by omega, z⟩, ?_⟩
        refine ⟨_, rfl, p, dx, _, rfl, hob, no_do_step, p, pl, d, nl, sl, plv, nums, _, _, ps, rfl, A1, p1, wi.1, wi.2, hl, (by omega), fun H2 A2 b2 => ?_⟩
        rw [← g.1] at A2
        refine ⟨_, rfl, _, _, rfl, rfl, ?_⟩
        refine ⟨i + 1, by omega, rfl, A2, ?_, A1.rd b2 p1 (noList_plan ps), b1.trans b2⟩
        rw [g.2, c1]
    · have hge : i = n := by
        have : ¬ (i : Int) < (n : Int) := fun z => hc (decide_eq_true z)
        omega
      subst hge
      refine iteFb rfl ?_
      have q' := q H1 (by rw [c1]; exact A1) b1
      rw [c1] at q'
      exact ⟨_, rfl, q'⟩
end
end My

set_option Elab.async false
set_option linter.all false
set_option maxRecDepth 100000
namespace My
open PySem PySem.Spec PyProof.Rows L2
section
variable {P : Program} {w : World} {K : PySem.W.Frag} {mg : Str → Option Value} {base : Heap}
set_option maxHeartbeats 4000000 in
theorem ok_Walker___init__ {f : Addr} {fd : FuncData} (F : Fun K "__init__" "Walker.__init__" s_Walker___init__ f fd) (Z : Bl mg) {C : Addr} (T : StT K C) {D : Addr} (TW : WkT K D) (O_Stand___init__ : COwn P w K mg base C "Stand" 1 ["self", "pieces", "begin", "worths", "numbers"] (spInitS C)) : FnOk P w K mg base CX0 3 f fd ["self", "plan"] (spWInit C D) := by
  refine F.ok (k := 2) sc_Walker___init__ (fun vs H Q E h => ?_) (fun cdv A outer s H vs Q E hr h => ?_)
  · obtain ⟨wp, dw, plv, rfl, _⟩ := h
    rfl
  · obtain ⟨wp, dw, plv, rfl, how, q⟩ := h
    refine ⟨_, (pss_cons (ps_fld (pv 0) (pe_cown O_Stand___init__ (hr.mono (by decide)) rfl (pa_cons (pv 1) (pa_cons pe_int (pa_cons pe_dnewK (pa_cons (pe_tup pa_nil) pa_nil))))) rfl)
      (pss_one (ps_fld (pv 0) pe_int rfl))), ?_⟩

    refine ⟨_, rfl, fun d0 hd0 => ⟨(by show 0 ≤ sizeLine; decide), fun np hnp => fun p dx nx ndx nex => ?_⟩⟩
    have sd := Same.new (o := .dK []) hd0
    have sn := Same.new (o := .tup []) hnp
    have s0 : Same H (upd (upd (upd (upd H d0 (.dK [])) np (.tup [])) dx (.own p)) p (.ins C dx [])) := fun b o e => by
      have e1 := sn b o (sd b o e)
      rw [upd_ne (ne_of_none e1 nx), upd_ne (ne_of_none e1 ndx)]
      exact e1
    have hd1 : (upd (upd (upd (upd H d0 (.dK [])) np (.tup [])) dx (.own p)) p (.ins C dx [])) d0 = some (.dK []) := by
      have e1 : (upd (upd H d0 (.dK [])) np (.tup [])) d0 = some (.dK []) := sn _ _ upd_same
      rw [upd_ne (ne_of_none e1 nx), upd_ne (ne_of_none e1 ndx)]
      exact e1
    have hn1 : (upd (upd (upd (upd H d0 (.dK [])) np (.tup [])) dx (.own p)) p (.ins C dx [])) np = some (.tup []) := by
      have e1 : (upd (upd H d0 (.dK [])) np (.tup [])) np = some (.tup []) := upd_same
      rw [upd_ne (ne_of_none e1 nx), upd_ne (ne_of_none e1 ndx)]
      exact e1
    have npH : H p = none := (sd.trans sn).free nx
    refine ⟨p, dx, d0, np, plv, 0, [], fun _ => 0, [], rfl, upd_same, hd1, (fun x => rfl), hn1, fun pl d nl sl H1 A1 k1 n1 n2 n3 n4 => ⟨rfl, ?_⟩⟩
    have wnp : wp ≠ p := ne_of_none how npH
    have hw1 : H1 wp = some (.ins D dw []) := k1 _ _ (s0 _ _ how) wnp
    refine ⟨_, rfl, wp, D, dw, _, rfl, hw1, TW.cl, TW.stand, (by show 0 < 1000; decide), ?_⟩
    refine ⟨_, rfl, wp, D, dw, _, rfl, upd_same, TW.cl, TW.done, (by rw [mk_stand]; show 1 < 1000; decide), ?_⟩
    obtain ⟨kvs, hk, _⟩ := A1.dict
    have m1 : wp ≠ pl := ne_of hw1 A1.passed (by intro z; cases z)
    have m2 : wp ≠ d := ne_of hw1 hk (by intro z; cases z)
    have m3 : wp ≠ nl := ne_of hw1 A1.nums (by intro z; cases z)
    have m4 : wp ≠ sl := ne_of hw1 A1.spoken (by intro z; cases z)
    refine q p pl d nl sl _ ⟨⟨dw, by rw [upd_same, mk_stand, mk_done]; rfl⟩, (A1.put_other wnp m1 m2 m3 m4).put_other wnp m1 m2 m3 m4, wnp⟩ (fun c o e n => ?_) npH (s0.free n1) (s0.free n2) (s0.free n3) (s0.free n4)
    rw [upd_ne n, upd_ne n]
    exact k1 c o (s0 c o e) (ne_of_none e npH)
end
end My

set_option Elab.async false
set_option linter.all false
set_option maxRecDepth 100000
namespace My
open PySem PySem.Spec PyProof.Rows L2
section
variable {P : Program} {w : World} {K : PySem.W.Frag} {mg : Str → Option Value} {base : Heap}
set_option maxHeartbeats 4000000 in
theorem ok_Walker_hand {f : Addr} {fd : FuncData} (F : Fun K "hand" "Walker.hand" s_Walker_hand f fd) (Z : Bl mg) {C : Addr} (T : StT K C) {D : Addr} (TW : WkT K D)  : FnOk P w K mg base CX0 1 f fd ["self", "numbers"] (spWHand C D) := by
  refine F.ok (k := 0) sc_Walker_hand (fun vs H Q E h => ?_) (fun cdv A outer s H vs Q E hr h => ?_)
  · obtain ⟨wp, p, pl, d, nl, sl, t, plv, nums, more, S, m, rfl, _⟩ := h
    rfl
  · obtain ⟨wp, p, pl, d, nl, sl, t, plv, nums, more, S, m, rfl, A, ht, hl, q⟩ := h
    refine ⟨_, (pss_one (ps_expr (pe_bm PySem.F.plainAttrs_list PySem.F.slot_list_extend PySem.F.type_list_extend mt_extendT (pe_fld (pe_fld (pv 0) rfl) rfl) (pa_cons (pv 1) pa_nil)))), ?_⟩
    obtain ⟨dw, how⟩ := A.ob
    obtain ⟨dx, hob⟩ := A.st.ob

    refine ⟨_, rfl, wp, D, dw, _, _, rfl, how, TW.cl, TW.stand, lk_stand, p, C, dx, _, _, rfl, hob, T.cl, T.numbers, lk_numbers, .inl ⟨rfl, _, SqL.of A.st.nums⟩, _, rfl, nl, t, _, _, rfl, rfl, A.st.nums, SqT.of ht, (by rw [List.length_map, List.length_map]; exact Nat.le_of_lt (small1000' (by omega))), ?_⟩
    exact q _ ⟨⟨dw, by rw [upd_ne A.nes.2.2.1]; exact how⟩, A.st.handed, A.ne⟩ But6.put_nl
end
end My

set_option Elab.async false
set_option linter.all false
set_option maxRecDepth 100000
namespace My
open PySem PySem.Spec PyProof.Rows L2
section
variable {P : Program} {w : World} {K : PySem.W.Frag} {mg : Str → Option Value} {base : Heap}
set_option maxHeartbeats 4000000 in
theorem ok_Walker_go {f : Addr} {fd : FuncData} (F : Fun K "go" "Walker.go" s_Walker_go f fd) (Z : Bl mg) {C : Addr} (T : StT K C) {D : Addr} (TW : WkT K D) (O_go_on : Own P w K mg base "go_on" 7 ["stand", "steps"] (spGoOn C)) : FnOk P w K mg base CX0 8 f fd ["self", "many"] (spWGo C D) := by
  refine F.ok (k := 7) sc_Walker_go (fun vs H Q E h => ?_) (fun cdv A outer s H vs Q E hr h => ?_)
  · obtain ⟨wp, p, pl, d, nl, sl, plv, nums, S, m, n, ps, rfl, _⟩ := h
    rfl
  · obtain ⟨wp, p, pl, d, nl, sl, plv, nums, S, m, n, ps, rfl, A, hp, hin, hpc, htk, hm, q⟩ := h
    refine ⟨_, (pss_cons (ps_set (i := 2) sc_Walker_go.nd rfl (Or.inl rfl) (pe_own O_go_on (hr.mono (by decide)) rfl (pa_cons (pe_fld (pv 0) rfl) (pa_cons (pv 1) pa_nil))))
      (pss_cons (ps_fldaug (pv 0) (pv 2) in_add)
      (pss_one (ps_ret (pv 2))))), ?_⟩
    obtain ⟨dw, how⟩ := A.ob
    obtain ⟨dx, hob⟩ := A.st.ob

    refine ⟨_, rfl, wp, D, dw, _, _, rfl, how, TW.cl, TW.stand, lk_stand, _, rfl, p, pl, d, nl, sl, plv, nums, S, m, n, ps, rfl, A.st, hp, hin, hpc, htk, hm, fun H1 A1 b1 => ?_⟩
    obtain ⟨z1, z2, z3, z4⟩ := A.nes
    have hw1 := b1 _ _ how A.ne z1 z2 z4
    generalize hc : cntF ps nums n S = cn at A1 q
    refine ⟨_, rfl, wp, D, dw, _, _, rfl, hw1, TW.cl, TW.done, lk_done, _, rfl, _, _, rfl, rfl, dw, _, hw1, (by show 2 < 1000; decide), ?_⟩
    refine ⟨_, rfl, q _ ⟨⟨dw, by rw [upd_same, pf_done]; rfl⟩, A1.put_other A.ne z1 z2 z3 z4, A.ne⟩ ((But6.of4 b1).trans But6.put_wp)⟩
end
end My

set_option Elab.async false
set_option linter.all false
set_option maxRecDepth 100000
namespace My
open PySem PySem.Spec PyProof.Rows L2
section
variable {P : Program} {w : World} {K : PySem.W.Frag} {mg : Str → Option Value} {base : Heap}
set_option maxHeartbeats 4000000 in
theorem ok_Walker_word {f : Addr} {fd : FuncData} (F : Fun K "word" "Walker.word" s_Walker_word f fd) (Z : Bl mg) {C : Addr} (T : StT K C) {D : Addr} (TW : WkT K D) (O_Stand_lacks_number : MOwn P w K mg base C "lacks_number" 2 ["self"] (spLacks C)) : FnOk P w K mg base CX0 3 f fd ["self"] (spWWord C D) := by
  refine F.ok (k := 2) sc_Walker_word (fun vs H Q E h => ?_) (fun cdv A outer s H vs Q E hr h => ?_)
  · obtain ⟨wp, p, pl, d, nl, sl, plv, nums, S, m, ps, rfl, _⟩ := h
    rfl
  · obtain ⟨wp, p, pl, d, nl, sl, plv, nums, S, m, ps, rfl, A, hp, hpc, q⟩ := h
    refine ⟨_, (pss_cons (ps_if (pt_val (pe_fld (pe_fld (pv 0) rfl) rfl))
      (pss_one (ps_ret pe_str))
      pss_nil)
      (pss_one (ps_ret (pe_ifExp (pt_val (pe_mown0 O_Stand_lacks_number (pe_fld (pv 0) rfl) (hr.mono (by decide)))) pe_str pe_str)))), ?_⟩
    obtain ⟨dw, how⟩ := A.ob
    obtain ⟨dx, hob⟩ := A.st.ob

    unfold standF at q
    refine ⟨_, rfl, wp, D, dw, _, _, rfl, how, TW.cl, TW.stand, lk_stand, p, C, dx, _, _, rfl, hob, T.cl, T.over, lk_over, _, rfl, ?_⟩
    cases ho : decide (S.word = ("stop" : Str)) with
    | true =>
      refine iteTb rfl ?_
      rw [if_pos (of_decide_eq_true ho)] at q
      exact q
    | false =>
      refine iteFb rfl ?_
      rw [if_neg (of_decide_eq_false ho)] at q
      refine ⟨_, rfl, wp, D, dw, _, _, rfl, how, TW.cl, TW.stand, lk_stand, p, dx, _, rfl, hob, no_lacks_number, p, pl, d, nl, sl, plv, nums, S, m, ps, rfl, A.st, hp, hpc, _, rfl, ?_⟩
      cases hl : lackB ps nums S with
      | true =>
        refine iteTb rfl ?_
        rw [hl, if_pos rfl] at q
        exact q
      | false =>
        refine iteFb rfl ?_
        rw [hl, if_neg (by decide)] at q
        exact q
end
end My

set_option Elab.async false
set_option linter.all false
set_option maxRecDepth 100000
namespace My
open PySem PySem.Spec PyProof.Rows L2
section
variable {P : Program} {w : World} {K : PySem.W.Frag} {mg : Str → Option Value} {base : Heap}
set_option maxHeartbeats 4000000 in
theorem ok_Walker_piece {f : Addr} {fd : FuncData} (F : Fun K "piece" "Walker.piece" s_Walker_piece f fd) (Z : Bl mg) {C : Addr} (T : StT K C) {D : Addr} (TW : WkT K D)  : FnOk P w K mg base CX0 1 f fd ["self"] (spWPiece C D) := by
  refine F.ok (k := 0) sc_Walker_piece (fun vs H Q E h => ?_) (fun cdv A outer s H vs Q E hr h => ?_)
  · obtain ⟨wp, p, pl, d, nl, sl, plv, nums, S, m, rfl, _⟩ := h
    rfl
  · obtain ⟨wp, p, pl, d, nl, sl, plv, nums, S, m, rfl, A, q⟩ := h
    refine ⟨_, (pss_one (ps_ret (pe_ix ix_list (pe_fld (pe_fld (pv 0) rfl) rfl) (pe_un un_neg pe_int) (fun _ _ => rfl)))), ?_⟩
    obtain ⟨dw, how⟩ := A.ob
    obtain ⟨dx, hob⟩ := A.st.ob

    exact ⟨_, rfl, wp, D, dw, _, _, rfl, how, TW.cl, TW.stand, lk_stand, p, C, dx, _, _, rfl, hob, T.cl, T.passed, lk_passed, _, rfl, pl, _, _, _, rfl, rfl, SqL.of A.st.passed, A.st.at_last, q⟩
end
end My

set_option Elab.async false
set_option linter.all false
set_option maxRecDepth 100000
namespace My
open PySem PySem.Spec PyProof.Rows L2
section
variable {P : Program} {w : World} {K : PySem.W.Frag} {mg : Str → Option Value} {base : Heap}
set_option maxHeartbeats 4000000 in
theorem ok_Walker_told {f : Addr} {fd : FuncData} (F : Fun K "told" "Walker.told" s_Walker_told f fd) (Z : Bl mg) {C : Addr} (T : StT K C) {D : Addr} (TW : WkT K D)  : FnOk P w K mg base CX0 1 f fd ["self"] (spWTold C D) := by
  refine F.ok (k := 0) sc_Walker_told (fun vs H Q E h => ?_) (fun cdv A outer s H vs Q E hr h => ?_)
  · obtain ⟨wp, p, pl, d, nl, sl, plv, nums, S, m, rfl, _⟩ := h
    rfl
  · obtain ⟨wp, p, pl, d, nl, sl, plv, nums, S, m, rfl, A, q⟩ := h
    refine ⟨_, (pss_one (ps_ret (pe_callTy call_tuple_of rfl Z.tuple bt_tuple (pa_cons (pe_fld (pe_fld (pv 0) rfl) rfl) pa_nil)))), ?_⟩
    obtain ⟨dw, how⟩ := A.ob
    obtain ⟨dx, hob⟩ := A.st.ob

    exact ⟨_, rfl, wp, D, dw, _, _, rfl, how, TW.cl, TW.stand, lk_stand, p, C, dx, _, _, rfl, hob, T.cl, T.spoken, lk_spoken, sl, _, rfl, .inl ⟨SqL.of A.st.spoken, fun t ht => q t ht⟩⟩
end
end My

set_option Elab.async false
set_option linter.all false
set_option maxRecDepth 100000
namespace My
open PySem PySem.Spec PyProof.Rows L2
section
variable {P : Program} {w : World} {K : PySem.W.Frag} {mg : Str → Option Value} {base : Heap}
set_option maxHeartbeats 4000000 in
theorem ok_Walker_worth {f : Addr} {fd : FuncData} (F : Fun K "worth" "Walker.worth" s_Walker_worth f fd) (Z : Bl mg) {C : Addr} (T : StT K C) {D : Addr} (TW : WkT K D) (O_Stand_worth : MOwn P w K mg base C "worth" 1 ["self", "name"] (spWorth C)) : FnOk P w K mg base CX0 2 f fd ["self", "name"] (spWWorth C D) := by
  refine F.ok (k := 1) sc_Walker_worth (fun vs H Q E h => ?_) (fun cdv A outer s H vs Q E hr h => ?_)
  · obtain ⟨wp, p, pl, d, nl, sl, plv, nums, S, m, x, rfl, _⟩ := h
    rfl
  · obtain ⟨wp, p, pl, d, nl, sl, plv, nums, S, m, x, rfl, A, q⟩ := h
    refine ⟨_, (pss_one (ps_ret (pe_mown O_Stand_worth (pe_fld (pv 0) rfl) (hr.mono (by decide)) (pa_cons (pv 1) pa_nil)))), ?_⟩
    obtain ⟨dw, how⟩ := A.ob
    obtain ⟨dx, hob⟩ := A.st.ob

    exact ⟨_, rfl, wp, D, dw, _, _, rfl, how, TW.cl, TW.stand, lk_stand, p, dx, _, rfl, hob, no_worth, _, rfl, p, pl, d, nl, sl, plv, nums, S, m, x, rfl, A.st, q⟩
end
end My

set_option Elab.async false
set_option linter.all false
set_option maxRecDepth 100000
namespace My
open PySem PySem.Spec PyProof.Rows L2
section
variable {P : Program} {w : World} {K : PySem.W.Frag} {mg : Str → Option Value} {base : Heap}
set_option maxHeartbeats 4000000 in
theorem ok_Walker_steps {f : Addr} {fd : FuncData} (F : Fun K "steps" "Walker.steps" s_Walker_steps f fd) (Z : Bl mg) {C : Addr} (T : StT K C) {D : Addr} (TW : WkT K D)  : FnOk P w K mg base CX0 1 f fd ["self"] (spWSteps C D) := by
  refine F.ok (k := 0) sc_Walker_steps (fun vs H Q E h => ?_) (fun cdv A outer s H vs Q E hr h => ?_)
  · obtain ⟨wp, p, pl, d, nl, sl, plv, nums, S, m, rfl, _⟩ := h
    rfl
  · obtain ⟨wp, p, pl, d, nl, sl, plv, nums, S, m, rfl, A, q⟩ := h
    refine ⟨_, (pss_one (ps_ret (pe_fld (pv 0) rfl))), ?_⟩
    obtain ⟨dw, how⟩ := A.ob
    obtain ⟨dx, hob⟩ := A.st.ob

    exact ⟨_, rfl, wp, D, dw, _, _, rfl, how, TW.cl, TW.done, lk_done, q⟩
end
end My

set_option Elab.async false
set_option linter.all false
set_option maxRecDepth 100000
namespace My
open PySem PySem.Spec PyProof.Rows L2
section
variable {P : Program} {w : World} {K : PySem.W.Frag} {mg : Str → Option Value} {base : Heap}
set_option maxHeartbeats 4000000 in
theorem ok_law_bag {f : Addr} {fd : FuncData} (F : Fun K "_law_bag" "_law_bag" s_law_bag f fd) (Z : Bl mg)  : FnOk P w K mg base CX0 1 f fd ["script", "k"] (spBag K) := by
  refine F.ok (k := 0) sc_law_bag (fun vs H Q E h => ?_) (fun cdv A outer s H vs Q E hr h => ?_)
  · obtain ⟨a, ns, k, rfl, _⟩ := h
    rfl
  · obtain ⟨a, ns, k, rfl, hS, hk, q⟩ := h
    refine ⟨_, (pss_cons (ps_set (i := 2) sc_law_bag.nd rfl (Or.inl rfl) pe_int)
      (pss_cons (ps_if (pt_cmpR op_lt (pv 1) (pe_callB call_len_seq rfl Z.len bt_len (pa_cons (pv 0) pa_nil)) (nomark _))
      (pss_one (ps_set (i := 2) sc_law_bag.nd rfl (Or.inl rfl) (pe_op op_mod (pe_ix ix_list (pv 0) (pv 1) (fun _ _ => rfl)) (pe_op op_mulB (pe_op op_pow pe_int pe_int) (pe_op op_pow pe_int pe_int)))))
      pss_nil)
      (pss_cons (ps_if (pt_cmpR op_lt (pv 2) (pe_op op_pow pe_int pe_int) (nomark _))
      (pss_one (ps_ret (pe_lst (pa_cons pe_int (pa_cons (pe_op op_add pe_int (pe_op op_mod (pe_op op_add (pe_op op_mul (pv 2) pe_int) (pe_op op_mul pe_int (pv 1))) pe_int)) pa_nil)))))
      pss_nil)
      (pss_one (ps_ret (pe_lst (pa_cons (pv 2) (pa_cons (pe_op op_add pe_int (pe_op op_mod (pe_op op_add (pv 2) (pv 1)) pe_int)) pa_nil)))))))), ?_⟩

    refine ⟨_, rfl, _, rfl, _, _, rfl, .inl hS, _, _, rfl, rfl, _, rfl, ?_⟩
    refine ite2 (fun hc => ?_) (fun hc => ?_)
    · have hl : k < ((ns.map V.int).length : Nat) := of_decide_eq_true hc
      obtain ⟨v, hv, hm⟩ := at_in hk hl
      obtain ⟨z, _, rfl⟩ := List.mem_map.mp hm
      refine ⟨_, rfl, _, rfl, _, _, _, _, rfl, rfl, hS, hv, 10, 60, rfl, rfl, ⟨by decide, by decide, by decide⟩, 10, 60, rfl, rfl, ⟨by decide, by decide, by decide⟩, _, _, rfl, rfl, (by unfold IntMulOk; decide +kernel), _, _, rfl, rfl, (show (0 : Int) < 10 ^ (60 : Int).toNat * 10 ^ (60 : Int).toNat by decide +kernel), ?_⟩
      refine ⟨_, rfl, 10, 18, rfl, rfl, ⟨by decide, by decide, by decide⟩, _, _, rfl, rfl, _, rfl, ?_⟩
      refine ite2 (fun hd => ?_) (fun hd => ?_)
      · refine ⟨_, rfl, _, _, rfl, rfl, .inr ⟨by decide, by decide⟩, _, rfl, _, _, rfl, rfl, .inl ⟨by decide, by decide⟩, _, _, rfl, rfl, _, _, rfl, rfl, (show (0 : Int) < 2147483646 by decide), _, _, rfl, rfl, ln2, fun p hp => ?_⟩
        exact q p _ hp ⟨_, _, upd_same, by omega, by omega⟩ (Same.new hp)
      · refine ⟨_, rfl, _, rfl, _, rfl, _, _, rfl, rfl, _, _, rfl, rfl, (show (0 : Int) < 2147483646 by decide), _, _, rfl, rfl, ln2, fun p hp => ?_⟩
        exact q p _ hp ⟨_, _, upd_same, by omega, by omega⟩ (Same.new hp)
    · refine ⟨_, rfl, 10, 18, rfl, rfl, ⟨by decide, by decide, by decide⟩, _, _, rfl, rfl, _, rfl, ?_⟩
      refine ite2 (fun hd => ?_) (fun hd => ?_)
      · refine ⟨_, rfl, _, _, rfl, rfl, .inr ⟨by decide, by decide⟩, _, rfl, _, _, rfl, rfl, .inl ⟨by decide, by decide⟩, _, _, rfl, rfl, _, _, rfl, rfl, (show (0 : Int) < 2147483646 by decide), _, _, rfl, rfl, ln2, fun p hp => ?_⟩
        exact q p _ hp ⟨_, _, upd_same, by omega, by omega⟩ (Same.new hp)
      · refine ⟨_, rfl, _, rfl, _, rfl, _, _, rfl, rfl, _, _, rfl, rfl, (show (0 : Int) < 2147483646 by decide), _, _, rfl, rfl, ln2, fun p hp => ?_⟩
        exact q p _ hp ⟨_, _, upd_same, by omega, by omega⟩ (Same.new hp)
end
end My

set_option Elab.async false
set_option linter.all false
set_option maxRecDepth 100000
namespace My
open PySem PySem.Spec PyProof.Rows L2
section
variable {P : Program} {w : World} {K : PySem.W.Frag} {mg : Str → Option Value} {base : Heap}
set_option maxHeartbeats 4000000 in
theorem ok_law_take {f : Addr} {fd : FuncData} (F : Fun K "_law_take" "_law_take" s_law_take f fd) (Z : Bl mg)  : FnOk P w K mg base CX0 1 f fd ["bag", "many"] spTake := by
  refine F.ok (k := 0) sc_law_take (fun vs H Q E h => ?_) (fun cdv A outer s H vs Q E hr h => ?_)
  · obtain ⟨b, m, rfl, _⟩ := h
    rfl
  · obtain ⟨b, m, rfl, ⟨x, y, hb, h0, h1⟩, hm, q⟩ := h
    refine ⟨_, (pss_cons (ps_if (pt_cmpR op_gt (pe_ix ix_list (pv 0) pe_int (fun _ _ => rfl)) pe_int (nomark _))
      (pss_cons (ps_set (i := 2) sc_law_take.nd rfl (Or.inl rfl) (pe_op op_mod (pe_ix ix_list (pv 0) pe_int (fun _ _ => rfl)) (pv 1)))
      (pss_cons (ps_asg (pe_op op_fdivB (pe_ix ix_list (pv 0) pe_int (fun _ _ => rfl)) (pv 1)) (pg_sub (pv 0) pe_int set_list))
      (pss_one (ps_ret (pv 2)))))
      pss_nil)
      (pss_cons (ps_asg (pe_op op_mod (pe_op op_mul (pe_ix ix_list (pv 0) pe_int (fun _ _ => rfl)) pe_int) pe_int) (pg_sub (pv 0) pe_int set_list))
      (pss_one (ps_ret (pe_op op_mod (pe_op op_fdiv (pe_op op_mod (pe_op op_mul (pe_ix ix_list (pv 0) pe_int (fun _ _ => rfl)) (pe_ix ix_list (pv 0) pe_int (fun _ _ => rfl))) pe_int) pe_int) (pv 1)))))), ?_⟩

    refine ⟨_, rfl, b, _, 0, _, rfl, rfl, SqL.of hb, at0, _, _, rfl, rfl, _, rfl, ?_⟩
    refine ite2 (fun hc => ?_) (fun hc => ?_)
    · refine ⟨_, rfl, b, _, 0, _, rfl, rfl, SqL.of hb, at0, _, rfl, _, _, rfl, rfl, hm.1, ?_⟩
      refine ⟨_, rfl, b, _, 0, _, rfl, rfl, SqL.of hb, at0, _, rfl, _, _, rfl, rfl, hm, _, rfl, b, _, 0, 0, rfl, rfl, hb, rfl, ?_⟩
      refine ⟨_, rfl, ?_⟩
      exact q _ _ (Int.emod_nonneg _ (by have := hm.1; omega)) (Int.emod_lt_of_pos _ hm.1) ⟨_, _, upd_same, h0, h1⟩ Fix.upd_b
    · refine ⟨_, rfl, b, _, 1, _, rfl, rfl, SqL.of hb, at1, _, _, rfl, rfl, .inr ⟨by decide, by decide⟩, _, _, rfl, rfl, (show (0 : Int) < 2147483647 by decide), _, rfl, b, _, 1, 1, rfl, rfl, hb, rfl, ?_⟩
      refine ⟨_, rfl, b, _, 1, _, rfl, rfl, SqL.of upd_same, at1, _, rfl, b, _, 1, _, rfl, rfl, SqL.of upd_same, at1, _, _, rfl, rfl, .inl ⟨by omega, by omega⟩, _, _, rfl, rfl, (show (0 : Int) < 2147483629 by decide), _, _, rfl, rfl, ⟨by decide, by decide⟩, _, rfl, _, _, rfl, rfl, hm.1, ?_⟩
      exact q _ _ (Int.emod_nonneg _ (by have := hm.1; omega)) (Int.emod_lt_of_pos _ hm.1) ⟨_, _, upd_same, by omega, by omega⟩ Fix.upd_b
end
end My

set_option Elab.async false
set_option linter.all false
set_option maxRecDepth 100000
namespace My
open PySem PySem.Spec PyProof.Rows L2
section
variable {P : Program} {w : World} {K : PySem.W.Frag} {mg : Str → Option Value} {base : Heap}
set_option maxHeartbeats 4000000 in
theorem ok_law_names {f : Addr} {fd : FuncData} (F : Fun K "_law_names" "_law_names" s_law_names f fd) (Z : Bl mg) (O_law_take : Own P w K mg base "_law_take" 1 ["bag", "many"] spTake) : FnOk P w K mg base CX0 2 f fd ["bag"] spNames := by
  refine F.ok (k := 1) sc_law_names (fun vs H Q E h => ?_) (fun cdv A outer s H vs Q E hr h => ?_)
  · obtain ⟨b, rfl, _⟩ := h
    rfl
  · obtain ⟨b, rfl, hB, q⟩ := h
    refine ⟨_, (pss_cons (ps_set (i := 1) sc_law_names.nd rfl (Or.inr rfl) pe_str)
      (pss_cons (ps_set (i := 2) sc_law_names.nd rfl (Or.inl rfl) (pe_op op_add pe_int (pe_own O_law_take (hr.mono (by decide)) rfl (pa_cons (pv 0) (pa_cons pe_int pa_nil)))))
      (pss_cons (ps_setLC (i := 3) ["k"] ["letters", "bag"] [1, 0] rfl sc_law_names.nd rfl rfl rfl (pi_range1 rfl Z.range (pa_cons (pe_op op_add pe_int (pe_own O_law_take (hr.mono (by decide)) rfl (pa_cons (pv 0) (pa_cons pe_int pa_nil)))) pa_nil)) rfl (by decide +kernel) (by decide +kernel) (by decide +kernel) ⟨⟨rfl, .inl rfl, rfl⟩, ⟨⟨rfl, .inl rfl, rfl⟩, True.intro⟩⟩ (fun _ _ _ _ => (pg_name (i := 0) (show ((["k"] : List Str) ++ (["letters", "bag"] : List Str)).Nodup by decide +kernel) rfl (Or.inl rfl) (hf := Or.inr rfl))) (fun _ _ _ _ => pts_nil) (fun _ _ _ _ => (pe_ix ix_str (pv 1) (pe_own O_law_take (hr.mono (by decide)) rfl (pa_cons (pv 2) (pa_cons pe_int pa_nil))) (fun _ _ => rfl))))
      (pss_cons (ps_set (i := 4) sc_law_names.nd rfl (Or.inl rfl) (pe_own O_law_take (hr.mono (by decide)) rfl (pa_cons (pv 0) (pa_cons (pe_callB call_len_seq rfl Z.len bt_len (pa_cons (pv 3) pa_nil)) pa_nil))))
      (pss_cons (ps_set (i := 5) sc_law_names.nd rfl (Or.inl rfl) (pe_lst pa_nil))
      (pss_cons (ps_for PassesOwn.never rfl (pi_range1 rfl Z.range (pa_cons (pv 2) pa_nil)) (pg_name (i := 6) sc_law_names.nd rfl (Or.inl rfl))
      (pss_cons (ps_set (i := 7) sc_law_names.nd rfl (Or.inl rfl) (pe_callTy call_list_of rfl Z.list bt_list (pa_cons (pv 3) pa_nil)))
      (pss_cons (ps_asg (pe_ix ix_str (pv 1) (pe_own O_law_take (hr.mono (by decide)) rfl (pa_cons (pv 0) (pa_cons pe_int pa_nil))) (fun _ _ => rfl)) (pg_sub (pv 7) (pv 4) set_list))
      (pss_one (ps_if (pt_cmpR op_notIn_seq (pe_bm PySem.F.plainAttrs_str PySem.F.slot_str_join PySem.F.type_str_join mt_join pe_str (pa_cons (pv 7) pa_nil)) (pv 5) (by with_unfolding_all rfl))
      (pss_one (ps_expr (pe_bm PySem.F.plainAttrs_list PySem.F.slot_list_append PySem.F.type_list_append mt_append (pv 5) (pa_cons (pe_bm PySem.F.plainAttrs_str PySem.F.slot_str_join PySem.F.type_str_join mt_join pe_str (pa_cons (pv 7) pa_nil)) pa_nil))))
      pss_nil)))))
      (pss_one (ps_ret (pv 5))))))))), ?_⟩

    refine ⟨_, rfl, b, 4, rfl, hB, ⟨by decide, by decide +kernel⟩, fun m H1 m0 m1 B1 X1 => ⟨_, _, rfl, rfl, ?_⟩⟩
    -- base
    refine ⟨_, rfl, b, 8, rfl, B1, ⟨by decide, by decide +kernel⟩, fun k H2 k0 k1 B2 X2 => ⟨_, _, rfl, rfl, _, rfl, (by omega), (by omega), fun acc na => ?_⟩⟩
    refine lc_range (lo := 0) (fun i ys τ H' => ∃ (v : Option V) (cs : List Nat), τ = [v, some (.str abc), some (.ref b)] ∧ ys = (cs.map one).map V.str ∧ cs.length = i ∧ (∀ c ∈ cs, 97 ≤ c ∧ c ≤ 122) ∧ H' acc = some (.lst ys) ∧ Bag H' b ∧ Fix b H2 H') ?_ ?_ ?_ ?_
    · exact ⟨none, [], rfl, rfl, rfl, (fun _ h => nomatch h), upd_same, B2.new na, Fix.new na⟩
    · rintro i ys τ H' hi ⟨v, cs, rfl, rfl, hl, _, ha, _⟩
      refine ⟨ha, ?_⟩
      rw [List.length_map, List.length_map]
      exact small1000 (by omega)
    · rintro i ys τ H' hi ⟨v, cs, rfl, rfl, hl, hc, ha, B', X'⟩
      refine gname_ ?_
      refine yes_ ?_
      refine iteT ?_
      refine ⟨_, rfl, _, rfl, b, 26, rfl, B', ⟨by decide, by decide +kernel⟩, fun r H3 r0 r1 B3 X3 => ?_⟩
      obtain ⟨c, hat, c0, c1⟩ := abc_at r0 r1
      have hab : acc ≠ b := B2.ne_new na
      have ha3 := X3 acc _ ha hab
      refine ⟨abc, r, c, rfl, rfl, abc_len, hat, ha3, _, cs ++ [c], rfl, ?_, ?_, ?_, upd_same, ?_, ?_⟩
      · rw [List.map_append, List.map_append]; rfl
      · rw [List.length_append, hl]; rfl
      · intro d hd
        rcases List.mem_append.mp hd with hd | hd
        · exact hc d hd
        · rw [List.mem_singleton.mp hd]; exact ⟨c0, c1⟩
      · obtain ⟨x, y, e, z⟩ := B3
        exact ⟨x, y, by rw [upd_ne hab.symm]; exact e, z⟩
      · intro d o hd nd
        rw [upd_ne (ne_of_none hd na)]
        exact (X'.trans X3) d o hd nd
    · rintro ys τ H3 ⟨v, cs, rfl, rfl, hl, hc, ha, B3, X3⟩
      have hab : acc ≠ b := B2.ne_new na
      have hl1 : 1 ≤ cs.length := by omega
      have hl8 : cs.length ≤ 8 := by omega
      have F3 : Fix b H H3 := (X1.trans X2).trans X3
      have el : (((cs.map one).map V.str).length : Int) = cs.length := by simp
      -- at
      refine ⟨_, rfl, _, rfl, acc, _, rfl, .inl (SqL.of ha), b, _, rfl, B3, ⟨by omega, smallM (by omega) (by omega)⟩, fun at_ H4 t0 t1 B4 X4 => ?_⟩
      -- names = []
      refine ⟨(by show 0 ≤ sizeLine; decide), fun nl nn => ?_⟩
      have hnb : nl ≠ b := B4.ne_new nn
      have ha4 : H4 acc = some (.lst ((cs.map one).map V.str)) := X4 acc _ ha hab
      have hna : nl ≠ acc := fun z => by rw [z, ha4] at nn; cases nn
      have F4 : Fix b H H4 := F3.trans X4
      refine ⟨_, rfl, _, rfl, (by omega), (by omega), for_range (lo := 0) (fun i σ H' => ∃ (u1 u2 : Option V) (xs : List Str), σ = [some (.ref b), some (.str abc), some (.int (1 + m)), some (.ref acc), some (.int at_), some (.ref nl), u1, u2] ∧
        H' nl = some (.lst (xs.map V.str)) ∧ xs.length ≤ i ∧ (0 < i → xs ≠ []) ∧ (∀ x ∈ xs, NameOk x) ∧ H' acc = some (.lst ((cs.map one).map V.str)) ∧ Bag H' b ∧ Fix b H H') ?_ ?_ ?_⟩
      · exact ⟨_, _, [], rfl, upd_same, Nat.le_refl _, (fun h => absurd h (Nat.lt_irrefl _)), (fun _ h => nomatch h), (by rw [upd_ne hna.symm]; exact ha4), B4.new nn, F4.trans (Fix.new nn)⟩
      · rintro i σ H' hi ⟨u1, u2, xs, rfl, hn, hx, hx0, hok, ha', B', X'⟩
        -- name = list(base)
        refine ⟨_, rfl, acc, _, rfl, .inl (SqL.of ha'), fun nm mm => ?_⟩
        have nmb : nm ≠ b := B'.ne_new mm
        have nma : nm ≠ acc := fun z => by rw [z, ha'] at mm; cases mm
        have nmn : nm ≠ nl := fun z => by rw [z, hn] at mm; cases mm
        -- name[at] = letters[..]
        refine ⟨_, rfl, _, rfl, b, 26, rfl, B'.new mm, ⟨by decide, by decide +kernel⟩, fun r H5 r0 r1 B5 X5 => ?_⟩
        obtain ⟨c, hat, c0, c1⟩ := abc_at r0 r1
        have h5 : H5 nm = some (.lst ((cs.map one).map V.str)) := X5 nm _ upd_same nmb
        have hn5 : H5 nl = some (.lst (xs.map V.str)) := X5 nl _ (by rw [upd_ne nmn.symm]; exact hn) hnb
        have ha5 : H5 acc = some (.lst ((cs.map one).map V.str)) := X5 acc _ (by rw [upd_ne nma.symm]; exact ha') hab
        obtain ⟨j, rfl⟩ : ∃ j : Nat, at_ = j := ⟨at_.toNat, by omega⟩
        have hj : j < cs.length := by omega
        have hix : ixN ((cs.map one).map V.str).length (j : Int) = some j := by
          unfold ixN
          rw [if_pos (by omega), if_pos (by rw [el]; omega)]
          simp
        refine ⟨abc, r, c, rfl, rfl, abc_len, hat, _, rfl, _, rfl, nm, _, (j : Int), j, rfl, rfl, h5, hix, ?_⟩
        have eset : ((cs.map one).map V.str).set j (.str ⟨#[c]⟩) = ((cs.set j c).map one).map V.str := by
          rw [List.map_set, List.map_set]; rfl
        rw [eset]
        have hc' : ∀ d ∈ cs.set j c, 97 ≤ d ∧ d ≤ 122 := fun d hd => by
          rcases List.mem_or_eq_of_mem_set hd with hd | hd
          · exact hc d hd
          · rw [hd]; exact ⟨c0, c1⟩
        have hjl : (((cs.set j c).map one).map (·.length)).sum + ((cs.set j c).map one).length * (Str.ofString "").length ≤ 16777216 := by
          have e1 : (Str.ofString "").length = 0 := by decide +kernel
          have e2 : ∀ l : List Nat, ((l.map one).map (·.length)).sum = l.length := by
            intro l
            induction l with
            | nil => rfl
            | cons a l ih => simp only [List.map_cons, List.sum_cons, ih, List.length_cons]; show 1 + l.length = _; omega
          rw [e1, e2, List.length_set]
          omega
        have nk : NameOk (Txt.join (Str.ofString "") ((cs.set j c).map one)) := by
          rw [empty_is]
          have ej := L2.join_ones (cs.set j c)
          have eL : (Txt.join Str.empty ((cs.set j c).map one)).length = (cs.set j c).length := by
            have := congrArg List.length ej
            rw [Array.length_toList] at this
            exact this
          refine ⟨?_, ?_, ?_⟩
          · rw [eL, List.length_set]; exact hl1
          · rw [eL, List.length_set]; exact hl8
          · rw [ej]; exact hc'
        have n6 : upd H5 nm (.lst (((cs.set j c).map one).map V.str)) nl = some (.lst (xs.map V.str)) := by rw [upd_ne nmn.symm]; exact hn5
        have a6 : upd H5 nm (.lst (((cs.set j c).map one).map V.str)) acc = some (.lst ((cs.map one).map V.str)) := by rw [upd_ne nma.symm]; exact ha5
        have B6 : Bag (upd H5 nm (.lst (((cs.set j c).map one).map V.str))) b := by
          obtain ⟨x, y, e, z⟩ := B5
          exact ⟨x, y, by rw [upd_ne nmb.symm]; exact e, z⟩
        have F6 : Fix b H (upd H5 nm (.lst (((cs.set j c).map one).map V.str))) := fun d o hd nd => by
          have h1 := X' d o hd nd
          have nd' : d ≠ nm := fun z => by rw [z, mm] at h1; cases h1
          rw [upd_ne nd']
          exact X5 d o (by rw [upd_ne nd']; exact h1) nd
        have flat : (xs.map V.str).all flatV = true := by
          rw [List.all_eq_true]
          intro v hv
          obtain ⟨x, _, rfl⟩ := List.mem_map.mp hv
          rfl
        refine ⟨rfl, _, rfl, _, nm, _, rfl, rfl, SqL.of upd_same, hjl, _, rfl, nl, _, rfl, .inl (SqL.of n6), rfl, flat, _, rfl, ?_⟩
        refine ite2 (fun hin => ?_) (fun hin => ?_)
        · refine ⟨_, rfl, .inl ⟨rfl, _, SqL.of n6⟩, rfl, _, rfl, _, nm, _, rfl, rfl, SqL.of upd_same, hjl, nl, _, _, rfl, rfl, n6, ?_, ?_⟩
          · rw [List.length_map]
            have : i < 4 := by omega
            exact small1000 (by omega)
          · refine ⟨_, _, xs ++ [_], rfl, (by rw [upd_same, List.map_append]; rfl), (by rw [List.length_append]; exact Nat.succ_le_succ hx), (fun _ => by simp), ?_, (by rw [upd_ne hna.symm]; exact a6), ?_, ?_⟩
            · intro x hxm
              rcases List.mem_append.mp hxm with hxm | hxm
              · exact hok x hxm
              · rw [List.mem_singleton.mp hxm]; exact nk
            · obtain ⟨x, y, e, z⟩ := B6
              exact ⟨x, y, by rw [upd_ne hnb.symm]; exact e, z⟩
            · intro d o hd nd
              have h1 := F6 d o hd nd
              have nd' : d ≠ nl := fun z => by
                have h2 := F4 d o hd nd
                rw [z, nn] at h2
                cases h2
              rw [upd_ne nd']
              exact h1
        · have hx' : xs ≠ [] := by
            intro e
            subst e
            exact hin rfl
          exact ⟨_, _, xs, rfl, n6, Nat.le_succ_of_le hx, fun _ => hx', hok, a6, B6, F6⟩
      · rintro σ H' ⟨u1, u2, xs, rfl, hn, hx, hx0, hok, ha', B', X'⟩
        refine ⟨_, rfl, ?_⟩
        have hm : (1 + m).toNat ≤ 4 := by omega
        have hm0 : 0 < (1 + m).toNat := by omega
        exact q nl xs H' ⟨hn, hnb, hx0 hm0, by omega, hok⟩ (Nat.le_trans hx hm) B' X'
end
end My

set_option Elab.async false
set_option linter.all false
set_option maxRecDepth 100000
namespace My
open PySem PySem.Spec PyProof.Rows L2
section
variable {P : Program} {w : World} {K : PySem.W.Frag} {mg : Str → Option Value} {base : Heap}
set_option maxHeartbeats 4000000 in
theorem ok_law_number {f : Addr} {fd : FuncData} (F : Fun K "_law_number" "_law_number" s_law_number f fd) (Z : Bl mg) (O_law_take : Own P w K mg base "_law_take" 1 ["bag", "many"] spTake) : FnOk P w K mg base CX0 2 f fd ["bag"] spNumber := by
  refine F.ok (k := 1) sc_law_number (fun vs H Q E h => ?_) (fun cdv A outer s H vs Q E hr h => ?_)
  · obtain ⟨b, rfl, _⟩ := h
    rfl
  · obtain ⟨b, rfl, hB, q⟩ := h
    refine ⟨_, (pss_cons (ps_if (pt_cmpR op_eq (pe_own O_law_take (hr.mono (by decide)) rfl (pa_cons (pv 0) (pa_cons pe_int pa_nil))) pe_int (nomark _))
      (pss_one (ps_ret (pe_op op_mul (pe_op op_sub (pe_op op_sub (pe_op op_pow pe_int pe_int) pe_int) (pe_own O_law_take (hr.mono (by decide)) rfl (pa_cons (pv 0) (pa_cons pe_int pa_nil)))) (pe_op op_sub pe_int (pe_op op_mul pe_int (pe_own O_law_take (hr.mono (by decide)) rfl (pa_cons (pv 0) (pa_cons pe_int pa_nil))))))))
      pss_nil)
      (pss_one (ps_ret (pe_op op_sub (pe_own O_law_take (hr.mono (by decide)) rfl (pa_cons (pv 0) (pa_cons pe_int pa_nil))) pe_int)))), ?_⟩

    refine ⟨_, rfl, b, 8, rfl, hB, ⟨by decide, by decide +kernel⟩, fun r H1 r0 r1 B1 X1 => ⟨rfl, _, rfl, ?_⟩⟩
    refine ite2 (fun hc => ?_) (fun hc => ?_)
    · refine ⟨10, 40, rfl, rfl, ⟨by decide, by decide, by decide⟩, _, _, rfl, rfl, ?_⟩
      refine ⟨_, rfl, b, 3, rfl, B1, ⟨by decide, by decide +kernel⟩, fun r2 H2 r20 r21 B2 X2 => ⟨_, _, rfl, rfl, ?_⟩⟩
      refine ⟨_, rfl, b, 2, rfl, B2, ⟨by decide, by decide +kernel⟩, fun r3 H3 r30 r31 B3 X3 => ?_⟩
      refine ⟨_, _, rfl, rfl, .inl ⟨by decide, by decide⟩, _, _, rfl, rfl, _, _, rfl, rfl, .inr ⟨by omega, by omega⟩, ?_⟩
      refine q _ H3 ?_ B3 ((X1.trans X2).trans X3)
      have e : (10 : Int) ^ (40 : Int).toNat = 10 ^ 40 := by decide +kernel
      rw [e]
      obtain rfl | rfl : r3 = 0 ∨ r3 = 1 := by omega
      · rw [show (1 : Int) - 2 * 0 = 1 by decide, Int.mul_one]; unfold NumOk; omega
      · rw [show (1 : Int) - 2 * 1 = -1 by decide, Int.mul_neg, Int.mul_one]; unfold NumOk; omega
    · refine ⟨_, rfl, b, 8, rfl, B1, ⟨by decide, by decide +kernel⟩, fun r2 H2 r20 r21 B2 X2 => ⟨_, _, rfl, rfl, ?_⟩⟩
      exact q _ H2 (by unfold NumOk; omega) B2 (X1.trans X2)
end
end My

set_option Elab.async false
set_option linter.all false
set_option maxRecDepth 100000
namespace My
open PySem PySem.Spec PyProof.Rows L2
section
variable {P : Program} {w : World} {K : PySem.W.Frag} {mg : Str → Option Value} {base : Heap}
set_option maxHeartbeats 4000000 in
theorem ok_law_deed {f : Addr} {fd : FuncData} (F : Fun K "_law_deed" "_law_deed" s_law_deed f fd) (Z : Bl mg) (O_law_take : Own P w K mg base "_law_take" 1 ["bag", "many"] spTake) (O_law_number : Own P w K mg base "_law_number" 2 ["bag"] spNumber) : FnOk P w K mg base CX0 3 f fd ["bag", "names"] spDeed := by
  refine F.ok (k := 2) sc_law_deed (fun vs H Q E h => ?_) (fun cdv A outer s H vs Q E hr h => ?_)
  · obtain ⟨b, l, xs, rfl, _⟩ := h
    rfl
  · obtain ⟨b, l, xs, rfl, hB, hN, q⟩ := h
    refine ⟨_, (pss_cons (ps_set (i := 2) sc_law_deed.nd rfl (Or.inl rfl) (pe_ix ix_list (pe_lst (pa_cons pe_str (pa_cons pe_str (pa_cons pe_str (pa_cons pe_str (pa_cons pe_str (pa_cons pe_str (pa_cons pe_str pa_nil)))))))) (pe_own O_law_take (hr.mono (by decide)) rfl (pa_cons (pv 0) (pa_cons pe_int pa_nil))) (fun _ _ => rfl)))
      (pss_cons (ps_set (i := 3) sc_law_deed.nd rfl (Or.inl rfl) (pe_ix ix_list (pv 1) (pe_own O_law_take (hr.mono (by decide)) rfl (pa_cons (pv 0) (pa_cons (pe_callB call_len_seq rfl Z.len bt_len (pa_cons (pv 1) pa_nil)) pa_nil))) (fun _ _ => rfl)))
      (pss_cons (ps_if (pt_cmpR op_eq (pv 2) pe_str (nomark _))
      (pss_one (ps_ret (pe_tup (pa_cons (pv 2) (pa_cons (pv 3) (pa_cons (pe_ix ix_list (pv 1) (pe_own O_law_take (hr.mono (by decide)) rfl (pa_cons (pv 0) (pa_cons (pe_callB call_len_seq rfl Z.len bt_len (pa_cons (pv 1) pa_nil)) pa_nil))) (fun _ _ => rfl)) pa_nil))))))
      pss_nil)
      (pss_cons (ps_if (PW.pt (pw_or (pt_cmpR op_eq (pv 2) pe_str (nomark _)) (pw_or1 (pt_cmpR op_eq (pv 2) pe_str (nomark _)))))
      (pss_one (ps_ret (pe_tup (pa_cons (pv 2) (pa_cons (pv 3) (pa_cons (pe_own O_law_number (hr.mono (by decide)) rfl (pa_cons (pv 0) pa_nil)) pa_nil))))))
      pss_nil)
      (pss_one (ps_ret (pe_tup (pa_cons (pv 2) (pa_cons (pv 3) pa_nil))))))))), ?_⟩

    refine ⟨ln7, fun l0 m0 => ?_⟩
    refine ⟨_, rfl, b, 7, rfl, hB.new m0, ⟨by decide, by decide +kernel⟩, fun r H1 r0 r1 B1 X1 => ?_⟩
    have h0 : H1 l0 = some (.lst [.str "put", .str "copy", .str "add", .str "read", .str "tell", .str "tell", .str "add"]) := X1 l0 _ upd_same (hB.ne_new m0)
    have F1 : Fix b H H1 := (Fix.new m0).trans X1
    have N1 := hN.fix F1
    have hw : ∃ w : Str, (w = "put" ∨ w = "copy" ∨ w = "add" ∨ w = "read" ∨ w = "tell") ∧ atI [V.str "put", .str "copy", .str "add", .str "read", .str "tell", .str "tell", .str "add"] r = some (V.str w) := by
      obtain rfl | rfl | rfl | rfl | rfl | rfl | rfl : r = 0 ∨ r = 1 ∨ r = 2 ∨ r = 3 ∨ r = 4 ∨ r = 5 ∨ r = 6 := by omega
      · exact ⟨_, .inl rfl, atI_nat (j := 0) rfl⟩
      · exact ⟨_, .inr (.inl rfl), atI_nat (j := 1) rfl⟩
      · exact ⟨_, .inr (.inr (.inl rfl)), atI_nat (j := 2) rfl⟩
      · exact ⟨_, .inr (.inr (.inr (.inl rfl))), atI_nat (j := 3) rfl⟩
      · exact ⟨_, .inr (.inr (.inr (.inr rfl))), atI_nat (j := 4) rfl⟩
      · exact ⟨_, .inr (.inr (.inr (.inr rfl))), atI_nat (j := 5) rfl⟩
      · exact ⟨_, .inr (.inr (.inl rfl)), atI_nat (j := 6) rfl⟩
    obtain ⟨w, hw, hat⟩ := hw
    refine ⟨l0, _, r, _, rfl, rfl, SqL.of h0, hat, ?_⟩
    -- name
    obtain ⟨p0, p1⟩ := N1.pos
    refine ⟨_, rfl, _, rfl, _, rfl, l, _, rfl, .inl (SqL.of N1.at_), b, _, rfl, B1, ⟨p0, smallM p0 p1⟩, fun r2 H2 r20 r21 B2 X2 => ?_⟩
    have N2 := N1.fix X2
    obtain ⟨x, hx, hxm⟩ := names_at r20 r21
    refine ⟨l, _, r2, _, rfl, rfl, SqL.of N2.at_, hx, ?_⟩
    refine ⟨_, rfl, rfl, _, rfl, ?_⟩
    rcases hw with rfl | rfl | rfl | rfl | rfl
    · -- put
      rw [show decide (V.str "put" = V.str "copy") = false by decide +kernel]
      refine iteF ⟨_, rfl, rfl, _, rfl, ?_⟩
      rw [show decide (V.str "put" = V.str "put") = true by decide +kernel]
      refine iteT (iteT ⟨_, rfl, _, rfl, _, rfl, b, rfl, B2, fun n H3 nk B3 X3 => ⟨ln3, fun t mt => ?_⟩⟩)
      exact q _ (.put x n) _ (.tup upd_same (.cons (.str _) (.cons (.str _) (.cons (.int _) .nil)))) ⟨hxm, nk⟩ (B3.new mt) (((F1.trans X2).trans X3).trans (Fix.new mt))
    · -- copy
      rw [show decide (V.str "copy" = V.str "copy") = true by decide +kernel]
      obtain ⟨p0, p1⟩ := N2.pos
      refine iteT ⟨_, rfl, _, rfl, _, rfl, _, rfl, _, rfl, l, _, rfl, .inl (SqL.of N2.at_), b, _, rfl, B2, ⟨p0, smallM p0 p1⟩, fun r3 H3 r30 r31 B3 X3 => ?_⟩
      have N3 := N2.fix X3
      obtain ⟨y, hy, hym⟩ := names_at r30 r31
      refine ⟨l, _, r3, _, rfl, rfl, SqL.of N3.at_, hy, ln3, fun t mt => ?_⟩
      exact q _ (.copy x y) _ (.tup upd_same (.cons (.str _) (.cons (.str _) (.cons (.str _) .nil)))) ⟨hxm, hym⟩ (B3.new mt) (((F1.trans X2).trans X3).trans (Fix.new mt))
    · -- add
      rw [show decide (V.str "add" = V.str "copy") = false by decide +kernel]
      refine iteF ⟨_, rfl, rfl, _, rfl, ?_⟩
      rw [show decide (V.str "add" = V.str "put") = false by decide +kernel]
      refine iteF ⟨_, rfl, rfl, _, rfl, ?_⟩
      rw [show decide (V.str "add" = V.str "add") = true by decide +kernel]
      refine iteT ⟨_, rfl, _, rfl, _, rfl, b, rfl, B2, fun n H3 nk B3 X3 => ⟨ln3, fun t mt => ?_⟩⟩
      exact q _ (.add x n) _ (.tup upd_same (.cons (.str _) (.cons (.str _) (.cons (.int _) .nil)))) ⟨hxm, nk⟩ (B3.new mt) (((F1.trans X2).trans X3).trans (Fix.new mt))
    · -- read
      rw [show decide (V.str "read" = V.str "copy") = false by decide +kernel]
      refine iteF ⟨_, rfl, rfl, _, rfl, ?_⟩
      rw [show decide (V.str "read" = V.str "put") = false by decide +kernel]
      refine iteF ⟨_, rfl, rfl, _, rfl, ?_⟩
      rw [show decide (V.str "read" = V.str "add") = false by decide +kernel]
      refine iteF ⟨_, rfl, _, rfl, ln2, fun t mt => ?_⟩
      exact q _ (.read x) _ (.tup upd_same (.cons (.str _) (.cons (.str _) .nil))) hxm (B2.new mt) ((F1.trans X2).trans (Fix.new mt))
    · -- tell
      rw [show decide (V.str "tell" = V.str "copy") = false by decide +kernel]
      refine iteF ⟨_, rfl, rfl, _, rfl, ?_⟩
      rw [show decide (V.str "tell" = V.str "put") = false by decide +kernel]
      refine iteF ⟨_, rfl, rfl, _, rfl, ?_⟩
      rw [show decide (V.str "tell" = V.str "add") = false by decide +kernel]
      refine iteF ⟨_, rfl, _, rfl, ln2, fun t mt => ?_⟩
      exact q _ (.tell x) _ (.tup upd_same (.cons (.str _) (.cons (.str _) .nil))) hxm (B2.new mt) ((F1.trans X2).trans (Fix.new mt))
end
end My

set_option Elab.async false
set_option linter.all false
set_option maxRecDepth 100000
namespace My
open PySem PySem.Spec PyProof.Rows L2
section
variable {P : Program} {w : World} {K : PySem.W.Frag} {mg : Str → Option Value} {base : Heap}
set_option maxHeartbeats 4000000 in
theorem ok_law_end {f : Addr} {fd : FuncData} (F : Fun K "_law_end" "_law_end" s_law_end f fd) (Z : Bl mg) (O_law_take : Own P w K mg base "_law_take" 1 ["bag", "many"] spTake) (O_law_number : Own P w K mg base "_law_number" 2 ["bag"] spNumber) : FnOk P w K mg base CX0 3 f fd ["bag", "names", "count"] spEndP := by
  refine F.ok (k := 2) sc_law_end (fun vs H Q E h => ?_) (fun cdv A outer s H vs Q E hr h => ?_)
  · obtain ⟨b, l, xs, c, rfl, _⟩ := h
    rfl
  · obtain ⟨b, l, xs, c, rfl, hB, hN, c0, c1, q⟩ := h
    refine ⟨_, (pss_cons (ps_set (i := 3) sc_law_end.nd rfl (Or.inl rfl) (pe_own O_law_take (hr.mono (by decide)) rfl (pa_cons (pv 0) (pa_cons pe_int pa_nil))))
      (pss_cons (ps_if (pt_cmpR op_eq (pv 3) pe_int (nomark _))
      (pss_one (ps_ret (pe_tup (pa_cons pe_str pa_nil))))
      pss_nil)
      (pss_cons (ps_if (pt_cmpR op_lt (pv 3) pe_int (nomark _))
      (pss_one (ps_ret (pe_tup (pa_cons pe_str (pa_cons (pe_own O_law_take (hr.mono (by decide)) rfl (pa_cons (pv 0) (pa_cons (pv 2) pa_nil))) pa_nil)))))
      pss_nil)
      (pss_cons (ps_set (i := 4) sc_law_end.nd rfl (Or.inl rfl) (pe_ix ix_list (pe_lst (pa_cons pe_str (pa_cons pe_str pa_nil))) (pe_op op_fdiv (pe_own O_law_take (hr.mono (by decide)) rfl (pa_cons (pv 0) (pa_cons pe_int pa_nil))) pe_int) (fun _ _ => rfl)))
      (pss_cons (ps_set (i := 5) sc_law_end.nd rfl (Or.inl rfl) (pe_ix ix_list (pv 1) (pe_own O_law_take (hr.mono (by decide)) rfl (pa_cons (pv 0) (pa_cons (pe_callB call_len_seq rfl Z.len bt_len (pa_cons (pv 1) pa_nil)) pa_nil))) (fun _ _ => rfl)))
      (pss_one (ps_ret (pe_tup (pa_cons (pv 4) (pa_cons (pv 5) (pa_cons (pe_own O_law_number (hr.mono (by decide)) rfl (pa_cons (pv 0) pa_nil)) (pa_cons (pe_own O_law_take (hr.mono (by decide)) rfl (pa_cons (pv 0) (pa_cons (pv 2) pa_nil))) (pa_cons (pe_own O_law_take (hr.mono (by decide)) rfl (pa_cons (pv 0) (pa_cons (pv 2) pa_nil))) pa_nil))))))))))))), ?_⟩

    have ck : (0 : Int) < (c : Int) ∧ (c : Int).natAbs.log2 < 9000 := ⟨by omega, smallM (by omega) (by omega)⟩
    refine ⟨_, rfl, b, 9, rfl, hB, ⟨by decide, by decide +kernel⟩, fun r H1 r0 r1 B1 X1 => ?_⟩
    refine ⟨_, rfl, rfl, _, rfl, ?_⟩
    refine ite2 (fun hc => ?_) (fun hc => ?_)
    · refine ⟨ln1, fun t mt => ?_⟩
      exact q _ .stop _ (.tup upd_same (.cons (.str _) .nil)) True.intro (B1.new mt) (X1.trans (Fix.new mt))
    refine ⟨_, rfl, _, _, rfl, rfl, _, rfl, ?_⟩
    refine ite2 (fun hd => ?_) (fun hd => ?_)
    · refine ⟨_, rfl, _, rfl, b, _, rfl, B1, ck, fun p H2 p0 p1 B2 X2 => ⟨ln2, fun t mt => ?_⟩⟩
      obtain ⟨k, rfl⟩ : ∃ k : Nat, p = k := ⟨p.toNat, by omega⟩
      exact q _ (.go k) _ (.tup upd_same (.cons (.str _) (.cons (.int _) .nil))) (show k < c by omega) (B2.new mt) ((X1.trans X2).trans (Fix.new mt))
    · refine ⟨ln2, fun l0 m0 => ?_⟩
      refine ⟨_, rfl, b, 3, rfl, B1.new m0, ⟨by decide, by decide +kernel⟩, fun z H2 z0 z1 B2 X2 => ⟨_, _, rfl, rfl, ⟨by decide, by decide⟩, ?_⟩⟩
      have h0 : H2 l0 = some (.lst [.str "less", .str "is"]) := X2 l0 _ upd_same (B1.ne_new m0)
      have hw : ∃ w : Bool, atI [V.str "less", V.str "is"] (z / 2) = some (V.str (wT w)) := by
        obtain h | h : z / 2 = 0 ∨ z / 2 = 1 := by omega
        · rw [h]; exact ⟨true, at0⟩
        · rw [h]; exact ⟨false, at1⟩
      obtain ⟨w, hat⟩ := hw
      refine ⟨l0, _, _, _, rfl, rfl, SqL.of h0, hat, ?_⟩
      have F2 : Fix b H H2 := (X1.trans (Fix.new m0)).trans X2
      have N2 := hN.fix F2
      obtain ⟨p0, p1⟩ := N2.pos
      refine ⟨_, rfl, _, rfl, _, rfl, l, _, rfl, .inl (SqL.of N2.at_), b, _, rfl, B2, ⟨p0, smallM p0 p1⟩, fun r3 H3 r30 r31 B3 X3 => ?_⟩
      have N3 := N2.fix X3
      obtain ⟨x, hx, hxm⟩ := names_at r30 r31
      refine ⟨l, _, r3, _, rfl, rfl, SqL.of N3.at_, hx, ?_⟩
      refine ⟨_, rfl, _, rfl, _, rfl, b, rfl, B3, fun n H4 nk B4 X4 => ?_⟩
      refine ⟨_, rfl, _, rfl, b, _, rfl, B4, ck, fun p H5 p0 p1 B5 X5 => ?_⟩
      refine ⟨_, rfl, _, rfl, b, _, rfl, B5, ck, fun p' H6 p0' p1' B6 X6 => ⟨ln5, fun t mt => ?_⟩⟩
      obtain ⟨k, rfl⟩ : ∃ k : Nat, p = k := ⟨p.toNat, by omega⟩
      obtain ⟨k', rfl⟩ : ∃ k : Nat, p' = k := ⟨p'.toNat, by omega⟩
      exact q _ (.tst w x n k k') _ (.tup upd_same (.cons (.str _) (.cons (.str _) (.cons (.int _) (.cons (.int _) (.cons (.int _) .nil)))))) ⟨hxm, nk, by omega, by omega⟩ (B6.new mt) ((((F2.trans X3).trans X4).trans (X5.trans X6)).trans (Fix.new mt))
end
end My

set_option Elab.async false
set_option linter.all false
set_option maxRecDepth 100000
namespace My
open PySem PySem.Spec PyProof.Rows L2
section
variable {P : Program} {w : World} {K : PySem.W.Frag} {mg : Str → Option Value} {base : Heap}
set_option maxHeartbeats 4000000 in
theorem ok_law_plan {f : Addr} {fd : FuncData} (F : Fun K "_law_plan" "_law_plan" s_law_plan f fd) (Z : Bl mg) (O_law_take : Own P w K mg base "_law_take" 1 ["bag", "many"] spTake) (O_law_names : Own P w K mg base "_law_names" 2 ["bag"] spNames) (O_law_deed : Own P w K mg base "_law_deed" 3 ["bag", "names"] spDeed) (O_law_end : Own P w K mg base "_law_end" 3 ["bag", "names", "count"] spEndP) : FnOk P w K mg base CX0 4 f fd ["bag", "count", "most"] spPlan := by
  refine F.ok (k := 3) sc_law_plan (fun vs H Q E h => ?_) (fun cdv A outer s H vs Q E hr h => ?_)
  · obtain ⟨b, c, m, rfl, _⟩ := h
    rfl
  · obtain ⟨b, c, m, rfl, hB, c0, c1, hm, q⟩ := h
    refine ⟨_, (pss_cons (ps_set (i := 3) sc_law_plan.nd rfl (Or.inr rfl) (pe_own O_law_names (hr.mono (by decide)) rfl (pa_cons (pv 0) pa_nil)))
      (pss_cons (ps_set (i := 4) sc_law_plan.nd rfl (Or.inl rfl) (pe_lst pa_nil))
      (pss_cons (ps_for PassesOwn.never rfl (pi_range1 rfl Z.range (pa_cons (pv 1) pa_nil)) (pg_name (i := 5) sc_law_plan.nd rfl (Or.inl rfl))
      (pss_cons (ps_set (i := 6) sc_law_plan.nd rfl (Or.inl rfl) (pe_own O_law_take (hr.mono (by decide)) rfl (pa_cons (pv 0) (pa_cons (pe_op op_add (pv 2) pe_int) pa_nil))))
      (pss_cons (ps_set (i := 7) sc_law_plan.nd rfl (Or.inl rfl) (pe_own O_law_end (hr.mono (by decide)) rfl (pa_cons (pv 0) (pa_cons (pv 3) (pa_cons (pv 1) pa_nil)))))
      (pss_one (ps_expr (pe_bm PySem.F.plainAttrs_list PySem.F.slot_list_append PySem.F.type_list_append mt_append (pv 4) (pa_cons (pe_tup (pa_cons (pe_callTy call_tuple_of rfl Z.tuple bt_tuple (pa_cons (pe_lcomp ["j"] ["bag", "names"] [0, 3] rfl (pi_range1 rfl Z.range (pa_cons (pv 6) pa_nil)) rfl (by decide +kernel) (by decide +kernel) (by decide +kernel) ⟨⟨rfl, .inl rfl, rfl⟩, ⟨⟨rfl, .inl rfl, rfl⟩, True.intro⟩⟩ (fun _ _ _ _ => (pg_name (i := 0) (show ((["j"] : List Str) ++ (["bag", "names"] : List Str)).Nodup by decide +kernel) rfl (Or.inl rfl) (hf := Or.inr rfl))) (fun _ _ _ _ => pts_nil) (fun _ _ _ _ => (pe_own O_law_deed (hr.mono (by decide)) rfl (pa_cons (pv 1) (pa_cons (pv 2) pa_nil))))) pa_nil)) (pa_cons (pv 7) pa_nil))) pa_nil)))))))
      (pss_one (ps_ret (pe_callTy call_tuple_of rfl Z.tuple bt_tuple (pa_cons (pv 4) pa_nil))))))), ?_⟩

    refine ⟨_, rfl, b, rfl, hB, fun l xs H1 N1 x4 B1 X1 => ?_⟩
    refine ⟨(by show 0 ≤ sizeLine; decide), fun pl pn => ?_⟩
    have hpb : pl ≠ b := B1.ne_new pn
    refine ⟨_, rfl, _, rfl, (by omega), (by omega), for_range (lo := 0) (fun i σ H' => ∃ (u1 u2 u3 : Option V) (ps : List Piece) (vs : List V), σ = [some (.ref b), some (.int c), some (.int m), some (.ref l), some (.ref pl), u1, u2, u3] ∧
      H' pl = some (.lst vs) ∧ RdDs H' vs (ps.map dPiece) ∧ ps.length = i ∧ (∀ p ∈ ps, (p.1.length ≤ m ∧ ∀ d ∈ p.1, DeedOk xs d) ∧ EndOk xs c p.2) ∧ NamesAt H' b l xs ∧ Bag H' b ∧ Fix b H H' ∧ (∀ d o, H1 d = some o → d ≠ b → H' d = some o)) ?_ ?_ ?_⟩
    · exact ⟨_, _, _, [], [], rfl, upd_same, .nil, rfl, (fun _ h => nomatch h), N1.fix (Fix.new pn), B1.new pn, X1.trans (Fix.new pn), Fix.new pn⟩
    · rintro i σ H' hi ⟨u1, u2, u3, ps, vs, rfl, hp, hr, hl, hok, N', B', X', Y'⟩
      refine ⟨_, rfl, _, rfl, _, _, rfl, rfl, b, _, rfl, B', ⟨by omega, smallM (by omega) (by omega)⟩, fun k H2 k0 k1 B2 X2 => ?_⟩
      have N2 := N'.fix X2
      refine ⟨_, rfl, _, rfl, _, rfl, b, l, xs, c, rfl, B2, N2, c0, (by omega), fun ev e H3 re ek B3 X3 => ?_⟩
      have N3 := N2.fix X3
      have hp3 : H3 pl = some (.lst vs) := (X2.trans X3) pl _ hp hpb
      have hr3 : RdDs H3 vs (ps.map dPiece) := hr.fix B' (X2.trans X3) (noLists_pieces ps)
      -- pieces.append((tuple([..]), end))
      refine ⟨_, rfl, .inl ⟨rfl, _, SqL.of hp3⟩, _, rfl, _, rfl, (by omega), (by omega), fun acc na => ?_⟩
      have hab : acc ≠ b := B3.ne_new na
      refine lc_range (lo := 0) (fun i ys τ H' => ∃ (v : Option V) (ds : List Deed), τ = [v, some (.ref b), some (.ref l)] ∧ RdDs H' ys (ds.map dDeed) ∧ ds.length = i ∧ (∀ d ∈ ds, DeedOk xs d) ∧ H' acc = some (.lst ys) ∧ Bag H' b ∧ Fix b H3 H') ?_ ?_ ?_ ?_
      · exact ⟨none, [], rfl, .nil, rfl, (fun _ h => nomatch h), upd_same, B3.new na, Fix.new na⟩
      · rintro i' ys τ H4 hi' ⟨v, ds, rfl, rds, hl', _, ha, _⟩
        refine ⟨ha, ?_⟩
        rw [rds.len, List.length_map]
        exact small1000 (by omega)
      · rintro i' ys τ H4 hi' ⟨v, ds, rfl, rds, hl', hdk, ha, B4, X4⟩
        refine gname_ ?_
        refine yes_ ?_
        refine iteT ?_
        refine ⟨_, rfl, _, rfl, b, l, xs, rfl, B4, N3.fix X4, fun dv d H5 rd dk B5 X5 => ?_⟩
        have ha5 := X5 acc _ ha hab
        refine ⟨ha5, _, ds ++ [d], rfl, ?_, (by rw [List.length_append, hl']; rfl), ?_, upd_same, ?_, ?_⟩
        · rw [List.map_append]
          refine RdDs.app ((rds.fix B4 X5 (noLists_deeds ds)).put ha5 (noLists_deeds ds)) ?_
          exact rd.tups (fun p zs e => by rw [upd_ne (ne_of e ha5 (by intro z; cases z))]; exact e) (noList_deed d)
        · intro d' hd
          rcases List.mem_append.mp hd with hd | hd
          · exact hdk d' hd
          · rw [List.mem_singleton.mp hd]; exact dk
        · obtain ⟨x, y, e, z⟩ := B5
          exact ⟨x, y, by rw [upd_ne hab.symm]; exact e, z⟩
        · intro d' o hd nd
          rw [upd_ne (ne_of_none hd na)]
          exact (X4.trans X5) d' o hd nd
      · rintro ys τ H4 ⟨v, ds, rfl, rds, hl', hdk, ha, B4, X4⟩
        refine ⟨acc, ys, rfl, .inl ⟨SqL.of ha, fun tp tn => ?_⟩⟩
        refine ⟨_, rfl, ln2, fun pc pcn => ?_⟩
        have S6 : Same H4 (upd (upd H4 tp (.tup ys)) pc (.tup [.ref tp, ev])) := (Same.new tn).trans (Same.new pcn)
        have hp6 : (upd (upd H4 tp (.tup ys)) pc (.tup [.ref tp, ev])) pl = some (.lst vs) := S6 _ _ (X4 pl _ hp3 hpb)
        refine ⟨pl, _, _, rfl, rfl, hp6, ?_, ?_⟩
        · rw [hr.len, List.length_map, hl]
          exact small1000 (by omega)
        have hpiece : RdD (upd (upd H4 tp (.tup ys)) pc (.tup [.ref tp, ev])) (.ref pc) (dPiece (ds, e)) := by
          refine .tup upd_same (.cons (.tup (Same.new pcn _ _ upd_same) (rds.same S6 (noLists_deeds ds))) (.cons ?_ .nil))
          exact (re.fix B3 X4 (noList_end e)).same S6 (noList_end e)
        have F6 : Fix b H (upd (upd H4 tp (.tup ys)) pc (.tup [.ref tp, ev])) := ((X'.trans (X2.trans X3)).trans X4).trans (Fix.of_same S6)
        have plH : ∀ d o, H1 d = some o → d ≠ b → d ≠ pl := fun d o hd nd z => by rw [z, pn] at hd; cases hd
        refine ⟨_, _, _, ps ++ [(ds, e)], vs ++ [.ref pc], rfl, upd_same, ?_, (by rw [List.length_append, hl]; rfl), ?_, ?_, ?_, ?_, ?_⟩
        · rw [List.map_append]
          refine RdDs.app (((hr3.fix B3 X4 (noLists_pieces ps)).same S6 (noLists_pieces ps)).put hp6 (noLists_pieces ps)) ?_
          exact hpiece.tups (fun p zs e => by rw [upd_ne (ne_of e hp6 (by intro z; cases z))]; exact e) (noList_piece (ds, e))
        · intro p hpm
          rcases List.mem_append.mp hpm with hpm | hpm
          · exact hok p hpm
          · rw [List.mem_singleton.mp hpm]
            exact ⟨⟨by show ds.length ≤ m; omega, hdk⟩, ek⟩
        · have hll : l ≠ pl := fun z => by
            have := N1.at_
            rw [z, pn] at this
            cases this
          have N6 := (N3.fix X4).fix (Fix.of_same (b := b) S6)
          exact ⟨by rw [upd_ne hll]; exact N6.at_, N6.ne, N6.some_, N6.few, N6.ok⟩
        · obtain ⟨x, y, e', z⟩ := B4.same S6
          exact ⟨x, y, by rw [upd_ne hpb.symm]; exact e', z⟩
        · intro d o hd nd
          have h1 := X1 d o hd nd
          rw [upd_ne (plH d o h1 nd)]
          exact F6 d o hd nd
        · intro d o hd nd
          rw [upd_ne (plH d o hd nd)]
          exact S6 d o (X4 d o ((X2.trans X3) d o (Y' d o hd nd) nd) nd)
    · rintro σ H' ⟨u1, u2, u3, ps, vs, rfl, hp, hr, hl, hok, N', B', X', Y'⟩
      have hl' : ps.length = c := by rw [hl]; omega
      refine ⟨_, rfl, pl, _, rfl, .inl ⟨SqL.of hp, fun tp tn => ?_⟩⟩
      refine q (.ref tp) xs ps _ (.tup upd_same (hr.same (Same.new tn) (noLists_pieces ps))) hl' ⟨fun p hpm => (hok p hpm).1, fun p hpm => ?_⟩ ⟨N'.ok, x4⟩ (B'.new tn) (X'.trans (Fix.new tn))
      rw [hl']
      exact (hok p hpm).2
end
end My

set_option Elab.async false
set_option linter.all false
set_option maxRecDepth 100000
namespace My
open PySem PySem.Spec PyProof.Rows L2
section
variable {P : Program} {w : World} {K : PySem.W.Frag} {mg : Str → Option Value} {base : Heap}
set_option maxHeartbeats 4000000 in
theorem ok_law_count {f : Addr} {fd : FuncData} (F : Fun K "_law_count" "_law_count" s_law_count f fd) (Z : Bl mg) (O_law_take : Own P w K mg base "_law_take" 1 ["bag", "many"] spTake) : FnOk P w K mg base CX0 2 f fd ["bag", "most"] spCount := by
  refine F.ok (k := 1) sc_law_count (fun vs H Q E h => ?_) (fun cdv A outer s H vs Q E hr h => ?_)
  · obtain ⟨b, m, rfl, _⟩ := h
    rfl
  · obtain ⟨b, m, rfl, hB, m0, m1, q⟩ := h
    refine ⟨_, (pss_one (ps_ret (pe_ix ix_list (pe_lst (pa_cons (pe_op op_add pe_int (pe_own O_law_take (hr.mono (by decide)) rfl (pa_cons (pv 0) (pa_cons (pv 1) pa_nil)))) (pa_cons (pe_op op_add pe_int (pe_own O_law_take (hr.mono (by decide)) rfl (pa_cons (pv 0) (pa_cons (pe_callB (call_min2 rfl) rfl Z.min bt_min (pa_cons pe_int (pa_cons (pv 1) pa_nil))) pa_nil)))) (pa_cons (pv 1) pa_nil)))) (pe_own O_law_take (hr.mono (by decide)) rfl (pa_cons (pv 0) (pa_cons pe_int pa_nil))) (fun _ _ => rfl)))), ?_⟩

    refine ⟨_, rfl, _, rfl, b, _, rfl, hB, ⟨by omega, smallM (by omega) (by omega)⟩, fun r H1 r0 r1 B1 X1 => ⟨_, _, rfl, rfl, ?_⟩⟩
    refine ⟨_, rfl, _, rfl, _, _, rfl, b, _, rfl, B1, ⟨(by split <;> omega), smallM (by split <;> omega) (by split <;> omega)⟩, fun r2 H2 r20 r21 B2 X2 => ⟨_, _, rfl, rfl, ?_⟩⟩
    refine ⟨_, rfl, ln3, fun l0 n0 => ?_⟩
    refine ⟨_, rfl, b, 3, rfl, B2.new n0, ⟨by decide, by decide +kernel⟩, fun z H3 z0 z1 B3 X3 => ?_⟩
    have h0 : H3 l0 = some (.lst [.int (1 + r), .int (1 + r2), .int m]) := X3 l0 _ upd_same (B2.ne_new n0)
    have hr2 : r2 < 4 := by
      have := r21
      split at this <;> omega
    have F3 : Fix b H H3 := ((X1.trans X2).trans (Fix.new n0)).trans X3
    obtain rfl | rfl | rfl : z = 0 ∨ z = 1 ∨ z = 2 := by omega
    · refine ⟨l0, _, 0, _, rfl, rfl, SqL.of h0, at0, ?_⟩
      have e : (1 + r) = (((1 + r).toNat : Nat) : Int) := by omega
      rw [e]
      exact q _ H3 (by omega) (by omega) B3 F3
    · refine ⟨l0, _, 1, _, rfl, rfl, SqL.of h0, at1, ?_⟩
      have e : (1 + r2) = (((1 + r2).toNat : Nat) : Int) := by omega
      rw [e]
      exact q _ H3 (by omega) (by omega) B3 F3
    · refine ⟨l0, _, 2, _, rfl, rfl, SqL.of h0, at2, ?_⟩
      exact q _ H3 m0 (by omega) B3 F3
end
end My

set_option Elab.async false
set_option linter.all false
set_option maxRecDepth 100000
namespace My
open PySem PySem.Spec PyProof.Rows L2
section
variable {P : Program} {w : World} {K : PySem.W.Frag} {mg : Str → Option Value} {base : Heap}
set_option maxHeartbeats 4000000 in
theorem ok_law_step {f : Addr} {fd : FuncData} (F : Fun K "_law_step" "_law_step" s_law_step f fd) (Z : Bl mg)  : FnOk P w K mg base CX0 1 f fd ["plan", "state", "numbers"] spStepL := by
  refine F.ok (k := 0) sc_law_step (fun vs H Q E h => ?_) (fun cdv A outer s H vs Q E hr h => ?_)
  · obtain ⟨plv, st, np, d, tl, bl, ps, nums, S, m, rfl, _⟩ := h
    rfl
  · obtain ⟨plv, st, np, d, tl, bl, ps, nums, S, m, rfl, hp, hin, hnp, A, hpc, htk, hm, q⟩ := h
    refine ⟨_, (pss_cons (ps_cut (ps_asg (pv 1) (pg_tup rfl (pgs_cons (pg_name (i := 3) sc_law_step.nd rfl (Or.inl rfl)) (pgs_cons (pg_name (i := 4) sc_law_step.nd rfl (Or.inl rfl)) (pgs_cons (pg_name (i := 5) sc_law_step.nd rfl (Or.inl rfl)) (pgs_cons (pg_name (i := 6) sc_law_step.nd rfl (Or.inl rfl)) (pgs_cons (pg_name (i := 7) sc_law_step.nd rfl (Or.inl rfl)) (pgs_cons (pg_name (i := 8) sc_law_step.nd rfl (Or.inl rfl)) (pgs_cons (pg_name (i := 9) sc_law_step.nd rfl (Or.inl rfl)) pgs_nil))))))))))
      (pss_cons (ps_cut (ps_asg (pe_ix ix_tup (pv 0) (pv 3) (fun _ _ => rfl)) (pg_tup rfl (pgs_cons (pg_name (i := 10) sc_law_step.nd rfl (Or.inl rfl)) (pgs_cons (pg_name (i := 11) sc_law_step.nd rfl (Or.inl rfl)) pgs_nil)))))
      (pss_cons (ps_if (pt_cmpR op_lt (pv 4) (pe_callB call_len_seq rfl Z.len bt_len (pa_cons (pv 10) pa_nil)) (nomark _))
      (pss_cons (ps_set (i := 12) sc_law_step.nd rfl (Or.inl rfl) (pe_ix ix_tup (pv 10) (pv 4) (fun _ _ => rfl)))
      (pss_cons (ps_cut (ps_set (i := 13) sc_law_step.nd rfl (Or.inl rfl) (pe_dget2v (hu_of hr) (pv 5) (pe_ix ix_tup (pv 12) pe_int (fun _ _ => rfl)) pe_int ⟨rfl, rfl, rfl, rfl⟩)))
      (pss_cons (ps_if (pt_cmpR op_eq (pe_ix ix_tup (pv 12) pe_int (fun _ _ => rfl)) pe_str (nomark _))
      (pss_one (ps_dput (hu_of hr) (pv 5) (pe_ix ix_tup (pv 12) pe_int (fun _ _ => rfl)) (pe_ix ix_tup (pv 12) pe_int (fun _ _ => rfl)) rfl))
      pss_nil)
      (pss_cons (ps_if (pt_cmpR op_eq (pe_ix ix_tup (pv 12) pe_int (fun _ _ => rfl)) pe_str (nomark _))
      (pss_one (ps_dput (hu_of hr) (pv 5) (pe_ix ix_tup (pv 12) pe_int (fun _ _ => rfl)) (pe_dget2v (hu_of hr) (pv 5) (pe_ix ix_tup (pv 12) pe_int (fun _ _ => rfl)) pe_int ⟨rfl, rfl, rfl, rfl⟩) rfl))
      pss_nil)
      (pss_cons (ps_if (pt_cmpR op_eq (pe_ix ix_tup (pv 12) pe_int (fun _ _ => rfl)) pe_str (nomark _))
      (pss_one (ps_dput (hu_of hr) (pv 5) (pe_ix ix_tup (pv 12) pe_int (fun _ _ => rfl)) (pe_op op_add (pv 13) (pe_ix ix_tup (pv 12) pe_int (fun _ _ => rfl))) rfl))
      pss_nil)
      (pss_cons (ps_if (pt_cmpR op_eq (pe_ix ix_tup (pv 12) pe_int (fun _ _ => rfl)) pe_str (nomark _))
      (pss_one (ps_expr (pe_bm PySem.F.plainAttrs_list PySem.F.slot_list_append PySem.F.type_list_append mt_append (pv 7) (pa_cons (pv 13) pa_nil))))
      pss_nil)
      (pss_cons (ps_if (pt_cmpR op_eq (pe_ix ix_tup (pv 12) pe_int (fun _ _ => rfl)) pe_str (nomark _))
      (pss_cons (ps_if (pt_cmpR op_eq (pv 6) (pe_callB call_len_seq rfl Z.len bt_len (pa_cons (pv 2) pa_nil)) (nomark _))
      (pss_one (ps_ret (pe_tup (pa_cons (pv 3) (pa_cons (pv 4) (pa_cons (pv 5) (pa_cons (pv 6) (pa_cons (pv 7) (pa_cons pe_str (pa_cons (pv 9) pa_nil))))))))))
      pss_nil)
      (pss_cons (ps_dput (hu_of hr) (pv 5) (pe_ix ix_tup (pv 12) pe_int (fun _ _ => rfl)) (pe_ix ix_list (pv 2) (pv 6) (fun _ _ => rfl)) rfl)
      (pss_one (ps_set (i := 6) sc_law_step.nd rfl (Or.inl rfl) (pe_op op_add (pv 6) pe_int)))))
      pss_nil)
      (pss_one (ps_ret (pe_tup (pa_cons (pv 3) (pa_cons (pe_op op_add (pv 4) pe_int) (pa_cons (pv 5) (pa_cons (pv 6) (pa_cons (pv 7) (pa_cons (pv 8) (pa_cons (pv 9) pa_nil)))))))))))))))))
      pss_nil)
      (pss_cons (ps_if (pt_cmpR op_eq (pe_ix ix_tup (pv 11) pe_int (fun _ _ => rfl)) pe_str (nomark _))
      (pss_one (ps_ret (pe_tup (pa_cons (pv 3) (pa_cons (pv 4) (pa_cons (pv 5) (pa_cons (pv 6) (pa_cons (pv 7) (pa_cons pe_str (pa_cons (pv 9) pa_nil))))))))))
      pss_nil)
      (pss_cons (ps_if (pt_cmpR op_eq (pe_ix ix_tup (pv 11) pe_int (fun _ _ => rfl)) pe_str (nomark _))
      (pss_one (ps_set (i := 14) sc_law_step.nd rfl (Or.inl rfl) (pe_ix ix_tup (pv 11) pe_int (fun _ _ => rfl))))
      (pss_cons (ps_cut (ps_set (i := 13) sc_law_step.nd rfl (Or.inl rfl) (pe_dget2v (hu_of hr) (pv 5) (pe_ix ix_tup (pv 11) pe_int (fun _ _ => rfl)) pe_int ⟨rfl, rfl, rfl, rfl⟩)))
      (pss_cons (ps_set (i := 15) sc_law_step.nd rfl (Or.inl rfl) (pe_ix ix_list (pe_lst (pa_cons (pe_cmpR op_lt (pv 13) (pe_ix ix_tup (pv 11) pe_int (fun _ _ => rfl)) (nomark _)) (pa_cons (pe_cmpR op_eq (pv 13) (pe_ix ix_tup (pv 11) pe_int (fun _ _ => rfl)) (nomark _)) pa_nil))) (pe_callTy call_int1 rfl Z.int bt_int (pa_cons (pe_cmpR op_eq (pe_ix ix_tup (pv 11) pe_int (fun _ _ => rfl)) pe_str (nomark _)) pa_nil)) (fun _ _ => rfl)))
      (pss_one (ps_set (i := 14) sc_law_step.nd rfl (Or.inl rfl) (pe_ix ix_tup (pv 11) (pe_op op_sub pe_int (pe_callTy call_int1 rfl Z.int bt_int (pa_cons (pv 15) pa_nil))) (fun _ _ => rfl)))))))
      (pss_cons (ps_expr (pe_bm PySem.F.plainAttrs_list PySem.F.slot_list_append PySem.F.type_list_append mt_append (pv 9) (pa_cons (pv 14) pa_nil)))
      (pss_one (ps_ret (pe_tup (pa_cons (pv 14) (pa_cons pe_int (pa_cons (pv 5) (pa_cons (pv 6) (pa_cons (pv 7) (pa_cons (pv 8) (pa_cons (pv 9) pa_nil)))))))))))))))), ?_⟩

    obtain ⟨kvs, hd, dw, hk⟩ := A.dict
    have hx : ps[S.piece]? = some ps[S.piece] := by simp [hpc]
    generalize hpe : ps[S.piece] = pe at hx
    obtain ⟨ds, e⟩ := pe
    obtain ⟨p, xs, pc, da, ea, vs, rfl, e1, el, hx', e2, e3, r3, e4⟩ := rd_piece hp hx
    have hvl : vs.length = ds.length := by rw [r3.len, List.length_map]
    have ndt : d ≠ tl := ne_of hd A.told (by intro z; cases z)
    have ndb : d ≠ bl := ne_of hd A.been (by intro z; cases z)
    refine ⟨fun σ' H' => σ' = [some (.ref p), some (.ref st), some (.ref np), some (.int S.piece), some (.int S.place), some (.ref d), some (.int S.taken), some (.ref tl), some (.str S.word), some (.ref bl), none, none, none, none, none, none] ∧ H = H', ⟨_, rfl, st, _, rfl, SqT.of A.at_, rfl, _, _, rfl, _, _, rfl, _, _, rfl, _, _, rfl, _, _, rfl, _, _, rfl, _, _, rfl, rfl, rfl, rfl⟩, ?_⟩
    rintro σ' H' ⟨rfl, rfl⟩
    refine ⟨fun σ' H'' => σ' = [some (.ref p), some (.ref st), some (.ref np), some (.int S.piece), some (.int S.place), some (.ref d), some (.int S.taken), some (.ref tl), some (.str S.word), some (.ref bl), some (.ref da), some (.ref ea), none, none, none, none] ∧ H = H'', ⟨_, rfl, _, rfl, p, xs, _, _, rfl, rfl, SqT.of e1, atI_nat hx', pc, _, rfl, SqT.of e2, rfl, _, _, rfl, _, _, rfl, rfl, rfl, rfl⟩, ?_⟩
    rintro σ' H'' ⟨rfl, rfl⟩
    refine ⟨_, rfl, _, rfl, da, _, rfl, .inr (SqT.of e3), _, _, rfl, rfl, _, rfl, ?_⟩
    refine ite2 (fun hc => ?_) (fun hc => ?_)
    · have hlt : S.place < vs.length := lt_of_dec hc
      have hlt2 : S.place < ds.length := hvl ▸ hlt
      have hdd : ds[S.place]? = some (ds[S.place]'hlt2) := List.getElem?_eq_getElem hlt2
      generalize hde : ds[S.place]'hlt2 = dd at hdd
      have hs := step_deed (nums := nums) hx hdd
      obtain ⟨v, hv, rd⟩ := r3.get (i := S.place) (d := dDeed dd) (by rw [List.getElem?_map, hdd]; rfl)
      obtain ⟨dp, rfl, hdp⟩ := rd_deed rd
      have nd : dp ≠ d := ne_of hdp hd (by intro z; cases z)
      refine ⟨_, rfl, _, rfl, da, _, _, _, rfl, rfl, SqT.of e3, atI_nat hv, ?_⟩
      clear hde
      cases dd
      case put x n =>
        refine ⟨fun σ' H1 => σ' = [some (.ref p), some (.ref st), some (.ref np), some (.int S.piece), some (.int S.place), some (.ref d), some (.int S.taken), some (.ref tl), some (.str S.word), some (.ref bl), some (.ref da), some (.ref ea), some (.ref dp), some (.int (S.w x)), none, none] ∧ H = H1, ⟨_, rfl, d, rfl, .inl ⟨kvs, .inl hd⟩, _, rfl, dp, _, 1, _, rfl, rfl, SqT.of hdp, at1, _, _, DGet.k (k := Sum.inr x) hd, dw x, rfl, rfl⟩, ?_⟩
        rintro σ' H1 ⟨rfl, rfl⟩
        refine if_item rfl (SqT.of hdp) at0 ?_
        refine iteTb (show decide (V.str "put" = V.str "put") = true by decide +kernel) ?_
        refine ⟨_, rfl, dp, _, 2, _, rfl, rfl, SqT.of hdp, at2, _, rfl, _, rfl, dp, _, 1, _, rfl, rfl, SqT.of hdp, at1, d, _, rfl, DPut.k (k := Sum.inr x) hd (small1000' (le_big hk hm)), ?_⟩
        have hdp1 : (upd H d (.dK (putK kvs (Sum.inr x) (.int (n))))) dp = some (.tup (vDeed (.put x n))) := by rw [upd_ne nd]; exact hdp
        refine if_item rfl (SqT.of hdp1) at0 ?_
        refine iteFb (show decide (V.str "put" = V.str "copy") = false by decide +kernel) ?_
        refine if_item rfl (SqT.of hdp1) at0 ?_
        refine iteFb (show decide (V.str "put" = V.str "add") = false by decide +kernel) ?_
        refine if_item rfl (SqT.of hdp1) at0 ?_
        refine iteFb (show decide (V.str "put" = V.str "tell") = false by decide +kernel) ?_
        refine if_item rfl (SqT.of hdp1) at0 ?_
        refine iteFb (show decide (V.str "put" = V.str "read") = false by decide +kernel) ?_
        refine ⟨_, rfl, _, rfl, _, _, rfl, rfl, _, rfl, _, rfl, _, rfl, _, rfl, _, rfl, ln7, fun st' hn => ?_⟩
        refine q st' _ (StAt.mk_ (kvs := putK kvs (Sum.inr x) (.int (n))) upd_same ?_ ?_ ?_ ?_ A.ne ?_ hn ?_) (But.put_d.trans (But.new hn))
        · rw [hs]; exact dw.put x (n)
        · exact put_le (length_putK kvs (Sum.inr x : Key) (V.int (n))) hk
        · rw [hs, upd_ne ndt.symm]; exact A.told
        · rw [hs, upd_ne ndb.symm]; exact A.been
        · rw [hs]; exact ⟨Nat.le_succ_of_le A.few.1, Nat.le_succ_of_le A.few.2⟩
        · rw [hs]; rfl
      case copy x y =>
        refine ⟨fun σ' H1 => σ' = [some (.ref p), some (.ref st), some (.ref np), some (.int S.piece), some (.int S.place), some (.ref d), some (.int S.taken), some (.ref tl), some (.str S.word), some (.ref bl), some (.ref da), some (.ref ea), some (.ref dp), some (.int (S.w x)), none, none] ∧ H = H1, ⟨_, rfl, d, rfl, .inl ⟨kvs, .inl hd⟩, _, rfl, dp, _, 1, _, rfl, rfl, SqT.of hdp, at1, _, _, DGet.k (k := Sum.inr x) hd, dw x, rfl, rfl⟩, ?_⟩
        rintro σ' H1 ⟨rfl, rfl⟩
        refine if_item rfl (SqT.of hdp) at0 ?_
        refine iteFb (show decide (V.str "copy" = V.str "put") = false by decide +kernel) ?_
        refine if_item rfl (SqT.of hdp) at0 ?_
        refine iteTb (show decide (V.str "copy" = V.str "copy") = true by decide +kernel) ?_
        refine ⟨_, rfl, d, rfl, .inl ⟨kvs, .inl hd⟩, _, rfl, dp, _, 2, _, rfl, rfl, SqT.of hdp, at2, _, _, DGet.k (k := Sum.inr y) hd, dw y, _, rfl, _, rfl, dp, _, 1, _, rfl, rfl, SqT.of hdp, at1, d, _, rfl, DPut.k (k := Sum.inr x) hd (small1000' (le_big hk hm)), ?_⟩
        have hdp1 : (upd H d (.dK (putK kvs (Sum.inr x) (.int (S.w y))))) dp = some (.tup (vDeed (.copy x y))) := by rw [upd_ne nd]; exact hdp
        refine if_item rfl (SqT.of hdp1) at0 ?_
        refine iteFb (show decide (V.str "copy" = V.str "add") = false by decide +kernel) ?_
        refine if_item rfl (SqT.of hdp1) at0 ?_
        refine iteFb (show decide (V.str "copy" = V.str "tell") = false by decide +kernel) ?_
        refine if_item rfl (SqT.of hdp1) at0 ?_
        refine iteFb (show decide (V.str "copy" = V.str "read") = false by decide +kernel) ?_
        refine ⟨_, rfl, _, rfl, _, _, rfl, rfl, _, rfl, _, rfl, _, rfl, _, rfl, _, rfl, ln7, fun st' hn => ?_⟩
        refine q st' _ (StAt.mk_ (kvs := putK kvs (Sum.inr x) (.int (S.w y))) upd_same ?_ ?_ ?_ ?_ A.ne ?_ hn ?_) (But.put_d.trans (But.new hn))
        · rw [hs]; exact dw.put x (S.w y)
        · exact put_le (length_putK kvs (Sum.inr x : Key) (V.int (S.w y))) hk
        · rw [hs, upd_ne ndt.symm]; exact A.told
        · rw [hs, upd_ne ndb.symm]; exact A.been
        · rw [hs]; exact ⟨Nat.le_succ_of_le A.few.1, Nat.le_succ_of_le A.few.2⟩
        · rw [hs]; rfl
      case add x n =>
        refine ⟨fun σ' H1 => σ' = [some (.ref p), some (.ref st), some (.ref np), some (.int S.piece), some (.int S.place), some (.ref d), some (.int S.taken), some (.ref tl), some (.str S.word), some (.ref bl), some (.ref da), some (.ref ea), some (.ref dp), some (.int (S.w x)), none, none] ∧ H = H1, ⟨_, rfl, d, rfl, .inl ⟨kvs, .inl hd⟩, _, rfl, dp, _, 1, _, rfl, rfl, SqT.of hdp, at1, _, _, DGet.k (k := Sum.inr x) hd, dw x, rfl, rfl⟩, ?_⟩
        rintro σ' H1 ⟨rfl, rfl⟩
        refine if_item rfl (SqT.of hdp) at0 ?_
        refine iteFb (show decide (V.str "add" = V.str "put") = false by decide +kernel) ?_
        refine if_item rfl (SqT.of hdp) at0 ?_
        refine iteFb (show decide (V.str "add" = V.str "copy") = false by decide +kernel) ?_
        refine if_item rfl (SqT.of hdp) at0 ?_
        refine iteTb (show decide (V.str "add" = V.str "add") = true by decide +kernel) ?_
        refine ⟨_, rfl, _, rfl, dp, _, 2, _, rfl, rfl, SqT.of hdp, at2, _, _, rfl, rfl, _, rfl, _, rfl, dp, _, 1, _, rfl, rfl, SqT.of hdp, at1, d, _, rfl, DPut.k (k := Sum.inr x) hd (small1000' (le_big hk hm)), ?_⟩
        have hdp1 : (upd H d (.dK (putK kvs (Sum.inr x) (.int (S.w x + n))))) dp = some (.tup (vDeed (.add x n))) := by rw [upd_ne nd]; exact hdp
        refine if_item rfl (SqT.of hdp1) at0 ?_
        refine iteFb (show decide (V.str "add" = V.str "tell") = false by decide +kernel) ?_
        refine if_item rfl (SqT.of hdp1) at0 ?_
        refine iteFb (show decide (V.str "add" = V.str "read") = false by decide +kernel) ?_
        refine ⟨_, rfl, _, rfl, _, _, rfl, rfl, _, rfl, _, rfl, _, rfl, _, rfl, _, rfl, ln7, fun st' hn => ?_⟩
        refine q st' _ (StAt.mk_ (kvs := putK kvs (Sum.inr x) (.int (S.w x + n))) upd_same ?_ ?_ ?_ ?_ A.ne ?_ hn ?_) (But.put_d.trans (But.new hn))
        · rw [hs]; exact dw.put x (S.w x + n)
        · exact put_le (length_putK kvs (Sum.inr x : Key) (V.int (S.w x + n))) hk
        · rw [hs, upd_ne ndt.symm]; exact A.told
        · rw [hs, upd_ne ndb.symm]; exact A.been
        · rw [hs]; exact ⟨Nat.le_succ_of_le A.few.1, Nat.le_succ_of_le A.few.2⟩
        · rw [hs]; rfl
      case read x =>
        refine ⟨fun σ' H1 => σ' = [some (.ref p), some (.ref st), some (.ref np), some (.int S.piece), some (.int S.place), some (.ref d), some (.int S.taken), some (.ref tl), some (.str S.word), some (.ref bl), some (.ref da), some (.ref ea), some (.ref dp), some (.int (S.w x)), none, none] ∧ H = H1, ⟨_, rfl, d, rfl, .inl ⟨kvs, .inl hd⟩, _, rfl, dp, _, 1, _, rfl, rfl, SqT.of hdp, at1, _, _, DGet.k (k := Sum.inr x) hd, dw x, rfl, rfl⟩, ?_⟩
        rintro σ' H1 ⟨rfl, rfl⟩
        refine if_item rfl (SqT.of hdp) at0 ?_
        refine iteFb (show decide (V.str "read" = V.str "put") = false by decide +kernel) ?_
        refine if_item rfl (SqT.of hdp) at0 ?_
        refine iteFb (show decide (V.str "read" = V.str "copy") = false by decide +kernel) ?_
        refine if_item rfl (SqT.of hdp) at0 ?_
        refine iteFb (show decide (V.str "read" = V.str "add") = false by decide +kernel) ?_
        refine if_item rfl (SqT.of hdp) at0 ?_
        refine iteFb (show decide (V.str "read" = V.str "tell") = false by decide +kernel) ?_
        refine if_item rfl (SqT.of hdp) at0 ?_
        refine iteTb (show decide (V.str "read" = V.str "read") = true by decide +kernel) ?_
        refine ⟨_, rfl, _, rfl, np, _, rfl, .inl (SqL.of hnp), rfl, _, rfl, ?_⟩
        refine ite2 (fun ht => ?_) (fun ht => ?_)
        · have he : S.taken = nums.length := by
            have := V.int.inj (of_decide_eq_true ht)
            rw [List.length_map] at this
            omega
          have hnn : nums[S.taken]? = none := by rw [he]; simp
          have hs' : stepF ps nums S = { S with word := "dry" } := by rw [hs]; show (match nums[S.taken]? with | none => _ | some n => _) = _; rw [hnn]
          refine ⟨_, rfl, _, rfl, _, rfl, _, rfl, _, rfl, _, rfl, ln7, fun st' hn => ?_⟩
          rw [hs'] at q
          exact q st' _ (StAt.mk_ (S' := { S with word := "dry" }) hd dw (Nat.le_succ_of_le hk) A.told A.been A.ne ⟨Nat.le_succ_of_le A.few.1, Nat.le_succ_of_le A.few.2⟩ hn rfl) (But.new hn)
        · have hlt2 : S.taken < nums.length := by
            refine Nat.lt_of_le_of_ne htk fun z => ht (decide_eq_true ?_)
            rw [List.length_map, z]
          have hnn : nums[S.taken]? = some nums[S.taken] := by simp [hlt2]
          generalize hne : nums[S.taken] = n at hnn
          have hnv : (nums.map V.int)[S.taken]? = some (V.int n) := by rw [List.getElem?_map, hnn]; rfl
          have hs' : stepF ps nums S = { S with w := setW S.w x n, taken := S.taken + 1, place := S.place + 1 } := by rw [hs]; show (match nums[S.taken]? with | none => _ | some n => _) = _; rw [hnn]
          refine ⟨_, rfl, _, rfl, np, _, _, _, rfl, rfl, SqL.of hnp, atI_nat hnv, _, rfl, _, rfl, dp, _, 1, _, rfl, rfl, SqT.of hdp, at1, d, _, rfl, DPut.k (k := Sum.inr x) hd (small1000' (le_big hk hm)), ?_⟩
          refine ⟨_, rfl, _, _, rfl, rfl, ?_⟩
          refine ⟨_, rfl, _, rfl, _, _, rfl, rfl, _, rfl, _, rfl, _, rfl, _, rfl, _, rfl, ln7, fun st' hn => ?_⟩
          rw [hs'] at q
          refine q st' _ (StAt.mk_ (S' := { S with w := setW S.w x n, taken := S.taken + 1, place := S.place + 1 }) (kvs := putK kvs (Sum.inr x) (.int n)) upd_same (dw.put x n) ?_ ?_ ?_ A.ne ⟨Nat.le_succ_of_le A.few.1, Nat.le_succ_of_le A.few.2⟩ hn rfl) (But.put_d.trans (But.new hn))
          · exact put_le (length_putK kvs (Sum.inr x : Key) (V.int n)) hk
          · rw [upd_ne ndt.symm]; exact A.told
          · rw [upd_ne ndb.symm]; exact A.been
      case tell x =>
        refine ⟨fun σ' H1 => σ' = [some (.ref p), some (.ref st), some (.ref np), some (.int S.piece), some (.int S.place), some (.ref d), some (.int S.taken), some (.ref tl), some (.str S.word), some (.ref bl), some (.ref da), some (.ref ea), some (.ref dp), some (.int (S.w x)), none, none] ∧ H = H1, ⟨_, rfl, d, rfl, .inl ⟨kvs, .inl hd⟩, _, rfl, dp, _, 1, _, rfl, rfl, SqT.of hdp, at1, _, _, DGet.k (k := Sum.inr x) hd, dw x, rfl, rfl⟩, ?_⟩
        rintro σ' H1 ⟨rfl, rfl⟩
        refine if_item rfl (SqT.of hdp) at0 ?_
        refine iteFb (show decide (V.str "tell" = V.str "put") = false by decide +kernel) ?_
        refine if_item rfl (SqT.of hdp) at0 ?_
        refine iteFb (show decide (V.str "tell" = V.str "copy") = false by decide +kernel) ?_
        refine if_item rfl (SqT.of hdp) at0 ?_
        refine iteFb (show decide (V.str "tell" = V.str "add") = false by decide +kernel) ?_
        refine if_item rfl (SqT.of hdp) at0 ?_
        refine iteTb (show decide (V.str "tell" = V.str "tell") = true by decide +kernel) ?_
        refine ⟨_, rfl, .inl ⟨rfl, _, SqL.of A.told⟩, _, rfl, tl, _, _, rfl, rfl, A.told, (by rw [List.length_map]; exact small1000' (le_big A.few.1 hm)), ?_⟩
        have hdp1 : (upd H tl (.lst (S.told.map V.int ++ [.int (S.w x)]))) dp = some (.tup (vDeed (.tell x))) := by rw [upd_ne (ne_of hdp A.told (by intro z; cases z))]; exact hdp
        refine if_item rfl (SqT.of hdp1) at0 ?_
        refine iteFb (show decide (V.str "tell" = V.str "read") = false by decide +kernel) ?_
        refine ⟨_, rfl, _, rfl, _, _, rfl, rfl, _, rfl, _, rfl, _, rfl, _, rfl, _, rfl, ln7, fun st' hn => ?_⟩
        refine q st' _ (StAt.mk_ (kvs := kvs) ?_ ?_ ?_ ?_ ?_ A.ne ?_ hn ?_) (But.put_t.trans (But.new hn))
        · rw [upd_ne ndt]; exact hd
        · rw [hs]; exact dw
        · exact Nat.le_succ_of_le hk
        · rw [hs, upd_same]
          show _ = some (HO.lst ((S.told ++ [S.w x]).map V.int))
          rw [List.map_append]
          rfl
        · rw [hs, upd_ne A.ne.symm]; exact A.been
        · rw [hs]
          refine ⟨?_, Nat.le_succ_of_le A.few.2⟩
          show (S.told ++ [S.w x]).length ≤ m + 1
          rw [List.length_append]
          exact Nat.succ_le_succ A.few.1
        · rw [hs]; rfl
    · have hnone : ds[S.place]? = none := by
        rw [List.getElem?_eq_none_iff]
        have : ¬ ((S.place : Int) < (vs.length : Nat)) := fun z => hc (decide_eq_true z)
        omega
      have hs := step_end (nums := nums) hx hnone
      cases e with
      | stop =>
        refine ⟨_, rfl, ea, _, 0, _, rfl, rfl, SqT.of e4, at0, rfl, _, rfl, ?_⟩
        refine iteTb (show decide (V.str "stop" = V.str "stop") = true by decide +kernel) ⟨_, rfl, _, rfl, _, rfl, _, rfl, _, rfl, _, rfl, ln7, fun st' hn => ?_⟩
        rw [hs] at q
        exact q st' _ (StAt.mk_ (S' := { S with word := "stop" }) hd dw (Nat.le_succ_of_le hk) A.told A.been A.ne ⟨Nat.le_succ_of_le A.few.1, Nat.le_succ_of_le A.few.2⟩ hn rfl) (But.new hn)
      | go t =>
        refine ⟨_, rfl, ea, _, 0, _, rfl, rfl, SqT.of e4, at0, rfl, _, rfl, ?_⟩
        refine iteFb (show decide (V.str "go" = V.str "stop") = false by decide +kernel) ⟨_, rfl, ea, _, 0, _, rfl, rfl, SqT.of e4, at0, rfl, _, rfl, ?_⟩
        refine iteTb (show decide (V.str "go" = V.str "go") = true by decide +kernel) ⟨_, rfl, ea, _, 1, _, rfl, rfl, SqT.of e4, at1, ?_⟩
        refine ⟨_, rfl, .inl ⟨rfl, _, SqL.of A.been⟩, _, rfl, bl, _, _, rfl, rfl, A.been, (by rw [List.length_map]; exact small1000' (le_big1 A.few.2 hm)), ?_⟩
        refine ⟨_, rfl, _, rfl, _, rfl, _, rfl, _, rfl, _, rfl, ln7, fun st' hn => ?_⟩
        rw [hs] at q
        refine q st' _ (StAt.mk_ (S' := stepE S (.go t)) (kvs := kvs) ?_ dw (Nat.le_succ_of_le hk) ?_ ?_ A.ne ?_ hn rfl) (But.put_b.trans (But.new hn))
        · rw [upd_ne ndb]; exact hd
        · rw [upd_ne A.ne]; exact A.told
        · rw [upd_same]
          show _ = some (HO.lst ((S.been ++ [t]).map fun k => V.int (k : Nat)))
          rw [List.map_append]
          rfl
        · refine ⟨Nat.le_succ_of_le A.few.1, ?_⟩
          show (S.been ++ [t]).length ≤ m + 1 + 1
          rw [List.length_append]
          exact Nat.succ_le_succ A.few.2
      | tst b x n t t' =>
        have hw1 : decide (V.str (wT b) = V.str "stop") = false := by cases b <;> decide +kernel
        have hw2 : decide (V.str (wT b) = V.str "go") = false := by cases b <;> decide +kernel
        have hw3 : decide (V.str (wT b) = V.str "is") = !b := by cases b <;> decide +kernel
        refine ⟨_, rfl, ea, _, 0, _, rfl, rfl, SqT.of e4, at0, rfl, _, rfl, ?_⟩
        refine iteFb hw1 ⟨_, rfl, ea, _, 0, _, rfl, rfl, SqT.of e4, at0, rfl, _, rfl, ?_⟩
        refine iteFb hw2 ?_
        refine ⟨fun σ' H1 => σ' = [some (.ref p), some (.ref st), some (.ref np), some (.int S.piece), some (.int S.place), some (.ref d), some (.int S.taken), some (.ref tl), some (.str S.word), some (.ref bl), some (.ref da), some (.ref ea), none, some (.int (S.w x)), none, none] ∧ H = H1, ⟨_, rfl, d, rfl, .inl ⟨kvs, .inl hd⟩, _, rfl, ea, _, 1, _, rfl, rfl, SqT.of e4, at1, _, _, DGet.k (k := Sum.inr x) hd, dw x, rfl, rfl⟩, ?_⟩
        rintro σ' H1 ⟨rfl, rfl⟩
        refine ⟨_, rfl, _, rfl, ea, _, 2, _, rfl, rfl, SqT.of e4, at2, _, _, rfl, rfl, _, rfl, _, rfl, ea, _, 2, _, rfl, rfl, SqT.of e4, at2, rfl, ln2, fun l0 n0 => ?_⟩
        have e5 : upd H l0 (.lst [.bl (decide (S.w x < n)), .bl (decide (V.int (S.w x) = V.int n))]) ea = some (.tup (vEnd (.tst b x n t t'))) := by rw [upd_ne (ne_of_none e4 n0)]; exact e4
        refine ⟨_, rfl, ea, _, 0, _, rfl, rfl, SqT.of e5, at0, rfl, .inr ⟨_, rfl, ?_⟩⟩
        have hyes : atI [V.bl (decide (S.w x < n)), V.bl (decide (V.int (S.w x) = V.int n))] (if decide (V.str (wT b) = V.str "is") = true then 1 else 0) = some (V.bl (ansT b (S.w x) n)) := by
          rw [hw3]
          cases b with
          | true => exact at0
          | false =>
            have ed : decide (V.int (S.w x) = V.int n) = decide (S.w x = n) := by
              by_cases hh : S.w x = n
              · rw [decide_eq_true hh, decide_eq_true (congrArg V.int hh)]
              · rw [decide_eq_false hh, decide_eq_false fun z => hh (V.int.inj z)]
            rw [ed]
            exact at1
        refine ⟨l0, _, _, _, rfl, rfl, SqL.of upd_same, hyes, ?_⟩
        have hthere : atI (vEnd (.tst b x n t t')) (4 - (if ansT b (S.w x) n = true then 1 else 0)) = some (V.int ((if ansT b (S.w x) n = true then t else t' : Nat) : Nat)) := by
          cases ansT b (S.w x) n with
          | true => exact atI_nat (j := 3) rfl
          | false => exact atI_nat (j := 4) rfl
        refine ⟨_, rfl, _, rfl, .inr ⟨_, rfl, _, _, rfl, rfl, ea, _, _, _, rfl, rfl, SqT.of e5, hthere, ?_⟩⟩
        have b6 : upd H l0 (.lst [.bl (decide (S.w x < n)), .bl (decide (V.int (S.w x) = V.int n))]) bl = some (.lst (S.been.map fun k => V.int (k : Nat))) := by rw [upd_ne (ne_of_none A.been n0)]; exact A.been
        refine ⟨_, rfl, .inl ⟨rfl, _, SqL.of b6⟩, _, rfl, bl, _, _, rfl, rfl, b6, (by rw [List.length_map]; exact small1000' (le_big1 A.few.2 hm)), ?_⟩
        refine ⟨_, rfl, _, rfl, _, rfl, _, rfl, _, rfl, _, rfl, ln7, fun st' hn => ?_⟩
        rw [hs] at q
        refine q st' _ (StAt.mk_ (S' := stepE S (.tst b x n t t')) (kvs := kvs) ?_ dw (Nat.le_succ_of_le hk) ?_ ?_ A.ne ?_ hn rfl) (((But.new n0).trans But.put_b).trans (But.new hn))
        · rw [upd_ne ndb, upd_ne (ne_of_none hd n0)]; exact hd
        · rw [upd_ne A.ne, upd_ne (ne_of_none A.told n0)]; exact A.told
        · rw [upd_same]
          show _ = some (HO.lst ((S.been ++ [if ansT b (S.w x) n = true then t else t']).map fun k => V.int (k : Nat)))
          rw [List.map_append]
          rfl
        · refine ⟨Nat.le_succ_of_le A.few.1, ?_⟩
          show (S.been ++ [_]).length ≤ m + 1 + 1
          rw [List.length_append]
          exact Nat.succ_le_succ A.few.2
end
end My

set_option Elab.async false
set_option linter.all false
set_option maxRecDepth 100000
namespace My
open PySem PySem.Spec PyProof.Rows L2
section
variable {P : Program} {w : World} {K : PySem.W.Frag} {mg : Str → Option Value} {base : Heap}
set_option maxHeartbeats 4000000 in
theorem ok_law_stand {f : Addr} {fd : FuncData} (F : Fun K "_law_stand" "_law_stand" s_law_stand f fd) (Z : Bl mg)  : FnOk P w K mg base CX0 1 f fd ["plan", "state", "numbers"] spStandL := by
  refine F.ok (k := 0) sc_law_stand (fun vs H Q E h => ?_) (fun cdv A outer s H vs Q E hr h => ?_)
  · obtain ⟨plv, st, np, d, tl, bl, ps, nums, S, m, rfl, _⟩ := h
    rfl
  · obtain ⟨plv, st, np, d, tl, bl, ps, nums, S, m, rfl, hp, hnp, A, hpc, hw, q⟩ := h
    refine ⟨_, (pss_cons (ps_cut (ps_asg (pv 1) (pg_tup rfl (pgs_cons (pg_name (i := 3) sc_law_stand.nd rfl (Or.inl rfl)) (pgs_cons (pg_name (i := 4) sc_law_stand.nd rfl (Or.inl rfl)) (pgs_cons (pg_name (i := 5) sc_law_stand.nd rfl (Or.inl rfl)) (pgs_cons (pg_name (i := 6) sc_law_stand.nd rfl (Or.inl rfl)) (pgs_cons (pg_name (i := 7) sc_law_stand.nd rfl (Or.inl rfl)) (pgs_cons (pg_name (i := 8) sc_law_stand.nd rfl (Or.inl rfl)) (pgs_cons (pg_name (i := 9) sc_law_stand.nd rfl (Or.inl rfl)) pgs_nil))))))))))
      (pss_cons (ps_set (i := 10) sc_law_stand.nd rfl (Or.inl rfl) (pe_ix ix_tup (pe_ix ix_tup (pv 0) (pv 3) (fun _ _ => rfl)) pe_int (fun _ _ => rfl)))
      (pss_cons (ps_if (PW.pt (pw_and (pt_cmpR op_eq (pv 8) pe_str (nomark _)) (pw_and (pt_cmpR op_lt (pv 4) (pe_callB call_len_seq rfl Z.len bt_len (pa_cons (pv 10) pa_nil)) (nomark _)) (pw_and (pt_cmpR op_eq (pe_ix ix_tup (pe_ix ix_tup (pv 10) (pv 4) (fun _ _ => rfl)) pe_int (fun _ _ => rfl)) pe_str (nomark _)) (pw_and1 (pt_cmpR op_eq (pv 6) (pe_callB call_len_seq rfl Z.len bt_len (pa_cons (pv 2) pa_nil)) (nomark _)))))))
      (pss_one (ps_ret pe_str))
      pss_nil)
      (pss_one (ps_ret (pv 8)))))), ?_⟩

    have hx : ps[S.piece]? = some ps[S.piece] := by simp [hpc]
    generalize hpe : ps[S.piece] = pe at hx
    obtain ⟨ds, e⟩ := pe
    obtain ⟨p, xs, pc, da, ea, vs, rfl, e1, el, hx', e2, e3, r3, e4⟩ := rd_piece hp hx
    have hvl : vs.length = ds.length := by rw [r3.len, List.length_map]
    refine ⟨fun σ' H' => σ' = [some (.ref p), some (.ref st), some (.ref np), some (.int S.piece), some (.int S.place), some (.ref d), some (.int S.taken), some (.ref tl), some (.str S.word), some (.ref bl), none] ∧ H = H', ⟨_, rfl, st, _, rfl, SqT.of A.at_, rfl, _, _, rfl, _, _, rfl, _, _, rfl, _, _, rfl, _, _, rfl, _, _, rfl, _, _, rfl, rfl, rfl, rfl⟩, ?_⟩
    rintro σ' H' ⟨rfl, rfl⟩
    refine ⟨_, rfl, _, rfl, p, xs, _, _, rfl, rfl, SqT.of e1, atI_nat hx', pc, _, 0, _, rfl, rfl, SqT.of e2, at0, ?_⟩
    unfold standF at q
    refine ⟨_, rfl, rfl, _, rfl, ?_⟩
    rcases hw with hw | hw
    · rw [if_neg (by rw [hw]; decide +kernel)] at q
      refine iteTb (by rw [hw]; decide +kernel) ?_
      refine ⟨_, rfl, _, rfl, da, _, rfl, .inr (SqT.of e3), _, _, rfl, rfl, _, rfl, ?_⟩
      refine ite2 (fun hc => ?_) (fun hc => ?_)
      · have hlt : S.place < vs.length := by have := of_decide_eq_true hc; omega
        have hdd : ds[S.place]? = some (ds[S.place]'(by omega)) := by simp [show S.place < ds.length by omega]
        generalize hde : ds[S.place]'(by omega) = dd at hdd
        obtain ⟨v, hv, rd⟩ := r3.get (i := S.place) (d := dDeed dd) (by rw [List.getElem?_map, hdd]; rfl)
        obtain ⟨dp, rfl, hdp⟩ := rd_deed rd
        have hL : lackB ps nums S = (isRead dd && decide (S.taken = nums.length)) := by
          unfold lackB
          rw [hx]
          dsimp only
          rw [hdd]
        rw [hL] at q
        clear hL hde
        cases dd
        case read x =>
          refine ⟨_, rfl, _, rfl, da, _, _, _, rfl, rfl, SqT.of e3, atI_nat hv, dp, _, 0, _, rfl, rfl, SqT.of hdp, at0, rfl, _, rfl, ?_⟩
          refine iteTb (show decide (V.str "read" = V.str "read") = true by decide +kernel) ?_
          refine ⟨_, rfl, _, rfl, np, _, rfl, .inl (SqL.of hnp), rfl, _, rfl, ?_⟩
          have ez : decide (V.int (S.taken : Int) = V.int ((nums.map V.int).length : Nat)) = (isRead (.read x) && decide (S.taken = nums.length)) := by
            rw [dec_int, List.length_map]
            show _ = decide (S.taken = nums.length)
            by_cases hh : S.taken = nums.length
            · rw [hh]; simp
            · rw [decide_eq_false hh]
              exact beq_false_of_ne fun z => hh (by omega)
          rw [← ez] at q
          revert q
          generalize decide (V.int (S.taken : Int) = V.int ((nums.map V.int).length : Nat)) = bb
          intro q
          cases bb with
          | true => exact q
          | false => exact ⟨_, rfl, by rw [hw]; exact q⟩
        case put x n =>
          refine ⟨_, rfl, _, rfl, da, _, _, _, rfl, rfl, SqT.of e3, atI_nat hv, dp, _, 0, _, rfl, rfl, SqT.of hdp, at0, rfl, _, rfl, ?_⟩
          refine iteFb (show decide (V.str "put" = V.str "read") = false by decide +kernel) ?_
          refine iteF ?_
          exact ⟨_, rfl, by rw [hw]; exact q⟩
        case copy x y =>
          refine ⟨_, rfl, _, rfl, da, _, _, _, rfl, rfl, SqT.of e3, atI_nat hv, dp, _, 0, _, rfl, rfl, SqT.of hdp, at0, rfl, _, rfl, ?_⟩
          refine iteFb (show decide (V.str "copy" = V.str "read") = false by decide +kernel) ?_
          refine iteF ?_
          exact ⟨_, rfl, by rw [hw]; exact q⟩
        case add x n =>
          refine ⟨_, rfl, _, rfl, da, _, _, _, rfl, rfl, SqT.of e3, atI_nat hv, dp, _, 0, _, rfl, rfl, SqT.of hdp, at0, rfl, _, rfl, ?_⟩
          refine iteFb (show decide (V.str "add" = V.str "read") = false by decide +kernel) ?_
          refine iteF ?_
          exact ⟨_, rfl, by rw [hw]; exact q⟩
        case tell x =>
          refine ⟨_, rfl, _, rfl, da, _, _, _, rfl, rfl, SqT.of e3, atI_nat hv, dp, _, 0, _, rfl, rfl, SqT.of hdp, at0, rfl, _, rfl, ?_⟩
          refine iteFb (show decide (V.str "tell" = V.str "read") = false by decide +kernel) ?_
          refine iteF ?_
          exact ⟨_, rfl, by rw [hw]; exact q⟩
      · have hge : ¬ S.place < vs.length := fun z => hc (decide_eq_true (by omega))
        have hL : lackB ps nums S = false := by
          unfold lackB
          rw [hx]
          dsimp only
          rw [show ds[S.place]? = none by simp; omega]
        rw [hL, if_neg (by decide)] at q
        refine iteF ?_
        exact ⟨_, rfl, by rw [hw]; exact q⟩
    · rw [if_pos hw] at q
      refine iteFb (by rw [hw]; decide +kernel) ?_
      refine iteF ?_
      exact ⟨_, rfl, by rw [hw]; exact q⟩
end
end My

set_option Elab.async false
set_option linter.all false
set_option maxRecDepth 100000
namespace My
open PySem PySem.Spec PyProof.Rows L2
section
variable {P : Program} {w : World} {K : PySem.W.Frag} {mg : Str → Option Value} {base : Heap}
set_option maxHeartbeats 4000000 in
theorem ok_law_gone {f : Addr} {fd : FuncData} (F : Fun K "_law_gone" "_law_gone" s_law_gone f fd) (Z : Bl mg) (O_law_stand : Own P w K mg base "_law_stand" 1 ["plan", "state", "numbers"] spStandL) (O_law_step : Own P w K mg base "_law_step" 1 ["plan", "state", "numbers"] spStepL) : FnOk P w K mg base CX0 3 f fd ["plan", "state", "numbers", "many"] spGoneL := by
  refine F.ok (k := 2) sc_law_gone (fun vs H Q E h => ?_) (fun cdv A outer s H vs Q E hr h => ?_)
  · obtain ⟨plv, st, np, d, tl, bl, ps, nums, S, m, n, rfl, _⟩ := h
    rfl
  · obtain ⟨plv, st, np, d, tl, bl, ps, nums, S, m, n, rfl, hp, hin, hnp, A, nt, nb, hpc, htk, hw, hm, q⟩ := h
    refine ⟨_, (pss_cons (ps_set (i := 4) sc_law_gone.nd rfl (Or.inl rfl) pe_int)
      (pss_cons (ps_while PassesOwn.never (PW.pt (pw_and (pt_cmpR op_lt (pv 4) (pv 3) (nomark _)) (pw_and1 (pt_cmpR op_eq (pe_own O_law_stand (hr.mono (by decide)) rfl (pa_cons (pv 0) (pa_cons (pv 1) (pa_cons (pv 2) pa_nil)))) pe_str (nomark _)))))
      (pss_cons (ps_set (i := 1) sc_law_gone.nd rfl (Or.inl rfl) (pe_own O_law_step (hr.mono (by decide)) rfl (pa_cons (pv 0) (pa_cons (pv 1) (pa_cons (pv 2) pa_nil)))))
      (pss_one (ps_set (i := 4) sc_law_gone.nd rfl (Or.inl rfl) (pe_op op_add (pv 4) pe_int)))))
      (pss_one (ps_ret (pe_tup (pa_cons (pv 1) (pa_cons (pv 4) pa_nil))))))), ?_⟩

    refine ⟨fun μ σ' H' => ∃ (i : Nat) (st' : Addr), i + μ = n ∧ σ' = [some plv, some (.ref st'), some (.ref np), some (.int n), some (.int i)] ∧ StAt H' st' d tl bl (goF ps nums i S) (m + i) ∧ cntF ps nums i S = i ∧ But d tl bl H H', ⟨n, 0, st, by omega, rfl, A, rfl, But.refl _ _ _ _⟩, ?_⟩
    rintro μ σ' H1 ⟨i, st', hi, rfl, A1, c1, b1⟩
    have wi := go_in (ps := ps) (nums := nums) (S := S) hin hpc htk i
    have wo := go_word (ps := ps) (nums := nums) (S := S) hin hpc htk hw i
    have p1 := A.rd b1 hp (noList_plan ps)
    obtain ⟨kvs0, hd0, _⟩ := A.dict
    have n1 : H1 np = some (.lst (nums.map V.int)) := b1 np _ hnp (ne_of hnp hd0 (by intro z; cases z)) nt nb
    refine ⟨_, rfl, _, rfl, _, _, rfl, rfl, _, rfl, ?_⟩
    refine ite2 (fun hc => ?_) (fun hc => ?_)
    · have hlt : i < n := by have := of_decide_eq_true hc; omega
      refine ⟨_, rfl, _, rfl, _, rfl, plv, st', np, d, tl, bl, ps, nums, _, _, rfl, p1, n1, A1, wi.1, wo, rfl, _, rfl, ?_⟩
      have sh := stand_held (ps := ps) (nums := nums) (S := goF ps nums i S)
      cases hh : heldB ps nums (goF ps nums i S) with
      | true =>
        have ns : ¬ standF ps nums (goF ps nums i S) = "on" := fun z => by rw [sh.mp z] at hh; cases hh
        refine iteFb (decide_eq_false fun z => ns (V.str.inj z)) ?_
        have g := go_held hh (n - i)
        rw [show i + (n - i) = n by omega] at g
        refine ⟨_, rfl, _, rfl, ln2, fun r hr => ?_⟩
        refine q st' r _ ?_ ?_ (b1.trans (But.new hr))
        · rw [upd_same, g.2, c1]
        · rw [g.1, g.2, c1]
          exact A1.same (Same.new hr)
      | false =>
        refine iteTb (decide_eq_true (congrArg V.str (sh.mpr hh))) ?_
        have g := go_not hh
        refine ⟨_, fun σ2 H2 z => ⟨n - (i + 1), by omega, z⟩, ?_⟩
        refine ⟨_, rfl, _, rfl, _, rfl, plv, st', np, d, tl, bl, ps, nums, _, _, rfl, p1, hin, n1, A1, wi.1, wi.2, (by omega), fun st2 H2 A2 b2 => ?_⟩
        rw [← g.1] at A2
        refine ⟨_, rfl, _, _, rfl, rfl, ?_⟩
        refine ⟨i + 1, st2, by omega, rfl, A2, ?_, b1.trans b2⟩
        rw [g.2, c1]
    · have hge : i = n := by
        have : ¬ (i : Int) < (n : Int) := fun z => hc (decide_eq_true z)
        omega
      subst hge
      refine iteFb rfl ?_
      refine ⟨_, rfl, _, rfl, ln2, fun r hr => ?_⟩
      refine q st' r _ ?_ ?_ (b1.trans (But.new hr))
      · rw [upd_same, c1]
      · rw [c1]
        exact A1.same (Same.new hr)
end
end My

set_option Elab.async false
set_option linter.all false
set_option maxRecDepth 100000
namespace My
open PySem PySem.Spec PyProof.Rows L2
section
variable {P : Program} {w : World} {K : PySem.W.Frag} {mg : Str → Option Value} {base : Heap}
set_option maxHeartbeats 4000000 in
theorem ok_law_names_in {f : Addr} {fd : FuncData} (F : Fun K "_law_names_in" "_law_names_in" s_law_names_in f fd) (Z : Bl mg)  : FnOk P w K mg base CX0 1 f fd ["plan"] spNamesIn := by
  refine F.ok (k := 0) sc_law_names_in (fun vs H Q E h => ?_) (fun cdv A outer s H vs Q E hr h => ?_)
  · obtain ⟨plv, ps, xs, m, rfl, _⟩ := h
    rfl
  · obtain ⟨plv, ps, xs, m, rfl, hp, pok, hx4, q⟩ := h
    refine ⟨_, (pss_cons (ps_set (i := 1) sc_law_names_in.nd rfl (Or.inl rfl) (pe_disp (pps_cons pe_str pe_bl pps_nil) rfl rfl (List.cons_ne_nil _ _) (by show 1 ≤ 15; decide)))
      (pss_cons (ps_for PassesOwn.never rfl (pi_tup (pv 0)) (pg_tup rfl (pgs_cons (pg_name (i := 2) sc_law_names_in.nd rfl (Or.inl rfl)) (pgs_cons (pg_name (i := 3) sc_law_names_in.nd rfl (Or.inl rfl)) pgs_nil)))
      (pss_cons (ps_for PassesOwn.never rfl (pi_tup (pv 2)) (pg_name (i := 4) sc_law_names_in.nd rfl (Or.inl rfl))
      (pss_one (ps_dput (hu_of hr) (pv 1) (pe_ix ix_tup (pv 4) pe_int (fun _ _ => rfl)) pe_bl rfl)))
      (pss_one (ps_if (pt_cmpR op_eq (pe_callB call_len_seq rfl Z.len bt_len (pa_cons (pv 3) pa_nil)) pe_int (nomark _))
      (pss_one (ps_dput (hu_of hr) (pv 1) (pe_ix ix_tup (pv 3) pe_int (fun _ _ => rfl)) pe_bl rfl))
      pss_nil))))
      (pss_one (ps_ret (pe_callB (call_sortedD rfl) rfl Z.sorted bt_sorted (pa_cons (pv 1) pa_nil)))))), ?_⟩

    obtain ⟨pp, vs, rfl, e1, r⟩ := RdD.tup_inv hp
    have hl := r.len
    refine fun nm nn => ⟨upd_same, [(Sum.inr "abcdefgh", .bl true)], rfl, (by decide), ?_⟩
    have hnm : (upd (upd H nm (.dK [])) nm (.dK (mergeK [] [((Sum.inr ("abcdefgh" : Str) : Key), V.bl true)]))) nm = some (.dK (mergeK [] [((Sum.inr ("abcdefgh" : Str) : Key), V.bl true)])) := upd_same
    have k0 : KOk ("abcdefgh" :: xs) (mergeK [] [((Sum.inr ("abcdefgh" : Str) : Key), V.bl true)]) := ⟨["abcdefgh"], rfl, by simp, fun x hx => by rw [List.mem_singleton.mp hx]; exact List.mem_cons_self ..⟩
    have s0 : Same H (upd (upd H nm (.dK [])) nm (.dK (mergeK [] [((Sum.inr ("abcdefgh" : Str) : Key), V.bl true)]))) := (Same.new nn).put nn
    have kl : ∀ kvs, KOk ("abcdefgh" :: xs) kvs → kvs.length < sizeLine := fun kvs h => by
      have := h.len
      rw [List.length_cons] at this
      exact small1000 (by omega)
    refine ⟨_, rfl, pp, rfl, ⟨_, SqT.of (s0 _ _ e1)⟩, for_tup (K := K) (a := pp) (xs := vs) (fun i σ H' => ∃ (kvs : List (Key × V)) (u1 u2 u3 : Option V), σ = [some (.ref pp), some (.ref nm), u1, u2, u3] ∧ H' nm = some (.dK kvs) ∧ KOk ("abcdefgh" :: xs) kvs ∧ Same H H') ?_ ?_ ?_ ?_⟩
    · exact ⟨_, _, _, _, rfl, hnm, k0, s0⟩
    · rintro i σ H1 hi ⟨kvs, u1, u2, u3, rfl, h1, k1, s1⟩
      exact SqT.of (s1 _ _ e1)
    · rintro i x σ H1 hi ⟨kvs, u1, u2, u3, rfl, h1, k1, s1⟩
      have hlt : i < ps.length := by
        have := (List.getElem?_eq_some_iff.mp hi).1
        rw [hl, List.length_map] at this
        exact this
      have hpi : ps[i]? = some ps[i] := by simp [hlt]
      have hmem : ps[i] ∈ ps := List.getElem_mem hlt
      generalize ps[i] = pe at hpi hmem
      obtain ⟨ds, e⟩ := pe
      obtain ⟨p', xs', pc, da, ea, ws, ep, e1', el', hx', e2, e3, r3, e4⟩ := rd_piece hp hpi
      cases ep
      rw [e1] at e1'
      cases e1'
      rw [hi] at hx'
      cases hx'
      obtain ⟨_, dok⟩ := pok.deeds _ hmem
      have eok := pok.ends _ hmem
      have e2' := s1 _ _ e2
      have e3' := s1 _ _ e3
      have e4' := s1 _ _ e4
      refine ⟨pc, _, rfl, SqT.of e2', rfl, _, _, rfl, _, _, rfl, rfl, ?_⟩
      refine ⟨_, rfl, da, rfl, ⟨_, SqT.of e3'⟩, for_tup (K := K) (a := da) (xs := ws) (fun j σ H' => ∃ (kvs : List (Key × V)) (u3 : Option V), σ = [some (.ref pp), some (.ref nm), some (.ref da), some (.ref ea), u3] ∧ H' nm = some (.dK kvs) ∧ KOk ("abcdefgh" :: xs) kvs ∧ Same H H') ?_ ?_ ?_ ?_⟩
      · exact ⟨kvs, _, rfl, h1, k1, s1⟩
      · rintro j σ H2 hj ⟨kvs2, u3', rfl, h2, k2, s2⟩
        exact SqT.of (s2 _ _ e3)
      · rintro j y σ H2 hj ⟨kvs2, u3', rfl, h2, k2, s2⟩
        have hjl : j < ds.length := by
          have := (List.getElem?_eq_some_iff.mp hj).1
          rw [r3.len, List.length_map] at this
          exact this
        have hdj : ds[j]? = some ds[j] := by simp [hjl]
        have hdm : ds[j] ∈ ds := List.getElem_mem hjl
        generalize ds[j] = dd at hdj hdm
        obtain ⟨v, hv, rd⟩ := r3.get (i := j) (d := dDeed dd) (by rw [List.getElem?_map, hdj]; rfl)
        rw [hj] at hv
        cases hv
        obtain ⟨dp, rfl, hdp⟩ := rd_deed rd
        refine gname_ ?_
        refine ⟨_, rfl, _, rfl, dp, _, 1, _, rfl, rfl, SqT.of (s2 _ _ hdp), at_nameD dd, nm, _, rfl, DPut.k (k := Sum.inr (nameD dd)) h2 (kl _ k2), ?_⟩
        exact ⟨_, _, rfl, upd_same, k2.put (List.mem_cons_of_mem _ (dok dd hdm).name) _, s2.put nn⟩
      · rintro σ H2 ⟨kvs2, u3', rfl, h2, k2, s2⟩
        have e42 := s2 _ _ e4
        refine ⟨_, rfl, ea, _, rfl, .inr (SqT.of e42), rfl, _, rfl, ?_⟩
        cases e with
        | stop =>
          refine iteFb (show decide (V.int ((1 : Nat) : Int) = V.int 5) = false by decide +kernel) ?_
          exact ⟨kvs2, _, _, _, rfl, h2, k2, s2⟩
        | go q1 =>
          refine iteFb (show decide (V.int ((2 : Nat) : Int) = V.int 5) = false by decide +kernel) ?_
          exact ⟨kvs2, _, _, _, rfl, h2, k2, s2⟩
        | tst b x n q1 q2 =>
          refine iteTb (show decide (V.int ((5 : Nat) : Int) = V.int 5) = true by decide +kernel) ?_
          refine ⟨_, rfl, _, rfl, ea, _, 1, _, rfl, rfl, SqT.of e42, at1, nm, _, rfl, DPut.k (k := Sum.inr x) h2 (kl _ k2), ?_⟩
          exact ⟨_, _, _, _, rfl, upd_same, k2.put (List.mem_cons_of_mem _ eok.1) _, s2.put nn⟩
    · rintro σ H1 ⟨kvs, u1, u2, u3, rfl, h1, k1, s1⟩
      have hkl := k1.len
      obtain ⟨ks, ek, nd, hm⟩ := k1
      have hkk : ks.length = kvs.length := by have := congrArg List.length ek; simpa using this.symm
      rw [List.length_cons] at hkl
      refine ⟨_, rfl, nm, kvs, ks, rfl, h1, ek, (by omega), fun l ss hperm hs hn => ?_⟩
      exact q l ss _ upd_same (by rw [hperm.length_eq]; omega) (s1.trans (Same.new hn))
end
end My

set_option Elab.async false
set_option linter.all false
set_option maxRecDepth 100000
namespace My
open PySem PySem.Spec PyProof.Rows L2
section
variable {P : Program} {w : World} {K : PySem.W.Frag} {mg : Str → Option Value} {base : Heap}
set_option maxHeartbeats 4000000 in
theorem ok_law_tells {f : Addr} {fd : FuncData} (F : Fun K "_law_tells" "_law_tells" s_law_tells f fd) (Z : Bl mg) {C : Addr} (T : StT K C) {D : Addr} (TW : WkT K D) (O_Walker_word : MOwn P w K mg base D "word" 3 ["self"] (spWWord C D)) (O_Walker_piece : MOwn P w K mg base D "piece" 1 ["self"] (spWPiece C D)) (O_Walker_told : MOwn P w K mg base D "told" 1 ["self"] (spWTold C D)) (O_Walker_steps : MOwn P w K mg base D "steps" 1 ["self"] (spWSteps C D)) (O_Walker_worth : MOwn P w K mg base D "worth" 2 ["self", "name"] (spWWorth C D)) (O_law_stand : Own P w K mg base "_law_stand" 1 ["plan", "state", "numbers"] spStandL) (O_law_names_in : Own P w K mg base "_law_names_in" 1 ["plan"] spNamesIn) : FnOk P w K mg base CX0 5 f fd ["walker", "plan", "state", "numbers", "steps"] (spTellsL C D) := by
  refine F.ok (k := 4) sc_law_tells (fun vs H Q E h => ?_) (fun cdv A outer s H vs Q E hr h => ?_)
  · obtain ⟨wp, p, pl, d, nl, sl, st, np, d2, tl, bl, plv, ps, xs, k, nums, S, m, rfl, _⟩ := h
    rfl
  · obtain ⟨wp, p, pl, d, nl, sl, st, np, d2, tl, bl, plv, ps, xs, k, nums, S, m, rfl, W, A, hn, hp, pok, hx4, hpc, hw, hm, q⟩ := h
    refine ⟨_, (pss_cons (ps_for PassesOwn.never rfl (pi_range1 rfl Z.range (pa_cons pe_int pa_nil)) (pg_name (i := 5) sc_law_tells.nd rfl (Or.inl rfl))
      (pss_cons (ps_if (PW.pt (pw_or (pt_cmpR op_ne (pe_mown0 O_Walker_word (pv 0) (hr.mono (by decide))) (pe_own O_law_stand (hr.mono (by decide)) rfl (pa_cons (pv 1) (pa_cons (pv 2) (pa_cons (pv 3) pa_nil)))) (nomark _)) (pw_or1 (pt_cmpR op_ne (pe_mown0 O_Walker_piece (pv 0) (hr.mono (by decide))) (pe_ix ix_tup (pv 2) pe_int (fun _ _ => rfl)) (nomark _)))))
      (pss_one (ps_ret pe_bl))
      pss_nil)
      (pss_one (ps_if (PW.pt (pw_or (pt_cmpR (op_neD hr.units) (pe_mown0 O_Walker_told (pv 0) (hr.mono (by decide))) (pe_callTy call_tuple_of rfl Z.tuple bt_tuple (pa_cons (pe_ix ix_tup (pv 2) pe_int (fun _ _ => rfl)) pa_nil)) (nomark _)) (pw_or (pt_cmpR op_ne (pe_mown0 O_Walker_steps (pv 0) (hr.mono (by decide))) (pv 4) (nomark _)) (pw_or1 (pt_val (pe_callB call_isi rfl Z.isinstance bt_isinstance (pa_cons (pe_mown0 O_Walker_steps (pv 0) (hr.mono (by decide))) (pa_cons (pe_bltn (v := .ty "bool") rfl Z.bool bt_bool rfl) pa_nil))))))))
      (pss_one (ps_ret pe_bl))
      pss_nil))))
      (pss_cons (ps_for PassesOwn.never rfl (pi_list (pe_own O_law_names_in (hr.mono (by decide)) rfl (pa_cons (pv 1) pa_nil))) (pg_name (i := 6) sc_law_tells.nd rfl (Or.inl rfl))
      (pss_one (ps_if (pt_cmpR op_ne (pe_mown O_Walker_worth (pv 0) (hr.mono (by decide)) (pa_cons (pv 6) pa_nil)) (pe_dget2v (hu_of hr) (pe_ix ix_tup (pv 2) pe_int (fun _ _ => rfl)) (pv 6) pe_int ⟨rfl, rfl, rfl, rfl⟩) (nomark _))
      (pss_one (ps_ret pe_bl))
      pss_nil)))
      (pss_one (ps_ret (pe_notT (pe_lcomp ["number"] [] [] rfl (pi_tup (pe_mown0 O_Walker_told (pv 0) (hr.mono (by decide)))) rfl (by decide +kernel) (by decide +kernel) (by decide +kernel) True.intro (fun _ _ _ _ => (pg_name (i := 0) (show ((["number"] : List Str) ++ ([] : List Str)).Nodup by decide +kernel) rfl (Or.inl rfl) (hf := Or.inr rfl))) (fun _ _ _ _ => (pts_one (PW.pt (pw_or (pt_not (pt_val (pe_callB (call_isiK (K := K) rfl) rfl Z.isinstance bt_isinstance (pa_cons (pv 0) (pa_cons (pe_bltn (v := .ty "int") rfl Z.int bt_int rfl) pa_nil))))) (pw_or1 (pt_val (pe_callB (call_isiK (K := K) rfl) rfl Z.isinstance bt_isinstance (pa_cons (pv 0) (pa_cons (pe_bltn (v := .ty "bool") rfl Z.bool bt_bool rfl) pa_nil))))))))) (fun _ _ _ _ => (pv 0)))))))), ?_⟩

    refine seq_opq fun N0 hN0 => ?_
    refine ⟨_, rfl, (by decide), (by decide), for_range (lo := 0) (fun i σ H' => ∃ (u1 u2 : Option V), σ = [some (.ref wp), some plv, some (.ref st), some (.ref np), some (.int m), u1, u2] ∧ Same H H') ?_ ?_ ?_⟩
    · exact ⟨none, none, rfl, Same.refl H⟩
    · rintro i σ H1 hi ⟨u1, u2, rfl, s1⟩
      have W1 := W.same s1
      have A1 := A.same s1
      have p1 := hp.same s1 (noList_plan ps)
      have n1 := s1 _ _ hn
      obtain ⟨dw, how⟩ := W1.ob
      refine gname_ ?_
      refine seq_opq fun N1 hN1 => ?_
      refine ⟨_, rfl, wp, dw, _, rfl, how, wno_word, wp, p, pl, d, nl, sl, plv, nums, S, m, ps, rfl, W1, p1, hpc, _, rfl, _, rfl, _, rfl, plv, st, np, d2, tl, bl, ps, nums, S, m, rfl, p1, n1, A1, hpc, hw, rfl, _, rfl, ?_⟩
      refine iteFb (by simp) ?_
      refine ⟨_, rfl, wp, dw, _, rfl, how, wno_piece, wp, p, pl, d, nl, sl, plv, nums, S, m, rfl, W1, _, rfl, st, _, 0, _, rfl, rfl, SqT.of A1.at_, at0, rfl, _, rfl, ?_⟩
      refine iteFb (by simp) ?_
      refine hN1 _ _ ?_
      clear hN1 N1
      refine ⟨_, rfl, wp, dw, _, rfl, how, wno_told, wp, p, pl, d, nl, sl, plv, nums, S, m, rfl, W1, fun t ht => ?_⟩
      have s2 := Same.new (o := .tup (S.told.map V.int)) ht
      have ht2 : (upd H1 t (.tup (S.told.map V.int))) t = some (.tup (S.told.map V.int)) := upd_same
      generalize (upd H1 t (.tup (S.told.map V.int))) = H2 at s2 ht2
      refine ⟨_, rfl, st, _, 4, _, rfl, rfl, SqT.of (s2 _ _ A1.at_), at4, tl, _, rfl, .inl ⟨SqL.of (s2 _ _ A1.told), fun t3 h3 => ?_⟩⟩
      have s3 := Same.new (o := .tup (S.told.map V.int)) h3
      refine ⟨.tuple (S.told.map PyData.int), .tuple (S.told.map PyData.int), .tup (s3 _ _ ht2) (rd_ints _), .tup upd_same (rd_ints _), lay_ints _, lay_ints _, (by have := dep_ints S.told; omega), _, rfl, ?_⟩
      refine iteFb (by rw [PySem.SeqAt.eqv_refl _ (lay_ints _)]; rfl) ?_
      generalize (upd H2 t3 (.tup (S.told.map V.int))) = H3 at s3
      have s13 : Same H1 H3 := s2.trans s3
      have W3 := W1.same s13
      obtain ⟨dw3, how3⟩ := W3.ob
      refine ⟨_, rfl, wp, dw3, _, rfl, how3, wno_steps, wp, p, pl, d, nl, sl, plv, nums, S, m, rfl, W3, _, rfl, rfl, _, rfl, ?_⟩
      refine iteFb (by simp) ?_
      refine ⟨_, rfl, wp, dw3, _, rfl, how3, wno_steps, wp, p, pl, d, nl, sl, plv, nums, S, m, rfl, W3, _, _, _, false, rfl, TyOf.int _, rfl, _, rfl, iteF ?_⟩
      exact ⟨_, _, rfl, s1.trans s13⟩
    · rintro σ H1 ⟨u1, u2, rfl, s1⟩
      refine hN0 _ _ ?_
      clear hN0 N0
      refine seq_opq fun N0 hN0 => ?_
      have p1 := hp.same s1 (noList_plan ps)
      refine ⟨_, rfl, plv, ps, xs, k, rfl, p1, pok, hx4, fun nn ss H2 hnn hsl s2 => ?_⟩
      have s12 := s1.trans s2
      refine ⟨nn, rfl, ⟨_, SqL.of hnn⟩, for_list (K := K) (a := nn) (xs := ss.map V.str) (fun j σ H' => ∃ (u1 u2 : Option V), σ = [some (.ref wp), some plv, some (.ref st), some (.ref np), some (.int m), u1, u2] ∧ H2 = H') ?_ ?_ ?_ ?_⟩
      · exact ⟨_, _, rfl, rfl⟩
      · rintro j σ H' hj ⟨u1, u2, rfl, rfl⟩
        exact SqL.of hnn
      · rintro j x σ H' hj ⟨u1, u2, rfl, rfl⟩
        obtain ⟨y, rfl⟩ : ∃ y, x = V.str y := by
          rw [List.getElem?_map] at hj
          cases e : ss[j]? with
          | none => rw [e] at hj; cases hj
          | some k => rw [e] at hj; exact ⟨k, (Option.some.inj hj).symm⟩
        refine gname_ ?_
        have W2 := W.same s12
        have A2 := A.same s12
        obtain ⟨dw, how⟩ := W2.ob
        obtain ⟨kvs, hkd, dwk, _⟩ := A2.dict
        refine ⟨_, rfl, wp, dw, _, rfl, how, wno_worth, _, rfl, wp, p, pl, d, nl, sl, plv, nums, S, m, y, rfl, W2, _, rfl, st, _, 2, _, rfl, rfl, SqT.of A2.at_, at2, d2, rfl, .inl ⟨kvs, .inl hkd⟩, _, rfl, _, _, DGet.k (k := Sum.inr y) hkd, dwk y, rfl, _, rfl, ?_⟩
        refine iteFb (by simp) ?_
        exact ⟨_, _, rfl, rfl⟩
      · rintro σ H' ⟨u1, u2, rfl, rfl⟩
        refine hN0 _ _ ?_
        have W2 := W.same s12
        obtain ⟨dw, how⟩ := W2.ob
        refine ⟨_, rfl, wp, dw, _, rfl, how, wno_told, wp, p, pl, d, nl, sl, plv, nums, S, m, rfl, W2, fun t ht => ?_⟩
        have s3 := Same.new (o := .tup (S.told.map V.int)) ht
        have ht3 : (upd H2 t (.tup (S.told.map V.int))) t = some (.tup (S.told.map V.int)) := upd_same
        generalize (upd H2 t (.tup (S.told.map V.int))) = H3 at s3 ht3
        refine ⟨t, rfl, ⟨_, SqT.of ht3⟩, fun acc na => ?_⟩
        refine lc_tup (K := K) (a := t) (xs := S.told.map V.int) (fun i zs τ H' => ∃ (c : Option V), τ = [c] ∧ zs = [] ∧ H' acc = some (.lst []) ∧ Same H3 H') ?_ ?_ ?_ ?_
        · exact ⟨none, rfl, rfl, upd_same, Same.new na⟩
        · rintro i zs τ H4 hi ⟨c, rfl, rfl, ha, s4⟩
          exact ⟨SqT.of (s4 _ _ ht3), ha, by show 0 < sizeLine; decide⟩
        · rintro i x zs τ H4 hi ⟨c, rfl, rfl, ha, s4⟩
          obtain ⟨k, rfl⟩ : ∃ k, x = V.int k := by
            rw [List.getElem?_map] at hi
            cases e : S.told[i]? with
            | none => rw [e] at hi; cases hi
            | some k => rw [e] at hi; exact ⟨k, (Option.some.inj hi).symm⟩
          refine gname_ ?_
          refine ⟨_, rfl, _, _, _, true, rfl, TyOf.int _, rfl, _, rfl, iteF ?_⟩
          refine ⟨_, rfl, _, _, _, false, rfl, TyOf.int _, rfl, _, rfl, iteF ?_⟩
          exact ⟨_, rfl, rfl, ha, s4⟩
        · rintro zs τ H4 ⟨c, rfl, rfl, ha, s4⟩
          exact ⟨_, .inl ⟨_, SqL.of ha, rfl⟩, q H4 ((s12.trans s3).trans s4)⟩
end
end My

set_option Elab.async false
set_option linter.all false
set_option maxRecDepth 100000
namespace My
open PySem PySem.Spec PyProof.Rows L2
section
variable {P : Program} {w : World} {K : PySem.W.Frag} {mg : Str → Option Value} {base : Heap}
set_option maxHeartbeats 4000000 in
theorem ok_law_call {f : Addr} {fd : FuncData} (F : Fun K "_law_call" "_law_call" s_law_call f fd) (Z : Bl mg) (O_law_take : Own P w K mg base "_law_take" 1 ["bag", "many"] spTake) (O_law_number : Own P w K mg base "_law_number" 2 ["bag"] spNumber) : FnOk P w K mg base CX0 4 f fd ["bag", "left"] spCallL := by
  refine F.ok (k := 3) sc_law_call (fun vs H Q E h => ?_) (fun cdv A outer s H vs Q E hr h => ?_)
  · obtain ⟨b, left, rfl, _⟩ := h
    rfl
  · obtain ⟨b, left, rfl, hB, hl, qh, qg⟩ := h
    refine ⟨_, (pss_cons (ps_if (pt_cmpR op_eq (pe_own O_law_take (hr.mono (by decide)) rfl (pa_cons (pv 0) (pa_cons pe_int pa_nil))) pe_int (nomark _))
      (pss_cons (ps_cut (ps_set (i := 2) sc_law_call.nd rfl (Or.inl rfl) (pe_ix ix_list (pe_lst (pa_cons (pe_own O_law_take (hr.mono (by decide)) rfl (pa_cons (pv 0) (pa_cons pe_int pa_nil))) (pa_cons pe_int pa_nil))) (pe_callTy call_int1 rfl Z.int bt_int (pa_cons (pe_and (pe_cmpR op_eq (pe_own O_law_take (hr.mono (by decide)) rfl (pa_cons (pv 0) (pa_cons pe_int pa_nil))) pe_int (nomark _)) (pe_one (pe_cmpR op_gt (pv 1) pe_int (nomark _)))) pa_nil)) (fun _ _ => rfl))))
      (pss_one (ps_ret (pe_tup (pa_cons pe_str (pa_cons (pe_callTy call_tuple_of rfl Z.tuple bt_tuple (pa_cons (pe_lcomp ["k"] ["bag"] [0] rfl (pi_range1 rfl Z.range (pa_cons (pe_callB (call_min2 rfl) rfl Z.min bt_min (pa_cons (pv 2) (pa_cons (pv 1) pa_nil))) pa_nil)) rfl (by decide +kernel) (by decide +kernel) (by decide +kernel) ⟨⟨rfl, .inl rfl, rfl⟩, True.intro⟩ (fun _ _ _ _ => (pg_name (i := 0) (show ((["k"] : List Str) ++ (["bag"] : List Str)).Nodup by decide +kernel) rfl (Or.inl rfl) (hf := Or.inr rfl))) (fun _ _ _ _ => pts_nil) (fun _ _ _ _ => (pe_own O_law_number (hr.mono (by decide)) rfl (pa_cons (pv 1) pa_nil)))) pa_nil)) pa_nil))))))
      pss_nil)
      (pss_one (ps_ret (pe_tup (pa_cons pe_str (pa_cons (pe_ix ix_list (pe_lst (pa_cons (pe_own O_law_take (hr.mono (by decide)) rfl (pa_cons (pv 0) (pa_cons pe_int pa_nil))) (pa_cons pe_int pa_nil))) (pe_callTy call_int1 rfl Z.int bt_int (pa_cons (pe_cmpR op_eq (pe_own O_law_take (hr.mono (by decide)) rfl (pa_cons (pv 0) (pa_cons pe_int pa_nil))) pe_int (nomark _)) pa_nil)) (fun _ _ => rfl)) pa_nil)))))), ?_⟩

    refine ⟨_, rfl, b, 2, rfl, hB, ⟨by decide, by decide⟩, fun z H1 z0 z1 B1 X1 => ⟨rfl, _, rfl, ?_⟩⟩
    refine ite2 (fun hc => ?_) (fun hc => ?_)
    · refine ⟨fun σ' H' => ∃ mm : Int, σ' = [some (.ref b), some (.int left), some (.int mm)] ∧ 0 ≤ mm ∧ mm ≤ 200 ∧ Bag H' b ∧ Fix b H H', ?_, ?_⟩
      · refine ⟨_, rfl, b, 10, rfl, B1, ⟨by decide, by decide⟩, fun y H2 y0 y1 B2 X2 => ⟨ln2, fun l0 n0 => ?_⟩⟩
        refine ⟨_, rfl, b, 30, rfl, B2.new n0, ⟨by decide, by decide⟩, fun u H3 u0 u1 B3 X3 => ⟨rfl, _, rfl, ?_⟩⟩
        have h0 : H3 l0 = some (.lst [.int y, .int 200]) := X3 l0 _ upd_same (B2.ne_new n0)
        have F3 : Fix b H H3 := ((X1.trans X2).trans (Fix.new n0)).trans X3
        have key : ∀ bb : Bool, ∃ g : Int, atI [V.int y, V.int 200] (if bb = true then 1 else 0) = some (V.int g) ∧ 0 ≤ g ∧ g ≤ 200 := fun bb => by
          cases bb
          · exact ⟨y, at0, by omega, by omega⟩
          · exact ⟨200, at1, by omega, by omega⟩
        refine ite2 (fun hc2 => ?_) (fun hc2 => ?_)
        · refine ⟨_, rfl, _, _, rfl, rfl, .inr ⟨_, rfl, ?_⟩⟩
          obtain ⟨g, hg, g0, g1⟩ := key (decide (200 < (left : Int)))
          exact ⟨l0, _, _, _, rfl, rfl, SqL.of h0, hg, g, rfl, g0, g1, B3, F3⟩
        · refine .inr ⟨_, rfl, ?_⟩
          exact ⟨l0, _, _, _, rfl, rfl, SqL.of h0, at0, y, rfl, by omega, by omega, B3, F3⟩
      · rintro σ' H4 ⟨mm, rfl, m0, m1, B4, F4⟩
        refine ⟨_, rfl, _, rfl, _, _, rfl, ?_⟩
        obtain ⟨e, he, he0⟩ : ∃ e : Nat, (if (left : Int) < mm then (left : Int) else mm) = e ∧ e ≤ left := by
          by_cases hh : (left : Int) < mm
          · rw [if_pos hh]; exact ⟨left, rfl, Nat.le_refl _⟩
          · rw [if_neg hh]; exact ⟨mm.toNat, by omega, by omega⟩
        rw [he]
        refine ⟨_, rfl, (by omega), (by omega), fun acc na => ?_⟩
        have hab : acc ≠ b := B4.ne_new na
        refine lc_range (lo := 0) (fun i ys τ H' => ∃ (v : Option V) (ns : List Int), τ = [v, some (.ref b)] ∧ ys = ns.map V.int ∧ ns.length = i ∧ H' acc = some (.lst ys) ∧ Bag H' b ∧ Fix b H4 H') ?_ ?_ ?_ ?_
        · exact ⟨none, [], rfl, rfl, rfl, upd_same, B4.new na, Fix.new na⟩
        · rintro i ys τ H5 hi ⟨v, ns, rfl, rfl, hl', ha, _⟩
          exact ⟨ha, by rw [List.length_map]; exact small1000 (by omega)⟩
        · rintro i ys τ H5 hi ⟨v, ns, rfl, rfl, hl', ha, B5, X5⟩
          refine gname_ ?_
          refine yes_ ?_
          refine iteT ?_
          refine ⟨_, rfl, b, rfl, B5, fun n H6 nk B6 X6 => ?_⟩
          have ha6 := X6 acc _ ha hab
          refine ⟨ha6, _, ns ++ [n], rfl, (by rw [List.map_append]; rfl), (by rw [List.length_append, hl']; rfl), upd_same, ?_, ?_⟩
          · obtain ⟨x, y, e, z⟩ := B6
            exact ⟨x, y, by rw [upd_ne hab.symm]; exact e, z⟩
          · intro d' o hd nd
            rw [upd_ne (ne_of_none hd na)]
            exact (X5.trans X6) d' o hd nd
        · rintro ys τ H5 ⟨v, ns, rfl, rfl, hl', ha, B5, X5⟩
          refine ⟨acc, _, rfl, .inl ⟨SqL.of ha, fun t tn => ⟨ln2, fun t2 tn2 => ?_⟩⟩⟩
          refine qh t t2 ns _ upd_same (Same.new tn2 _ _ upd_same) (by omega) ((B5.new tn).new tn2) (((F4.trans X5).trans (Fix.new tn)).trans (Fix.new tn2))
    · refine ⟨_, rfl, b, 41, rfl, B1, ⟨by decide, by decide⟩, fun y H2 y0 y1 B2 X2 => ⟨ln2, fun l0 n0 => ?_⟩⟩
      refine ⟨_, rfl, b, 12, rfl, B2.new n0, ⟨by decide, by decide⟩, fun u H3 u0 u1 B3 X3 => ⟨rfl, .inr ⟨_, rfl, ?_⟩⟩⟩
      have h0 : H3 l0 = some (.lst [.int y, .int 2000]) := X3 l0 _ upd_same (B2.ne_new n0)
      have F3 : Fix b H H3 := ((X1.trans X2).trans (Fix.new n0)).trans X3
      have key : ∀ bb : Bool, ∃ g : Nat, atI [V.int y, V.int 2000] (if bb = true then 1 else 0) = some (V.int g) ∧ g ≤ 2000 := fun bb => by
        cases bb
        · refine ⟨y.toNat, ?_, by omega⟩
          rw [show ((y.toNat : Nat) : Int) = y by omega]
          exact at0
        · exact ⟨2000, at1, by omega⟩
      obtain ⟨g, hg, g1⟩ := key (decide (V.int u = V.int 0))
      refine ⟨l0, _, _, _, rfl, rfl, SqL.of h0, hg, ln2, fun t2 tn2 => ?_⟩
      exact qg t2 g _ upd_same g1 (B3.new tn2) (F3.trans (Fix.new tn2))
end
end My

set_option Elab.async false
set_option linter.all false
set_option maxRecDepth 100000
namespace My
open PySem PySem.Spec PyProof.Rows L2
section
variable {P : Program} {w : World} {K : PySem.W.Frag} {mg : Str → Option Value} {base : Heap}
set_option maxHeartbeats 4000000 in
theorem ok_law {f : Addr} {fd : FuncData} (F : Fun K "law" "law" s_law f fd) (Z : Bl mg) {C : Addr} (T : StT K C) {D : Addr} (TW : WkT K D) (O_law_bag : Own P w K mg base "_law_bag" 1 ["script", "k"] (spBag K)) (O_law_take : Own P w K mg base "_law_take" 1 ["bag", "many"] spTake) (O_law_plan : Own P w K mg base "_law_plan" 4 ["bag", "count", "most"] spPlan) (O_law_count : Own P w K mg base "_law_count" 2 ["bag", "most"] spCount) (O_law_number : Own P w K mg base "_law_number" 2 ["bag"] spNumber) (O_law_call : Own P w K mg base "_law_call" 4 ["bag", "left"] spCallL) (O_law_gone : Own P w K mg base "_law_gone" 3 ["plan", "state", "numbers", "many"] spGoneL) (O_law_tells : Own P w K mg base "_law_tells" 5 ["walker", "plan", "state", "numbers", "steps"] (spTellsL C D)) (O_Walker___init__ : COwn P w K mg base D "Walker" 3 ["self", "plan"] (spWInit C D)) (O_Walker_hand : MOwn P w K mg base D "hand" 1 ["self", "numbers"] (spWHand C D)) (O_Walker_go : MOwn P w K mg base D "go" 8 ["self", "many"] (spWGo C D)) : FnOk P w K mg base CX0 10 f fd ["script"] (spLaw K) := by
  refine F.ok (k := 9) sc_law (fun vs H Q E h => ?_) (fun cdv A outer s H vs Q E hr h => ?_)
  · obtain ⟨a, ns, rfl, _⟩ := h
    rfl
  · obtain ⟨a, ns, rfl, hS, hlen, q⟩ := h
    refine ⟨_, (pss_cons (ps_set (i := 1) sc_law.nd rfl (Or.inr rfl) (pe_own O_law_bag (hr.mono (by decide)) rfl (pa_cons (pv 0) (pa_cons pe_int pa_nil))))
      (pss_cons (ps_set (i := 2) sc_law.nd rfl (Or.inl rfl) (pe_own O_law_plan (hr.mono (by decide)) rfl (pa_cons (pv 1) (pa_cons (pe_own O_law_count (hr.mono (by decide)) rfl (pa_cons (pv 1) (pa_cons (pe_ix ix_list (pe_lst (pa_cons pe_int (pa_cons pe_int pa_nil))) (pe_callTy call_int1 rfl Z.int bt_int (pa_cons (pe_cmpR op_eq (pe_own O_law_take (hr.mono (by decide)) rfl (pa_cons (pv 1) (pa_cons pe_int pa_nil))) pe_int (nomark _)) pa_nil)) (fun _ _ => rfl)) pa_nil))) (pa_cons pe_int pa_nil)))))
      (pss_cons (ps_set (i := 3) sc_law.nd rfl (Or.inl rfl) (pe_cown O_Walker___init__ (hr.mono (by decide)) rfl (pa_cons (pv 2) pa_nil)))
      (pss_cons (ps_set (i := 4) sc_law.nd rfl (Or.inl rfl) (pe_tup (pa_cons pe_int (pa_cons pe_int (pa_cons pe_dnewK (pa_cons pe_int (pa_cons (pe_lst pa_nil) (pa_cons pe_str (pa_cons (pe_lst (pa_cons pe_int pa_nil)) pa_nil)))))))))
      (pss_cons (ps_cut (ps_set (i := 5) sc_law.nd rfl (Or.inl rfl) (pe_lst pa_nil)))
      (pss_cons (ps_set (i := 6) sc_law.nd rfl (Or.inl rfl) pe_int)
      (pss_cons (ps_for PassesOwn.never rfl (pi_range1 rfl Z.range (pa_cons (pe_op op_add pe_int (pe_callB (call_min2 rfl) rfl Z.min bt_min (pa_cons (pe_callB call_len_seq rfl Z.len bt_len (pa_cons (pv 0) pa_nil)) (pa_cons pe_int pa_nil)))) pa_nil)) (pg_name (i := 7) sc_law.nd rfl (Or.inl rfl))
      (pss_cons (ps_cut (ps_asg (pe_own O_law_call (hr.mono (by decide)) rfl (pa_cons (pe_own O_law_bag (hr.mono (by decide)) rfl (pa_cons (pv 0) (pa_cons (pv 7) pa_nil))) (pa_cons (pe_op op_sub pe_int (pe_callB call_len_seq rfl Z.len bt_len (pa_cons (pv 5) pa_nil))) pa_nil))) (pg_tup rfl (pgs_cons (pg_name (i := 8) sc_law.nd rfl (Or.inl rfl)) (pgs_cons (pg_name (i := 9) sc_law.nd rfl (Or.inl rfl)) pgs_nil)))))
      (pss_cons (ps_cut (ps_if (PW.pt (pw_and (pt_cmpR op_eq (pv 8) pe_str (nomark _)) (pw_and1 (pt_cmpR op_lt (pv 6) pe_int (nomark _)))))
      (pss_cons (ps_asg (pe_own O_law_gone (hr.mono (by decide)) rfl (pa_cons (pv 2) (pa_cons (pv 4) (pa_cons (pv 5) (pa_cons (pv 9) pa_nil))))) (pg_tup rfl (pgs_cons (pg_name (i := 4) sc_law.nd rfl (Or.inl rfl)) (pgs_cons (pg_name (i := 10) sc_law.nd rfl (Or.inl rfl)) pgs_nil))))
      (pss_cons (ps_set (i := 6) sc_law.nd rfl (Or.inl rfl) (pe_op op_add (pv 6) (pv 10)))
      (pss_cons (ps_set (i := 11) sc_law.nd rfl (Or.inl rfl) (pe_mown O_Walker_go (pv 3) (hr.mono (by decide)) (pa_cons (pv 9) pa_nil)))
      (pss_one (ps_if (PW.pt (pw_or (pt_cmpR op_ne (pv 11) (pv 10) (nomark _)) (pw_or1 (pt_val (pe_callB call_isi rfl Z.isinstance bt_isinstance (pa_cons (pv 11) (pa_cons (pe_bltn (v := .ty "bool") rfl Z.bool bt_bool rfl) pa_nil)))))))
      (pss_one (ps_ret pe_bl))
      pss_nil)))))
      (pss_one (ps_if (pt_cmpR op_eq (pv 8) pe_str (nomark _))
      (pss_cons (ps_expr (pe_mown O_Walker_hand (pv 3) (hr.mono (by decide)) (pa_cons (pv 9) pa_nil)))
      (pss_one (ps_expr (pe_bm PySem.F.plainAttrs_list PySem.F.slot_list_extend PySem.F.type_list_extend mt_extendT (pv 5) (pa_cons (pv 9) pa_nil)))))
      pss_nil))))
      (pss_one (ps_if (pt_not (pt_val (pe_own O_law_tells (hr.mono (by decide)) rfl (pa_cons (pv 3) (pa_cons (pv 2) (pa_cons (pv 4) (pa_cons (pv 5) (pa_cons (pv 6) pa_nil))))))))
      (pss_one (ps_ret pe_bl))
      pss_nil)))))
      (pss_cons (ps_for PassesOwn.never rfl (pi_range1 rfl Z.range (pa_cons pe_int pa_nil)) (pg_name (i := 7) sc_law.nd rfl (Or.inl rfl))
      (pss_cons (ps_cut (ps_set (i := 12) sc_law.nd rfl (Or.inl rfl) (pe_callTy call_tuple_of rfl Z.tuple bt_tuple (pa_cons (pe_lcomp ["j"] ["bag"] [1] rfl (pi_range1 rfl Z.range (pa_cons pe_int pa_nil)) rfl (by decide +kernel) (by decide +kernel) (by decide +kernel) ⟨⟨rfl, .inl rfl, rfl⟩, True.intro⟩ (fun _ _ _ _ => (pg_name (i := 0) (show ((["j"] : List Str) ++ (["bag"] : List Str)).Nodup by decide +kernel) rfl (Or.inl rfl) (hf := Or.inr rfl))) (fun _ _ _ _ => pts_nil) (fun _ _ _ _ => (pe_own O_law_number (hr.mono (by decide)) rfl (pa_cons (pv 1) pa_nil)))) pa_nil))))
      (pss_cons (ps_expr (pe_mown O_Walker_hand (pv 3) (hr.mono (by decide)) (pa_cons (pv 12) pa_nil)))
      (pss_cons (ps_expr (pe_bm PySem.F.plainAttrs_list PySem.F.slot_list_extend PySem.F.type_list_extend mt_extendT (pv 5) (pa_cons (pv 12) pa_nil)))
      (pss_cons (ps_asg (pe_own O_law_gone (hr.mono (by decide)) rfl (pa_cons (pv 2) (pa_cons (pv 4) (pa_cons (pv 5) (pa_cons pe_int pa_nil))))) (pg_tup rfl (pgs_cons (pg_name (i := 4) sc_law.nd rfl (Or.inl rfl)) (pgs_cons (pg_name (i := 10) sc_law.nd rfl (Or.inl rfl)) pgs_nil))))
      (pss_cons (ps_set (i := 6) sc_law.nd rfl (Or.inl rfl) (pe_op op_add (pv 6) (pv 10)))
      (pss_one (ps_if (PW.pt (pw_or (pt_cmpR op_ne (pe_mown O_Walker_go (pv 3) (hr.mono (by decide)) (pa_cons pe_int pa_nil)) (pv 10) (nomark _)) (pw_or1 (pt_not (pt_val (pe_own O_law_tells (hr.mono (by decide)) rfl (pa_cons (pv 3) (pa_cons (pv 2) (pa_cons (pv 4) (pa_cons (pv 5) (pa_cons (pv 6) pa_nil)))))))))))
      (pss_one (ps_ret pe_bl))
      pss_nil))))))))
      (pss_one (ps_ret pe_bl)))))))))), ?_⟩

    refine ⟨_, rfl, a, ns, 0, rfl, hS, (by decide), fun b H1 nb B1 s1 => ?_⟩
    refine ⟨_, rfl, _, rfl, ln2, fun l0 n0 => ?_⟩
    refine ⟨_, rfl, b, 3, rfl, B1.new n0, ⟨by decide, by decide⟩, fun z H2 z0 z1 B2 X2 => ?_⟩
    have h0 : H2 l0 = some (.lst [.int 12, .int 60]) := X2 l0 _ upd_same (B1.ne_new n0)
    have F2 : Fix b H1 H2 := (Fix.new n0).trans X2
    refine ⟨rfl, .inr ⟨_, rfl, ?_⟩⟩
    have pk : ∃ g : Nat, atI [V.int 12, V.int 60] (if decide (V.int z = V.int 0) = true then 1 else 0) = some (V.int g) ∧ (g = 12 ∨ g = 60) := by
      cases decide (V.int z = V.int 0)
      · exact ⟨12, at0, .inl rfl⟩
      · exact ⟨60, at1, .inr rfl⟩
    obtain ⟨g, hg, hg2⟩ := pk
    refine ⟨l0, _, _, _, rfl, rfl, SqL.of h0, hg, b, g, rfl, B2, (by omega), (by omega), fun c H3 c0 c1 B3 X3 => ?_⟩
    refine ⟨b, c, 4, rfl, B3, c0, (by omega), (by omega), fun plv xs ps H4 r4 hc4 pok xok B4 X4 => ?_⟩
    have hin : InPlan ps := pok.inPlan
    have hpc0 : 0 < ps.length := by omega
    have s4 : Same H H4 := Same.of_fix s1 nb ((F2.trans X3).trans X4)
    clear X4 X3 B3 F2 h0 hg X2 B2 B1 s1
    clear c1 c0 hg2 z0 z1 hc4
    -- the walker
    refine ⟨_, rfl, fun wp dx nx ndx nex => ?_⟩
    have sm : Same H4 (upd (upd H4 dx (.own wp)) wp (.ins D dx [])) := fun c o e => by
      rw [upd_ne (ne_of_none e nx), upd_ne (ne_of_none e ndx)]
      exact e
    refine ⟨wp, dx, plv, rfl, upd_same, fun p pl d nl sl H5 W5 k5 fp fpl fd fnl fsl => ⟨rfl, ?_⟩⟩
    have s5 : Same H4 H5 := fun c o e => k5 c o (sm c o e) (ne_of_none e nx)
    have fp' := sm.free fp
    have fpl' := sm.free fpl
    have fd' := sm.free fd
    have fnl' := sm.free fnl
    have fsl' := sm.free fsl
    clear fp fpl fd fnl fsl k5 sm
    -- state, numbers
    refine fun d2 hd2 => ⟨(by show 0 ≤ sizeLine; decide), fun tl htl => ⟨ln1, fun bl hbl => ⟨ln7, fun st hst => ?_⟩⟩⟩
    refine ⟨fun σ' H' => ∃ np : Addr, σ' = [some (.ref a), some (.ref b), some plv, some (.ref wp), some (.ref st), some (.ref np), none, none, none, none, none, none, none] ∧ Joint C D H' wp p pl d nl sl st d2 tl bl np plv [] (start0 0 fun _ => 0) 0 ∧ Fr10 H4 wp p pl d nl sl d2 tl bl np ∧ Same H4 H', ⟨(by show 0 ≤ sizeLine; decide), fun np hnp => ⟨np, rfl, ?_, ?_, ?_⟩⟩, ?_⟩
    · have q1 := Same.new (o := .dK []) hd2
      have q2 := Same.new (o := .lst []) htl
      have q3 := Same.new (o := .lst [.int 0]) hbl
      have q4 := Same.new (o := .tup [.int 0, .int 0, .ref d2, .int 0, .ref tl, .str "on", .ref bl]) hst
      have q5 := Same.new (o := .lst []) hnp
      have A0 : StAt (upd (upd (upd (upd H5 d2 (.dK [])) tl (.lst [])) bl (.lst [.int 0])) st (.tup [.int 0, .int 0, .ref d2, .int 0, .ref tl, .str "on", .ref bl])) st d2 tl bl (start0 0 fun _ => 0) 0 := by
        refine StAt.mk_ (H1 := upd (upd (upd H5 d2 (.dK [])) tl (.lst [])) bl (.lst [.int 0])) (S' := start0 0 fun _ => 0) (kvs := []) ?_ (fun x => rfl) (Nat.le_refl _) ?_ (by rw [upd_same]; rfl) ?_ ⟨Nat.le_refl _, Nat.le_refl _⟩ hst rfl
        · exact q3 _ _ (q2 _ _ upd_same)
        · exact q3 _ _ upd_same
        · exact ne_of_none upd_same hbl
      have Wa := W5.same q1
      have Wb := Wa.same q2
      have Wc := Wb.same q3
      have Wd := Wc.same q4
      obtain ⟨kv5, hk5, _⟩ := W5.st.dict
      refine ⟨Wd.same q5, A0.same q5, upd_same, ⟨(ne_of_none hk5 hd2).symm, ⟨(ne_of_none Wa.st.passed htl).symm, (ne_of_none Wa.st.nums htl).symm, (ne_of_none Wa.st.spoken htl).symm⟩, ⟨(ne_of_none Wb.st.passed hbl).symm, (ne_of_none Wb.st.nums hbl).symm, (ne_of_none Wb.st.spoken hbl).symm⟩, ⟨(ne_of_none Wd.st.passed hnp).symm, (ne_of_none Wd.st.nums hnp).symm, (ne_of_none Wd.st.spoken hnp).symm, (ne_of_none A0.told hnp).symm, (ne_of_none A0.been hnp).symm⟩⟩⟩
    · have q1 := s5.trans (Same.new (o := .dK []) hd2)
      have q2 := q1.trans (Same.new (o := .lst []) htl)
      have q3 := q2.trans (Same.new (o := .lst [.int 0]) hbl)
      have q4 := q3.trans (Same.new (o := .tup [.int 0, .int 0, .ref d2, .int 0, .ref tl, .str "on", .ref bl]) hst)
      exact ⟨nx, fp', fpl', fd', fnl', fsl', s5.free hd2, q1.free htl, q2.free hbl, q4.free hnp⟩
    · exact ((((s5.trans (Same.new hd2)).trans (Same.new htl)).trans (Same.new hbl)).trans (Same.new hst)).trans (Same.new hnp)
    rintro σ' H6 ⟨np, rfl, J6, F, s6⟩
    clear hst hbl htl hd2 W5 s5 fp' fpl' fd' fnl' fsl' nx ndx nex
    refine ⟨_, rfl, a, _, rfl, .inl ((s4.trans s6).seq hS), _, _, rfl, _, _, rfl, rfl, _, rfl, (by split <;> (try rw [List.length_map]) <;> omega), (by split <;> (try rw [List.length_map]) <;> omega), for_range (lo := 0) (fun i σ H' => ∃ (st : Addr) (nums : List Int) (S : RS) (m : Nat) (u1 u2 u3 u4 u5 u6 : Option V), σ = [some (.ref a), some (.ref b), some plv, some (.ref wp), some (.ref st), some (.ref np), some (.int m), u1, u2, u3, u4, u5, u6] ∧ Joint C D H' wp p pl d nl sl st d2 tl bl np plv nums S m ∧ S.piece < ps.length ∧ S.taken ≤ nums.length ∧ WordOk S ∧ m < 6000 ∧ nums.length ≤ 600 ∧ Same H4 H') ?_ ?_ ?_⟩
    · exact ⟨st, [], start0 0 (fun _ => 0), 0, none, none, none, none, none, none, rfl, J6, hpc0, Nat.zero_le _, .inl rfl, (by omega), Nat.zero_le _, s6⟩
    · clear J6 s6 H6 hpc0 hlen
      rintro i σ H7 hi ⟨st, nums, S, m, u1, u2, u3, u4, u5, u6, rfl, J7, hpc, htk, hw, hm, hn6, s7⟩
      have i0 : (0 : Int) ≤ 0 + (i : Int) := by clear hi; omega
      clear hi
      refine gname_ ?_
      refine ⟨fun σ' H' => ∃ (wd : Str) (sv : V), σ' = [some (.ref a), some (.ref b), some plv, some (.ref wp), some (.ref st), some (.ref np), some (.int m), some (.int (0 + i)), some (.str wd), some sv, u4, u5, u6] ∧ ((wd = "hand" ∧ ∃ (t : Addr) (ns' : List Int), sv = .ref t ∧ H' t = some (.tup (ns'.map V.int)) ∧ ns'.length ≤ 600 - nums.length) ∨ (wd = "go" ∧ ∃ n : Nat, sv = .int n ∧ n ≤ 2000)) ∧ Same H7 H', ?_, ?_⟩
      · refine ⟨_, rfl, _, rfl, a, ns, _, rfl, (s4.trans s7).seq hS, i0, fun b8 H8 nb8 B8 s8 => ?_⟩
        have J8 := J7.same s8
        have eL : (600 - ((nums.map V.int).length : Int)) = ((600 - nums.length : Nat) : Int) := by rw [List.length_map]; omega
        refine ⟨_, rfl, np, _, rfl, .inl (SqL.of J8.n), _, _, rfl, rfl, ?_⟩
        refine ⟨b8, 600 - nums.length, congrArg (fun z => [V.ref b8, V.int z]) eL, B8, (by omega), ?_, ?_⟩
        · intro t t2 ns' H9 ht2 ht hle B9 X9
          exact ⟨t2, _, rfl, SqT.of ht2, rfl, _, _, rfl, _, _, rfl, rfl, "hand", .ref t, rfl, .inl ⟨rfl, t, ns', rfl, ht, hle⟩, Same.of_fix s8 nb8 X9⟩
        · intro t2 n H9 ht2 hn B9 X9
          exact ⟨t2, _, rfl, SqT.of ht2, rfl, _, _, rfl, _, _, rfl, rfl, "go", .int n, rfl, .inr ⟨rfl, n, rfl, hn⟩, Same.of_fix s8 nb8 X9⟩
      rintro σ' H9 ⟨wd, sv, rfl, hcall, s9⟩
      have J9 := J7.same s9
      have s49 := s7.trans s9
      have p9 : RdD H9 plv (dPlan ps) := r4.same s49 (noList_plan ps)
      clear J7 s7 s9
      refine ⟨fun σ' H' => ∃ (st : Addr) (nums : List Int) (S : RS) (m : Nat) (u1 u2 u3 u4 u5 u6 : Option V), σ' = [some (.ref a), some (.ref b), some plv, some (.ref wp), some (.ref st), some (.ref np), some (.int m), u1, u2, u3, u4, u5, u6] ∧ Joint C D H' wp p pl d nl sl st d2 tl bl np plv nums S m ∧ S.piece < ps.length ∧ S.taken ≤ nums.length ∧ WordOk S ∧ m < 6000 ∧ nums.length ≤ 600 ∧ RdD H' plv (dPlan ps) ∧ Same H4 H', ?_, ?_⟩
      · rcases hcall with ⟨rfl, t, ns', rfl, ht, hle⟩ | ⟨rfl, n, rfl, hn⟩
        · obtain ⟨dw, how⟩ := J9.w.ob
          refine ⟨_, rfl, rfl, _, rfl, ?_⟩
          refine iteFb (show decide (V.str "hand" = V.str "go") = false by decide +kernel) ?_
          refine iteF ?_
          refine ⟨_, rfl, rfl, _, rfl, ?_⟩
          refine iteTb (show decide (V.str "hand" = V.str "hand") = true by decide +kernel) ?_

          refine ⟨_, rfl, wp, dw, _, rfl, how, wno_hand, _, rfl, wp, p, pl, d, nl, sl, t, plv, nums, ns', S, m, rfl, J9.w, ht, (by omega), fun H10 W10 b10 => ?_⟩
          have t10 : H10 t = some (.tup (ns'.map V.int)) := J9.w.tup b10 ht
          have p10 : RdD H10 plv (dPlan ps) := J9.w.rd b10 p9 (noList_plan ps)
          obtain ⟨n10, J11⟩ := J9.handed W10 b10
          refine ⟨_, rfl, .inl ⟨rfl, _, SqL.of n10⟩, _, rfl, np, t, _, _, rfl, rfl, n10, SqT.of t10, (by rw [List.length_map, List.length_map]; exact Nat.le_of_lt (small1000' (by omega))), ?_⟩
          have p11 : RdD (upd H10 np (.lst (nums.map V.int ++ ns'.map V.int))) plv (dPlan ps) := p10.tups (fun c ys e => by rw [upd_ne (ne_of e n10 (by intro z; cases z))]; exact e) (noList_plan ps)
          have oldb11 : ∀ o, H10 b = some o → (upd H10 np (.lst (nums.map V.int ++ ns'.map V.int))) b = some o := fun o h => by
            obtain ⟨bx, by_, hb4, _⟩ := id B4
            rw [upd_ne (ne_of_none hb4 F.np)]
            exact h
          have old11 : ∀ c o, H4 c = some o → H9 c = some o → (upd H10 np (.lst (nums.map V.int ++ ns'.map V.int))) c = some o := fun c o e h => by
            rw [upd_ne (ne_of_none e F.np)]
            exact F.but6 b10 e h
          generalize (upd H10 np (.lst (nums.map V.int ++ ns'.map V.int))) = H11 at J11 p11 old11 oldb11
          have tk11 : S.taken ≤ (nums ++ ns').length := by rw [List.length_append]; omega
          exact ⟨st, nums ++ ns', S, m, _, _, _, _, _, _, rfl, J11, hpc, tk11, hw, hm, (by rw [List.length_append]; omega), p11, fun c o e => old11 c o e (s49 c o e)⟩
        · refine ⟨_, rfl, rfl, _, rfl, ?_⟩
          refine iteTb (show decide (V.str "go" = V.str "go") = true by decide +kernel) ?_
          refine ⟨_, rfl, _, _, rfl, rfl, _, rfl, ?_⟩
          refine ite2 (fun hc => ?_) (fun hc => ?_)
          · have hm4 : m < 4000 := by have := of_decide_eq_true hc; omega
            refine ⟨_, rfl, _, rfl, _, rfl, _, rfl, plv, st, np, d2, tl, bl, ps, nums, S, m, n, rfl, p9, hin, J9.n, J9.l, J9.z.n.2.2.2.1, J9.z.n.2.2.2.2, hpc, htk, hw, (by omega), fun st' r H10 hr A10 b10 => ?_⟩
            have gi := go_in (ps := ps) (nums := nums) (S := S) hin hpc htk n
            have gw := go_word (ps := ps) (nums := nums) (S := S) hin hpc htk hw n
            have cl := cnt_le (ps := ps) (nums := nums) (S := S) n
            have W10 := J9.w.but J9.l J9.z b10
            have p10 := J9.l.rd b10 p9 (noList_plan ps)
            have o10 : ∀ c o, H4 c = some o → H10 c = some o := fun c o e => F.but b10 e (s49 c o e)
            obtain ⟨dw, how⟩ := W10.ob
            refine ⟨r, _, rfl, SqT.of hr, rfl, _, _, rfl, _, _, rfl, rfl, ?_⟩
            refine ⟨_, rfl, _, rfl, _, _, rfl, rfl, ?_⟩
            refine ⟨_, rfl, wp, dw, _, rfl, how, wno_go, _, rfl, wp, p, pl, d, nl, sl, plv, nums, S, m, n, ps, rfl, W10, p10, hin, hpc, htk, (by omega), fun H11 W11 b11 => ?_⟩
            have J11 := J9.went A10 b10 W11 b11
            have p11 := W10.rd b11 p10 (noList_plan ps)
            have o11 : ∀ c o, H4 c = some o → H11 c = some o := fun c o e => F.but6 b11 e (o10 c o e)
            clear A10 W11
            generalize goF ps nums n S = G at J11 gi gw
            generalize cntF ps nums n S = cn at J11 cl
            refine ⟨_, rfl, _, rfl, rfl, _, rfl, ?_⟩
            refine iteFb (by simp) ?_
            refine ⟨_, rfl, _, _, _, false, rfl, TyOf.int _, rfl, _, rfl, iteF ?_⟩
            exact ⟨st', nums, G, m + cn, _, _, _, _, _, _, rfl, J11, gi.1, gi.2, gw, (by omega), hn6, p11, o11⟩
          · refine ⟨_, rfl, rfl, _, rfl, ?_⟩
            refine iteFb (show decide (V.str "go" = V.str "hand") = false by decide +kernel) ?_
            exact ⟨st, nums, S, m, _, _, _, _, _, _, rfl, J9, hpc, htk, hw, hm, hn6, p9, s49⟩
      clear J9 hcall p9 s49 hpc htk hw hm hn6
      rintro σ' H12 ⟨st, nums, S, m, u1, u2, u3, u4, u5, u6, rfl, J12, hpc, htk, hw, hm, hn6, p12, s12⟩
      refine ⟨_, rfl, _, rfl, _, rfl, _, rfl, _, rfl, wp, p, pl, d, nl, sl, st, np, d2, tl, bl, plv, ps, xs, 4, nums, S, m, rfl, J12.w, J12.l, J12.n, p12, pok, xok.2, hpc, hw, (by omega), fun Hz sz => ⟨_, rfl, iteF ?_⟩⟩
      exact ⟨st, nums, S, m, _, _, _, _, _, _, rfl, J12.same sz, hpc, htk, hw, hm, hn6, s12.trans sz⟩
    · clear J6 s6 H6 hpc0 hlen
      rintro σ H7 ⟨st, nums, S, m, u1, u2, u3, u4, u5, u6, rfl, J7, hpc, htk, hw, hm, hn6, s7⟩
      obtain ⟨bx, by_, hb4, _⟩ := id B4
      refine ⟨_, rfl, (by decide), (by decide), for_range (lo := 0) (fun i σ H' => ∃ (st : Addr) (nums : List Int) (S : RS) (m : Nat) (u1 u2 u3 u4 u5 u6 : Option V), σ = [some (.ref a), some (.ref b), some plv, some (.ref wp), some (.ref st), some (.ref np), some (.int m), u1, u2, u3, u4, u5, u6] ∧ Joint C D H' wp p pl d nl sl st d2 tl bl np plv nums S m ∧ S.piece < ps.length ∧ S.taken ≤ nums.length ∧ WordOk S ∧ m < 6000 + 2000 * i ∧ nums.length ≤ 600 + 200 * i ∧ Bag H' b ∧ Fix b H4 H') ?_ ?_ ?_⟩
      · exact ⟨st, nums, S, m, _, _, _, _, _, _, rfl, J7, hpc, htk, hw, (by omega), (by omega), B4.same s7, Fix.of_same s7⟩
      · clear J7 s7 H7 hpc htk hw hm hn6
        rintro i σ H8 hi ⟨st, nums, S, m, u1, u2, u3, u4, u5, u6, rfl, J8, hpc, htk, hw, hm, hn6, B8, X8⟩
        have hi2 : i < 2 := hi
        refine gname_ ?_
        refine ⟨fun σ' H' => ∃ (t : Addr) (ns' : List Int), σ' = [some (.ref a), some (.ref b), some plv, some (.ref wp), some (.ref st), some (.ref np), some (.int m), some (.int (0 + i)), u2, u3, u4, u5, some (.ref t)] ∧ H' t = some (.tup (ns'.map V.int)) ∧ ns'.length = 200 ∧ Joint C D H' wp p pl d nl sl st d2 tl bl np plv nums S m ∧ Bag H' b ∧ Fix b H4 H', ⟨_, rfl, (by decide), (by decide), fun acc na => ?_⟩, ?_⟩
        · have hab : acc ≠ b := B8.ne_new na
          refine lc_range (lo := 0) (fun j ys τ H' => ∃ (v : Option V) (ns : List Int), τ = [v, some (.ref b)] ∧ ys = ns.map V.int ∧ ns.length = j ∧ H' acc = some (.lst ys) ∧ Bag H' b ∧ Fix b H8 H') ?_ ?_ ?_ ?_
          · exact ⟨none, [], rfl, rfl, rfl, upd_same, B8.new na, Fix.new na⟩
          · rintro j ys τ H5 hj ⟨v, ns, rfl, rfl, hl', ha, _⟩
            have : j ≤ 200 := hj
            exact ⟨ha, by rw [List.length_map]; exact small1000 (by omega)⟩
          · rintro j ys τ H5 hj ⟨v, ns, rfl, rfl, hl', ha, B5, X5⟩
            refine gname_ ?_
            refine yes_ ?_
            refine iteT ?_
            refine ⟨_, rfl, b, rfl, B5, fun n H6 nk B6 X6 => ?_⟩
            have ha6 := X6 acc _ ha hab
            refine ⟨ha6, _, ns ++ [n], rfl, (by rw [List.map_append]; rfl), (by rw [List.length_append, hl']; rfl), upd_same, ?_, ?_⟩
            · obtain ⟨x, y, e, z⟩ := B6
              exact ⟨x, y, by rw [upd_ne hab.symm]; exact e, z⟩
            · intro d' o hd nd
              rw [upd_ne (ne_of_none hd na)]
              exact (X5.trans X6) d' o hd nd
          · rintro ys τ H5 ⟨v, ns, rfl, rfl, hl', ha, B5, X5⟩
            refine ⟨acc, _, rfl, .inl ⟨SqL.of ha, fun t tn => ?_⟩⟩
            exact ⟨t, ns, rfl, upd_same, hl', (J8.fixb F hb4 B8 X5).same (Same.new tn), B5.new tn, (X8.trans X5).trans (Fix.new tn)⟩
        rintro σ' H9 ⟨t, ns', rfl, ht, hl200, J9, B9, X9⟩
        clear J8 B8 X8
        have p9 : RdD H9 plv (dPlan ps) := r4.fix B4 X9 (noList_plan ps)
        obtain ⟨dw, how⟩ := J9.w.ob

        refine ⟨_, rfl, wp, dw, _, rfl, how, wno_hand, _, rfl, wp, p, pl, d, nl, sl, t, plv, nums, ns', S, m, rfl, J9.w, ht, (by omega), fun H10 W10 b10 => ?_⟩
        have t10 : H10 t = some (.tup (ns'.map V.int)) := J9.w.tup b10 ht
        have p10 : RdD H10 plv (dPlan ps) := J9.w.rd b10 p9 (noList_plan ps)
        obtain ⟨n10, J11⟩ := J9.handed W10 b10
        refine ⟨_, rfl, .inl ⟨rfl, _, SqL.of n10⟩, _, rfl, np, t, _, _, rfl, rfl, n10, SqT.of t10, (by rw [List.length_map, List.length_map]; exact Nat.le_of_lt (small1000' (by omega))), ?_⟩
        have p11 : RdD (upd H10 np (.lst (nums.map V.int ++ ns'.map V.int))) plv (dPlan ps) := p10.tups (fun c ys e => by rw [upd_ne (ne_of e n10 (by intro z; cases z))]; exact e) (noList_plan ps)
        have oldb11 : ∀ o, H10 b = some o → (upd H10 np (.lst (nums.map V.int ++ ns'.map V.int))) b = some o := fun o h => by
          obtain ⟨bx, by_, hb4, _⟩ := id B4
          rw [upd_ne (ne_of_none hb4 F.np)]
          exact h
        have old11 : ∀ c o, H4 c = some o → H9 c = some o → (upd H10 np (.lst (nums.map V.int ++ ns'.map V.int))) c = some o := fun c o e h => by
          rw [upd_ne (ne_of_none e F.np)]
          exact F.but6 b10 e h
        generalize (upd H10 np (.lst (nums.map V.int ++ ns'.map V.int))) = H11 at J11 p11 old11 oldb11
        have tk11 : S.taken ≤ (nums ++ ns').length := by rw [List.length_append]; omega
        have B11 : Bag H11 b := by
          obtain ⟨x9, y9, e9, z9⟩ := B9
          obtain ⟨x4, y4, e4, z4⟩ := id B4
          exact ⟨x9, y9, (by have := F.but6_at b10 hb4 e9; exact oldb11 _ this), z9⟩
        have X11 : Fix b H4 H11 := fun c o e n => old11 c o e (X9 c o e n)
        generalize hnm : nums ++ ns' = nums2 at J11 tk11
        have hl2 : nums2.length ≤ 800 + 200 * i := by rw [← hnm, List.length_append]; omega
        refine ⟨_, rfl, _, rfl, _, rfl, plv, st, np, d2, tl, bl, ps, nums2, S, m, 2000, rfl, p11, hin, J11.n, J11.l, J11.z.n.2.2.2.1, J11.z.n.2.2.2.2, hpc, tk11, hw, (by omega), fun st' r H12 hr A12 b12 => ?_⟩
        have gi := go_in (ps := ps) (nums := nums2) (S := S) hin hpc tk11 2000
        have gw := go_word (ps := ps) (nums := nums2) (S := S) hin hpc tk11 hw 2000
        have cl := cnt_le (ps := ps) (nums := nums2) (S := S) 2000
        have W12 := J11.w.but J11.l J11.z b12
        have p12 := J11.l.rd b12 p11 (noList_plan ps)
        obtain ⟨dw2, how2⟩ := W12.ob
        refine ⟨r, _, rfl, SqT.of hr, rfl, _, _, rfl, _, _, rfl, rfl, ?_⟩
        refine ⟨_, rfl, _, rfl, _, _, rfl, rfl, ?_⟩
        refine ⟨_, rfl, wp, dw2, _, rfl, how2, wno_go, wp, p, pl, d, nl, sl, plv, nums2, S, m, 2000, ps, rfl, W12, p12, hin, hpc, tk11, (by omega), fun H13 W13 b13 => ?_⟩
        have J13 := J11.went A12 b12 W13 b13
        have p13 := W12.rd b13 p12 (noList_plan ps)
        have o13 : ∀ c o, H4 c = some o → H11 c = some o → H13 c = some o := fun c o e h => F.but6 b13 e (F.but b12 e h)
        have B13 : Bag H13 b := by
          obtain ⟨x9, y9, e9, z9⟩ := B11
          exact ⟨x9, y9, F.but6_at b13 hb4 (F.but_at b12 hb4 e9), z9⟩
        clear A12 W13
        generalize goF ps nums2 2000 S = G at J13 gi gw
        generalize cntF ps nums2 2000 S = cn at J13 cl
        refine ⟨_, rfl, rfl, _, rfl, ?_⟩
        refine iteFb (by simp) ?_
        refine ⟨_, rfl, _, rfl, _, rfl, _, rfl, _, rfl, wp, p, pl, d, nl, sl, st', np, d2, tl, bl, plv, ps, xs, 4, nums2, G, (m + cn), rfl, J13.w, J13.l, J13.n, p13, pok, xok.2, gi.1, gw, (by omega), fun Hz sz => ⟨_, rfl, iteF ?_⟩⟩
        exact ⟨st', nums2, G, m + cn, _, _, _, _, _, _, rfl, J13.same sz, gi.1, gi.2, gw, (by omega), (by omega), B13.same sz, fun c o e n => sz c o (o13 c o e (X11 c o e n))⟩
      · rintro σ H8 ⟨st, nums, S, m, u1, u2, u3, u4, u5, u6, rfl, J8, hpc, htk, hw, hm, hn6, B8, X8⟩
        exact q H8
end
end My

set_option Elab.async false
set_option linter.all false
set_option maxRecDepth 100000
namespace My
open PySem PySem.Spec PyProof.Rows L2
set_option maxHeartbeats 4000000 in
theorem all_mk {l : PySem.W.OpenLaw} {w : World} {K : PySem.W.Frag} {h : Heap} {mg : Str → Option Value} {fa : Addr} (X : K.In h) (G : h.Ns mainGlobals mg) (hfa : mg "law" = some (.ref fa))
    {f0 : Addr} {od0 an0 : Option Addr} {sl0 : Array (Option Value)} {oc0 kV0 dc0 pm0 cd0 ct0 : Value}
    {f1 : Addr} {od1 an1 : Option Addr} {sl1 : Array (Option Value)} {oc1 kV1 dc1 pm1 cd1 ct1 : Value}
    {f2 : Addr} {od2 an2 : Option Addr} {sl2 : Array (Option Value)} {oc2 kV2 dc2 pm2 cd2 ct2 : Value}
    {f3 : Addr} {od3 an3 : Option Addr} {sl3 : Array (Option Value)} {oc3 kV3 dc3 pm3 cd3 ct3 : Value}
    {f4 : Addr} {od4 an4 : Option Addr} {sl4 : Array (Option Value)} {oc4 kV4 dc4 pm4 cd4 ct4 : Value}
    {f5 : Addr} {od5 an5 : Option Addr} {sl5 : Array (Option Value)} {oc5 kV5 dc5 pm5 cd5 ct5 : Value}
    {f6 : Addr} {od6 an6 : Option Addr} {sl6 : Array (Option Value)} {oc6 kV6 dc6 pm6 cd6 ct6 : Value}
    {f7 : Addr} {od7 an7 : Option Addr} {sl7 : Array (Option Value)} {oc7 kV7 dc7 pm7 cd7 ct7 : Value}
    {f8 : Addr} {od8 an8 : Option Addr} {sl8 : Array (Option Value)} {oc8 kV8 dc8 pm8 cd8 ct8 : Value}
    {f9 : Addr} {od9 an9 : Option Addr} {sl9 : Array (Option Value)} {oc9 kV9 dc9 pm9 cd9 ct9 : Value}
    {f10 : Addr} {od10 an10 : Option Addr} {sl10 : Array (Option Value)} {oc10 kV10 dc10 pm10 cd10 ct10 : Value}
    {f11 : Addr} {od11 an11 : Option Addr} {sl11 : Array (Option Value)} {oc11 kV11 dc11 pm11 cd11 ct11 : Value}
    {f12 : Addr} {od12 an12 : Option Addr} {sl12 : Array (Option Value)} {oc12 kV12 dc12 pm12 cd12 ct12 : Value}
    {f13 : Addr} {od13 an13 : Option Addr} {sl13 : Array (Option Value)} {oc13 kV13 dc13 pm13 cd13 ct13 : Value}
    {f14 : Addr} {od14 an14 : Option Addr} {sl14 : Array (Option Value)} {oc14 kV14 dc14 pm14 cd14 ct14 : Value}
    {f15 : Addr} {od15 an15 : Option Addr} {sl15 : Array (Option Value)} {oc15 kV15 dc15 pm15 cd15 ct15 : Value}
    {f16 : Addr} {od16 an16 : Option Addr} {sl16 : Array (Option Value)} {oc16 kV16 dc16 pm16 cd16 ct16 : Value}
    {f17 : Addr} {od17 an17 : Option Addr} {sl17 : Array (Option Value)} {oc17 kV17 dc17 pm17 cd17 ct17 : Value}
    {f18 : Addr} {od18 an18 : Option Addr} {sl18 : Array (Option Value)} {oc18 kV18 dc18 pm18 cd18 ct18 : Value}
    {f19 : Addr} {od19 an19 : Option Addr} {sl19 : Array (Option Value)} {oc19 kV19 dc19 pm19 cd19 ct19 : Value}
    {f20 : Addr} {od20 an20 : Option Addr} {sl20 : Array (Option Value)} {oc20 kV20 dc20 pm20 cd20 ct20 : Value}
    {f21 : Addr} {od21 an21 : Option Addr} {sl21 : Array (Option Value)} {oc21 kV21 dc21 pm21 cd21 ct21 : Value}
    {f22 : Addr} {od22 an22 : Option Addr} {sl22 : Array (Option Value)} {oc22 kV22 dc22 pm22 cd22 ct22 : Value}
    {f23 : Addr} {od23 an23 : Option Addr} {sl23 : Array (Option Value)} {oc23 kV23 dc23 pm23 cd23 ct23 : Value}
    {f24 : Addr} {od24 an24 : Option Addr} {sl24 : Array (Option Value)} {oc24 kV24 dc24 pm24 cd24 ct24 : Value}
    {f25 : Addr} {od25 an25 : Option Addr} {sl25 : Array (Option Value)} {oc25 kV25 dc25 pm25 cd25 ct25 : Value}
    {f26 : Addr} {od26 an26 : Option Addr} {sl26 : Array (Option Value)} {oc26 kV26 dc26 pm26 cd26 ct26 : Value}
    {f27 : Addr} {od27 an27 : Option Addr} {sl27 : Array (Option Value)} {oc27 kV27 dc27 pm27 cd27 ct27 : Value}
    {f28 : Addr} {od28 an28 : Option Addr} {sl28 : Array (Option Value)} {oc28 kV28 dc28 pm28 cd28 ct28 : Value}
    {f29 : Addr} {od29 an29 : Option Addr} {sl29 : Array (Option Value)} {oc29 kV29 dc29 pm29 cd29 ct29 : Value}
    {f30 : Addr} {od30 an30 : Option Addr} {sl30 : Array (Option Value)} {oc30 kV30 dc30 pm30 cd30 ct30 : Value}
    {f31 : Addr} {od31 an31 : Option Addr} {sl31 : Array (Option Value)} {oc31 kV31 dc31 pm31 cd31 ct31 : Value}
    {f32 : Addr} {od32 an32 : Option Addr} {sl32 : Array (Option Value)} {oc32 kV32 dc32 pm32 cd32 ct32 : Value}
    {f33 : Addr} {od33 an33 : Option Addr} {sl33 : Array (Option Value)} {oc33 kV33 dc33 pm33 cd33 ct33 : Value}
    {f34 : Addr} {od34 an34 : Option Addr} {sl34 : Array (Option Value)} {oc34 kV34 dc34 pm34 cd34 ct34 : Value}
    {f35 : Addr} {od35 an35 : Option Addr} {sl35 : Array (Option Value)} {oc35 kV35 dc35 pm35 cd35 ct35 : Value}
    {f36 : Addr} {od36 an36 : Option Addr} {sl36 : Array (Option Value)} {oc36 kV36 dc36 pm36 cd36 ct36 : Value}
    {f37 : Addr} {od37 an37 : Option Addr} {sl37 : Array (Option Value)} {oc37 kV37 dc37 pm37 cd37 ct37 : Value}
    {f38 : Addr} {od38 an38 : Option Addr} {sl38 : Array (Option Value)} {oc38 kV38 dc38 pm38 cd38 ct38 : Value}
    {f39 : Addr} {od39 an39 : Option Addr} {sl39 : Array (Option Value)} {oc39 kV39 dc39 pm39 cd39 ct39 : Value}
    {f40 : Addr} {od40 an40 : Option Addr} {sl40 : Array (Option Value)} {oc40 kV40 dc40 pm40 cd40 ct40 : Value}
    {C : Addr}
    {D : Addr}
    (a0 : PySem.W.nsIn K mainGlobals "lies_in" = some (some (.ref f0))) (l0 : K.lookup f0 = some ⟨oc0, od0, .func (PySem.W.fnOf "lies_in" "lies_in" (defArgs s_lies_in) (defBody s_lies_in) (defScope s_lies_in) .none kV0 dc0 pm0 an0 cd0 ct0), sl0⟩) (c0 : PySem.W.codeIn K cd0 "lies_in" = true) (k0 : PySem.W.keepIn K (.ref f0) = true)
    (a1 : PySem.W.nsIn K mainGlobals "part_below" = some (some (.ref f1))) (l1 : K.lookup f1 = some ⟨oc1, od1, .func (PySem.W.fnOf "part_below" "part_below" (defArgs s_part_below) (defBody s_part_below) (defScope s_part_below) .none kV1 dc1 pm1 an1 cd1 ct1), sl1⟩) (c1 : PySem.W.codeIn K cd1 "part_below" = true) (k1 : PySem.W.keepIn K (.ref f1) = true)
    (a2 : PySem.W.nsIn K mainGlobals "part_from" = some (some (.ref f2))) (l2 : K.lookup f2 = some ⟨oc2, od2, .func (PySem.W.fnOf "part_from" "part_from" (defArgs s_part_from) (defBody s_part_from) (defScope s_part_from) .none kV2 dc2 pm2 an2 cd2 ct2), sl2⟩) (c2 : PySem.W.codeIn K cd2 "part_from" = true) (k2 : PySem.W.keepIn K (.ref f2) = true)
    (a3 : PySem.W.nsIn K mainGlobals "part_at" = some (some (.ref f3))) (l3 : K.lookup f3 = some ⟨oc3, od3, .func (PySem.W.fnOf "part_at" "part_at" (defArgs s_part_at) (defBody s_part_at) (defScope s_part_at) .none kV3 dc3 pm3 an3 cd3 ct3), sl3⟩) (c3 : PySem.W.codeIn K cd3 "part_at" = true) (k3 : PySem.W.keepIn K (.ref f3) = true)
    (a4 : PySem.W.nsIn K mainGlobals "part_beside" = some (some (.ref f4))) (l4 : K.lookup f4 = some ⟨oc4, od4, .func (PySem.W.fnOf "part_beside" "part_beside" (defArgs s_part_beside) (defBody s_part_beside) (defScope s_part_beside) .none kV4 dc4 pm4 an4 cd4 ct4), sl4⟩) (c4 : PySem.W.codeIn K cd4 "part_beside" = true) (k4 : PySem.W.keepIn K (.ref f4) = true)
    (a5 : PySem.W.nsIn K mainGlobals "part_of" = some (some (.ref f5))) (l5 : K.lookup f5 = some ⟨oc5, od5, .func (PySem.W.fnOf "part_of" "part_of" (defArgs s_part_of) (defBody s_part_of) (defScope s_part_of) .none kV5 dc5 pm5 an5 cd5 ct5), sl5⟩) (c5 : PySem.W.codeIn K cd5 "part_of" = true) (k5 : PySem.W.keepIn K (.ref f5) = true)
    (a6 : PySem.W.nsIn K mainGlobals "answer_of" = some (some (.ref f6))) (l6 : K.lookup f6 = some ⟨oc6, od6, .func (PySem.W.fnOf "answer_of" "answer_of" (defArgs s_answer_of) (defBody s_answer_of) (defScope s_answer_of) .none kV6 dc6 pm6 an6 cd6 ct6), sl6⟩) (c6 : PySem.W.codeIn K cd6 "answer_of" = true) (k6 : PySem.W.keepIn K (.ref f6) = true)
    (a7 : PySem.W.findIn K (.ref C) "worth" = some (some (.ref f7))) (i7 : PySem.W.isFn K (.ref f7) = true) (l7 : K.lookup f7 = some ⟨oc7, od7, .func (PySem.W.fnOf "worth" "Stand.worth" (defArgs s_Stand_worth) (defBody s_Stand_worth) (defScope s_Stand_worth) .none kV7 dc7 pm7 an7 cd7 ct7), sl7⟩) (c7 : PySem.W.codeIn K cd7 "Stand.worth" = true) (k7 : PySem.W.keepIn K (.ref f7) = true)
    (a8 : PySem.W.findIn K (.ref C) "coming" = some (some (.ref f8))) (i8 : PySem.W.isFn K (.ref f8) = true) (l8 : K.lookup f8 = some ⟨oc8, od8, .func (PySem.W.fnOf "coming" "Stand.coming" (defArgs s_Stand_coming) (defBody s_Stand_coming) (defScope s_Stand_coming) .none kV8 dc8 pm8 an8 cd8 ct8), sl8⟩) (c8 : PySem.W.codeIn K cd8 "Stand.coming" = true) (k8 : PySem.W.keepIn K (.ref f8) = true)
    (a9 : PySem.W.findIn K (.ref C) "lacks_number" = some (some (.ref f9))) (i9 : PySem.W.isFn K (.ref f9) = true) (l9 : K.lookup f9 = some ⟨oc9, od9, .func (PySem.W.fnOf "lacks_number" "Stand.lacks_number" (defArgs s_Stand_lacks_number) (defBody s_Stand_lacks_number) (defScope s_Stand_lacks_number) .none kV9 dc9 pm9 an9 cd9 ct9), sl9⟩) (c9 : PySem.W.codeIn K cd9 "Stand.lacks_number" = true) (k9 : PySem.W.keepIn K (.ref f9) = true)
    (a10 : PySem.W.findIn K (.ref C) "is_held" = some (some (.ref f10))) (i10 : PySem.W.isFn K (.ref f10) = true) (l10 : K.lookup f10 = some ⟨oc10, od10, .func (PySem.W.fnOf "is_held" "Stand.is_held" (defArgs s_Stand_is_held) (defBody s_Stand_is_held) (defScope s_Stand_is_held) .none kV10 dc10 pm10 an10 cd10 ct10), sl10⟩) (c10 : PySem.W.codeIn K cd10 "Stand.is_held" = true) (k10 : PySem.W.keepIn K (.ref f10) = true)
    (a11 : PySem.W.findIn K (.ref C) "take_number" = some (some (.ref f11))) (i11 : PySem.W.isFn K (.ref f11) = true) (l11 : K.lookup f11 = some ⟨oc11, od11, .func (PySem.W.fnOf "take_number" "Stand.take_number" (defArgs s_Stand_take_number) (defBody s_Stand_take_number) (defScope s_Stand_take_number) .none kV11 dc11 pm11 an11 cd11 ct11), sl11⟩) (c11 : PySem.W.codeIn K cd11 "Stand.take_number" = true) (k11 : PySem.W.keepIn K (.ref f11) = true)
    (a12 : PySem.W.findIn K (.ref C) "do_deed" = some (some (.ref f12))) (i12 : PySem.W.isFn K (.ref f12) = true) (l12 : K.lookup f12 = some ⟨oc12, od12, .func (PySem.W.fnOf "do_deed" "Stand.do_deed" (defArgs s_Stand_do_deed) (defBody s_Stand_do_deed) (defScope s_Stand_do_deed) .none kV12 dc12 pm12 an12 cd12 ct12), sl12⟩) (c12 : PySem.W.codeIn K cd12 "Stand.do_deed" = true) (k12 : PySem.W.keepIn K (.ref f12) = true)
    (a13 : PySem.W.findIn K (.ref C) "come_to" = some (some (.ref f13))) (i13 : PySem.W.isFn K (.ref f13) = true) (l13 : K.lookup f13 = some ⟨oc13, od13, .func (PySem.W.fnOf "come_to" "Stand.come_to" (defArgs s_Stand_come_to) (defBody s_Stand_come_to) (defScope s_Stand_come_to) .none kV13 dc13 pm13 an13 cd13 ct13), sl13⟩) (c13 : PySem.W.codeIn K cd13 "Stand.come_to" = true) (k13 : PySem.W.keepIn K (.ref f13) = true)
    (a14 : PySem.W.findIn K (.ref C) "do_end" = some (some (.ref f14))) (i14 : PySem.W.isFn K (.ref f14) = true) (l14 : K.lookup f14 = some ⟨oc14, od14, .func (PySem.W.fnOf "do_end" "Stand.do_end" (defArgs s_Stand_do_end) (defBody s_Stand_do_end) (defScope s_Stand_do_end) .none kV14 dc14 pm14 an14 cd14 ct14), sl14⟩) (c14 : PySem.W.codeIn K cd14 "Stand.do_end" = true) (k14 : PySem.W.keepIn K (.ref f14) = true)
    (a15 : PySem.W.findIn K (.ref C) "do_step" = some (some (.ref f15))) (i15 : PySem.W.isFn K (.ref f15) = true) (l15 : K.lookup f15 = some ⟨oc15, od15, .func (PySem.W.fnOf "do_step" "Stand.do_step" (defArgs s_Stand_do_step) (defBody s_Stand_do_step) (defScope s_Stand_do_step) .none kV15 dc15 pm15 an15 cd15 ct15), sl15⟩) (c15 : PySem.W.codeIn K cd15 "Stand.do_step" = true) (k15 : PySem.W.keepIn K (.ref f15) = true)
    (a16 : PySem.W.findIn K (.ref C) "__init__" = some (some (.ref f16))) (i16 : PySem.W.isFn K (.ref f16) = true) (l16 : K.lookup f16 = some ⟨oc16, od16, .func (PySem.W.fnOf "__init__" "Stand.__init__" (defArgs s_Stand___init__) (defBody s_Stand___init__) (defScope s_Stand___init__) .none kV16 dc16 pm16 an16 cd16 ct16), sl16⟩) (c16 : PySem.W.codeIn K cd16 "Stand.__init__" = true) (k16 : PySem.W.keepIn K (.ref f16) = true)
    (a17 : PySem.W.nsIn K mainGlobals "go_on" = some (some (.ref f17))) (l17 : K.lookup f17 = some ⟨oc17, od17, .func (PySem.W.fnOf "go_on" "go_on" (defArgs s_go_on) (defBody s_go_on) (defScope s_go_on) .none kV17 dc17 pm17 an17 cd17 ct17), sl17⟩) (c17 : PySem.W.codeIn K cd17 "go_on" = true) (k17 : PySem.W.keepIn K (.ref f17) = true)
    (a18 : PySem.W.findIn K (.ref D) "__init__" = some (some (.ref f18))) (i18 : PySem.W.isFn K (.ref f18) = true) (l18 : K.lookup f18 = some ⟨oc18, od18, .func (PySem.W.fnOf "__init__" "Walker.__init__" (defArgs s_Walker___init__) (defBody s_Walker___init__) (defScope s_Walker___init__) .none kV18 dc18 pm18 an18 cd18 ct18), sl18⟩) (c18 : PySem.W.codeIn K cd18 "Walker.__init__" = true) (k18 : PySem.W.keepIn K (.ref f18) = true)
    (a19 : PySem.W.findIn K (.ref D) "hand" = some (some (.ref f19))) (i19 : PySem.W.isFn K (.ref f19) = true) (l19 : K.lookup f19 = some ⟨oc19, od19, .func (PySem.W.fnOf "hand" "Walker.hand" (defArgs s_Walker_hand) (defBody s_Walker_hand) (defScope s_Walker_hand) .none kV19 dc19 pm19 an19 cd19 ct19), sl19⟩) (c19 : PySem.W.codeIn K cd19 "Walker.hand" = true) (k19 : PySem.W.keepIn K (.ref f19) = true)
    (a20 : PySem.W.findIn K (.ref D) "go" = some (some (.ref f20))) (i20 : PySem.W.isFn K (.ref f20) = true) (l20 : K.lookup f20 = some ⟨oc20, od20, .func (PySem.W.fnOf "go" "Walker.go" (defArgs s_Walker_go) (defBody s_Walker_go) (defScope s_Walker_go) .none kV20 dc20 pm20 an20 cd20 ct20), sl20⟩) (c20 : PySem.W.codeIn K cd20 "Walker.go" = true) (k20 : PySem.W.keepIn K (.ref f20) = true)
    (a21 : PySem.W.findIn K (.ref D) "word" = some (some (.ref f21))) (i21 : PySem.W.isFn K (.ref f21) = true) (l21 : K.lookup f21 = some ⟨oc21, od21, .func (PySem.W.fnOf "word" "Walker.word" (defArgs s_Walker_word) (defBody s_Walker_word) (defScope s_Walker_word) .none kV21 dc21 pm21 an21 cd21 ct21), sl21⟩) (c21 : PySem.W.codeIn K cd21 "Walker.word" = true) (k21 : PySem.W.keepIn K (.ref f21) = true)
    (a22 : PySem.W.findIn K (.ref D) "piece" = some (some (.ref f22))) (i22 : PySem.W.isFn K (.ref f22) = true) (l22 : K.lookup f22 = some ⟨oc22, od22, .func (PySem.W.fnOf "piece" "Walker.piece" (defArgs s_Walker_piece) (defBody s_Walker_piece) (defScope s_Walker_piece) .none kV22 dc22 pm22 an22 cd22 ct22), sl22⟩) (c22 : PySem.W.codeIn K cd22 "Walker.piece" = true) (k22 : PySem.W.keepIn K (.ref f22) = true)
    (a23 : PySem.W.findIn K (.ref D) "told" = some (some (.ref f23))) (i23 : PySem.W.isFn K (.ref f23) = true) (l23 : K.lookup f23 = some ⟨oc23, od23, .func (PySem.W.fnOf "told" "Walker.told" (defArgs s_Walker_told) (defBody s_Walker_told) (defScope s_Walker_told) .none kV23 dc23 pm23 an23 cd23 ct23), sl23⟩) (c23 : PySem.W.codeIn K cd23 "Walker.told" = true) (k23 : PySem.W.keepIn K (.ref f23) = true)
    (a24 : PySem.W.findIn K (.ref D) "worth" = some (some (.ref f24))) (i24 : PySem.W.isFn K (.ref f24) = true) (l24 : K.lookup f24 = some ⟨oc24, od24, .func (PySem.W.fnOf "worth" "Walker.worth" (defArgs s_Walker_worth) (defBody s_Walker_worth) (defScope s_Walker_worth) .none kV24 dc24 pm24 an24 cd24 ct24), sl24⟩) (c24 : PySem.W.codeIn K cd24 "Walker.worth" = true) (k24 : PySem.W.keepIn K (.ref f24) = true)
    (a25 : PySem.W.findIn K (.ref D) "steps" = some (some (.ref f25))) (i25 : PySem.W.isFn K (.ref f25) = true) (l25 : K.lookup f25 = some ⟨oc25, od25, .func (PySem.W.fnOf "steps" "Walker.steps" (defArgs s_Walker_steps) (defBody s_Walker_steps) (defScope s_Walker_steps) .none kV25 dc25 pm25 an25 cd25 ct25), sl25⟩) (c25 : PySem.W.codeIn K cd25 "Walker.steps" = true) (k25 : PySem.W.keepIn K (.ref f25) = true)
    (a26 : PySem.W.nsIn K mainGlobals "_law_bag" = some (some (.ref f26))) (l26 : K.lookup f26 = some ⟨oc26, od26, .func (PySem.W.fnOf "_law_bag" "_law_bag" (defArgs s_law_bag) (defBody s_law_bag) (defScope s_law_bag) .none kV26 dc26 pm26 an26 cd26 ct26), sl26⟩) (c26 : PySem.W.codeIn K cd26 "_law_bag" = true) (k26 : PySem.W.keepIn K (.ref f26) = true)
    (a27 : PySem.W.nsIn K mainGlobals "_law_take" = some (some (.ref f27))) (l27 : K.lookup f27 = some ⟨oc27, od27, .func (PySem.W.fnOf "_law_take" "_law_take" (defArgs s_law_take) (defBody s_law_take) (defScope s_law_take) .none kV27 dc27 pm27 an27 cd27 ct27), sl27⟩) (c27 : PySem.W.codeIn K cd27 "_law_take" = true) (k27 : PySem.W.keepIn K (.ref f27) = true)
    (a28 : PySem.W.nsIn K mainGlobals "_law_names" = some (some (.ref f28))) (l28 : K.lookup f28 = some ⟨oc28, od28, .func (PySem.W.fnOf "_law_names" "_law_names" (defArgs s_law_names) (defBody s_law_names) (defScope s_law_names) .none kV28 dc28 pm28 an28 cd28 ct28), sl28⟩) (c28 : PySem.W.codeIn K cd28 "_law_names" = true) (k28 : PySem.W.keepIn K (.ref f28) = true)
    (a29 : PySem.W.nsIn K mainGlobals "_law_number" = some (some (.ref f29))) (l29 : K.lookup f29 = some ⟨oc29, od29, .func (PySem.W.fnOf "_law_number" "_law_number" (defArgs s_law_number) (defBody s_law_number) (defScope s_law_number) .none kV29 dc29 pm29 an29 cd29 ct29), sl29⟩) (c29 : PySem.W.codeIn K cd29 "_law_number" = true) (k29 : PySem.W.keepIn K (.ref f29) = true)
    (a30 : PySem.W.nsIn K mainGlobals "_law_deed" = some (some (.ref f30))) (l30 : K.lookup f30 = some ⟨oc30, od30, .func (PySem.W.fnOf "_law_deed" "_law_deed" (defArgs s_law_deed) (defBody s_law_deed) (defScope s_law_deed) .none kV30 dc30 pm30 an30 cd30 ct30), sl30⟩) (c30 : PySem.W.codeIn K cd30 "_law_deed" = true) (k30 : PySem.W.keepIn K (.ref f30) = true)
    (a31 : PySem.W.nsIn K mainGlobals "_law_end" = some (some (.ref f31))) (l31 : K.lookup f31 = some ⟨oc31, od31, .func (PySem.W.fnOf "_law_end" "_law_end" (defArgs s_law_end) (defBody s_law_end) (defScope s_law_end) .none kV31 dc31 pm31 an31 cd31 ct31), sl31⟩) (c31 : PySem.W.codeIn K cd31 "_law_end" = true) (k31 : PySem.W.keepIn K (.ref f31) = true)
    (a32 : PySem.W.nsIn K mainGlobals "_law_plan" = some (some (.ref f32))) (l32 : K.lookup f32 = some ⟨oc32, od32, .func (PySem.W.fnOf "_law_plan" "_law_plan" (defArgs s_law_plan) (defBody s_law_plan) (defScope s_law_plan) .none kV32 dc32 pm32 an32 cd32 ct32), sl32⟩) (c32 : PySem.W.codeIn K cd32 "_law_plan" = true) (k32 : PySem.W.keepIn K (.ref f32) = true)
    (a33 : PySem.W.nsIn K mainGlobals "_law_count" = some (some (.ref f33))) (l33 : K.lookup f33 = some ⟨oc33, od33, .func (PySem.W.fnOf "_law_count" "_law_count" (defArgs s_law_count) (defBody s_law_count) (defScope s_law_count) .none kV33 dc33 pm33 an33 cd33 ct33), sl33⟩) (c33 : PySem.W.codeIn K cd33 "_law_count" = true) (k33 : PySem.W.keepIn K (.ref f33) = true)
    (a34 : PySem.W.nsIn K mainGlobals "_law_step" = some (some (.ref f34))) (l34 : K.lookup f34 = some ⟨oc34, od34, .func (PySem.W.fnOf "_law_step" "_law_step" (defArgs s_law_step) (defBody s_law_step) (defScope s_law_step) .none kV34 dc34 pm34 an34 cd34 ct34), sl34⟩) (c34 : PySem.W.codeIn K cd34 "_law_step" = true) (k34 : PySem.W.keepIn K (.ref f34) = true)
    (a35 : PySem.W.nsIn K mainGlobals "_law_stand" = some (some (.ref f35))) (l35 : K.lookup f35 = some ⟨oc35, od35, .func (PySem.W.fnOf "_law_stand" "_law_stand" (defArgs s_law_stand) (defBody s_law_stand) (defScope s_law_stand) .none kV35 dc35 pm35 an35 cd35 ct35), sl35⟩) (c35 : PySem.W.codeIn K cd35 "_law_stand" = true) (k35 : PySem.W.keepIn K (.ref f35) = true)
    (a36 : PySem.W.nsIn K mainGlobals "_law_gone" = some (some (.ref f36))) (l36 : K.lookup f36 = some ⟨oc36, od36, .func (PySem.W.fnOf "_law_gone" "_law_gone" (defArgs s_law_gone) (defBody s_law_gone) (defScope s_law_gone) .none kV36 dc36 pm36 an36 cd36 ct36), sl36⟩) (c36 : PySem.W.codeIn K cd36 "_law_gone" = true) (k36 : PySem.W.keepIn K (.ref f36) = true)
    (a37 : PySem.W.nsIn K mainGlobals "_law_names_in" = some (some (.ref f37))) (l37 : K.lookup f37 = some ⟨oc37, od37, .func (PySem.W.fnOf "_law_names_in" "_law_names_in" (defArgs s_law_names_in) (defBody s_law_names_in) (defScope s_law_names_in) .none kV37 dc37 pm37 an37 cd37 ct37), sl37⟩) (c37 : PySem.W.codeIn K cd37 "_law_names_in" = true) (k37 : PySem.W.keepIn K (.ref f37) = true)
    (a38 : PySem.W.nsIn K mainGlobals "_law_tells" = some (some (.ref f38))) (l38 : K.lookup f38 = some ⟨oc38, od38, .func (PySem.W.fnOf "_law_tells" "_law_tells" (defArgs s_law_tells) (defBody s_law_tells) (defScope s_law_tells) .none kV38 dc38 pm38 an38 cd38 ct38), sl38⟩) (c38 : PySem.W.codeIn K cd38 "_law_tells" = true) (k38 : PySem.W.keepIn K (.ref f38) = true)
    (a39 : PySem.W.nsIn K mainGlobals "_law_call" = some (some (.ref f39))) (l39 : K.lookup f39 = some ⟨oc39, od39, .func (PySem.W.fnOf "_law_call" "_law_call" (defArgs s_law_call) (defBody s_law_call) (defScope s_law_call) .none kV39 dc39 pm39 an39 cd39 ct39), sl39⟩) (c39 : PySem.W.codeIn K cd39 "_law_call" = true) (k39 : PySem.W.keepIn K (.ref f39) = true)
    (a40 : PySem.W.nsIn K mainGlobals "law" = some (some (.ref f40))) (l40 : K.lookup f40 = some ⟨oc40, od40, .func (PySem.W.fnOf "law" "law" (defArgs s_law) (defBody s_law) (defScope s_law) .none kV40 dc40 pm40 an40 cd40 ct40), sl40⟩) (c40 : PySem.W.codeIn K cd40 "law" = true) (k40 : PySem.W.keepIn K (.ref f40) = true)
    (z_len : PySem.W.nsIn K mainGlobals "len" = some none)
    (z_min : PySem.W.nsIn K mainGlobals "min" = some none)
    (z_max : PySem.W.nsIn K mainGlobals "max" = some none)
    (z_range : PySem.W.nsIn K mainGlobals "range" = some none)
    (z_list : PySem.W.nsIn K mainGlobals "list" = some none)
    (z_tuple : PySem.W.nsIn K mainGlobals "tuple" = some none)
    (z_int : PySem.W.nsIn K mainGlobals "int" = some none)
    (z_dict : PySem.W.nsIn K mainGlobals "dict" = some none)
    (z_isinstance : PySem.W.nsIn K mainGlobals "isinstance" = some none)
    (z_bool : PySem.W.nsIn K mainGlobals "bool" = some none)
    (z_sorted : PySem.W.nsIn K mainGlobals "sorted" = some none)
    (aCC : PySem.W.nsIn K mainGlobals "Stand" = some (some (.ref C))) (pgC : PySem.W.plainGet K C Str.empty = true) (hdC : PySem.W.hasDictIn K C = true) (poC : PySem.W.plainOver K C = true) (saC : PySem.W.findIn K (.ref C) "__setattr__" = some (some (.builtin "object.__setattr__"))) (mkC : PySem.W.makesIn K C = true) (kcC : PySem.W.keepIn K (.ref C) = true)
    (nC_pieces : PySem.W.findIn K (.ref C) "pieces" = some none)
    (nC_passed : PySem.W.findIn K (.ref C) "passed" = some none)
    (nC_place : PySem.W.findIn K (.ref C) "place" = some none)
    (nC_worths : PySem.W.findIn K (.ref C) "worths" = some none)
    (nC_numbers : PySem.W.findIn K (.ref C) "numbers" = some none)
    (nC_taken : PySem.W.findIn K (.ref C) "taken" = some none)
    (nC_spoken : PySem.W.findIn K (.ref C) "spoken" = some none)
    (nC_over : PySem.W.findIn K (.ref C) "over" = some none)
    (aCD : PySem.W.nsIn K mainGlobals "Walker" = some (some (.ref D))) (pgD : PySem.W.plainGet K D Str.empty = true) (hdD : PySem.W.hasDictIn K D = true) (poD : PySem.W.plainOver K D = true) (saD : PySem.W.findIn K (.ref D) "__setattr__" = some (some (.builtin "object.__setattr__"))) (mkD : PySem.W.makesIn K D = true) (kcD : PySem.W.keepIn K (.ref D) = true)
    (nD_stand : PySem.W.findIn K (.ref D) "stand" = some none)
    (nD_done : PySem.W.findIn K (.ref D) "done" = some none) :
    ∃ fd : FuncData, (∀ (s : Shared) (v : Value), BindsTo s fd ⟨[v], []⟩ [("script", v)]) ∧ ∀ base : Heap, K.In base → base.Ns mainGlobals mg → FnOk l.prog w K mg base CX0 10 fa fd ["script"] (spLaw K) := by
  have e := hfa.symm.trans (PySem.W.mg_of X G a40)
  cases e
  have Z : Bl mg := ⟨PySem.W.mg_none_of X G z_len, PySem.W.mg_none_of X G z_min, PySem.W.mg_none_of X G z_max, PySem.W.mg_none_of X G z_range, PySem.W.mg_none_of X G z_list, PySem.W.mg_none_of X G z_tuple, PySem.W.mg_none_of X G z_int, PySem.W.mg_none_of X G z_dict, PySem.W.mg_none_of X G z_isinstance, PySem.W.mg_none_of X G z_bool, PySem.W.mg_none_of X G z_sorted⟩
  have T : StT K C := ⟨⟨pgC, hdC, poC, saC⟩, nC_pieces, nC_passed, nC_place, nC_worths, nC_numbers, nC_taken, nC_spoken, nC_over⟩
  have TW : WkT K D := ⟨⟨pgD, hdD, poD, saD⟩, nD_stand, nD_done⟩
  have F0 := fun_mk (st := s_lies_in) l0 c0 k0
  have b0 := F0.binds (ps := ["number", "stretch"]) fun _ _ _ _ _ _ us hl => match us, hl with | [_, _], _ => rfl
  have F1 := fun_mk (st := s_part_below) l1 c1 k1
  have b1 := F1.binds (ps := ["stretch", "number"]) fun _ _ _ _ _ _ us hl => match us, hl with | [_, _], _ => rfl
  have F2 := fun_mk (st := s_part_from) l2 c2 k2
  have b2 := F2.binds (ps := ["stretch", "number"]) fun _ _ _ _ _ _ us hl => match us, hl with | [_, _], _ => rfl
  have F3 := fun_mk (st := s_part_at) l3 c3 k3
  have b3 := F3.binds (ps := ["stretch", "number"]) fun _ _ _ _ _ _ us hl => match us, hl with | [_, _], _ => rfl
  have F4 := fun_mk (st := s_part_beside) l4 c4 k4
  have b4 := F4.binds (ps := ["stretch", "number"]) fun _ _ _ _ _ _ us hl => match us, hl with | [_, _], _ => rfl
  have F5 := fun_mk (st := s_part_of) l5 c5 k5
  have b5 := F5.binds (ps := ["stretch", "word", "number", "side"]) fun _ _ _ _ _ _ us hl => match us, hl with | [_, _, _, _], _ => rfl
  have F6 := fun_mk (st := s_answer_of) l6 c6 k6
  have b6 := F6.binds (ps := ["stretch", "word", "number"]) fun _ _ _ _ _ _ us hl => match us, hl with | [_, _, _], _ => rfl
  have F7 := fun_mk (st := s_Stand_worth) l7 c7 k7
  have b7 := F7.binds (ps := ["self", "name"]) fun _ _ _ _ _ _ us hl => match us, hl with | [_, _], _ => rfl
  have F8 := fun_mk (st := s_Stand_coming) l8 c8 k8
  have b8 := F8.binds (ps := ["self"]) fun _ _ _ _ _ _ us hl => match us, hl with | [_], _ => rfl
  have F9 := fun_mk (st := s_Stand_lacks_number) l9 c9 k9
  have b9 := F9.binds (ps := ["self"]) fun _ _ _ _ _ _ us hl => match us, hl with | [_], _ => rfl
  have F10 := fun_mk (st := s_Stand_is_held) l10 c10 k10
  have b10 := F10.binds (ps := ["self"]) fun _ _ _ _ _ _ us hl => match us, hl with | [_], _ => rfl
  have F11 := fun_mk (st := s_Stand_take_number) l11 c11 k11
  have b11 := F11.binds (ps := ["self"]) fun _ _ _ _ _ _ us hl => match us, hl with | [_], _ => rfl
  have F12 := fun_mk (st := s_Stand_do_deed) l12 c12 k12
  have b12 := F12.binds (ps := ["self", "deed"]) fun _ _ _ _ _ _ us hl => match us, hl with | [_, _], _ => rfl
  have F13 := fun_mk (st := s_Stand_come_to) l13 c13 k13
  have b13 := F13.binds (ps := ["self", "piece"]) fun _ _ _ _ _ _ us hl => match us, hl with | [_, _], _ => rfl
  have F14 := fun_mk (st := s_Stand_do_end) l14 c14 k14
  have b14 := F14.binds (ps := ["self", "end"]) fun _ _ _ _ _ _ us hl => match us, hl with | [_, _], _ => rfl
  have F15 := fun_mk (st := s_Stand_do_step) l15 c15 k15
  have b15 := F15.binds (ps := ["self"]) fun _ _ _ _ _ _ us hl => match us, hl with | [_], _ => rfl
  have F16 := fun_mk (st := s_Stand___init__) l16 c16 k16
  have b16 := F16.binds (ps := ["self", "pieces", "begin", "worths", "numbers"]) fun _ _ _ _ _ _ us hl => match us, hl with | [_, _, _, _, _], _ => rfl
  have F17 := fun_mk (st := s_go_on) l17 c17 k17
  have b17 := F17.binds (ps := ["stand", "steps"]) fun _ _ _ _ _ _ us hl => match us, hl with | [_, _], _ => rfl
  have F18 := fun_mk (st := s_Walker___init__) l18 c18 k18
  have b18 := F18.binds (ps := ["self", "plan"]) fun _ _ _ _ _ _ us hl => match us, hl with | [_, _], _ => rfl
  have F19 := fun_mk (st := s_Walker_hand) l19 c19 k19
  have b19 := F19.binds (ps := ["self", "numbers"]) fun _ _ _ _ _ _ us hl => match us, hl with | [_, _], _ => rfl
  have F20 := fun_mk (st := s_Walker_go) l20 c20 k20
  have b20 := F20.binds (ps := ["self", "many"]) fun _ _ _ _ _ _ us hl => match us, hl with | [_, _], _ => rfl
  have F21 := fun_mk (st := s_Walker_word) l21 c21 k21
  have b21 := F21.binds (ps := ["self"]) fun _ _ _ _ _ _ us hl => match us, hl with | [_], _ => rfl
  have F22 := fun_mk (st := s_Walker_piece) l22 c22 k22
  have b22 := F22.binds (ps := ["self"]) fun _ _ _ _ _ _ us hl => match us, hl with | [_], _ => rfl
  have F23 := fun_mk (st := s_Walker_told) l23 c23 k23
  have b23 := F23.binds (ps := ["self"]) fun _ _ _ _ _ _ us hl => match us, hl with | [_], _ => rfl
  have F24 := fun_mk (st := s_Walker_worth) l24 c24 k24
  have b24 := F24.binds (ps := ["self", "name"]) fun _ _ _ _ _ _ us hl => match us, hl with | [_, _], _ => rfl
  have F25 := fun_mk (st := s_Walker_steps) l25 c25 k25
  have b25 := F25.binds (ps := ["self"]) fun _ _ _ _ _ _ us hl => match us, hl with | [_], _ => rfl
  have F26 := fun_mk (st := s_law_bag) l26 c26 k26
  have b26 := F26.binds (ps := ["script", "k"]) fun _ _ _ _ _ _ us hl => match us, hl with | [_, _], _ => rfl
  have F27 := fun_mk (st := s_law_take) l27 c27 k27
  have b27 := F27.binds (ps := ["bag", "many"]) fun _ _ _ _ _ _ us hl => match us, hl with | [_, _], _ => rfl
  have F28 := fun_mk (st := s_law_names) l28 c28 k28
  have b28 := F28.binds (ps := ["bag"]) fun _ _ _ _ _ _ us hl => match us, hl with | [_], _ => rfl
  have F29 := fun_mk (st := s_law_number) l29 c29 k29
  have b29 := F29.binds (ps := ["bag"]) fun _ _ _ _ _ _ us hl => match us, hl with | [_], _ => rfl
  have F30 := fun_mk (st := s_law_deed) l30 c30 k30
  have b30 := F30.binds (ps := ["bag", "names"]) fun _ _ _ _ _ _ us hl => match us, hl with | [_, _], _ => rfl
  have F31 := fun_mk (st := s_law_end) l31 c31 k31
  have b31 := F31.binds (ps := ["bag", "names", "count"]) fun _ _ _ _ _ _ us hl => match us, hl with | [_, _, _], _ => rfl
  have F32 := fun_mk (st := s_law_plan) l32 c32 k32
  have b32 := F32.binds (ps := ["bag", "count", "most"]) fun _ _ _ _ _ _ us hl => match us, hl with | [_, _, _], _ => rfl
  have F33 := fun_mk (st := s_law_count) l33 c33 k33
  have b33 := F33.binds (ps := ["bag", "most"]) fun _ _ _ _ _ _ us hl => match us, hl with | [_, _], _ => rfl
  have F34 := fun_mk (st := s_law_step) l34 c34 k34
  have b34 := F34.binds (ps := ["plan", "state", "numbers"]) fun _ _ _ _ _ _ us hl => match us, hl with | [_, _, _], _ => rfl
  have F35 := fun_mk (st := s_law_stand) l35 c35 k35
  have b35 := F35.binds (ps := ["plan", "state", "numbers"]) fun _ _ _ _ _ _ us hl => match us, hl with | [_, _, _], _ => rfl
  have F36 := fun_mk (st := s_law_gone) l36 c36 k36
  have b36 := F36.binds (ps := ["plan", "state", "numbers", "many"]) fun _ _ _ _ _ _ us hl => match us, hl with | [_, _, _, _], _ => rfl
  have F37 := fun_mk (st := s_law_names_in) l37 c37 k37
  have b37 := F37.binds (ps := ["plan"]) fun _ _ _ _ _ _ us hl => match us, hl with | [_], _ => rfl
  have F38 := fun_mk (st := s_law_tells) l38 c38 k38
  have b38 := F38.binds (ps := ["walker", "plan", "state", "numbers", "steps"]) fun _ _ _ _ _ _ us hl => match us, hl with | [_, _, _, _, _], _ => rfl
  have F39 := fun_mk (st := s_law_call) l39 c39 k39
  have b39 := F39.binds (ps := ["bag", "left"]) fun _ _ _ _ _ _ us hl => match us, hl with | [_, _], _ => rfl
  have F40 := fun_mk (st := s_law) l40 c40 k40
  refine ⟨PySem.W.fnOf "law" "law" (defArgs s_law) (defBody s_law) (defScope s_law) .none kV40 dc40 pm40 an40 cd40 ct40, fun s v => .of_eq rfl, fun base _ _ => ?_⟩
  have O_lies_in : Own l.prog w K mg base "lies_in" 1 ["number", "stretch"] spLies := ⟨⟨_, _, ok_lies_in F0 Z , PySem.W.mg_of X G a0, k0, b0⟩⟩
  have O_part_below : Own l.prog w K mg base "part_below" 1 ["stretch", "number"] (spP belowF) := ⟨⟨_, _, ok_part_below F1 Z , PySem.W.mg_of X G a1, k1, b1⟩⟩
  have O_part_from : Own l.prog w K mg base "part_from" 1 ["stretch", "number"] (spP fromF) := ⟨⟨_, _, ok_part_from F2 Z , PySem.W.mg_of X G a2, k2, b2⟩⟩
  have O_part_at : Own l.prog w K mg base "part_at" 2 ["stretch", "number"] (spP atF) := ⟨⟨_, _, ok_part_at F3 Z O_lies_in, PySem.W.mg_of X G a3, k3, b3⟩⟩
  have O_part_beside : Own l.prog w K mg base "part_beside" 1 ["stretch", "number"] (spP besF) := ⟨⟨_, _, ok_part_beside F4 Z , PySem.W.mg_of X G a4, k4, b4⟩⟩
  have O_part_of : Own l.prog w K mg base "part_of" 3 ["stretch", "word", "number", "side"] spPart := ⟨⟨_, _, ok_part_of F5 Z O_part_below O_part_from O_part_at O_part_beside, PySem.W.mg_of X G a5, k5, b5⟩⟩
  have O_answer_of : Own l.prog w K mg base "answer_of" 4 ["stretch", "word", "number"] spAns := ⟨⟨_, _, ok_answer_of F6 Z O_part_of, PySem.W.mg_of X G a6, k6, b6⟩⟩
  have O_Stand_worth : MOwn l.prog w K mg base C "worth" 1 ["self", "name"] (spWorth C) := ⟨T.cl, ⟨_, _, ok_Stand_worth F7 Z T , ⟨a7, i7, k7⟩, b7⟩⟩
  have O_Stand_coming : MOwn l.prog w K mg base C "coming" 1 ["self"] (spComing C) := ⟨T.cl, ⟨_, _, ok_Stand_coming F8 Z T , ⟨a8, i8, k8⟩, b8⟩⟩
  have O_Stand_lacks_number : MOwn l.prog w K mg base C "lacks_number" 2 ["self"] (spLacks C) := ⟨T.cl, ⟨_, _, ok_Stand_lacks_number F9 Z T O_Stand_coming, ⟨a9, i9, k9⟩, b9⟩⟩
  have O_Stand_is_held : MOwn l.prog w K mg base C "is_held" 3 ["self"] (spHeld C) := ⟨T.cl, ⟨_, _, ok_Stand_is_held F10 Z T O_Stand_lacks_number, ⟨a10, i10, k10⟩, b10⟩⟩
  have O_Stand_take_number : MOwn l.prog w K mg base C "take_number" 1 ["self"] (spTakeN C) := ⟨T.cl, ⟨_, _, ok_Stand_take_number F11 Z T , ⟨a11, i11, k11⟩, b11⟩⟩
  have O_Stand_do_deed : MOwn l.prog w K mg base C "do_deed" 2 ["self", "deed"] (spDoDeed C) := ⟨T.cl, ⟨_, _, ok_Stand_do_deed F12 Z T O_Stand_worth O_Stand_take_number, ⟨a12, i12, k12⟩, b12⟩⟩
  have O_Stand_come_to : MOwn l.prog w K mg base C "come_to" 1 ["self", "piece"] (spCome C) := ⟨T.cl, ⟨_, _, ok_Stand_come_to F13 Z T , ⟨a13, i13, k13⟩, b13⟩⟩
  have O_Stand_do_end : MOwn l.prog w K mg base C "do_end" 5 ["self", "end"] (spDoEnd C) := ⟨T.cl, ⟨_, _, ok_Stand_do_end F14 Z T O_Stand_worth O_Stand_come_to O_answer_of, ⟨a14, i14, k14⟩, b14⟩⟩
  have O_Stand_do_step : MOwn l.prog w K mg base C "do_step" 6 ["self"] (spDoStep C) := ⟨T.cl, ⟨_, _, ok_Stand_do_step F15 Z T O_Stand_do_deed O_Stand_do_end, ⟨a15, i15, k15⟩, b15⟩⟩
  have O_Stand___init__ : COwn l.prog w K mg base C "Stand" 1 ["self", "pieces", "begin", "worths", "numbers"] (spInitS C) := ⟨⟨_, _, ok_Stand___init__ F16 Z T , ⟨mkC, a16, i16, kcC⟩, PySem.W.mg_of X G aCC, b16⟩⟩
  have O_go_on : Own l.prog w K mg base "go_on" 7 ["stand", "steps"] (spGoOn C) := ⟨⟨_, _, ok_go_on F17 Z T O_Stand_is_held O_Stand_do_step, PySem.W.mg_of X G a17, k17, b17⟩⟩
  have O_Walker___init__ : COwn l.prog w K mg base D "Walker" 3 ["self", "plan"] (spWInit C D) := ⟨⟨_, _, ok_Walker___init__ F18 Z T TW O_Stand___init__, ⟨mkD, a18, i18, kcD⟩, PySem.W.mg_of X G aCD, b18⟩⟩
  have O_Walker_hand : MOwn l.prog w K mg base D "hand" 1 ["self", "numbers"] (spWHand C D) := ⟨TW.cl, ⟨_, _, ok_Walker_hand F19 Z T TW , ⟨a19, i19, k19⟩, b19⟩⟩
  have O_Walker_go : MOwn l.prog w K mg base D "go" 8 ["self", "many"] (spWGo C D) := ⟨TW.cl, ⟨_, _, ok_Walker_go F20 Z T TW O_go_on, ⟨a20, i20, k20⟩, b20⟩⟩
  have O_Walker_word : MOwn l.prog w K mg base D "word" 3 ["self"] (spWWord C D) := ⟨TW.cl, ⟨_, _, ok_Walker_word F21 Z T TW O_Stand_lacks_number, ⟨a21, i21, k21⟩, b21⟩⟩
  have O_Walker_piece : MOwn l.prog w K mg base D "piece" 1 ["self"] (spWPiece C D) := ⟨TW.cl, ⟨_, _, ok_Walker_piece F22 Z T TW , ⟨a22, i22, k22⟩, b22⟩⟩
  have O_Walker_told : MOwn l.prog w K mg base D "told" 1 ["self"] (spWTold C D) := ⟨TW.cl, ⟨_, _, ok_Walker_told F23 Z T TW , ⟨a23, i23, k23⟩, b23⟩⟩
  have O_Walker_worth : MOwn l.prog w K mg base D "worth" 2 ["self", "name"] (spWWorth C D) := ⟨TW.cl, ⟨_, _, ok_Walker_worth F24 Z T TW O_Stand_worth, ⟨a24, i24, k24⟩, b24⟩⟩
  have O_Walker_steps : MOwn l.prog w K mg base D "steps" 1 ["self"] (spWSteps C D) := ⟨TW.cl, ⟨_, _, ok_Walker_steps F25 Z T TW , ⟨a25, i25, k25⟩, b25⟩⟩
  have O_law_bag : Own l.prog w K mg base "_law_bag" 1 ["script", "k"] (spBag K) := ⟨⟨_, _, ok_law_bag F26 Z , PySem.W.mg_of X G a26, k26, b26⟩⟩
  have O_law_take : Own l.prog w K mg base "_law_take" 1 ["bag", "many"] spTake := ⟨⟨_, _, ok_law_take F27 Z , PySem.W.mg_of X G a27, k27, b27⟩⟩
  have O_law_names : Own l.prog w K mg base "_law_names" 2 ["bag"] spNames := ⟨⟨_, _, ok_law_names F28 Z O_law_take, PySem.W.mg_of X G a28, k28, b28⟩⟩
  have O_law_number : Own l.prog w K mg base "_law_number" 2 ["bag"] spNumber := ⟨⟨_, _, ok_law_number F29 Z O_law_take, PySem.W.mg_of X G a29, k29, b29⟩⟩
  have O_law_deed : Own l.prog w K mg base "_law_deed" 3 ["bag", "names"] spDeed := ⟨⟨_, _, ok_law_deed F30 Z O_law_take O_law_number, PySem.W.mg_of X G a30, k30, b30⟩⟩
  have O_law_end : Own l.prog w K mg base "_law_end" 3 ["bag", "names", "count"] spEndP := ⟨⟨_, _, ok_law_end F31 Z O_law_take O_law_number, PySem.W.mg_of X G a31, k31, b31⟩⟩
  have O_law_plan : Own l.prog w K mg base "_law_plan" 4 ["bag", "count", "most"] spPlan := ⟨⟨_, _, ok_law_plan F32 Z O_law_take O_law_names O_law_deed O_law_end, PySem.W.mg_of X G a32, k32, b32⟩⟩
  have O_law_count : Own l.prog w K mg base "_law_count" 2 ["bag", "most"] spCount := ⟨⟨_, _, ok_law_count F33 Z O_law_take, PySem.W.mg_of X G a33, k33, b33⟩⟩
  have O_law_step : Own l.prog w K mg base "_law_step" 1 ["plan", "state", "numbers"] spStepL := ⟨⟨_, _, ok_law_step F34 Z , PySem.W.mg_of X G a34, k34, b34⟩⟩
  have O_law_stand : Own l.prog w K mg base "_law_stand" 1 ["plan", "state", "numbers"] spStandL := ⟨⟨_, _, ok_law_stand F35 Z , PySem.W.mg_of X G a35, k35, b35⟩⟩
  have O_law_gone : Own l.prog w K mg base "_law_gone" 3 ["plan", "state", "numbers", "many"] spGoneL := ⟨⟨_, _, ok_law_gone F36 Z O_law_stand O_law_step, PySem.W.mg_of X G a36, k36, b36⟩⟩
  have O_law_names_in : Own l.prog w K mg base "_law_names_in" 1 ["plan"] spNamesIn := ⟨⟨_, _, ok_law_names_in F37 Z , PySem.W.mg_of X G a37, k37, b37⟩⟩
  have O_law_tells : Own l.prog w K mg base "_law_tells" 5 ["walker", "plan", "state", "numbers", "steps"] (spTellsL C D) := ⟨⟨_, _, ok_law_tells F38 Z T TW O_Walker_word O_Walker_piece O_Walker_told O_Walker_steps O_Walker_worth O_law_stand O_law_names_in, PySem.W.mg_of X G a38, k38, b38⟩⟩
  have O_law_call : Own l.prog w K mg base "_law_call" 4 ["bag", "left"] spCallL := ⟨⟨_, _, ok_law_call F39 Z O_law_take O_law_number, PySem.W.mg_of X G a39, k39, b39⟩⟩
  exact ok_law F40 Z T TW O_law_bag O_law_take O_law_plan O_law_count O_law_number O_law_call O_law_gone O_law_tells O_Walker___init__ O_Walker_hand O_Walker_go
theorem walk {l : PySem.W.OpenLaw} {q : Program} {loose : List Str} {XP : (Str → Option Value) → Heap → Prop} {YP : World → Heap → Prop} {d : DefRec} {K : Params → PySem.W.Frag} (hn : l.most = some 63) (hdf : d.params.defaults = [])
    (hY : ∀ (w : World) (h : Heap), YP w h → (K w.params).In h)
    (F : ∀ (w : World) (mg : Str → Option Value) (fa : Addr) (h : Heap), (K w.params).In h → h.Ns mainGlobals mg → mg d.name = some (.ref fa) →
      ∃ fd : FuncData, (∀ (s : Shared) (u : Value), BindsTo s fd ⟨[u], []⟩ [("script", u)]) ∧ ∀ base : Heap, (K w.params).In base → base.Ns mainGlobals mg → FnOk l.prog w (K w.params) mg base CX0 10 fa fd ["script"] (spLaw (K w.params))) :
    PySem.W.WalkO q loose XP YP l.row.toRowW d [] (fun f vs => PySem.call f vs) :=
  L2.walk_of (n := 63) (k := 10) (x := "script") (CX := fun _ => CX0) (sp := fun w => spLaw (K w.params)) hn (by decide) hdf ⟨rfl, by decide, by decide⟩ hY F (fun _ _ a ns hl _ hS => ⟨a, ns, rfl, hS, hl, fun _ => rfl⟩) fun _ _ _ _ _ z => z
end My
/-! These names are taken so that the head lays no twins of its largest terms: it needs none of them, and they would be most of the compiled text. -/
theorem PySem.W.Fast.tw5094845206967860814 : True := trivial
theorem PySem.W.Fast.tw15453841267705574908 : True := trivial
theorem PySem.W.Fast.tw13474095893639529015 : True := trivial
theorem PySem.W.Fast.tw15765964439493050643 : True := trivial
theorem PySem.W.Fast.tw3015193611302172801 : True := trivial
theorem PySem.W.Fast.tw6285297128886714774 : True := trivial
theorem PySem.W.Fast.tw4495452927656833235 : True := trivial
theorem PySem.W.Fast.tw5260696824616963508 : True := trivial
open PySem PySem.W PyProof.Rows
set_option maxRecDepth 100000 in
set_option maxHeartbeats 0 in
theorem PySem.Challenge.cw_ledpast_k29_walkers_holds : PySem.Challenge.rw_ledpast_k29_walkers.Holds := by
  w_on; o_law; k_head; (case hw => w_witness2)
  k_fill
  refine My.walk (l := PySem.Challenge.rw_ledpast_k29_walkers) rfl rfl (fun w h Y => PySem.W.kIn_of Y) ?F
  case F =>
    intro w mg fa h KX G hmg
    refine' My.all_mk KX G hmg ?a0 ?l0 ?c0 ?k0 ?a1 ?l1 ?c1 ?k1 ?a2 ?l2 ?c2 ?k2 ?a3 ?l3 ?c3 ?k3 ?a4 ?l4 ?c4 ?k4 ?a5 ?l5 ?c5 ?k5 ?a6 ?l6 ?c6 ?k6 ?a7 ?i7 ?l7 ?c7 ?k7 ?a8 ?i8 ?l8 ?c8 ?k8 ?a9 ?i9 ?l9 ?c9 ?k9 ?a10 ?i10 ?l10 ?c10 ?k10 ?a11 ?i11 ?l11 ?c11 ?k11 ?a12 ?i12 ?l12 ?c12 ?k12 ?a13 ?i13 ?l13 ?c13 ?k13 ?a14 ?i14 ?l14 ?c14 ?k14 ?a15 ?i15 ?l15 ?c15 ?k15 ?a16 ?i16 ?l16 ?c16 ?k16 ?a17 ?l17 ?c17 ?k17 ?a18 ?i18 ?l18 ?c18 ?k18 ?a19 ?i19 ?l19 ?c19 ?k19 ?a20 ?i20 ?l20 ?c20 ?k20 ?a21 ?i21 ?l21 ?c21 ?k21 ?a22 ?i22 ?l22 ?c22 ?k22 ?a23 ?i23 ?l23 ?c23 ?k23 ?a24 ?i24 ?l24 ?c24 ?k24 ?a25 ?i25 ?l25 ?c25 ?k25 ?a26 ?l26 ?c26 ?k26 ?a27 ?l27 ?c27 ?k27 ?a28 ?l28 ?c28 ?k28 ?a29 ?l29 ?c29 ?k29 ?a30 ?l30 ?c30 ?k30 ?a31 ?l31 ?c31 ?k31 ?a32 ?l32 ?c32 ?k32 ?a33 ?l33 ?c33 ?k33 ?a34 ?l34 ?c34 ?k34 ?a35 ?l35 ?c35 ?k35 ?a36 ?l36 ?c36 ?k36 ?a37 ?l37 ?c37 ?k37 ?a38 ?l38 ?c38 ?k38 ?a39 ?l39 ?c39 ?k39 ?a40 ?l40 ?c40 ?k40 ?z_len ?z_min ?z_max ?z_range ?z_list ?z_tuple ?z_int ?z_dict ?z_isinstance ?z_bool ?z_sorted ?aCC ?pgC ?hdC ?poC ?saC ?mkC ?kcC ?nC_pieces ?nC_passed ?nC_place ?nC_worths ?nC_numbers ?nC_taken ?nC_spoken ?nC_over ?aCD ?pgD ?hdD ?poD ?saD ?mkD ?kcD ?nD_stand ?nD_done
    (case aCC => k_is)
    (case pgC => k_is)
    (case hdC => k_is)
    (case poC => k_is)
    (case saC => k_is)
    (case mkC => k_is)
    (case kcC => k_is)
    (case nC_pieces => k_is)
    (case nC_passed => k_is)
    (case nC_place => k_is)
    (case nC_worths => k_is)
    (case nC_numbers => k_is)
    (case nC_taken => k_is)
    (case nC_spoken => k_is)
    (case nC_over => k_is)
    (case aCD => k_is)
    (case pgD => k_is)
    (case hdD => k_is)
    (case poD => k_is)
    (case saD => k_is)
    (case mkD => k_is)
    (case kcD => k_is)
    (case nD_stand => k_is)
    (case nD_done => k_is)
    (case a0 => k_is)
    (case l0 => k_is)
    (case c0 => k_is)
    (case k0 => k_is)
    (case a1 => k_is)
    (case l1 => k_is)
    (case c1 => k_is)
    (case k1 => k_is)
    (case a2 => k_is)
    (case l2 => k_is)
    (case c2 => k_is)
    (case k2 => k_is)
    (case a3 => k_is)
    (case l3 => k_is)
    (case c3 => k_is)
    (case k3 => k_is)
    (case a4 => k_is)
    (case l4 => k_is)
    (case c4 => k_is)
    (case k4 => k_is)
    (case a5 => k_is)
    (case l5 => k_is)
    (case c5 => k_is)
    (case k5 => k_is)
    (case a6 => k_is)
    (case l6 => k_is)
    (case c6 => k_is)
    (case k6 => k_is)
    (case a7 => k_is)
    (case i7 => k_is)
    (case l7 => k_is)
    (case c7 => k_is)
    (case k7 => k_is)
    (case a8 => k_is)
    (case i8 => k_is)
    (case l8 => k_is)
    (case c8 => k_is)
    (case k8 => k_is)
    (case a9 => k_is)
    (case i9 => k_is)
    (case l9 => k_is)
    (case c9 => k_is)
    (case k9 => k_is)
    (case a10 => k_is)
    (case i10 => k_is)
    (case l10 => k_is)
    (case c10 => k_is)
    (case k10 => k_is)
    (case a11 => k_is)
    (case i11 => k_is)
    (case l11 => k_is)
    (case c11 => k_is)
    (case k11 => k_is)
    (case a12 => k_is)
    (case i12 => k_is)
    (case l12 => k_is)
    (case c12 => k_is)
    (case k12 => k_is)
    (case a13 => k_is)
    (case i13 => k_is)
    (case l13 => k_is)
    (case c13 => k_is)
    (case k13 => k_is)
    (case a14 => k_is)
    (case i14 => k_is)
    (case l14 => k_is)
    (case c14 => k_is)
    (case k14 => k_is)
    (case a15 => k_is)
    (case i15 => k_is)
    (case l15 => k_is)
    (case c15 => k_is)
    (case k15 => k_is)
    (case a16 => k_is)
    (case i16 => k_is)
    (case l16 => k_is)
    (case c16 => k_is)
    (case k16 => k_is)
    (case a17 => k_is)
    (case l17 => k_is)
    (case c17 => k_is)
    (case k17 => k_is)
    (case a18 => k_is)
    (case i18 => k_is)
    (case l18 => k_is)
    (case c18 => k_is)
    (case k18 => k_is)
    (case a19 => k_is)
    (case i19 => k_is)
    (case l19 => k_is)
    (case c19 => k_is)
    (case k19 => k_is)
    (case a20 => k_is)
    (case i20 => k_is)
    (case l20 => k_is)
    (case c20 => k_is)
    (case k20 => k_is)
    (case a21 => k_is)
    (case i21 => k_is)
    (case l21 => k_is)
    (case c21 => k_is)
    (case k21 => k_is)
    (case a22 => k_is)
    (case i22 => k_is)
    (case l22 => k_is)
    (case c22 => k_is)
    (case k22 => k_is)
    (case a23 => k_is)
    (case i23 => k_is)
    (case l23 => k_is)
    (case c23 => k_is)
    (case k23 => k_is)
    (case a24 => k_is)
    (case i24 => k_is)
    (case l24 => k_is)
    (case c24 => k_is)
    (case k24 => k_is)
    (case a25 => k_is)
    (case i25 => k_is)
    (case l25 => k_is)
    (case c25 => k_is)
    (case k25 => k_is)
    (case a26 => k_is)
    (case l26 => k_is)
    (case c26 => k_is)
    (case k26 => k_is)
    (case a27 => k_is)
    (case l27 => k_is)
    (case c27 => k_is)
    (case k27 => k_is)
    (case a28 => k_is)
    (case l28 => k_is)
    (case c28 => k_is)
    (case k28 => k_is)
    (case a29 => k_is)
    (case l29 => k_is)
    (case c29 => k_is)
    (case k29 => k_is)
    (case a30 => k_is)
    (case l30 => k_is)
    (case c30 => k_is)
    (case k30 => k_is)
    (case a31 => k_is)
    (case l31 => k_is)
    (case c31 => k_is)
    (case k31 => k_is)
    (case a32 => k_is)
    (case l32 => k_is)
    (case c32 => k_is)
    (case k32 => k_is)
    (case a33 => k_is)
    (case l33 => k_is)
    (case c33 => k_is)
    (case k33 => k_is)
    (case a34 => k_is)
    (case l34 => k_is)
    (case c34 => k_is)
    (case k34 => k_is)
    (case a35 => k_is)
    (case l35 => k_is)
    (case c35 => k_is)
    (case k35 => k_is)
    (case a36 => k_is)
    (case l36 => k_is)
    (case c36 => k_is)
    (case k36 => k_is)
    (case a37 => k_is)
    (case l37 => k_is)
    (case c37 => k_is)
    (case k37 => k_is)
    (case a38 => k_is)
    (case l38 => k_is)
    (case c38 => k_is)
    (case k38 => k_is)
    (case a39 => k_is)
    (case l39 => k_is)
    (case c39 => k_is)
    (case k39 => k_is)
    (case a40 => k_is)
    (case l40 => k_is)
    (case c40 => k_is)
    (case k40 => k_is)
    (case z_len => k_is)
    (case z_min => k_is)
    (case z_max => k_is)
    (case z_range => k_is)
    (case z_list => k_is)
    (case z_tuple => k_is)
    (case z_int => k_is)
    (case z_dict => k_is)
    (case z_isinstance => k_is)
    (case z_bool => k_is)
    (case z_sorted => k_is)
