import PyProof.Rows.All
import Wide.All
import OpenK.AllK
import Wide.FinOn
import Lean
import PyProof.EqAt
import PyProof.EqKinds
import PyProof.TupleCall
import PyProof.NeData
import PySem.Challenge.RW_ledpast_k09_leads
-- CHANGE: your row's module here, as the last of these rows
set_option Elab.async false
set_option linter.all false
set_option maxRecDepth 100000
/-! THE HAND LAYER, for ints, bools, texts, own classes, LISTS and tuples (index, slices, in, append, pop ..), calls, loops. Paste it whole ahead of your own text; what your proof does not reach may be deleted. -/
namespace L2
open PySem PySem.Spec PyProof.Rows

/-- a key: an int or a str -/
abbrev Key := Sum Int Str
def keyIs : Key → Value → Bool
  | .inl k, v => Value.isInt k v
  | .inr x, v => Value.isStrOf x v
def keyH (w : World) : Key → Int
  | .inl k => hashInt k
  | .inr x => hashStr w x
theorem keyIs_shape : ∀ {k : Key} {v : Value}, keyIs k v = true → (∃ i t, k = Sum.inl i ∧ v = Value.int i t) ∨ (∃ x t, k = Sum.inr x ∧ v = Value.str x t)
  | .inl i, v, h => by
    obtain ⟨t, e⟩ := Value.isInt_shape (k := i) (v := v) h
    exact .inl ⟨i, t, rfl, e⟩
  | .inr x, v, h => by
    obtain ⟨t, e⟩ := Value.isStrOf_shape (x := x) (v := v) h
    exact .inr ⟨x, t, rfl, e⟩
theorem keyIs_int (i : Int) (t : Tok) : keyIs (.inl i) (.int i t) = true := by simp [keyIs, Value.isInt]
theorem keyIs_str (x : Str) (t : Tok) : keyIs (.inr x) (.str x t) = true := by simp [keyIs, Value.isStrOf]
theorem key_ll (a b : Int) : decide ((Sum.inl a : Key) = Sum.inl b) = (a == b) := by
  by_cases e : a = b
  · subst e; simp
  · have h : ¬ (Sum.inl a : Key) = Sum.inl b := fun q => e (Sum.inl.inj q)
    rw [decide_eq_false h]
    exact (beq_eq_false_iff_ne.mpr e).symm
theorem key_rr (a b : Str) : decide ((Sum.inr a : Key) = Sum.inr b) = decide (a = b) := by
  by_cases e : a = b
  · subst e; simp
  · have h : ¬ (Sum.inr a : Key) = Sum.inr b := fun q => e (Sum.inr.inj q)
    rw [decide_eq_false h, decide_eq_false e]
theorem key_lr (a : Int) (b : Str) : decide ((Sum.inl a : Key) = Sum.inr b) = false := decide_eq_false (fun q => nomatch q)
theorem key_rl (a : Str) (b : Int) : decide ((Sum.inr a : Key) = Sum.inl b) = false := decide_eq_false (fun q => nomatch q)

def mixKind (prog : Program) (w : World) : PySem.KeyKind prog w Key where
  is := keyIs
  hash := keyH w
  inj := fun v a b ha hb => by
    rcases keyIs_shape ha with ⟨i, t, rfl, rfl⟩ | ⟨x, t, rfl, rfl⟩
    · rcases keyIs_shape hb with ⟨j, u, rfl, e⟩ | ⟨y, u, rfl, e⟩
      · injection e with e1 _; rw [e1]
      · exact nomatch e
    · rcases keyIs_shape hb with ⟨j, u, rfl, e⟩ | ⟨y, u, rfl, e⟩
      · exact nomatch e
      · injection e with e1 _; rw [e1]
  byValue := fun k v h => by
    rcases keyIs_shape h with ⟨i, t, rfl, rfl⟩ | ⟨x, t, rfl, rfl⟩ <;> rfl
  pyHash := fun hv h => by
    rcases keyIs_shape hv with ⟨i, t, rfl, rfl⟩ | ⟨x, t, rfl, rfl⟩
    · exact wpAny_pyHash_int h
    · exact wpAny_pyHash_str h
  eqBool := fun hu hv h => by
    rcases keyIs_shape hu with ⟨i, t, rfl, rfl⟩ | ⟨x, t, rfl, rfl⟩
    · rcases keyIs_shape hv with ⟨j, u, rfl, rfl⟩ | ⟨y, u, rfl, rfl⟩
      · rw [key_ll] at h; exact wpAny_eqBool_int h
      · rw [key_lr] at h; exact SeqAt.EqAt.int_str i t y u _ _ _ _ h
    · rcases keyIs_shape hv with ⟨j, u, rfl, rfl⟩ | ⟨y, u, rfl, rfl⟩
      · rw [key_rl] at h; exact SeqAt.EqAt.str_int x t j u _ _ _ _ h
      · rw [key_rr] at h; exact wpAny_eqBool_str h
  «strs» := fun k x t v h => by
    rcases keyIs_shape h with ⟨i, u, rfl, e⟩ | ⟨y, u, rfl, e⟩
    · exact nomatch e
    · injection e with e1 _
      subst e1
      cases v <;> rfl

theorem mixKind_int (prog : Program) (w : World) (i : Int) (t : Tok) : (mixKind prog w).is (.inl i) (.int i t) = true := keyIs_int i t
theorem mixKind_str (prog : Program) (w : World) (x : Str) (t : Tok) : (mixKind prog w).is (.inr x) (.str x t) = true := keyIs_str x t
end L2

namespace L2
open PySem PySem.Spec PyProof.Rows

/-- a value, without the heap -/
inductive V where
  | non | bl (b : Bool) | int (i : Int) | str (x : Str) | byt (b : Array UInt8) | flt (b : UInt64) | ref (a : Addr) | ty (n : String)
  deriving DecidableEq

def RelV : V → Value → Prop
  | .non, u => u = Value.none
  | .bl b, u => u = Value.bool b
  | .int i, u => ∃ t, u = Value.int i t
  | .str x, u => ∃ t, u = Value.str x t
  | .byt b, u => ∃ t, u = Value.bytes b t
  | .flt b, u => ∃ t, u = Value.float b t
  | .ref a, u => u = Value.ref a
  | .ty n, u => u = Value.type n

abbrev Vals : List V → List Value → Prop := Paired RelV
theorem Vals.length {xs : List V} {us : List Value} (r : Vals xs us) : xs.length = us.length := Paired.length r
theorem Vals.get : ∀ {xs : List V} {us : List Value} {i : Nat} {x : V}, Vals xs us → xs[i]? = some x → ∃ u, us[i]? = some u ∧ RelV x u
  | _, _, _, _, .nil, e => by simp at e
  | _, _, 0, _, .cons r _, e => by simp at e; subst e; exact ⟨_, rfl, r⟩
  | _, _, i + 1, x, .cons _ t, e => by
    obtain ⟨u, h1, h2⟩ := Vals.get (i := i) (x := x) t (by simpa using e)
    exact ⟨u, by simpa using h1, h2⟩
theorem Vals.set {x : V} {u : Value} (r : RelV x u) : ∀ {xs : List V} {us : List Value} (i : Nat), Vals xs us → Vals (xs.set i x) (us.set i u)
  | _, _, _, .nil => .nil
  | _, _, 0, .cons _ t => .cons r t
  | _, _, i + 1, .cons q t => .cons q (Vals.set r i t)
theorem Vals.append : ∀ {xs ys : List V} {us ws : List Value}, Vals xs us → Vals ys ws → Vals (xs ++ ys) (us ++ ws)
  | _, _, _, _, .nil, s => s
  | _, _, _, _, .cons r t, s => .cons r (Vals.append t s)
theorem Vals.take : ∀ {xs : List V} {us : List Value} (n : Nat), Vals xs us → Vals (xs.take n) (us.take n)
  | _, _, 0, _ => .nil
  | _, _, _ + 1, .nil => .nil
  | _, _, n + 1, .cons r t => .cons r (Vals.take n t)
theorem Vals.drop : ∀ {xs : List V} {us : List Value} (n : Nat), Vals xs us → Vals (xs.drop n) (us.drop n)
  | _, _, 0, r => r
  | _, _, _ + 1, .nil => .nil
  | _, _, n + 1, .cons _ t => Vals.drop n t
theorem Vals.none_of : ∀ {xs : List V} {us : List Value} {i : Nat}, Vals xs us → xs[i]? = none → us[i]? = none := fun {xs us i} r e => by
  have h1 := r.length
  have h2 : xs.length ≤ i := List.getElem?_eq_none_iff.mp e
  exact List.getElem?_eq_none_iff.mpr (by omega)

def RelO : Option V → Option Value → Prop
  | some v, some u => RelV v u
  | none, none => True
  | _, _ => False
def KV {κ : Type} : List (κ × V) → List (κ × Value) → Prop := Paired fun (p : κ × V) (q : κ × Value) => p.1 = q.1 ∧ RelV p.2 q.2

/-- a key of a dict (00_mix): an int or a text -/
def kV : Key → V
  | .inl i => .int i
  | .inr x => .str x

/-- what stands at a tracked address -/
inductive HO where
  /-- a list -/
  | lst (xs : List V)
  /-- a tuple (never changes) -/
  | tup (xs : List V)
  /-- a dict whose keys are ints and texts; one whose keys are tuples of ints and texts (the empty one is both) -/
  | dK (kvs : List (Key × V)) | dT (kvs : List (List Key × V))
  /-- a set of ints: its members, its size -/
  | set (S : Int → Bool) (n : Nat)
  /-- an instance of the class at C, its dict at dx, its attributes -/
  | ins (C dx : Addr) (fs : List (Str × V))
  /-- the dict of the instance at x -/
  | own (x : Addr)
  /-- the dict of an exception -/
  | xd (fs : List (Str × V))
  /-- a bound method, f of x -/
  | met (f x : Addr)
  /-- a range object lo, lo + 1, .. below hi -/
  | rng (lo hi : Int)
  /-- a thing that is known to the object (the script; a dict while a loop walks it): read, never written while it is so -/
  | frz (o : Obj) (u : HO)
  /-- a code object's table -/
  | tbl (ps : Array Value)
  /-- any other thing, by what is true of its one object (a def of one's own: SetO a S n := HO.ext fun h => ..) -/
  | ext (φ : Heap → Prop)

abbrev Hp := Addr → Option HO
def upd (H : Hp) (a : Addr) (o : HO) : Hp := fun b => if b = a then some o else H b
theorem upd_same {H : Hp} {a : Addr} {o : HO} : upd H a o a = some o := by unfold upd; rw [if_pos rfl]
theorem upd_ne {H : Hp} {a b : Addr} {o : HO} (h : b ≠ a) : upd H a o b = H b := by unfold upd; rw [if_neg h]
/-- two objects of different content stand apart -/
theorem ne_of {H : Hp} {a b : Addr} {o u : HO} (h : H a = some o) (h' : H b = some u) (d : o ≠ u) : a ≠ b := by
  intro e; subst e; rw [h] at h'; exact d (Option.some.inj h')
theorem ne_of_none {H : Hp} {a b : Addr} {o : HO} (h : H a = some o) (h' : H b = none) : a ≠ b := by
  intro e; subst e; rw [h] at h'; cases h'

section
variable (P : Program) (w : World)
def ObjOk (H : Hp) (h : Heap) (a : Addr) : HO → Prop
  | .lst xs => xs.length ≤ sizeLine ∧ ∃ (its : List Value) (n : Nat), Vals xs its ∧ h.get? a = some { cls := .type "list", data := .seq its.toArray n }
  | .tup xs => xs.length ≤ sizeLine ∧ ∃ its : List Value, Vals xs its ∧ ∃ o, h.get? a = some o ∧ o.cls = .type "tuple" ∧ ∃ n, o.data = .seq its.toArray n ∧ o.dict = none
  | .dK kvs => kvs.length ≤ sizeLine ∧ (a == sysModules) = false ∧ ∃ vs, KV kvs vs ∧ h.DictOf (mixKind P w) a vs
  | .dT kvs => kvs.length ≤ sizeLine ∧ (a == sysModules) = false ∧ ∃ xs : List (List Key × Addr × Value),
      Paired (fun (p : List Key × V) (q : List Key × Addr × Value) => p.1 = q.1 ∧ H q.2.1 = some (.tup (p.1.map kV)) ∧ RelV p.2 q.2.2) kvs xs ∧
      ∃ o es ep, h.get? a = some o ∧ o.ExactDict ∧ o.data = .dict es ep ∧ es.toList = xs.map (entryOfKey (tupleKind (mixKind P w))) ∧ (xs.map (·.1)).Nodup
  | .set S n => h.SetOf (intKind P w) a S n
  | .ins C dx fs => H dx = some (.own a) ∧ fs.length ≤ 1000 ∧ dx ≠ a ∧ h.get? a = some (PySem.W.instObj C dx) ∧
      ∃ mA, h.Ns1 dx mA ∧ (∀ f, RelO (fs.lookup f) (mA f)) ∧ PySem.Within mA (fs.map (·.1))
  | .own _ => ∃ o, h.get? a = some o
  | .xd fs => ∃ mA, h.Ns1 a mA ∧ ∀ f, RelO (fs.lookup f) (mA f)
  | .rng lo hi => ∃ t u v, h.get? a = some { cls := .type "range", data := .fields #[.int lo t, .int hi u, .int 1 v] }
  | .frz o u => h.get? a = some o ∧ ObjOk H h a u
  | .tbl ps => h.get? a = some { cls := .none, data := .fields ps }
  | .met f x => h.get? a = some (PySem.W.methodObj (.ref f) (.ref x))
  | .ext φ => φ h ∧ (∃ o, h.get? a = some o) ∧ ∀ h1 h2 : Heap, φ h1 → (∀ o, h1.get? a = some o → h2.get? a = some o) → φ h2
/-- the abstract heap is held -/
def HOk (H : Hp) (h : Heap) : Prop := ∀ a o, H a = some o → ObjOk P w H h a o
end

section
variable {P : Program} {w : World} {H H' : Hp} {h h' : Heap} {a : Addr} {o : HO}
theorem ObjOk.lt (x : ObjOk P w H h a o) : a < h.objs.size := by
  cases o with
  | lst xs => obtain ⟨_, _, _, _, e⟩ := x; exact Heap.lt_size e
  | tup xs => obtain ⟨_, _, _, p⟩ := x; exact (let ⟨o, e, _⟩ := p; Heap.lt_size e)
  | dK kvs => obtain ⟨_, _, _, _, o, _, _, e, _⟩ := x; exact Heap.lt_size e
  | dT kvs => obtain ⟨_, _, _, _, o, _, _, e, _⟩ := x; exact Heap.lt_size e
  | set S n => obtain ⟨o, _, _, _, e, _⟩ := x; exact Heap.lt_size e
  | ins C dx fs => obtain ⟨_, _, _, e, _⟩ := x; exact Heap.lt_size e
  | own y => obtain ⟨_, e⟩ := x; exact Heap.lt_size e
  | xd fs => obtain ⟨_, ⟨_, _, _, e, _⟩, _⟩ := x; exact Heap.lt_size e
  | rng lo hi => obtain ⟨_, _, _, e⟩ := x; exact Heap.lt_size e
  | frz ob u => obtain ⟨e, _⟩ := x; exact Heap.lt_size e
  | tbl ps => exact Heap.lt_size (show h.get? a = some _ from x)
  | met f y => exact Heap.lt_size (show h.get? a = some _ from x)
  | ext φ => obtain ⟨_, ⟨_, e⟩, _⟩ := x; exact Heap.lt_size e
theorem Paired.mapP {α β : Type} {F G : α → β → Prop} : ∀ {l₁ : List α} {l₂ : List β}, Paired F l₁ l₂ → (∀ a b, F a b → G a b) → Paired G l₁ l₂
  | _, _, .nil, _ => .nil
  | _, _, .cons r t, f => .cons (f _ _ r) (Paired.mapP t f)
/-- what an object's description leans on: its own object, its own dict, the tuples -/
theorem ObjOk.stay (x : ObjOk P w H h a o) (k : ∀ b u, (b = a ∨ H b = some (.own a)) → h.get? b = some u → h'.get? b = some u)
    (ho : ∀ b, H b = some (.own a) → H' b = some (.own a)) (ht : ∀ b xs, H b = some (.tup xs) → H' b = some (.tup xs)) : ObjOk P w H' h' a o := by
  induction o with
  | lst xs => obtain ⟨z, its, n, r, e⟩ := x; exact ⟨z, its, n, r, k _ _ (.inl rfl) e⟩
  | tup xs => obtain ⟨z, its, r, ob, e, c⟩ := x; exact ⟨z, its, r, ob, k _ _ (.inl rfl) e, c⟩
  | dK kvs => obtain ⟨z, y, vs, r, ob, es, ep, e, c⟩ := x; exact ⟨z, y, vs, r, ob, es, ep, k _ _ (.inl rfl) e, c⟩
  | dT kvs =>
    obtain ⟨z, y, xs, r, ob, es, ep, e, c⟩ := x
    exact ⟨z, y, xs, Paired.mapP r fun p q z => ⟨z.1, ht _ _ z.2.1, z.2.2⟩, ob, es, ep, k _ _ (.inl rfl) e, c⟩
  | set S n => obtain ⟨ob, es, ep, t, e, c⟩ := x; exact ⟨ob, es, ep, t, k _ _ (.inl rfl) e, c⟩
  | ins C dx fs =>
    obtain ⟨d, z, ne, e, mA, ⟨od, es, ep, e2, c⟩, r⟩ := x
    exact ⟨ho _ d, z, ne, k _ _ (.inl rfl) e, mA, ⟨od, es, ep, k _ _ (.inr d) e2, c⟩, r⟩
  | own y => obtain ⟨ob, e⟩ := x; exact ⟨ob, k _ _ (.inl rfl) e⟩
  | xd fs => obtain ⟨mA, ⟨od, es, ep, e, c⟩, r⟩ := x; exact ⟨mA, ⟨od, es, ep, k _ _ (.inl rfl) e, c⟩, r⟩
  | rng lo hi => obtain ⟨t, u, v, e⟩ := x; exact ⟨t, u, v, k _ _ (.inl rfl) e⟩
  | frz ob u ih => obtain ⟨e, q⟩ := x; exact ⟨k _ _ (.inl rfl) e, ih q⟩
  | tbl ps =>
    have e : h.get? a = some { cls := .none, data := .fields ps } := x
    show h'.get? a = some { cls := .none, data := .fields ps }
    exact k a _ (.inl rfl) e
  | met f y =>
    have e : h.get? a = some (PySem.W.methodObj (.ref f) (.ref y)) := x
    show h'.get? a = some (PySem.W.methodObj (.ref f) (.ref y))
    exact k a _ (.inl rfl) e
  | ext φ => obtain ⟨p, ⟨o, e⟩, st⟩ := x; exact ⟨st _ _ p fun o q => k _ _ (.inl rfl) q, ⟨o, k _ _ (.inl rfl) e⟩, st⟩
theorem HOk.lt (x : HOk P w H h) (e : H a = some o) : a < h.objs.size := (x a o e).lt
theorem HOk.fresh (x : HOk P w H h) (e : h.objs.size ≤ a) : H a = none := by
  cases q : H a with
  | none => rfl
  | some u => exact absurd (Nat.lt_of_lt_of_le (x.lt q) e) (Nat.lt_irrefl _)
/-- every object of the heap is kept -/
theorem HOk.kept (x : HOk P w H h) (k : ∀ b u, h.get? b = some u → h'.get? b = some u) : HOk P w H h' := fun a o e =>
  (x a o e).stay (fun b u _ q => k b u q) (fun _ q => q) fun _ _ q => q
/-- a new object is laid and tracked -/
theorem HOk.laid (x : HOk P w H h) (k : ∀ b u, h.get? b = some u → h'.get? b = some u) (hp : h.objs.size ≤ a) (new : ObjOk P w (upd H a o) h' a o) : HOk P w (upd H a o) h' := fun b u e => by
  have hn := x.fresh hp
  by_cases hb : b = a
  · subst hb; rw [upd_same] at e; cases e; exact new
  · rw [upd_ne hb] at e
    exact (x b u e).stay (fun c v _ q => k c v q) (fun c q => by rw [upd_ne (ne_of_none q hn)]; exact q) fun c xs q => by rw [upd_ne (ne_of_none q hn)]; exact q
end

/-- what may be read as u: it is u, or a known u -/
def Rd (H : Hp) (a : Addr) (u : HO) : Prop := H a = some u ∨ ∃ o, H a = some (.frz o u)
theorem Rd.of {H : Hp} {a : Addr} {u : HO} (h : H a = some u) : Rd H a u := .inl h
theorem Rd.ok {P : Program} {w : World} {H : Hp} {h : Heap} {a : Addr} {u : HO} (r : Rd H a u) (x : HOk P w H h) : ObjOk P w H h a u := by
  rcases r with r | ⟨o, r⟩
  · exact x a u r
  · obtain ⟨_, q⟩ := x a _ r
    exact q
/-- what may be written -/
def Mut : Option HO → Prop
  | some (.lst _) => True
  | some (.dK _) => True
  | some (.dT _) => True
  | some (.set _ _) => True
  | some (.ins _ _ _) => True
  | some (.ext _) => True
  | _ => False
section
variable {P : Program} {w : World} {H : Hp} {h h' : Heap} {x e : Addr} {o' : HO}
/-- the object at e is changed: x itself, or the dict of the instance x -/
theorem HOk.write (ok : HOk P w H h) (mu : Mut (H x)) (he : e = x ∨ H e = some (.own x)) (k : ∀ b u, b ≠ e → h.get? b = some u → h'.get? b = some u) (heo : ∃ u, h'.get? e = some u)
    (new : ObjOk P w (upd H x o') h' x o') : HOk P w (upd H x o') h' := fun b u q => by
  have nown : ∀ c y, H c = some (.own y) → c ≠ x := fun c y r z => by subst z; rw [r] at mu; exact mu
  have ntup : ∀ c xs, H c = some (.tup xs) → c ≠ x := fun c xs r z => by subst z; rw [r] at mu; exact mu
  by_cases hb : b = x
  · subst hb; rw [upd_same] at q; cases q; exact new
  · rw [upd_ne hb] at q
    by_cases hbe : b = e
    · have q' : H b = some (.own x) := by
        rcases he with z | z
        · exact absurd (hbe.trans z) hb
        · rw [hbe]; exact z
      rw [q] at q'; cases q'
      obtain ⟨v, hv⟩ := heo
      exact ⟨v, by rw [hbe]; exact hv⟩
    · refine (ok b u q).stay (fun c v hc r => k c v ?_ r) (fun c r => by rw [upd_ne (nown c b r)]; exact r) fun c xs r => by rw [upd_ne (ntup c xs r)]; exact r
      rcases hc with rfl | hc
      · exact hbe
      · rintro rfl
        rcases he with z | z
        · exact nown c b hc z
        · rw [hc] at z; cases z; exact hb rfl
end

/-! ### kept unless tracked; of the frames at fs (the callers') the slots may change (an exception that passes writes there); of the records at ex (iterators) nothing is said -/
structure Un (fs ex : List Addr) (H H' : Hp) (h h' : Heap) : Prop where
  keep : ∀ b o, h.get? b = some o → H b = none → b ∉ fs → b ∉ ex → h'.get? b = some o
  slot : ∀ b o, h.get? b = some o → H b = none → b ∈ fs → b ∉ ex → ∃ sl, h'.get? b = some { o with slots := sl }
  free : ∀ b o, h.get? b = some o → H b = none → b ∉ ex → H' b = none
  there : ∀ b o, h.get? b = some o → b ∉ ex → ∃ o', h'.get? b = some o'
  tups : ∀ b xs, H b = some (.tup xs) → H' b = some (.tup xs)
  frzs : ∀ b o u, H b = some (.frz o u) → H' b = some (.frz o u)
  tbls : ∀ b ps, H b = some (.tbl ps) → ∃ more, H' b = some (.tbl (ps ++ more))
section
variable {fs fs' ex ex' : List Addr} {H H1 H2 : Hp} {h h1 h2 h' : Heap} {a x e : Addr} {o : HO}
theorem Un.any (u : Un fs ex H H1 h h1) {b : Addr} {ob : Obj} (q : h.get? b = some ob) (n : H b = none) (hx : b ∉ ex) : ∃ sl, h1.get? b = some { ob with slots := sl } := by
  by_cases hb : b ∈ fs
  · exact u.slot b ob q n hb hx
  · exact ⟨ob.slots, u.keep b ob q n hb hx⟩
theorem Un.trans (a : Un fs ex H H1 h h1) (b : Un fs ex H1 H2 h1 h2) : Un fs ex H H2 h h2 where
  keep := fun c ob q n hc hx => b.keep c ob (a.keep c ob q n hc hx) (a.free c ob q n hx) hc hx
  slot := fun c ob q n hc hx => by
    obtain ⟨sl, e1⟩ := a.slot c ob q n hc hx
    obtain ⟨sl', e2⟩ := b.slot c _ e1 (a.free c ob q n hx) hc hx
    exact ⟨sl', e2⟩
  free := fun c ob q n hx => by
    obtain ⟨o', e1⟩ := a.there c ob q hx
    exact b.free c o' e1 (a.free c ob q n hx) hx
  there := fun c ob q hx => by
    obtain ⟨o', e1⟩ := a.there c ob q hx
    exact b.there c o' e1 hx
  tups := fun c xs q => b.tups c xs (a.tups c xs q)
  frzs := fun c ob xs q => b.frzs c ob xs (a.frzs c ob xs q)
  tbls := fun c ps q => by
    obtain ⟨m1, e1⟩ := a.tbls c ps q
    obtain ⟨m2, e2⟩ := b.tbls c _ e1
    exact ⟨m1 ++ m2, by rw [e2, Array.append_assoc]⟩
theorem Un.kept (k : ∀ b u, h.get? b = some u → h'.get? b = some u) : Un fs ex H H h h' :=
  ⟨fun b ob q _ _ _ => k b ob q, fun b ob q _ _ _ => ⟨ob.slots, k b ob q⟩, fun _ _ _ n _ => n, fun b ob q _ => ⟨ob, k b ob q⟩, fun _ _ q => q, fun _ _ _ q => q, fun _ ps q => ⟨#[], by rw [q]; simp⟩⟩
theorem Un.refl : Un fs ex H H h h := Un.kept fun _ _ q => q
theorem Un.laid (k : ∀ b u, h.get? b = some u → h'.get? b = some u) (hp : h.objs.size ≤ a) (hn : H a = none) : Un fs ex H (upd H a o) h h' where
  keep := fun b u q _ _ _ => k b u q
  slot := fun b u q _ _ _ => ⟨u.slots, k b u q⟩
  free := fun b u q n _ => by rw [upd_ne (Nat.ne_of_lt (Nat.lt_of_lt_of_le (Heap.lt_size q) hp))]; exact n
  there := fun b u q _ => ⟨u, k b u q⟩
  tups := fun b xs q => by rw [upd_ne (ne_of_none q hn)]; exact q
  frzs := fun b u xs q => by rw [upd_ne (ne_of_none q hn)]; exact q
  tbls := fun b ps q => ⟨#[], by rw [upd_ne (ne_of_none q hn), q]; simp⟩
theorem Un.write (mu : Mut (H x)) (he : e = x ∨ H e = some (.own x)) (k : ∀ b u, b ≠ e → h.get? b = some u → h'.get? b = some u) (heo : ∃ u, h'.get? e = some u) : Un fs ex H (upd H x o) h h' := by
  have hx : ∀ b, H b = none → b ≠ x := fun b n z => by subst z; rw [n] at mu; exact mu
  have hb : ∀ b, H b = none → b ≠ e := fun b n z => by
    subst z
    rcases he with r | r
    · exact hx b n r
    · rw [n] at r; cases r
  have hm : ∀ b u, H b = some u → ¬ Mut (some u) → b ≠ x := fun b u q nm z => by subst z; rw [q] at mu; exact nm mu
  refine ⟨fun b u q n _ _ => k b u (hb b n) q, fun b u q n _ _ => ⟨u.slots, k b u (hb b n) q⟩, fun b u q n _ => by rw [upd_ne (hx b n)]; exact n, fun b u q _ => ?_,
    fun b xs q => by rw [upd_ne (hm b _ q fun z => z)]; exact q, fun b u xs q => by rw [upd_ne (hm b _ q fun z => z)]; exact q, fun b ps q => ⟨#[], by rw [upd_ne (hm b _ q fun z => z), q]; simp⟩⟩
  by_cases hbe : b = e
  · subst hbe; exact heo
  · exact ⟨u, k b u hbe q⟩
theorem Un.mono (u : Un fs ex H H1 h h1) (hs : ∀ b ∈ fs, b ∈ fs') (hx : ∀ b ∈ ex, b ∈ ex') : Un fs' ex' H H1 h h1 :=
  ⟨fun b ob q n hb he => u.keep b ob q n (fun z => hb (hs b z)) fun z => he (hx b z), fun _ _ q n _ he => u.any q n fun z => he (hx _ z), fun b ob q n he => u.free b ob q n fun z => he (hx b z), fun b ob q he => u.there b ob q fun z => he (hx b z), u.tups, u.frzs, u.tbls⟩
end

/-! ### the heap without what is tracked -/
def trk (h : Heap) (H : Hp) : List Addr := (List.range h.objs.size).filter fun a => (H a).isSome
def hidT (h : Heap) (H : Hp) : Heap := PySem.W.hideAll h (trk h H)
theorem hidT_size (h : Heap) (H : Hp) : (hidT h H).objs.size = h.objs.size := PySem.W.hideAll_size _ _
theorem hidT_get {h : Heap} {H : Hp} {b : Addr} {o : Obj} (e : h.get? b = some o) (n : H b = none) : (hidT h H).get? b = some o :=
  PySem.W.hideAll_get _ e fun hm => by
    have q : (H b).isSome = true := (List.mem_filter.mp hm).2
    rw [n] at q; simp at q
theorem of_hidT {h : Heap} {H : Hp} {b : Addr} {o : Obj} (e : (hidT h H).get? b = some o) : h.get? b = some o ∧ H b = none := by
  have e' : h.get? b = some o := PySem.W.of_hideAll (trk h H) e
  refine ⟨e', ?_⟩
  cases q : H b with
  | none => rfl
  | some x =>
    have hm : b ∈ trk h H := List.mem_filter.mpr ⟨List.mem_range.mpr (Heap.lt_size e'), by simp [q]⟩
    have z : (hidT h H).get? b = none := PySem.W.hideAll_none (trk h H) hm
    rw [z] at e; cases e

/-! ### OpenK's ledger, filled with every new object but one -/
def allNews (g h : Heap) (L : Addr) : List (Addr × Obj) := (List.range h.objs.size).filterMap fun a => if a = L ∨ (g.get? a).isSome = true then none else (h.get? a).map fun o => (a, o)
def rest (g h : Heap) (L d : Addr) : List (Addr × Obj) := (allNews g h L).filter fun p => decide (p.1 ≠ d)
end L2

namespace L2
open PySem PySem.Spec PyProof.Rows

/-- the module's facts, over the base: the heap at the law's entry without what is tracked there -/
structure Mod (K : PySem.W.Frag) (mg : Str → Option Value) (base : Heap) : Prop where
  kin : K.In base
  glob : base.Ns mainGlobals mg
  blt : ∃ mb, base.Ns builtinsNs mb ∧ ∀ x : Str, x ≠ "__name__" → mb x = bootBuiltins x
  nolimit : base.NoLimit

/-- the context: a def's body (or a comprehension's block) running. base: fixed through the whole law; s₀, H₀: the entry; outer: the frames whose slots others may change (a def's callers); stack: all frames that run;
   ex: iterators that were made ahead of the entry and are walked here (a comprehension's); fn: the names whose cells were made at the entry (a def: all; a comprehension's block: its own); calm: not within an except suite; pn: pins that every state bears; xe: what is wanted of an exception that leaves the code -/
structure Cx where
  prog : Program
  w : World
  K : PySem.W.Frag
  mg : Str → Option Value
  base : Heap
  A : Around
  N : List Str
  s₀ : Shared
  H₀ : Hp
  env : Env
  outer : List Env
  stack : List Env
  ex : List Addr
  fn : Str → Bool
  calm : Bool
  pn : List (Addr × Obj)
  xe : Value → Shared → Prop
/-- the callers' frames -/
def frs (l : List Env) : List Addr := l.filterMap (·.frame)
abbrev Cx.fs (X : Cx) : List Addr := frs X.outer

def Vis (sc : Scope) (x : Str) : Prop := sc.names.lookup x = some .local ∨ sc.names.lookup x = some .cell ∨ sc.names.lookup x = some .free
def Loc (sc : Scope) (x : Str) : Prop := sc.names.lookup x = some .local ∨ sc.names.lookup x = some .cell
def Look (env : Env) (h : Heap) (m : Str → Option Value) (x : Str) (u : Value) : Prop :=
  (env.kindOf x = some .local ∧ m x = some u) ∨ ((env.kindOf x = some .cell ∨ env.kindOf x = some .free) ∧ ∃ c, env.cells.lookup x = some c ∧ h.IsCell c (some u))

structure Cx.Ok (X : Cx) : Prop where
  mod : Mod X.K X.mg X.base
  kind : X.env.scope.kind = .function
  glob : X.env.globals = mainGlobals
  blt : X.env.builtins = builtinsNs
  above : X.s₀.heap.objs.size ≤ X.env.locals
  inj : ∀ x y c, X.env.cells.lookup x = some c → X.env.cells.lookup y = some c → x = y
  has : ∀ x, (X.env.kindOf x = some .cell ∨ X.env.kindOf x = some .free) → ∃ c, X.env.cells.lookup x = some c
  cab : ∀ x c, X.fn x = true → X.env.cells.lookup x = some c → X.s₀.heap.objs.size ≤ c
  hd : X.calm = true → X.A.handled = none
  frames : X.A.frames = some X.stack
  stk : X.stack = X.outer ∨ (X.stack = X.env :: X.outer ∧ X.env.frame = some X.env.locals)
  exf : ∀ b ∈ X.ex, b ≠ X.env.locals ∧ ∀ x c, X.env.cells.lookup x = some c → c ≠ b
  bs : ∀ b o, X.base.get? b = some o → X.s₀.heap.get? b = some o ∧ X.H₀ b = none
  bsz : X.base.objs.size ≤ X.s₀.heap.objs.size
  noex : ∀ b o, X.base.get? b = some o → b ∉ X.ex
  exfs : ∀ b ∈ X.ex, b ∉ X.fs
  funs : X.s₀.heap.FunFrames X.base X.outer
  frf : ∀ b ∈ X.fs, X.H₀ b = none

structure Inv (X : Cx) (pins : List (Addr × Obj)) (σ : List (Option V)) (H : Hp) (s : Shared) : Prop where
  ok : X.Ok
  os : s.os = X.s₀.os
  bare : AllBare s.gens
  base : Un X.fs X.ex X.H₀ H X.s₀.heap s.heap
  loc : ∃ m, s.heap.Ns X.env.locals m ∧ ∀ (i : Nat) (x : Str) (v : V), X.N[i]? = some x → σ[i]? = some (some v) → Vis X.env.scope x → ∃ u, RelV v u ∧ Look X.env s.heap m x u
  cell : ∀ x c, X.env.cells.lookup x = some c → ∃ v, s.heap.IsCell c v
  free : H X.env.locals = none
  freeC : ∀ x c, X.env.cells.lookup x = some c → H c = none
  pin : ∀ p ∈ X.pn ++ pins, s.heap.get? p.1 = some p.2 ∧ H p.1 = none ∧ p.1 ≠ X.env.locals ∧ p.1 ∉ X.fs ∧ ∀ v, p.2.data ≠ .cell v
  hok : HOk X.prog X.w H s.heap
  len : σ.length = X.N.length

section
variable {X : Cx} {pins : List (Addr × Obj)} {σ : List (Option V)} {H H' : Hp} {s : Shared} {h' : Heap}

theorem Cx.Ok.nofr (ok : X.Ok) {b : Addr} {o : Obj} (e : X.base.get? b = some o) : b ∉ X.fs := fun hb => by
  have := (ok.funs.mem hb).1
  rw [e] at this; cases this
theorem Inv.bs (I : Inv X pins σ H s) : ∀ b o, X.base.get? b = some o → s.heap.get? b = some o ∧ H b = none := fun b o e =>
  ⟨I.base.keep b o (I.ok.bs b o e).1 (I.ok.bs b o e).2 (I.ok.nofr e) (I.ok.noex b o e), I.base.free b o (I.ok.bs b o e).1 (I.ok.bs b o e).2 (I.ok.noex b o e)⟩
theorem Inv.bk (I : Inv X pins σ H s) : ∀ b o, X.base.get? b = some o → s.heap.get? b = some o := fun b o e => (I.bs b o e).1
theorem Inv.mod (I : Inv X pins σ H s) : Mod X.K X.mg X.base := I.ok.mod
theorem Inv.kIn (I : Inv X pins σ H s) : X.K.In s.heap := I.ok.mod.kin.keeps I.bk
theorem Inv.nolimit (I : Inv X pins σ H s) : s.heap.NoLimit := I.ok.mod.nolimit.keeps I.bk
/-- the frame over the base: for OpenK's rules (K.In X.base is I.mod.kin) -/
theorem Inv.fr (I : Inv X pins σ H s) : ∃ m, Fr X.base X.env.locals s.heap m :=
  let ⟨m, hn, _⟩ := I.loc
  ⟨m, hn, I.bk, Nat.le_trans I.ok.bsz I.ok.above⟩
theorem Inv.lt (I : Inv X pins σ H s) : X.env.locals < s.heap.objs.size := let ⟨_, hn, _⟩ := I.loc; hn.lt
theorem Inv.sz (I : Inv X pins σ H s) : X.s₀.heap.objs.size ≤ s.heap.objs.size := Nat.le_trans I.ok.above (Nat.le_of_lt I.lt)
theorem Inv.nofs (I : Inv X pins σ H s) {a : Addr} (h : s.heap.objs.size ≤ a) : a ∉ X.fs := fun hb => by
  obtain ⟨_, o, ho, _⟩ := I.ok.funs.mem hb
  exact absurd (Nat.lt_of_lt_of_le (Heap.lt_size ho) (Nat.le_trans I.sz h)) (Nat.lt_irrefl _)
theorem Inv.cne (I : Inv X pins σ H s) : ∀ x c, X.env.cells.lookup x = some c → c ≠ X.env.locals := fun x c e z => by
  obtain ⟨v, o, ho, hd⟩ := I.cell x c e
  obtain ⟨m, ⟨o', es, ep, ho', hd', _⟩, _⟩ := I.loc
  rw [z, ho'] at ho; cases ho; rw [hd'] at hd; cases hd
theorem Inv.funs (I : Inv X pins σ H s) : s.heap.FunFrames X.base X.outer := by
  have all : ∀ (l : List Env), (∀ b ∈ frs l, b ∈ X.fs) → X.s₀.heap.FunFrames X.base l → s.heap.FunFrames X.base l := by
    intro l
    induction l with
    | nil => intro _ _; trivial
    | cons env r ih =>
      intro hs hl
      obtain ⟨hk, ⟨L, o, hf, hn, ho, hd⟩, hr⟩ := hl
      have hL : L ∈ X.fs := hs L (by unfold frs; rw [List.filterMap_cons, hf]; exact List.mem_cons_self)
      obtain ⟨sl, e⟩ := I.base.slot L o ho (I.ok.frf L hL) hL fun z => I.ok.exfs L z hL
      exact ⟨hk, ⟨L, _, hf, hn, e, hd⟩, ih (fun b hb => hs b (by unfold frs; rw [List.filterMap_cons, hf]; exact List.mem_cons_of_mem _ hb)) hr⟩
  exact all X.outer (fun _ hb => hb) I.ok.funs

/-- the frames that run, for a call -/
theorem Inv.stack (I : Inv X pins σ H s) : s.heap.FunFrames X.base X.stack := by
  rcases I.ok.stk with e | ⟨e, hf⟩
  · rw [e]; exact I.funs
  · rw [e]
    obtain ⟨m, hn, _⟩ := I.loc
    refine .cons (by rw [I.ok.kind]; decide) hf hn ?_ I.funs
    exact Heap.get?_none_of_le (Nat.le_trans I.ok.bsz I.ok.above)
theorem Inv.stkSub (I : Inv X pins σ H s) : ∀ b ∈ frs X.stack, b ∈ X.env.locals :: X.fs := fun b hb => by
  rcases I.ok.stk with e | ⟨e, hf⟩
  · rw [e] at hb; exact List.mem_cons_of_mem _ hb
  · rw [e] at hb
    unfold frs at hb
    rw [List.filterMap_cons, hf] at hb
    exact hb
theorem Inv.stkFree (I : Inv X pins σ H s) : ∀ b ∈ frs X.stack, H b = none := fun b hb => by
  rcases List.mem_cons.mp (I.stkSub b hb) with e | hb
  · rw [e]; exact I.free
  · obtain ⟨_, o, ho, _⟩ := I.ok.funs.mem hb
    exact I.base.free b o ho (I.ok.frf b hb) fun z => I.ok.exfs b z hb

/-- THE STEP: the untracked objects but the frame and the records at ch are kept (the callers' frames up to slots), the frame's map is kept, the new abstract heap is held -/
theorem Inv.step {g' : Array GenState} {t' : Nat} {d' : Drawn} {ch : List Addr} (I : Inv X pins σ H s)
    (hch : ∀ b ∈ ch, (b ∈ X.ex ∨ X.s₀.heap.objs.size ≤ b) ∧ b ≠ X.env.locals ∧ (∀ x c, X.env.cells.lookup x = some c → c ≠ b) ∧ ∀ p ∈ X.pn ++ pins, p.1 ≠ b)
    (keep : ∀ b o, b ≠ X.env.locals → b ∉ X.fs → b ∉ ch → s.heap.get? b = some o → H b = none → h'.get? b = some o)
    (slot : ∀ b o, b ≠ X.env.locals → b ∈ X.fs → b ∉ ch → s.heap.get? b = some o → H b = none → ∃ sl, h'.get? b = some { o with slots := sl }) (free : ∀ b o, b ∉ ch → s.heap.get? b = some o → H b = none → H' b = none)
    (there : ∀ b o, b ∉ ch → s.heap.get? b = some o → ∃ o', h'.get? b = some o')
    (tups : ∀ b xs, H b = some (.tup xs) → H' b = some (.tup xs)) (frzs : ∀ b o u, H b = some (.frz o u) → H' b = some (.frz o u)) (tbls : ∀ b ps, H b = some (.tbl ps) → ∃ more, H' b = some (.tbl (ps ++ more)))
    (ns : ∀ m, s.heap.Ns X.env.locals m → h'.Ns X.env.locals m) (hok : HOk X.prog X.w H' h') (hg : AllBare g') :
    Inv X pins σ H' { s with heap := h', gens := g', drawn := d', toks := t' } := by
  have neL : ∀ b o, X.s₀.heap.get? b = some o → b ≠ X.env.locals := fun b o e => Nat.ne_of_lt (Nat.lt_of_lt_of_le (Heap.lt_size e) I.ok.above)
  have neC : ∀ b o, X.s₀.heap.get? b = some o → b ∉ X.ex → b ∉ ch := fun b o e hx hb => by
    rcases (hch b hb).1 with z | z
    · exact hx z
    · exact absurd (Nat.lt_of_lt_of_le (Heap.lt_size e) z) (Nat.lt_irrefl _)
  have cellK : ∀ x c, X.env.cells.lookup x = some c → ∀ v, s.heap.IsCell c v → h'.IsCell c v := fun x c e v ⟨o, ho, hd⟩ => by
    have nch : c ∉ ch := fun z => (hch c z).2.2.1 x c e rfl
    by_cases hc : c ∈ X.fs
    · obtain ⟨sl, q⟩ := slot c o (I.cne x c e) hc nch ho (I.freeC x c e)
      exact ⟨_, q, hd⟩
    · exact ⟨o, keep c o (I.cne x c e) hc nch ho (I.freeC x c e), hd⟩
  refine ⟨I.ok, I.os, hg, ⟨fun b o e n hb hx => ?_, fun b o e n hb hx => ?_, fun b o e n hx => ?_, fun b o e hx => ?_, fun b xs e => tups b xs (I.base.tups b xs e), fun b o xs e => frzs b o xs (I.base.frzs b o xs e), fun b ps e => ?_⟩, ?_, fun x c e => ?_, ?_, fun x c e => ?_, fun p hp => ?_, hok, I.len⟩
  · exact keep b o (neL b o e) hb (neC b o e hx) (I.base.keep b o e n hb hx) (I.base.free b o e n hx)
  · obtain ⟨sl, e1⟩ := I.base.slot b o e n hb hx
    obtain ⟨sl', e2⟩ := slot b _ (neL b o e) hb (neC b o e hx) e1 (I.base.free b o e n hx)
    exact ⟨sl', e2⟩
  · obtain ⟨o', e1⟩ := I.base.there b o e hx
    exact free b o' (neC b o e hx) e1 (I.base.free b o e n hx)
  · obtain ⟨o', e1⟩ := I.base.there b o e hx
    exact there b o' (neC b o e hx) e1
  · obtain ⟨m1, e1⟩ := I.base.tbls b ps e
    obtain ⟨m2, e2⟩ := tbls b _ e1
    exact ⟨m1 ++ m2, by rw [e2, Array.append_assoc]⟩
  · obtain ⟨m, hn, hl⟩ := I.loc
    refine ⟨m, ns m hn, fun i x v e1 e2 e3 => ?_⟩
    obtain ⟨u, r, l⟩ := hl i x v e1 e2 e3
    refine ⟨u, r, ?_⟩
    rcases l with l | ⟨k, c, e, z⟩
    · exact .inl l
    · exact .inr ⟨k, c, e, cellK x c e _ z⟩
  · obtain ⟨v, z⟩ := I.cell x c e
    exact ⟨v, cellK x c e v z⟩
  · obtain ⟨m, ⟨o, _, _, ho, _⟩, _⟩ := I.loc
    exact free _ o (fun z => (hch _ z).2.1 rfl) ho I.free
  · obtain ⟨v, o, ho, hd⟩ := I.cell x c e
    exact free c o (fun z => (hch c z).2.2.1 x c e rfl) ho (I.freeC x c e)
  · obtain ⟨e, n, ne, nf, d⟩ := I.pin p hp
    have nch : p.1 ∉ ch := fun z => (hch p.1 z).2.2.2 p hp rfl
    exact ⟨keep p.1 p.2 ne nf nch e n, free p.1 p.2 nch e n, ne, nf, d⟩
/-- .. where the frame's own object is kept too -/
theorem Inv.un {t' : Nat} (I : Inv X pins σ H s) (u : Un X.fs [] H H' s.heap h') (hok : HOk X.prog X.w H' h') : Inv X pins σ H' { s with heap := h', toks := t' } := by
  obtain ⟨m, ⟨o, es, ep, ho, r⟩, _⟩ := id I.loc
  obtain ⟨sl, hL⟩ := u.any ho I.free (by simp)
  exact I.step (g' := s.gens) (d' := s.drawn) (ch := []) (fun _ z => nomatch z) (fun b o _ hb _ e n => u.keep b o e n hb (by simp)) (fun b o _ hb _ e n => u.slot b o e n hb (by simp)) (fun b o _ e n => u.free b o e n (by simp)) (fun b o _ e => u.there b o e (by simp)) u.tups u.frzs u.tbls (fun m' hm => by
    obtain ⟨o', es', ep', ho', r'⟩ := hm
    rw [ho] at ho'; cases ho'
    exact ⟨_, es', ep', hL, r'⟩) hok I.bare
/-- behind a call (or a comprehension's block): the slots of this frame may have changed too, the records at ch may have turned -/
theorem Inv.call {g' : Array GenState} {t' : Nat} {d' : Drawn} {ch : List Addr} (I : Inv X pins σ H s) (u : Un (frs X.stack) ch H H' s.heap h') (hok : HOk X.prog X.w H' h') (hg : AllBare g')
    (hch : ∀ b ∈ ch, (b ∈ X.ex ∨ X.s₀.heap.objs.size ≤ b) ∧ b ≠ X.env.locals ∧ (∀ x c, X.env.cells.lookup x = some c → c ≠ b) ∧ ∀ p ∈ X.pn ++ pins, p.1 ≠ b) :
    Inv X pins σ H' { s with heap := h', gens := g', drawn := d', toks := t' } := by
  obtain ⟨m, ⟨o, es, ep, ho, r⟩, _⟩ := id I.loc
  obtain ⟨sl, hL⟩ := u.any ho I.free fun z => (hch _ z).2.1 rfl
  exact I.step (ch := ch) hch (fun b o hL hb hc e n => u.keep b o e n (fun z => (List.mem_cons.mp (I.stkSub b z)).elim hL hb) hc) (fun b o _ _ hc e n => u.any e n hc) (fun b o hc e n => u.free b o e n hc) (fun b o hc e => u.there b o e hc) u.tups u.frzs u.tbls (fun m' hm => by
    obtain ⟨o', es', ep', ho', r'⟩ := hm
    rw [ho] at ho'; cases ho'
    exact ⟨_, es', ep', hL, r'⟩) hok hg
/-- an untracked record of ours (an iterator) has turned -/
theorem Inv.turned {t' : Nat} {it : Addr} (I : Inv X pins σ H s) (k : ∀ b o, b ≠ it → s.heap.get? b = some o → h'.get? b = some o) (hn : H it = none) (hL : it ≠ X.env.locals)
    (h1 : it ∈ X.ex ∨ X.s₀.heap.objs.size ≤ it) (h2 : ∀ x c, X.env.cells.lookup x = some c → c ≠ it) (h3 : ∀ p ∈ X.pn ++ pins, p.1 ≠ it) : Inv X pins σ H { s with heap := h', toks := t' } := by
  have nit : ∀ b u, H b = some u → b ≠ it := fun b u e z => by rw [z, hn] at e; cases e
  refine I.step (g' := s.gens) (d' := s.drawn) (ch := [it]) (fun b hb => ?_) (fun b o _ _ hc e _ => k b o (fun z => hc (by simp [z])) e) (fun b o _ _ hc e _ => ⟨o.slots, k b o (fun z => hc (by simp [z])) e⟩) (fun _ _ _ _ n => n)
    (fun b o hc e => ⟨o, k b o (fun z => hc (by simp [z])) e⟩) (fun _ _ e => e) (fun _ _ _ e => e) (fun b ps e => ⟨#[], by rw [e]; simp⟩) (fun m hm => ?_) (fun b u e => ?_) I.bare
  · have e : b = it := by simpa using hb
    subst e
    exact ⟨h1, hL, h2, h3⟩
  · obtain ⟨o, es, ep, ho, r⟩ := hm
    exact ⟨o, es, ep, k _ o (Ne.symm hL) ho, r⟩
  · refine (I.hok b u e).stay (fun c v hc q => k c v ?_ q) (fun _ q => q) fun _ _ q => q
    rcases hc with z | z
    · rw [z]; exact nit b u e
    · exact nit c _ z
theorem Inv.tok (I : Inv X pins σ H s) (t : Nat) : Inv X pins σ H { s with toks := t } := I.un (h' := s.heap) (t' := t) Un.refl I.hok
/-- all objects kept -/
theorem Inv.kept {t' : Nat} (I : Inv X pins σ H s) (k : ∀ b u, s.heap.get? b = some u → h'.get? b = some u) : Inv X pins σ H { s with heap := h', toks := t' } := I.un (Un.kept k) (I.hok.kept k)
/-- a new object laid and tracked -/
theorem Inv.laid {a : Addr} {o : HO} {t' : Nat} (I : Inv X pins σ H s) (k : ∀ b u, s.heap.get? b = some u → h'.get? b = some u) (hp : s.heap.objs.size ≤ a) (new : ObjOk X.prog X.w (upd H a o) h' a o) :
    Inv X pins σ (upd H a o) { s with heap := h', toks := t' } := I.un (Un.laid k hp (I.hok.fresh hp)) (I.hok.laid k hp new)
/-- an object written -/
theorem Inv.write {x e : Addr} {o : HO} {t' : Nat} (I : Inv X pins σ H s) (mu : Mut (H x)) (he : e = x ∨ H e = some (.own x)) (k : ∀ b u, b ≠ e → s.heap.get? b = some u → h'.get? b = some u) (heo : ∃ u, h'.get? e = some u)
    (new : ObjOk X.prog X.w (upd H x o) h' x o) : Inv X pins σ (upd H x o) { s with heap := h', toks := t' } := I.un (Un.write mu he k heo) (I.hok.write mu he k heo new)
theorem Inv.pins_of {pins' : List (Addr × Obj)} (I : Inv X pins σ H s) (h : ∀ p ∈ pins', s.heap.get? p.1 = some p.2 ∧ H p.1 = none ∧ p.1 ≠ X.env.locals ∧ p.1 ∉ X.fs ∧ ∀ v, p.2.data ≠ .cell v) : Inv X pins' σ H s :=
  ⟨I.ok, I.os, I.bare, I.base, I.loc, I.cell, I.free, I.freeC, fun p hp => (List.mem_append.mp hp).elim (fun z => I.pin p (List.mem_append_left _ z)) (h p), I.hok, I.len⟩

theorem nodup_ix {N : List Str} (hN : N.Nodup) {i j : Nat} {x : Str} (a : N[i]? = some x) (b : N[j]? = some x) : i = j := by
  obtain ⟨h1, e1⟩ := List.getElem?_eq_some_iff.mp a
  obtain ⟨h2, e2⟩ := List.getElem?_eq_some_iff.mp b
  exact (List.getElem_inj hN).mp (e1.trans e2.symm)

/-- a name is stored; what changed -/
theorem store_ok2 {M : Model} {A : Around} {E : Value → Shared → Prop} {i : Nat} {x : Str} {v : V} {u : Value} {Q : Unit → Shared → Prop} (I : Inv X pins σ H s) (hN : X.N.Nodup) (hi : X.N[i]? = some x) (hx : Loc X.env.scope x) (r : RelV v u)
    (h : ∀ s', Inv X pins (σ.set i (some v)) H s' → (∃ a, Heap.SameBut a s.heap s'.heap ∧ (a = X.env.locals ∨ X.env.cells.lookup x = some a)) → Q () s') (hf : X.fn x = true ∨ X.env.scope.names.lookup x = some .local := by first | exact .inl rfl | exact .inr rfl | assumption) : wpAny M A (storeName X.env x u) Q E s := by
  obtain ⟨m, hn, hl⟩ := id I.loc
  have hcls : (X.env.scope.kind == .class || (X.env.scope.kind == .module && X.env.locals != X.env.globals)) = false := by rw [I.ok.kind]; rfl
  have hiσ : i < σ.length := by rw [I.len]; exact (List.getElem?_eq_some_iff.mp hi).1
  have cne := I.cne
  have tracked : ∀ {a : Addr} {h' : Heap}, (∃ o, s.heap.get? a = some o ∧ H a = none) → Heap.SameBut a s.heap h' → HOk X.prog X.w H h' := fun {a h'} ha hs b ob e => by
    obtain ⟨_, _, hfree⟩ := ha
    refine (I.hok b ob e).stay (fun c w' hc q => (hs.2 c ?_).trans q) (fun _ q => q) fun _ _ q => q
    rintro rfl
    rcases hc with rfl | hc
    · rw [hfree] at e; cases e
    · rw [hfree] at hc; cases hc
  rcases hx with hk | hk
  · refine wpAny_storeName_local hk hn (fun h' hn' hs => ?_) hcls
    obtain ⟨oL, _, _, hoL, _⟩ := id hn
    refine h _ ⟨I.ok, I.os, I.bare, ⟨fun b o e n hb hx => ?_, fun b o e n hb hx => ?_, I.base.free, fun b o e hx => ?_, I.base.tups, I.base.frzs, I.base.tbls⟩, ⟨_, hn', fun j y v' e1 e2 e3 => ?_⟩, fun y c e => ?_, I.free, I.freeC, fun p hp => ?_, tracked ⟨oL, hoL, I.free⟩ hs, by simpa using I.len⟩ ⟨_, hs, .inl rfl⟩
    · exact (hs.2 b (Nat.ne_of_lt (Nat.lt_of_lt_of_le (Heap.lt_size e) I.ok.above))).trans (I.base.keep b o e n hb hx)
    · obtain ⟨sl, e1⟩ := I.base.slot b o e n hb hx
      exact ⟨sl, (hs.2 b (Nat.ne_of_lt (Nat.lt_of_lt_of_le (Heap.lt_size e) I.ok.above))).trans e1⟩
    · obtain ⟨o', e1⟩ := I.base.there b o e hx
      exact ⟨o', (hs.2 b (Nat.ne_of_lt (Nat.lt_of_lt_of_le (Heap.lt_size e) I.ok.above))).trans e1⟩
    · by_cases hj : j = i
      · subst hj
        rw [hi] at e1; cases e1
        rw [List.getElem?_set_self hiσ] at e2
        cases e2
        exact ⟨u, r, .inl ⟨hk, by simp⟩⟩
      · rw [List.getElem?_set_ne (Ne.symm hj)] at e2
        obtain ⟨u', r', q⟩ := hl j y v' e1 e2 e3
        refine ⟨u', r', ?_⟩
        rcases q with ⟨k, e⟩ | ⟨k, c, e, z⟩
        · refine .inl ⟨k, ?_⟩
          have : y ≠ x := fun e => hj (nodup_ix hN e1 (e ▸ hi))
          simp [this, e]
        · exact .inr ⟨k, c, e, z.sameBut hs (cne y c e)⟩
    · obtain ⟨w', z⟩ := I.cell y c e
      exact ⟨w', z.sameBut hs (cne y c e)⟩
    · obtain ⟨e, n, ne, nf, d⟩ := I.pin p hp
      exact ⟨(hs.2 p.1 ne).trans e, n, ne, nf, d⟩
  · have hfn : X.fn x = true := by
      rcases hf with z | z
      · exact z
      · rw [z] at hk; cases hk
    obtain ⟨c, hc⟩ := I.ok.has x (.inl hk)
    obtain ⟨w', z⟩ := I.cell x c hc
    refine wpAny_storeName_cell I.ok.kind hk hc z (fun h' hc' hs => ?_)
    obtain ⟨oc, hoc, hocd⟩ := id z
    refine h { s with heap := h' } ⟨I.ok, I.os, I.bare, ⟨fun b o e n hb hx => ?_, fun b o e n hb hx => ?_, I.base.free, fun b o e hx => ?_, I.base.tups, I.base.frzs, I.base.tbls⟩, ⟨m, hn.sameBut hs (Ne.symm (cne x c hc)), fun j y v' e1 e2 e3 => ?_⟩, fun y c' e => ?_, I.free, I.freeC, fun p hp => ?_, tracked ⟨oc, hoc, I.freeC x c hc⟩ hs, by simpa using I.len⟩ ⟨c, hs, .inr hc⟩
    · exact (hs.2 b (Nat.ne_of_lt (Nat.lt_of_lt_of_le (Heap.lt_size e) (I.ok.cab x c hfn hc)))).trans (I.base.keep b o e n hb hx)
    · obtain ⟨sl, e1⟩ := I.base.slot b o e n hb hx
      exact ⟨sl, (hs.2 b (Nat.ne_of_lt (Nat.lt_of_lt_of_le (Heap.lt_size e) (I.ok.cab x c hfn hc)))).trans e1⟩
    · obtain ⟨o', e1⟩ := I.base.there b o e hx
      exact ⟨o', (hs.2 b (Nat.ne_of_lt (Nat.lt_of_lt_of_le (Heap.lt_size e) (I.ok.cab x c hfn hc)))).trans e1⟩
    · by_cases hj : j = i
      · subst hj
        rw [hi] at e1; cases e1
        rw [List.getElem?_set_self hiσ] at e2
        cases e2
        exact ⟨u, r, .inr ⟨.inl hk, c, hc, hc'⟩⟩
      · rw [List.getElem?_set_ne (Ne.symm hj)] at e2
        obtain ⟨u', r', q⟩ := hl j y v' e1 e2 e3
        refine ⟨u', r', ?_⟩
        rcases q with q | ⟨k, c', e, z'⟩
        · exact .inl q
        · refine .inr ⟨k, c', e, z'.sameBut hs ?_⟩
          rintro rfl
          exact hj (nodup_ix hN e1 (I.ok.inj _ _ _ e hc ▸ hi))
    · by_cases hcc : c' = c
      · subst hcc; exact ⟨_, hc'⟩
      · obtain ⟨w2, z2⟩ := I.cell y c' e
        exact ⟨w2, z2.sameBut hs hcc⟩
    · obtain ⟨e, n, ne, nf, d⟩ := I.pin p hp
      refine ⟨(hs.2 p.1 ?_).trans e, n, ne, nf, d⟩
      intro q
      rw [q, hoc] at e
      have q' : oc = p.2 := Option.some.inj e
      exact d w' (by rw [← q']; exact hocd)
theorem store_ok {M : Model} {A : Around} {E : Value → Shared → Prop} {i : Nat} {x : Str} {v : V} {u : Value} {Q : Unit → Shared → Prop} (I : Inv X pins σ H s) (hN : X.N.Nodup) (hi : X.N[i]? = some x) (hx : Loc X.env.scope x) (r : RelV v u)
    (h : ∀ s', Inv X pins (σ.set i (some v)) H s' → Q () s') (hf : X.fn x = true ∨ X.env.scope.names.lookup x = some .local := by first | exact .inl rfl | exact .inr rfl | assumption) : wpAny M A (storeName X.env x u) Q E s :=
  store_ok2 I hN hi hx r (fun s' I' _ => h s' I') hf
/-- behind a call or a block, the state as it is -/
theorem Inv.call' {s' : Shared} {ch : List Addr} (I : Inv X pins σ H s) (ho : s'.os = s.os) (u : Un (frs X.stack) ch H H' s.heap s'.heap) (hok : HOk X.prog X.w H' s'.heap) (hg : AllBare s'.gens)
    (hch : ∀ b ∈ ch, (b ∈ X.ex ∨ X.s₀.heap.objs.size ≤ b) ∧ b ≠ X.env.locals ∧ (∀ x c, X.env.cells.lookup x = some c → c ≠ b) ∧ ∀ p ∈ X.pn ++ pins, p.1 ≠ b) : Inv X pins σ H' s' := by
  obtain ⟨h', g', d', t', o'⟩ := s'
  have e : o' = s.os := ho
  subst e
  exact I.call (g' := g') (t' := t') (d' := d') u hok hg hch
end

/-! ### the judgements -/
/-- an exception: its class, its own dict's address (where it has one), the abstract heap behind it -/
abbrev XK := Value → Option Addr → Hp → Prop
abbrev St := List (Option V)
abbrev VK := V → Hp → Prop
/-- an expression's reading; a test's; an argument list's -/
abbrev TE := St → Hp → VK → Prop
abbrev TT := St → Hp → (Bool → Hp → Prop) → Prop
abbrev TA := St → Hp → (List V → Hp → Prop) → Prop
/-- what is wanted behind a statement -/
structure Ends where
  nx : St → Hp → Prop
  rt : VK
  bk : St → Hp → Prop := fun _ _ => False
  ct : St → Hp → Prop := fun _ _ => False
abbrev TS := Ends → St → Hp → Prop

def EP (X : Cx) (pins : List (Addr × Obj)) (σ : St) (Q : VK) (u : Value) (s' : Shared) : Prop := ∃ v H', Inv X pins σ H' s' ∧ RelV v u ∧ Q v H'
def TP (X : Cx) (pins : List (Addr × Obj)) (σ : St) (Q : Bool → Hp → Prop) (b : Bool) (s' : Shared) : Prop := ∃ H', Inv X pins σ H' s' ∧ Q b H'
def AP (X : Cx) (pins : List (Addr × Obj)) (σ : St) (Q : List V → Hp → Prop) (us : List Value) (s' : Shared) : Prop := ∃ vs H', Inv X pins σ H' s' ∧ Vals vs us ∧ Q vs H'
def SP (X : Cx) (pins : List (Addr × Obj)) (D : Ends) (f : Flow) (s' : Shared) : Prop :=
  match f with
  | .next => ∃ σ' H', Inv X pins σ' H' s' ∧ D.nx σ' H'
  | .brk => ∃ σ' H', Inv X pins σ' H' s' ∧ D.bk σ' H'
  | .cont => ∃ σ' H', Inv X pins σ' H' s' ∧ D.ct σ' H'
  | .ret u => ∃ v σ' H', Inv X pins σ' H' s' ∧ RelV v u ∧ D.rt v H'

def PE (X : Cx) (e : Expr) (t : TE) : Prop :=
  ∀ (pins : List (Addr × Obj)) (s : Shared) (σ : St) (H : Hp) (Q : VK), Inv X pins σ H s → t σ H Q → wpAny (model X.prog X.w) X.A (eval e X.env) (EP X pins σ Q) X.xe s
def PT (X : Cx) (e : Expr) (t : TT) : Prop :=
  ∀ (pins : List (Addr × Obj)) (s : Shared) (σ : St) (H : Hp) (Q : Bool → Hp → Prop), Inv X pins σ H s → t σ H Q → wpAny (model X.prog X.w) X.A (isTrue e X.env (eval e X.env)) (TP X pins σ Q) X.xe s
/-- a test whatever its 'whole' is (and, or) -/
def PW (X : Cx) (e : Expr) (t : TT) : Prop :=
  ∀ (whole : Sem Value) (pins : List (Addr × Obj)) (s : Shared) (σ : St) (H : Hp) (Q : Bool → Hp → Prop), Inv X pins σ H s → t σ H Q → wpAny (model X.prog X.w) X.A (isTrue e X.env whole) (TP X pins σ Q) X.xe s
theorem PW.pt {X : Cx} {e : Expr} {t : TT} (h : PW X e t) : PT X e t := h _
/-- an argument list (no star), from the left -/
def PA (X : Cx) (es : List Expr) (t : TA) : Prop :=
  ∀ (pos : Pos) (pins : List (Addr × Obj)) (s : Shared) (σ : St) (H : Hp) (Q : List V → Hp → Prop), Inv X pins σ H s → t σ H Q → wpAny (model X.prog X.w) X.A (spliced (backTo pos (starEach es X.env))) (AP X pins σ Q) X.xe s
def PS (X : Cx) (st : Stmt) (t : TS) : Prop :=
  ∀ (pins : List (Addr × Obj)) (s : Shared) (σ : St) (H : Hp) (D : Ends), Inv X pins σ H s → t D σ H → wpAny (model X.prog X.w) X.A (exec st X.env) (SP X pins D) X.xe s
def PSs (X : Cx) (st : List Stmt) (t : TS) : Prop :=
  ∀ (pins : List (Addr × Obj)) (s : Shared) (σ : St) (H : Hp) (D : Ends), Inv X pins σ H s → t D σ H → wpAny (model X.prog X.w) X.A (execs st X.env) (SP X pins D) X.xe s
/-- weaken the end -/
theorem thn {α : Type} {t : Sem α} {Q Q' : α → Shared → Prop} {M : Model} {A : Around} {E : Value → Shared → Prop} {s : Shared} (h : wpAny M A t Q E s) (hQ : ∀ a s, Q a s → Q' a s) : wpAny M A t Q' E s := wpAny_mono h hQ fun _ _ x => x
end L2

namespace L2
open PySem PySem.Spec PyProof.Rows
section
variable {X : Cx}

/-! ### names and constants -/
def tVar (i : Nat) : TE := fun σ H Q => ∃ v, σ[i]? = some (some v) ∧ Q v H
def tC (v : V) : TE := fun _ H Q => Q v H
theorem pe_var {i : Nat} {x : Str} {pos : Pos} (hN : X.N[i]? = some x) (hv : Vis X.env.scope x) (hd : (x == ("__debug__" : Str)) = false := by decide) (hcd : (x == ("__classdict__" : Str)) = false := by decide) : PE X (.Name x pos) (tVar i) := by
  intro pins s σ H Q I h
  obtain ⟨v, e, h⟩ := h
  obtain ⟨m, hn, hl⟩ := I.loc
  obtain ⟨u, r, l⟩ := hl i x v hN e hv
  have fin : EP X pins σ Q u s := ⟨v, H, I, r, h⟩
  rcases l with ⟨hk, hm⟩ | ⟨hk, c, hc, hcell⟩
  · exact wpAny_Name (wpAny_loadName_local I.ok.kind hk hn hm fin) hd
  · rcases hk with hk | hk
    · exact wpAny_Name (wpAny_loadName_cell I.ok.kind hk hc hcell fin) hd
    · exact wpAny_Name (wpAny_loadName_free I.ok.kind hk hc hcell fin hcd) hd
theorem pe_int {i j pos} : PE X (.Constant (.int i) j pos) (tC (.int i)) := fun _ _ _ H _ I h => wpAny_Constant_int ⟨.int i, H, I.tok _, ⟨_, rfl⟩, h⟩
theorem pe_bl {b j pos} : PE X (.Constant (.bool b) j pos) (tC (.bl b)) := fun _ _ _ H _ I h => Constant_bool ⟨.bl b, H, I, rfl, h⟩
theorem pe_non {j pos} : PE X (.Constant .none j pos) (tC .non) := fun _ _ _ H _ I h => Constant_none ⟨.non, H, I, rfl, h⟩
theorem pe_str {x j pos} : PE X (.Constant (.str x) j pos) (tC (.str x)) := fun _ _ _ H _ I h => Calls.Constant_str ⟨.str x, H, I.tok _, ⟨_, rfl⟩, h⟩

/-- a global name of the def -/
def Gl (X : Cx) (x : Str) : Prop := X.env.kindOf x = some .globalImplicit
theorem ld_glob {E : Value → Shared → Prop} {pins : List (Addr × Obj)} {s : Shared} {σ : St} {H : Hp} {x : Str} {u : Value} {pos : Pos} {Q : Value → Shared → Prop} (I : Inv X pins σ H s) (hg : Gl X x) (hm : X.mg x = some u) (h : Q u s)
    (hd : (x == ("__debug__" : Str)) = false := by decide) : wpAny (model X.prog X.w) X.A (eval (.Name x pos) X.env) Q E s :=
  Calls.Name_function_global I.ok.kind hg (Calls.loadGlobal_global (by rw [I.ok.glob]; exact I.mod.glob.keeps I.bk) hm h) hd
theorem ld_blt {E : Value → Shared → Prop} {pins : List (Addr × Obj)} {s : Shared} {σ : St} {H : Hp} {x : Str} {u : Value} {pos : Pos} {Q : Value → Shared → Prop} (I : Inv X pins σ H s) (hg : Gl X x) (hm : X.mg x = none) (hv : bootBuiltins x = some u) (h : Q u s)
    (hn : x ≠ "__name__" := by decide) (hd : (x == ("__debug__" : Str)) = false := by decide) : wpAny (model X.prog X.w) X.A (eval (.Name x pos) X.env) Q E s := by
  obtain ⟨mb, h1, h2⟩ := I.mod.blt
  exact Calls.Name_function_global I.ok.kind hg (Calls.loadGlobal_builtin (by rw [I.ok.glob]; exact I.mod.glob.keeps I.bk) hm (by rw [I.ok.blt]; exact h1.keeps I.bk) ((h2 x hn).trans hv) h) hd
/-- a module's constant, a class, a function, as a value -/
theorem pe_glob {x : Str} {v : V} {u : Value} {pos : Pos} (hg : Gl X x) (hm : X.mg x = some u) (r : RelV v u) (hd : (x == ("__debug__" : Str)) = false := by decide) : PE X (.Name x pos) (tC v) :=
  fun _ _ _ H _ I h => ld_glob I hg hm ⟨v, H, I, r, h⟩ hd
/-! ### arithmetic -/
/-- two ints -/
def t2I (ta tb : TE) (k : Int → Int → Hp → Prop) : St → Hp → Prop := fun σ H => ta σ H fun x H1 => tb σ H1 fun y H2 => ∃ i j, x = .int i ∧ y = .int j ∧ k i j H2
def tAdd (ta tb : TE) : TE := fun σ H Q => t2I ta tb (fun i j H2 => Q (.int (i + j)) H2) σ H
def tSub (ta tb : TE) : TE := fun σ H Q => t2I ta tb (fun i j H2 => Q (.int (i - j)) H2) σ H
/-- the left factor below 2^64 -/
def tMul (ta tb : TE) : TE := fun σ H Q => t2I ta tb (fun i j H2 => (-(2 ^ 64) < i ∧ i < 2 ^ 64) ∧ Q (.int (i * j)) H2) σ H
variable {a b : Expr} {ta tb : TE} {pos : Pos}
/-! ### comparisons -/
def PC (X : Cx) (op : CmpOp) (a b : Expr) (t : TE) : Prop :=
  ∀ (pins : List (Addr × Obj)) (s : Shared) (σ : St) (H : Hp) (Q : VK), Inv X pins σ H s → t σ H Q →
    wpAny (model X.prog X.w) X.A (eval a X.env) (fun v s₁ => wpAny (model X.prog X.w) X.A (eval b X.env) (fun u s₂ => wpAny (model X.prog X.w) X.A (compareOp op v u) (EP X pins σ Q) X.xe s₂) X.xe s₁) X.xe s
theorem nobehind (b : Expr) {op : CmpOp} (h : op ≠ .In) (h2 : op ≠ .NotIn) : behindInMarks op b = false := by
  have e1 : (op == CmpOp.In) = false := by cases op <;> first | rfl | exact absurd rfl h
  have e2 : (op == CmpOp.NotIn) = false := by cases op <;> first | rfl | exact absurd rfl h2
  cases b <;> simp [behindInMarks, e1, e2]
def tCmp (p : Int → Int → Bool) (ta tb : TE) : TE := fun σ H Q => t2I ta tb (fun i j H2 => Q (.bl (p i j)) H2) σ H
abbrev tLt : TE → TE → TE := tCmp fun i j => decide (i < j)
abbrev tLe : TE → TE → TE := tCmp fun i j => decide (i ≤ j)
abbrev tGt : TE → TE → TE := tCmp fun i j => decide (j < i)
abbrev tGe : TE → TE → TE := tCmp fun i j => decide (j ≤ i)
abbrev tEqI : TE → TE → TE := tCmp fun i j => decide (i = j)
abbrev tNeI : TE → TE → TE := tCmp fun i j => !decide (i = j)
/-- is None -/
def tIsN (ta : TE) : TE := fun σ H Q => ta σ H fun x H1 => Q (.bl (decide (x = .non))) H1
def tNotN (ta : TE) : TE := fun σ H Q => ta σ H fun x H1 => Q (.bl (!decide (x = .non))) H1
theorem RelV.none_iff {x : V} {v : Value} (r : RelV x v) : (v == Value.none) = decide (x = .non) := by
  cases x with
  | non => cases r; rfl
  | bl _ => cases r; rfl
  | int _ => obtain ⟨t, rfl⟩ := r; rfl
  | str _ => obtain ⟨t, rfl⟩ := r; rfl
  | byt _ => obtain ⟨t, rfl⟩ := r; rfl
  | flt _ => obtain ⟨t, rfl⟩ := r; rfl
  | ref _ => cases r; rfl
  | ty _ => cases r; rfl
theorem pc_isN {j pos'} (ha : PE X a ta) : PC X .Is a (.Constant .none j pos') (tIsN ta) := by
  intro pins s σ H Q I h
  refine thn (ha pins s σ H _ I h) fun v s1 ⟨x, H1, I1, r1, q1⟩ => ?_
  exact Constant_none (is_none_gen ⟨.bl _, H1, I1, by rw [r1.none_iff]; rfl, q1⟩)
theorem pc_notN {j pos'} (ha : PE X a ta) : PC X .IsNot a (.Constant .none j pos') (tNotN ta) := by
  intro pins s σ H Q I h
  refine thn (ha pins s σ H _ I h) fun v s1 ⟨x, H1, I1, r1, q1⟩ => ?_
  exact Constant_none (isnot_none_gen ⟨.bl _, H1, I1, by rw [r1.none_iff]; rfl, q1⟩)
/-- a comparison as a value, as a test -/
def tB (t : TE) : TT := fun σ H Q => t σ H fun x H1 => ∃ c, x = .bl c ∧ Q c H1
theorem pe_cmp {op : CmpOp} {t : TE} (h : PC X op a b t) (h1 : behindInMarks op b = false := by first | exact nobehind _ (by decide) (by decide) | rfl) : PE X (.Compare a [op] [b] pos) t := fun pins s σ H Q I hw => wpAny_Compare1 (h pins s σ H Q I hw) h1
theorem pt_cmp {op : CmpOp} {t : TE} (h : PC X op a b t) (h1 : behindInMarks op b = false := by first | exact nobehind _ (by decide) (by decide) | rfl) : PT X (.Compare a [op] [b] pos) (tB t) := by
  intro pins s σ H Q I hw
  refine wpAny_isTrue_Compare1 (thn (h pins s σ H _ I hw) fun v s1 h1 => thn h1 fun u s2 h2 => thn h2 fun c s3 ⟨x, H1, I1, r1, q1⟩ => ?_) h1
  obtain ⟨d, rfl, q⟩ := q1
  cases r1
  exact wpAny_truthy_bool ⟨H1, I1, q⟩
/-- an expression whose value is a bool, as a test -/
theorem pt_val {e : Expr} {t : TE} (h : PE X e t) (he : ∀ whole, isTrue e X.env whole = (do let v ← whole; standAt e.pos; holding [v] (truthy v)) := by intro _; rfl) : PT X e (tB t) := by
  intro pins s σ H Q I hw
  refine isTrue_plain (thn (h pins s σ H _ I hw) fun v s1 ⟨x, H1, I1, r1, q1⟩ => ?_) (he _)
  obtain ⟨d, rfl, q⟩ := q1
  cases r1
  exact wpAny_truthy_bool ⟨H1, I1, q⟩

/-! ### and, or, not -/
variable {tA tB' : TT} {rest : List Expr}
def tAnd (t u : TT) : TT := fun σ H Q => t σ H fun c H1 => if c = true then u σ H1 Q else Q false H1
def tOr (t u : TT) : TT := fun σ H Q => t σ H fun c H1 => if c = true then Q true H1 else u σ H1 Q
def tNot (t : TT) : TT := fun σ H Q => t σ H fun c H1 => Q (!c) H1
theorem pw_and1 (ha : PT X a tA) : PW X (.BoolOp .And [a] pos) tA := by
  intro wh pins s σ H Q I h
  refine isTrue_and (thn (ha pins s σ H Q I h) fun c s1 e => ?_)
  cases c with
  | true => exact isTrue_and_nil e
  | false => exact e
theorem pw_or1 (ha : PT X a tA) : PW X (.BoolOp .Or [a] pos) tA := by
  intro wh pins s σ H Q I h
  refine isTrue_or (thn (ha pins s σ H Q I h) fun c s1 e => ?_)
  cases c with
  | false => exact isTrue_or_nil e
  | true => exact e
theorem pw_and (ha : PT X a tA) (hb : PW X (.BoolOp .And (b :: rest) pos) tB') : PW X (.BoolOp .And (a :: b :: rest) pos) (tAnd tA tB') := by
  intro wh pins s σ H Q I h
  refine isTrue_and (thn (ha pins s σ H _ I h) fun c s1 ⟨H1, I1, q1⟩ => ?_)
  cases c with
  | true => exact hb wh pins s1 σ H1 Q I1 q1
  | false => exact ⟨H1, I1, q1⟩
theorem pw_or (ha : PT X a tA) (hb : PW X (.BoolOp .Or (b :: rest) pos) tB') : PW X (.BoolOp .Or (a :: b :: rest) pos) (tOr tA tB') := by
  intro wh pins s σ H Q I h
  refine isTrue_or (thn (ha pins s σ H _ I h) fun c s1 ⟨H1, I1, q1⟩ => ?_)
  cases c with
  | true => exact ⟨H1, I1, q1⟩
  | false => exact hb wh pins s1 σ H1 Q I1 q1
/-- .. as values (bools) -/
def tAndV (ta tb : TE) : TE := fun σ H Q => ta σ H fun x H1 => ∃ c, x = .bl c ∧ if c = true then tb σ H1 Q else Q (.bl false) H1
def tOrV (ta tb : TE) : TE := fun σ H Q => ta σ H fun x H1 => ∃ c, x = .bl c ∧ if c = true then Q (.bl true) H1 else tb σ H1 Q
def tNotV (ta : TE) : TE := fun σ H Q => ta σ H fun x H1 => ∃ c, x = .bl c ∧ Q (.bl (!c)) H1
theorem pe_one {op} {t : TE} (h : PE X a t) : PE X (.BoolOp op [a] pos) t := fun pins s σ H Q I hw => BoolOp_one (h pins s σ H Q I hw)
theorem pe_and (ha : PE X a ta) (hb : PE X (.BoolOp .And (b :: rest) pos) tb) : PE X (.BoolOp .And (a :: b :: rest) pos) (tAndV ta tb) := by
  intro pins s σ H Q I h
  refine BoolOp_and (thn (ha pins s σ H _ I h) fun v s1 ⟨x, H1, I1, r1, q1⟩ => ?_)
  obtain ⟨c, rfl, q1⟩ := q1
  cases r1
  refine wpAny_truthy_bool ?_
  cases c with
  | true => exact hb pins s1 σ H1 Q I1 q1
  | false => exact ⟨.bl false, H1, I1, rfl, q1⟩
theorem pe_or (ha : PE X a ta) (hb : PE X (.BoolOp .Or (b :: rest) pos) tb) : PE X (.BoolOp .Or (a :: b :: rest) pos) (tOrV ta tb) := by
  intro pins s σ H Q I h
  refine BoolOp_or (thn (ha pins s σ H _ I h) fun v s1 ⟨x, H1, I1, r1, q1⟩ => ?_)
  obtain ⟨c, rfl, q1⟩ := q1
  cases r1
  refine wpAny_truthy_bool ?_
  cases c with
  | false => exact hb pins s1 σ H1 Q I1 q1
  | true => exact ⟨.bl true, H1, I1, rfl, q1⟩
/-- a if t else b -/
def tIf (t : TT) (ta tb : TE) : TE := fun σ H Q => t σ H fun c H1 => if c = true then ta σ H1 Q else tb σ H1 Q
theorem pe_ifExp {c : Expr} (hc : PT X c tA) (ha : PE X a ta) (hb : PE X b tb) : PE X (.IfExp c a b pos) (tIf tA ta tb) := by
  intro pins s σ H Q I h
  refine wpAny_IfExp (thn (hc pins s σ H _ I h) fun d s1 ⟨H1, I1, q1⟩ => ?_)
  cases d with
  | true => exact ha pins s1 σ H1 Q I1 q1
  | false => exact hb pins s1 σ H1 Q I1 q1
end
end L2

namespace L2
open PySem PySem.Spec PyProof.Rows

/-! ### a list, a tuple that is read: tracked, frozen, or an object of the module -/
def SqL (K : PySem.W.Frag) (H : Hp) (a : Addr) (xs : List V) : Prop :=
  Rd H a (.lst xs) ∨
    ∃ (o : Obj) (its : Array Value) (n : Nat), K.lookup a = some o ∧ o.cls = .type "list" ∧ o.dict = none ∧ o.data = .seq its n ∧ its.size ≤ sizeLine ∧ Vals xs its.toList
def SqT (K : PySem.W.Frag) (H : Hp) (a : Addr) (xs : List V) : Prop :=
  Rd H a (.tup xs) ∨
    ∃ (o : Obj) (its : Array Value) (n : Nat), K.lookup a = some o ∧ o.cls = .type "tuple" ∧ o.data = .seq its n ∧ its.size ≤ sizeLine ∧ Vals xs its.toList
def absV : Value → Option V
  | .none => some .non
  | .bool b => some (.bl b)
  | .int i _ => some (.int i)
  | .str x _ => some (.str x)
  | .bytes b _ => some (.byt b)
  | .float b _ => some (.flt b)
  | .ref a => some (.ref a)
  | .type n => some (.ty n)
  | _ => none
theorem RelV.abs {x : V} {u : Value} (r : RelV x u) : absV u = some x := by
  cases x with
  | non => cases r; rfl
  | bl _ => cases r; rfl
  | int _ => obtain ⟨t, rfl⟩ := r; rfl
  | str _ => obtain ⟨t, rfl⟩ := r; rfl
  | byt _ => obtain ⟨t, rfl⟩ := r; rfl
  | flt _ => obtain ⟨t, rfl⟩ := r; rfl
  | ref _ => cases r; rfl
  | ty _ => cases r; rfl
theorem RelV.inj {x y : V} {u : Value} (r : RelV x u) (q : RelV y u) : x = y := Option.some.inj (r.abs.symm.trans q.abs)
theorem Vals.inj : ∀ {xs ys : List V} {us : List Value}, Vals xs us → Vals ys us → xs = ys
  | _, _, _, .nil, .nil => rfl
  | _, _, _, .cons r t, .cons r' t' => by rw [r.inj r', Vals.inj t t']
section
variable {X : Cx} {pins : List (Addr × Obj)} {σ : St} {H : Hp} {s : Shared} {a : Addr} {xs ys : List V}
theorem SqL.of {K : PySem.W.Frag} (h : H a = some (.lst xs)) : SqL K H a xs := .inl (.inl h)
theorem SqT.of {K : PySem.W.Frag} (h : H a = some (.tup xs)) : SqT K H a xs := .inl (.inl h)
theorem Inv.list (I : Inv X pins σ H s) (h : SqL X.K H a xs) : ∃ its : List Value, Vals xs its ∧ PlainL s.heap a its.toArray ∧ xs.length ≤ sizeLine := by
  rcases h with h | ⟨o, its, n, hk, hc, hd, hs, hz, r⟩
  · obtain ⟨z, its, n, r, e⟩ := h.ok I.hok
    exact ⟨its, r, ⟨_, n, e, rfl, rfl, rfl⟩, z⟩
  · refine ⟨its.toList, r, ⟨o, n, I.kIn a o hk, hc, hd, by simpa using hs⟩, ?_⟩
    have e := r.length
    simp only [Array.length_toList] at e
    omega
theorem Inv.tuple (I : Inv X pins σ H s) (h : SqT X.K H a xs) : ∃ its : List Value, Vals xs its ∧ IsTup s.heap a its.toArray ∧ xs.length ≤ sizeLine := by
  rcases h with h | ⟨o, its, n, hk, hc, hs, hz, r⟩
  · obtain ⟨z, its, r, o, e, c, n, d, _⟩ := h.ok I.hok
    exact ⟨its, r, ⟨o, e, c, n, d⟩, z⟩
  · refine ⟨its.toList, r, ⟨o, I.kIn a o hk, hc, n, by simpa using hs⟩, ?_⟩
    have e := r.length
    simp only [Array.length_toList] at e
    omega
theorem Inv.list_inj (I : Inv X pins σ H s) (h : SqL X.K H a xs) (h' : SqL X.K H a ys) : xs = ys := by
  obtain ⟨its, r, ⟨o, n, e, _, _, d⟩, _⟩ := I.list h
  obtain ⟨its', r', ⟨o', n', e', _, _, d'⟩, _⟩ := I.list h'
  rw [e] at e'; cases e'
  rw [d] at d'
  injection d' with d1 _
  have : its = its' := by simpa using congrArg Array.toList d1
  subst this
  exact r.inj r'
theorem Inv.tuple_inj (I : Inv X pins σ H s) (h : SqT X.K H a xs) (h' : SqT X.K H a ys) : xs = ys := by
  obtain ⟨its, r, ⟨o, e, _, n, d⟩, _⟩ := I.tuple h
  obtain ⟨its', r', ⟨o', e', _, n', d'⟩, _⟩ := I.tuple h'
  rw [e] at e'; cases e'
  rw [d] at d'
  injection d' with d1 _
  have : its = its' := by simpa using congrArg Array.toList d1
  subst this
  exact r.inj r'
end

/-! ### another wish about exceptions -/
abbrev Cx.wish (X : Cx) (E : Value → Shared → Prop) : Cx := { X with xe := E }
/-- no exception leaves -/
abbrev Cx.nox (X : Cx) : Cx := X.wish fun _ _ => False
theorem Cx.Ok.wish {X : Cx} (ok : X.Ok) (E : Value → Shared → Prop) : (X.wish E).Ok :=
  ⟨ok.mod, ok.kind, ok.glob, ok.blt, ok.above, ok.inj, ok.has, ok.cab, ok.hd, ok.frames, ok.stk, ok.exf, ok.bs, ok.bsz, ok.noex, ok.exfs, ok.funs, ok.frf⟩
theorem Cx.Ok.unwish {X : Cx} {E : Value → Shared → Prop} (ok : (X.wish E).Ok) : X.Ok :=
  ⟨ok.mod, ok.kind, ok.glob, ok.blt, ok.above, ok.inj, ok.has, ok.cab, ok.hd, ok.frames, ok.stk, ok.exf, ok.bs, ok.bsz, ok.noex, ok.exfs, ok.funs, ok.frf⟩
section
variable {X : Cx} {pins : List (Addr × Obj)} {σ : St} {H : Hp} {s : Shared} {E : Value → Shared → Prop}
theorem Inv.wish (I : Inv X pins σ H s) (E : Value → Shared → Prop) : Inv (X.wish E) pins σ H s := ⟨I.ok.wish E, I.os, I.bare, I.base, I.loc, I.cell, I.free, I.freeC, I.pin, I.hok, I.len⟩
theorem Inv.unwish (I : Inv (X.wish E) pins σ H s) : Inv X pins σ H s := ⟨I.ok.unwish, I.os, I.bare, I.base, I.loc, I.cell, I.free, I.freeC, I.pin, I.hok, I.len⟩
theorem SP.unwish {D : Ends} {f : Flow} {s' : Shared} (h : SP (X.wish E) pins D f s') : SP X pins D f s' := by
  cases f with
  | next => obtain ⟨σ', H', I, q⟩ := h; exact ⟨σ', H', I.unwish, q⟩
  | brk => obtain ⟨σ', H', I, q⟩ := h; exact ⟨σ', H', I.unwish, q⟩
  | cont => obtain ⟨σ', H', I, q⟩ := h; exact ⟨σ', H', I.unwish, q⟩
  | ret u => obtain ⟨v, σ', H', I, r, q⟩ := h; exact ⟨v, σ', H', I.unwish, r, q⟩
theorem PE.nox {e : Expr} {t : TE} (h : PE X.nox e t) : PE X e t := fun pins s σ H Q I hw =>
  wpAny_mono (h pins s σ H Q (I.wish _) hw) (fun _ _ ⟨v, H', I', r, q⟩ => ⟨v, H', I'.unwish, r, q⟩) fun _ _ z => False.elim z
theorem PT.nox {e : Expr} {t : TT} (h : PT X.nox e t) : PT X e t := fun pins s σ H Q I hw =>
  wpAny_mono (h pins s σ H Q (I.wish _) hw) (fun _ _ ⟨H', I', q⟩ => ⟨H', I'.unwish, q⟩) fun _ _ z => False.elim z
theorem PSs.nox {st : List Stmt} {t : TS} (h : PSs X.nox st t) : PSs X st t := fun pins s σ H D I hw =>
  wpAny_mono (h pins s σ H D (I.wish _) hw) (fun _ _ q => q.unwish) fun _ _ z => False.elim z
end

/-! ### blocks and small statements -/
section
variable {X : Cx} {st : Stmt} {rest : List Stmt} {t u : TS} {e : Expr} {te : TE} {pos : Pos}
def tNext : TS := fun D σ H => D.nx σ H
def tSeq (t u : TS) : TS := fun D σ H => t { D with nx := u D } σ H
theorem pss_nil : PSs X [] tNext := fun _ _ σ H _ I h => wpAny_execs_nil ⟨σ, H, I, h⟩
theorem pss_cons (h1 : PS X st t) (h2 : PSs X rest u) : PSs X (st :: rest) (tSeq t u) := by
  intro pins s σ H D I h
  refine wpAny_execs_cons (thn (h1 pins s σ H { D with nx := u D } I h) fun f s1 q => ?_)
  cases f with
  | next =>
    obtain ⟨σ', H', I', q⟩ := q
    exact h2 pins s1 σ' H' D I' q
  | ret v => exact q
  | brk => exact q
  | cont => exact q
theorem pss_one (h1 : PS X st t) : PSs X [st] t := by
  intro pins s σ H D I h
  refine wpAny_execs_cons (thn (h1 pins s σ H D I h) fun f s1 q => ?_)
  cases f with
  | next => exact wpAny_execs_nil q
  | ret v => exact q
  | brk => exact q
  | cont => exact q
def tBreak : TS := fun D σ H => D.bk σ H
def tCont : TS := fun D σ H => D.ct σ H
/-- in a def's body nothing is shown -/
theorem Inv.quiet {pins : List (Addr × Obj)} {σ : St} {H : Hp} {s : Shared} (I : Inv X pins σ H s) : interactive X.env = false := by simp [interactive, I.ok.kind]
/-- an expression whose value is dropped -/
def tDrop (te : TE) : TS := fun D σ H => te σ H fun _ H1 => D.nx σ H1
theorem ps_expr (he : PE X e te) (hs : swapsWith e none pos.line X.env = pure false := by rfl) : PS X (.Expr e pos) (tDrop te) := by
  intro pins s σ H D I h
  exact wpAny_Expr_any (thn (he pins s σ H _ I h) fun v s1 ⟨x, H1, I1, r1, q1⟩ => ⟨σ, H1, I1, q1⟩) I.quiet hs
def tRet (te : TE) : TS := fun D σ H => te σ H D.rt
theorem ps_ret (he : PE X e te) : PS X (.Return (some e) pos) (tRet te) := by
  intro pins s σ H D I h
  exact wpAny_Return_some (thn (he pins s σ H _ I h) fun v s1 ⟨x, H1, I1, r1, q1⟩ => ⟨x, σ, H1, I1, r1, q1⟩)
def tRetN : TS := fun D _ H => D.rt .non H
def tIfS (c : TT) (t u : TS) : TS := fun D σ H => c σ H fun b H1 => if b = true then t D σ H1 else u D σ H1
theorem ps_if {c : Expr} {a b : List Stmt} {tc : TT} (hc : PT X c tc) (ha : PSs X a t) (hb : PSs X b u) : PS X (.If c a b pos) (tIfS tc t u) := by
  intro pins s σ H D I h
  refine wpAny_If (thn (hc pins s σ H _ I h) fun d s1 ⟨H1, I1, q1⟩ => ?_)
  cases d with
  | true => exact ha pins s1 σ H1 D I1 q1
  | false => exact hb pins s1 σ H1 D I1 q1
/-- code that the proof never comes to -/
def tNever : TS := fun _ _ _ => False
end

/-! ### targets -/
abbrev TG := V → St → Hp → (St → Hp → Prop) → Prop
abbrev TGs := List V → St → Hp → (St → Hp → Prop) → Prop
def PG (X : Cx) (target : Expr) (t : TG) : Prop :=
  ∀ (pins : List (Addr × Obj)) (s : Shared) (σ : St) (H : Hp) (v : V) (u : Value) (Q : St → Hp → Prop), Inv X pins σ H s → RelV v u → t v σ H Q →
    wpAny (model X.prog X.w) X.A (assign target X.env u) (fun _ s' => ∃ σ' H', Inv X pins σ' H' s' ∧ Q σ' H') X.xe s
/-- several targets, one after another -/
def PGs (X : Cx) (ts : List Expr) (t : TGs) : Prop :=
  ∀ (pins : List (Addr × Obj)) (s : Shared) (σ : St) (H : Hp) (vs : List V) (us : List Value) (Q : St → Hp → Prop), Inv X pins σ H s → Vals vs us → t vs σ H Q →
    wpAny (model X.prog X.w) X.A (assignInOrder ((assignEach ts X.env).map (·.2)) us) (fun _ s' => ∃ σ' H', Inv X pins σ' H' s' ∧ Q σ' H') X.xe s
/-- o[i] = v, by values -/
abbrev TSet := V → V → V → Hp → (Hp → Prop) → Prop
def PSet (X : Cx) (t : TSet) : Prop :=
  ∀ (pins : List (Addr × Obj)) (s : Shared) (σ : St) (H : Hp) (o i v : V) (ov iv u : Value) (Q : Hp → Prop), Inv X pins σ H s → RelV o ov → RelV i iv → RelV v u → t o i v H Q →
    wpAny (model X.prog X.w) X.A (setItem ov iv u) (fun _ s' => ∃ H', Inv X pins σ H' s' ∧ Q H') X.xe s
/-- a op= b, by values -/
abbrev TIp := V → V → Hp → VK → Prop
def PIp (X : Cx) (op : Operator) (t : TIp) : Prop :=
  ∀ (pins : List (Addr × Obj)) (s : Shared) (σ : St) (H : Hp) (x y : V) (v u : Value) (Q : VK), Inv X pins σ H s → RelV x v → RelV y u → t x y H Q →
    wpAny (model X.prog X.w) X.A (inplaceOp op v u) (EP X pins σ Q) X.xe s
section
variable {X : Cx} {pos : Pos}
def gName (i : Nat) : TG := fun v σ H Q => Q (σ.set i (some v)) H
theorem pg_name {i : Nat} {x : Str} (hN : X.N.Nodup) (hi : X.N[i]? = some x) (hx : Loc X.env.scope x) (hf : X.fn x = true ∨ X.env.scope.names.lookup x = some .local := by first | exact .inl rfl | exact .inr rfl | assumption) : PG X (.Name x pos) (gName i) := by
  intro pins s σ H v u Q I r h
  exact wpAny_assign_Name (store_ok I hN hi hx r (fun s' I' => ⟨_, H, I', h⟩) hf)
def gNil : TGs := fun vs σ H Q => vs = [] ∧ Q σ H
def gCons (t : TG) (u : TGs) : TGs := fun vs σ H Q => ∃ v r, vs = v :: r ∧ t v σ H fun σ' H' => u r σ' H' Q
theorem pgs_nil : PGs X [] gNil := by
  intro pins s σ H vs us Q I r h
  obtain ⟨e, h⟩ := h
  subst e
  cases r
  exact assignInOrder_nil ⟨σ, H, I, h⟩
theorem pgs_cons {e : Expr} {es : List Expr} {t : TG} {u : TGs} (h1 : PG X e t) (h2 : PGs X es u)
    (hs : (assignEach (e :: es) X.env).map (·.2) = assign e X.env :: (assignEach es X.env).map (·.2) := by rfl) : PGs X (e :: es) (gCons t u) := by
  intro pins s σ H vs us Q I r h
  obtain ⟨v, vr, e1, h⟩ := h
  subst e1
  cases r with
  | cons r rr =>
    rw [hs]
    refine assignInOrder_cons (thn (h1 pins s σ H _ _ _ I r h) fun _ s1 ⟨σ1, H1, I1, q1⟩ => ?_)
    exact h2 pins s1 σ1 H1 _ _ Q I1 rr q1
/-- (a, b, ..) = a tuple of that length -/
def gTup (K : PySem.W.Frag) (n : Nat) (t : TGs) : TG := fun v σ H Q => ∃ a xs, v = .ref a ∧ SqT K H a xs ∧ xs.length = n ∧ t xs σ H Q
theorem pg_tup {es : List Expr} {k : Nat} {t : TGs} {n : Nat} (hc : X.calm = true) (h : PGs X es t)
    (hn : (assignEach es X.env).length = n := by rfl) (hst : (assignEach es X.env).findIdx? (·.1) = none := by rfl) : PG X (.Tuple es k pos) (gTup X.K n t) := by
  intro pins s σ H v u Q I r hw
  obtain ⟨a, xs, e1, hq, hl, hw⟩ := hw
  subst e1
  cases r
  obtain ⟨its, rv, ht, hz⟩ := I.tuple hq
  refine assign_Tuple_tuple (I.ok.hd hc) ht (by simp [hn, ← hl, rv.length]) hst fun h' hx => ?_
  have I1 : Inv X pins σ H { s with heap := h' } := I.kept (t' := s.toks) fun b o e => hx b o (Nat.ne_of_lt (Heap.lt_size e)) e
  exact h pins _ σ H xs _ Q I1 (by simpa using rv) hw
/-- o[i] = .. -/
def gSub (to ti : TE) (t : TSet) : TG := fun v σ H Q => to σ H fun o H1 => ti σ H1 fun i H2 => t o i v H2 fun H3 => Q σ H3
theorem pg_sub {o i : Expr} {to ti : TE} {t : TSet} (ho : PE X o to) (hi : PE X i ti) (hs : PSet X t)
    (ha : ∀ v, assign (.Subscript o i pos) X.env v = (do
      let ov ← holding [v] (eval o X.env)
      let iv ← holding [v, ov] (eval i X.env)
      standAt pos
      holding [v, ov, iv] (setItem ov iv v)
      release [v, ov, iv] []) := by intro _; rfl) : PG X (.Subscript o i pos) (gSub to ti t) := by
  intro pins s σ H v u Q I r h
  rw [ha]
  refine wpAny_bind (wpAny_holding (thn (ho pins s σ H _ I h) fun ov s1 ⟨x, H1, I1, r1, q1⟩ => ?_))
  refine wpAny_bind (wpAny_holding (thn (hi pins s1 σ H1 _ I1 q1) fun iv s2 ⟨y, H2, I2, r2, q2⟩ => ?_))
  refine wpAny_bind (wpAny_standAt (wpAny_bind (wpAny_holding (thn (hs pins s2 σ H2 x y v ov iv u _ I2 r1 r2 r q2) fun _ s3 ⟨H3, I3, q3⟩ => ?_))))
  exact wpAny_release ⟨σ, H3, I3, q3⟩
/-- target = value -/
def tAsg (te : TE) (g : TG) : TS := fun D σ H => te σ H fun x H1 => g x σ H1 D.nx
theorem ps_asg {tg e : Expr} {te : TE} {g : TG} (he : PE X e te) (hg : PG X tg g) (hs : swapsWithSole [tg] e pos.line X.env = pure false := by rfl) (hw : swappedStores [tg] e X.env = pure none := by rfl)
    (h1 : (assignEach [tg] X.env).map (·.2) = [assign tg X.env] := by rfl) : PS X (.Assign [tg] e pos) (tAsg te g) := by
  intro pins s σ H D I h
  refine wpAny_Assign_stores (thn (he pins s σ H _ I h) fun v s1 ⟨x, H1, I1, r1, q1⟩ => ?_) hs hw
  rw [h1]
  exact thn (hg pins s1 σ H1 x v _ I1 r1 q1) fun _ s2 q => q
/-- name = value -/
theorem ps_set {i : Nat} {x : Str} {e : Expr} {te : TE} {pos' : Pos} (hN : X.N.Nodup) (hi : X.N[i]? = some x) (hx : Loc X.env.scope x) (he : PE X e te) (hs : swapsWith e (some (.Name x pos')) pos.line X.env = pure false := by rfl) (hf : X.fn x = true ∨ X.env.scope.names.lookup x = some .local := by first | exact .inl rfl | exact .inr rfl | assumption) :
    PS X (.Assign [.Name x pos'] e pos) (tAsg te (gName i)) := by
  intro pins s σ H D I h
  refine wpAny_Assign_Name (thn (he pins s σ H _ I h) fun v s1 ⟨y, H1, I1, r1, q1⟩ => ?_) hs
  exact store_ok I1 hN hi hx r1 (fun s2 I2 => ⟨_, H1, I2, q1⟩) hf
/-- a, b = x, y with plain local names: stored from the right; the pair itself is not tracked (the opening rows as in PyProof/Rows/TupAssign.lean:23) -/
def tPar (i j : Nat) (ta : TA) : TS := fun D σ H => ta σ H fun vs H1 => ∃ v w, vs = [v, w] ∧ D.nx ((σ.set i (some v)).set j (some w)) H1
/-- name op= e -/
def tAug (i : Nat) (te : TE) (ti : TIp) : TS := fun D σ H => ∃ x, σ[i]? = some (some x) ∧ te σ H fun y H1 => ti x y H1 fun z H2 => D.nx (σ.set i (some z)) H2
/-- o[i] op= e -/
def tAugS (to ti te : TE) (tget : V → V → Hp → VK → Prop) (tip : TIp) (tset : TSet) : TS := fun D σ H => to σ H fun o H1 => ti σ H1 fun i H2 => tget o i H2 fun x H3 => te σ H3 fun y H4 => tip x y H4 fun z H5 => tset o i z H5 fun H6 => D.nx σ H6
/-- o[i], by values -/
def PGet (X : Cx) (t : V → V → Hp → VK → Prop) : Prop :=
  ∀ (pins : List (Addr × Obj)) (s : Shared) (σ : St) (H : Hp) (o i : V) (ov iv : Value) (Q : VK), Inv X pins σ H s → RelV o ov → RelV i iv → t o i H Q →
    wpAny (model X.prog X.w) X.A (getItem ov iv) (EP X pins σ Q) X.xe s
/-- ints -/
def ipI (f : Int → Int → Int) : TIp := fun x y H Q => ∃ i j, x = .int i ∧ y = .int j ∧ Q (.int (f i j)) H
end

/-! ### while -/
section
variable {X : Cx} {pos : Pos}
/-- the invariant W with its measure -/
def tWhile (c : TT) (tb : TS) : TS := fun D σ H => ∃ W : Nat → St → Hp → Prop, (∃ m, W m σ H) ∧ ∀ m σ H, W m σ H →
  c σ H fun b H1 => if b = true then ∃ N : St → Hp → Prop, (∀ σ' H', N σ' H' → ∃ m', m' < m ∧ W m' σ' H') ∧ tb { D with nx := N, ct := N, bk := D.nx } σ H1 else D.nx σ H1
end

/-! ### what a loop or a comprehension walks -/
/-- at turn i: it yields x (the heap may grow), or it stops -/
structure It where
  go : Nat → Hp → Prop
  yld : Nat → Hp → V → Hp → Prop
  stop : Nat → Hp → Prop
/-- the iterator's own objects may turn: they are not the frame's, not pinned, younger than the entry (or a comprehension's own) -/
def FpOk (X : Cx) (pins : List (Addr × Obj)) (H : Hp) (b : Addr) : Prop :=
  H b = none ∧ b ≠ X.env.locals ∧ b ∉ X.fs ∧ (b ∈ X.ex ∨ X.s₀.heap.objs.size ≤ b) ∧ (∀ x c, X.env.cells.lookup x = some c → c ≠ b) ∧ ∀ p ∈ X.pn ++ pins, p.1 ≠ b
theorem Inv.fpOk {X : Cx} {pins : List (Addr × Obj)} {σ : St} {H H' : Hp} {s : Shared} {b : Addr} (I : Inv X pins σ H s) (hb : s.heap.objs.size ≤ b) (hn : H' b = none) : FpOk X pins H' b := by
  refine ⟨hn, Nat.ne_of_gt (Nat.lt_of_lt_of_le I.lt hb), I.nofs hb, .inr (Nat.le_trans I.sz hb), fun x c e z => ?_, fun p hp z => ?_⟩
  · obtain ⟨v, q⟩ := I.cell x c e
    exact absurd (Nat.lt_of_lt_of_le q.lt (by rw [z]; exact hb)) (Nat.lt_irrefl _)
  · exact absurd (Nat.lt_of_lt_of_le (Heap.lt_size (I.pin p hp).1) (by rw [z]; exact hb)) (Nat.lt_irrefl _)
structure Turn (P : Program) (w : World) (K : PySem.W.Frag) (tg : Expr) (J : It) (fp : List Addr) (it : Addr) (tn : Nat → Heap → Prop) : Prop where
  mem : it ∈ fp
  obj : ∀ i h, tn i h → ∀ b ∈ fp, ∃ o, h.get? b = some o ∧ ∀ v, o.data ≠ .cell v
  keep : ∀ i h h', tn i h → (∀ b ∈ fp, ∀ o, h.get? b = some o → h'.get? b = some o) → tn i h'
  item : ∀ (X : Cx), X.prog = P → X.w = w → X.K = K → X.calm = true → ∀ (i : Nat) (pins : List (Addr × Obj)) (s : Shared) (σ : St) (H : Hp) (E : Value → Shared → Prop), Inv X pins σ H s → (∀ b ∈ fp, FpOk X pins H b) → tn i s.heap → J.go i H →
    wpAny (model P w) X.A (pyNext (.ref it)) (fun r s1 => ∃ u, r = some u ∧
      wpAny (model P w) X.A (letOwnedTupleGo tg (.ref it) u) (fun _ s2 => ∃ x H', Inv X pins σ H' s2 ∧ RelV x u ∧ J.yld i H x H' ∧ tn (i + 1) s2.heap ∧ ∀ b ∈ fp, H' b = none) E s1) E s
  done : ∀ (X : Cx), X.prog = P → X.w = w → X.K = K → X.calm = true → ∀ (i : Nat) (pins : List (Addr × Obj)) (s : Shared) (σ : St) (H : Hp) (E : Value → Shared → Prop), Inv X pins σ H s → (∀ b ∈ fp, FpOk X pins H b) → tn i s.heap → J.stop i H →
    wpAny (model P w) X.A (pyNext (.ref it)) (fun r s1 => r = none ∧ Inv X pins σ H s1) E s
  self : ∀ (A : Around) (i : Nat) (s : Shared) (Q : Value → Shared → Prop) (E : Value → Shared → Prop), tn i s.heap → Q (.ref it) s → wpAny (model P w) A (pyIter (.ref it)) Q E s
abbrev TI := St → Hp → (It → Hp → Prop) → Prop
/-- an iterator has come -/
def PIE (X : Cx) (pins : List (Addr × Obj)) (σ : St) (tg : Expr) (R : It → Hp → Prop) (itv : Value) (s2 : Shared) : Prop :=
  ∃ (it : Addr) (fp : List Addr) (tn : Nat → Heap → Prop) (J : It) (H' : Hp), itv = .ref it ∧ Inv X pins σ H' s2 ∧ Turn X.prog X.w X.K tg J fp it tn ∧ tn 0 s2.heap ∧ (∀ b ∈ fp, FpOk X pins H' b) ∧ R J H'
def PI (X : Cx) (tg iter : Expr) (wi : TI) : Prop :=
  ∀ (pins : List (Addr × Obj)) (s : Shared) (σ : St) (H : Hp) (R : It → Hp → Prop), Inv X pins σ H s → wi σ H R →
    wpAny (model X.prog X.w) X.A (eval iter X.env) (fun v s1 => wpAny (model X.prog X.w) X.A (pyIter v) (PIE X pins σ tg R) X.xe s1) X.xe s

/-- the step ahead of the store is nothing for an iterator that keeps no tuple -/
theorem go_of {M : Model} {A : Around} {E : Value → Shared → Prop} {s : Shared} {tg : Expr} {it : Addr} {u : Value} {o : Obj} {n : String} {vs : Array Value} {Q : Unit → Shared → Prop} (ho : s.heap.get? it = some o) (hc : o.cls = .type n) (hd : o.data = .fields vs)
    (hn : ["enumerate", "zip", "dict_itemiterator", "dict_reverseitemiterator", "odict_iterator", "itertools.zip_longest", "itertools.pairwise"].contains n = false) (hQ : Q () s) : wpAny M A (letOwnedTupleGo tg (.ref it) u) Q E s := by
  unfold letOwnedTupleGo
  cases tg <;> first
    | exact wpAny_pure hQ
    | (cases u <;> first
        | exact wpAny_pure hQ
        | (refine wpAny_bind (wpAny_load ho ?_)
           rw [hc, hd]
           show wpAny M A (if (["enumerate", "zip", "dict_itemiterator", "dict_reverseitemiterator", "odict_iterator", "itertools.zip_longest", "itertools.pairwise"].contains n && vs[0]? == some (rawInt _)) = true then _ else _) Q E s
           rw [if_neg (by intro h; rw [hn, Bool.false_and] at h; cases h)]
           exact wpAny_pure hQ))

/-- the list at a, as it stands at each turn (a loop may append to it) -/
def Itl (K : PySem.W.Frag) (a : Addr) : It :=
  ⟨fun i H => ∃ xs x, SqL K H a xs ∧ xs[i]? = some x, fun i H x H' => H' = H ∧ ∀ xs, SqL K H a xs → xs[i]? = some x, fun i H => ∃ xs, SqL K H a xs ∧ xs.length ≤ i⟩
def Itt (K : PySem.W.Frag) (a : Addr) : It :=
  ⟨fun i H => ∃ xs x, SqT K H a xs ∧ xs[i]? = some x, fun i H x H' => H' = H ∧ ∀ xs, SqT K H a xs → xs[i]? = some x, fun i H => ∃ xs, SqT K H a xs ∧ xs.length ≤ i⟩
/-- lo, lo + 1, .. (n of them) -/
def Itr (lo : Int) (n : Nat) : It := ⟨fun i _ => i < n, fun i H x H' => H' = H ∧ x = .int (lo + i), fun i _ => n ≤ i⟩
theorem turn_list {P : Program} {w : World} {K : PySem.W.Frag} {tg : Expr} (a it : Addr) : Turn P w K tg (Itl K a) [it] it (fun i h => h.IsListIter it a i) where
  mem := by simp
  obj := fun i h st b hb => by
    have e : b = it := by simpa using hb
    subst e
    obtain ⟨o, e, c, d⟩ := st
    exact ⟨o, e, fun v z => by rw [d] at z; cases z⟩
  keep := fun i h h' st k => st.at fun o e => k it (by simp) o e
  item := by
    intro X hP hw hK hc i pins s σ H E I hf st hg
    subst hP hw hK
    obtain ⟨xs, x, hq, hx⟩ := hg
    obtain ⟨its, rv, p, hz⟩ := I.list hq
    obtain ⟨u, hu, ru⟩ := rv.get hx
    obtain ⟨f0, f1, f2, f3, f4, f5⟩ := hf it (by simp)
    refine wpAny_pyNext_list_item st p.isList (x := u) (by simpa using hu) fun h' st' sb => ?_
    have I1 : Inv X pins σ H { s with heap := h' } := I.turned (t' := s.toks) (fun b o hb e => (sb.2 b hb).trans e) f0 f1 f3 f4 f5
    obtain ⟨o, e, c, d⟩ := id st'
    exact ⟨u, rfl, go_of (s := { s with heap := h' }) e c d (by decide) ⟨x, H, I1, ru, ⟨rfl, fun ys hy => by rw [I.list_inj hy hq]; exact hx⟩, st', fun b hb => (hf b hb).1⟩⟩
  done := by
    intro X hP hw hK hc i pins s σ H E I hf st hg
    subst hP hw hK
    obtain ⟨xs, hq, hx⟩ := hg
    obtain ⟨its, rv, p, hz⟩ := I.list hq
    obtain ⟨f0, f1, f2, f3, f4, f5⟩ := hf it (by simp)
    have hl := rv.length
    exact wpAny_pyNext_list_end (I.ok.hd hc) st p.isList (by simp; omega) fun h' eb => ⟨rfl, I.turned (t' := s.toks) (fun b o hb e => eb b o hb e) f0 f1 f3 f4 f5⟩
  self := fun _ _ _ _ _ st h => wpAny_pyIter_listiter st h
theorem turn_tuple {P : Program} {w : World} {K : PySem.W.Frag} {tg : Expr} (a it : Addr) : Turn P w K tg (Itt K a) [it] it (fun i h => h.IsTupleIter it a i) where
  mem := by simp
  obj := fun i h st b hb => by
    have e : b = it := by simpa using hb
    subst e
    obtain ⟨o, e, c, d⟩ := st
    exact ⟨o, e, fun v z => by rw [d] at z; cases z⟩
  keep := fun i h h' st k => st.at fun o e => k it (by simp) o e
  item := by
    intro X hP hw hK hc i pins s σ H E I hf st hg
    subst hP hw hK
    obtain ⟨xs, x, hq, hx⟩ := hg
    obtain ⟨its, rv, p, hz⟩ := I.tuple hq
    obtain ⟨u, hu, ru⟩ := rv.get hx
    obtain ⟨f0, f1, f2, f3, f4, f5⟩ := hf it (by simp)
    refine wpAny_pyNext_tuple_item st (show s.heap.IsTuple a its.toArray from p) (x := u) (by simpa using hu) fun h' st' sb => ?_
    have I1 : Inv X pins σ H { s with heap := h' } := I.turned (t' := s.toks) (fun b o hb e => (sb.2 b hb).trans e) f0 f1 f3 f4 f5
    obtain ⟨o, e, c, d⟩ := id st'
    exact ⟨u, rfl, go_of (s := { s with heap := h' }) e c d (by decide) ⟨x, H, I1, ru, ⟨rfl, fun ys hy => by rw [I.tuple_inj hy hq]; exact hx⟩, st', fun b hb => (hf b hb).1⟩⟩
  done := by
    intro X hP hw hK hc i pins s σ H E I hf st hg
    subst hP hw hK
    obtain ⟨xs, hq, hx⟩ := hg
    obtain ⟨its, rv, p, hz⟩ := I.tuple hq
    obtain ⟨f0, f1, f2, f3, f4, f5⟩ := hf it (by simp)
    have hl := rv.length
    exact wpAny_pyNext_tuple_end (I.ok.hd hc) st (show s.heap.IsTuple a its.toArray from p) (by simp; omega) fun h' eb => ⟨rfl, I.turned (t' := s.toks) (fun b o hb e => eb b o hb e) f0 f1 f3 f4 f5⟩
  self := fun _ _ _ _ _ st h => wpAny_pyIter_tupleiter st h
theorem turn_range {P : Program} {w : World} {K : PySem.W.Frag} {tg : Expr} (it : Addr) (lo : Int) (n : Nat) : Turn P w K tg (Itr lo n) [it] it (fun i h => IsRangeIter h it (lo + (i : Nat) * 1) ((n : Int) - (i : Nat)) 1) where
  mem := by simp
  obj := fun i h st b hb => by
    have e : b = it := by simpa using hb
    subst e
    exact ⟨_, st, fun v z => by
      have z' : Data.fields _ = Data.cell v := z
      cases z'⟩
  keep := fun i h h' st k => k it (by simp) _ st
  item := by
    intro X hP hw hK hc i pins s σ H E I hf st hg
    subst hP hw hK
    obtain ⟨f0, f1, f2, f3, f4, f5⟩ := hf it (by simp)
    have W := Walks.range (prog := X.prog) (w := X.w) (I.ok.hd hc) it lo 1 n
    refine W.item i s _ _ hg st fun v h' tk hv st' kk => ?_
    obtain ⟨t, rfl⟩ := hv
    have I1 : Inv X pins σ H { s with heap := h', toks := tk } := I.turned (fun b o hb e => kk b o (by simpa using hb) e) f0 f1 f3 f4 f5
    refine ⟨_, rfl, go_of (s := { s with heap := h', toks := tk }) (n := "range_iterator") st' rfl rfl (by decide) ⟨.int (lo + i), H, I1, ⟨t, ?_⟩, ⟨rfl, rfl⟩, st', fun b hb => (hf b hb).1⟩⟩
    rw [Int.mul_one]
  done := by
    intro X hP hw hK hc i pins s σ H E I hf st hg
    subst hP hw hK
    obtain ⟨f0, f1, f2, f3, f4, f5⟩ := hf it (by simp)
    exact wpAny_pyNext_range_end (I.ok.hd hc) st (by have : n ≤ i := hg; omega) fun h' eb => ⟨rfl, I.turned (t' := s.toks) (fun b o hb e => eb b o hb e) f0 f1 f3 f4 f5⟩
  self := fun _ _ _ _ _ st h => wpAny_pyIter_rangeiter st h
end L2

namespace L2
open PySem PySem.Spec PyProof.Rows
section
variable {X : Cx} {tg : Expr}
def iList (K : PySem.W.Frag) (tl : TE) : TI := fun σ H R => tl σ H fun x H1 => ∃ a, x = .ref a ∧ (∃ xs, SqL K H1 a xs) ∧ R (Itl K a) H1
def iTup (K : PySem.W.Frag) (tl : TE) : TI := fun σ H R => tl σ H fun x H1 => ∃ a, x = .ref a ∧ (∃ xs, SqT K H1 a xs) ∧ R (Itt K a) H1
theorem pi_list {l : Expr} {tl : TE} (hl : PE X l tl) : PI X tg l (iList X.K tl) := by
  intro pins s σ H R I h
  refine thn (hl pins s σ H _ I h) fun v s1 ⟨x, H1, I1, r1, q1⟩ => ?_
  obtain ⟨a, e, ⟨xs, hq⟩, q⟩ := q1
  subst e
  cases r1
  obtain ⟨its, rv, p, hz⟩ := I1.list hq
  refine wpAny_pyIter_list p.isList ?_
  refine ⟨s1.heap.objs.size, [s1.heap.objs.size], _, _, H1, rfl, I1.kept (t' := s1.toks) fun b o e => Heap.get?_push_of_some _ e, turn_list a _, ⟨_, Heap.get?_push_size _ rfl, rfl, rfl⟩, fun b hb => ?_, q⟩
  have e : b = s1.heap.objs.size := by simpa using hb
  subst e
  exact I1.fpOk (Nat.le_refl _) (I1.hok.fresh (Nat.le_refl _))
theorem pi_tup {l : Expr} {tl : TE} (hl : PE X l tl) : PI X tg l (iTup X.K tl) := by
  intro pins s σ H R I h
  refine thn (hl pins s σ H _ I h) fun v s1 ⟨x, H1, I1, r1, q1⟩ => ?_
  obtain ⟨a, e, ⟨xs, hq⟩, q⟩ := q1
  subst e
  cases r1
  obtain ⟨its, rv, p, hz⟩ := I1.tuple hq
  refine wpAny_pyIter_tuple (show s1.heap.IsTuple a its.toArray from p) ?_
  refine ⟨s1.heap.objs.size, [s1.heap.objs.size], _, _, H1, rfl, I1.kept (t' := s1.toks) fun b o e => Heap.get?_push_of_some _ e, turn_tuple a _, ⟨_, Heap.get?_push_size _ rfl, rfl, rfl⟩, fun b hb => ?_, q⟩
  have e : b = s1.heap.objs.size := by simpa using hb
  subst e
  exact I1.fpOk (Nat.le_refl _) (I1.hok.fresh (Nat.le_refl _))
/-- a range object just made, walked -/
theorem range_it {pins : List (Addr × Obj)} {σ : St} {H : Hp} {s : Shared} {R : It → Hp → Prop} {E : Value → Shared → Prop} {lo hi : Int} {t u v : Tok} {tk : Nat} (I : Inv X pins σ H s) (h1 : -(2 ^ 62) ≤ lo) (h2 : lo < 2 ^ 62) (h3 : -(2 ^ 62) ≤ hi) (h4 : hi < 2 ^ 62)
    (q : R (Itr lo (hi - lo).toNat) H) : wpAny (model X.prog X.w) X.A (pyIter (.ref s.heap.objs.size)) (PIE X pins σ tg R) E { s with heap := s.heap.push { cls := .type "range", data := .fields #[.int lo t, .int hi u, .int 1 v] }, toks := tk } := by
  refine wpAny_pyIter_range (IsRange.new ..) (small_one h1 h2 h3 h4) ?_
  have I1 : Inv X pins σ H { s with heap := s.heap.push { cls := .type "range", data := .fields #[.int lo t, .int hi u, .int 1 v] }, toks := tk } := I.kept fun b o e => Heap.get?_push_of_some _ e
  refine ⟨(s.heap.push { cls := .type "range", data := .fields #[.int lo t, .int hi u, .int 1 v] }).objs.size, [(s.heap.push { cls := .type "range", data := .fields #[.int lo t, .int hi u, .int 1 v] }).objs.size], _, _, H, rfl,
    I1.kept (t' := tk) fun b o e => Heap.get?_push_of_some _ e, turn_range _ lo (hi - lo).toNat, ?_, fun b hb => ?_, q⟩
  · have e1 : lo + ((0 : Nat) : Int) * 1 = lo := by simp
    have e2 : (((hi - lo).toNat : Nat) : Int) - ((0 : Nat) : Int) = Builtin.Range.rangeSize lo hi 1 := by rw [rangeSize_one]; split <;> omega
    show IsRangeIter _ _ (lo + ((0 : Nat) : Int) * 1) ((((hi - lo).toNat : Nat) : Int) - ((0 : Nat) : Int)) 1
    rw [e1, e2]
    exact Heap.get?_push_size _ rfl
  · have e : b = (s.heap.push { cls := .type "range", data := .fields #[.int lo t, .int hi u, .int 1 v] }).objs.size := by simpa using hb
    subst e
    exact I1.fpOk (Nat.le_refl _) (I1.hok.fresh (Nat.le_refl _))
def iRng1 (ta : TA) : TI := fun σ H R => ta σ H fun vs H1 => ∃ j : Int, vs = [.int j] ∧ -(2 ^ 62) ≤ j ∧ j < 2 ^ 62 ∧ R (Itr 0 j.toNat) H1
def iRng2 (ta : TA) : TI := fun σ H R => ta σ H fun vs H1 => ∃ i j : Int, vs = [.int i, .int j] ∧ (-(2 ^ 62) ≤ i ∧ i < 2 ^ 62 ∧ -(2 ^ 62) ≤ j ∧ j < 2 ^ 62) ∧ R (Itr i (j - i).toNat) H1
theorem pi_range1 {a : Expr} {ta : TA} {p pos : Pos} (hg : Gl X "range") (hm : X.mg "range" = none) (ha : PA X [a] ta) (hs : starEach [a] X.env = [(false, eval a X.env)] := by rfl) : PI X tg (.Call (.Name "range" p) [a] [] pos) (iRng1 ta) := by
  intro pins s σ H R I h
  refine Call_ (ld_blt I hg hm boot_range (PyProof.Rows.callWith_type1 (thn (ha pos pins s σ H _ I h) fun us s1 ⟨vs, H1, I1, r1, q1⟩ => ?_) hs rfl))
  obtain ⟨j, e, q1, q2, q⟩ := q1
  subst e
  cases r1 with
  | cons r rr =>
    cases rr
    obtain ⟨t, rfl⟩ := r
    exact call_range_1 (range_it I1 (by omega) (by omega) q1 q2 (by simpa using q))
/-! ### for -/
/-- W: the invariant by the turn and a measure; N: what the body is to reach -/
def tFor (wi : TI) (g : TG) (tb : TS) : TS := fun D σ H => wi σ H fun J H1 => ∃ W : Nat → Nat → St → Hp → Prop, (∃ m, W 0 m σ H1) ∧ ∀ i m σ H, W i m σ H →
  (J.stop i H ∧ D.nx σ H) ∨ (J.go i H ∧ ∃ N : St → Hp → Prop, (∀ σ' H', N σ' H' → ∃ m', m' < m ∧ W (i + 1) m' σ' H') ∧ ∀ x H', J.yld i H x H' → g x σ H' fun σ2 H2 => tb { D with nx := N, ct := N, bk := D.nx } σ2 H2)
/-- the records at fp as they stand -/
def pinsAt (fp : List Addr) (h : Heap) : List (Addr × Obj) := fp.filterMap fun b => (h.get? b).map fun o => (b, o)
theorem mem_pinsAt {fp : List Addr} {h : Heap} {b : Addr} {o : Obj} (hb : b ∈ fp) (e : h.get? b = some o) : (b, o) ∈ pinsAt fp h := List.mem_filterMap.mpr ⟨b, hb, by rw [e]; rfl⟩
theorem of_pinsAt {fp : List Addr} {h : Heap} {p : Addr × Obj} (hp : p ∈ pinsAt fp h) : p.1 ∈ fp ∧ h.get? p.1 = some p.2 := by
  obtain ⟨b, hb, e⟩ := List.mem_filterMap.mp hp
  cases q : h.get? b with
  | none => rw [q] at e; cases e
  | some o =>
    rw [q] at e
    have e' : (b, o) = p := Option.some.inj e
    subst e'
    exact ⟨hb, q⟩
theorem Inv.pinned {pins : List (Addr × Obj)} {σ : St} {H : Hp} {s : Shared} {fp : List Addr} (I : Inv X pins σ H s) (hf : ∀ b ∈ fp, FpOk X pins H b) (ho : ∀ b ∈ fp, ∃ o, s.heap.get? b = some o ∧ ∀ v, o.data ≠ .cell v) : Inv X (pins ++ pinsAt fp s.heap) σ H s :=
  I.pins_of fun p hp => (List.mem_append.mp hp).elim (fun z => I.pin p (List.mem_append_right _ z)) fun z => by
    obtain ⟨hb, e⟩ := of_pinsAt z
    obtain ⟨f0, f1, f2, _⟩ := hf p.1 hb
    obtain ⟨o, e', d⟩ := ho p.1 hb
    rw [e] at e'; cases e'
    exact ⟨e, f0, f1, f2, d⟩
theorem Inv.unpinned {pins pl : List (Addr × Obj)} {σ : St} {H : Hp} {s : Shared} (I : Inv X (pins ++ pl) σ H s) : Inv X pins σ H s := I.pins_of fun p hp => I.pin p (List.mem_append_right _ (List.mem_append_left _ hp))
theorem ps_for {iter : Expr} {body : List Stmt} {wi : TI} {g : TG} {tb : TS} {pos : Pos} (hp : PassesOwn (model X.prog X.w) X.A X.env X.xe) (hc : X.calm = true) (hi : PI X tg iter wi) (hg : PG X tg g) (hb : PSs X body tb)
    (hs : ∀ x, foldedSetIterable iter X.env x = pure x := by intro _; rfl) : PS X (.For tg iter body [] pos) (tFor wi g tb) := by
  intro pins s σ H D I h
  refine wpAny_For (thn (hi pins s σ H _ I h) fun v s1 h1 => thn h1 fun itv s2 h2 => ?_) hs
  obtain ⟨it, fp, tn, J, H2, e, I2, T, st2, f2, W, ⟨m0, w0⟩, turn⟩ := h2
  subst e
  -- what stays true of the iterator's objects through the loop
  have stat : ∀ {H' : Hp}, (∀ b ∈ fp, H' b = none) → ∀ b ∈ fp, FpOk X pins H' b := fun hn b hb => ⟨hn b hb, (f2 b hb).2⟩
  refine codeAny_forLoop_any (fun n s' => ∃ i σ' H', Inv X pins σ' H' s' ∧ tn i s'.heap ∧ (∀ b ∈ fp, H' b = none) ∧ W i n σ' H') ?_ m0 ⟨0, σ, H2, I2, st2, fun b hb => (f2 b hb).1, w0⟩
  rintro n s3 ⟨i, σ3, H3, I3, st3, fr3, w3⟩
  rcases turn i n σ3 H3 w3 with ⟨stop, qn⟩ | ⟨go, N, hN, step⟩
  · refine wpAny_passesOwn hp (thn (T.done X rfl rfl rfl hc i pins s3 σ3 H3 X.xe I3 (stat fr3) st3 stop) fun r s4 ⟨hr, I4⟩ => ?_)
    subst hr
    exact wpAny_execs_nil ⟨σ3, H3, I4, qn⟩
  · refine wpAny_passesOwn hp (thn (T.item X rfl rfl rfl hc i pins s3 σ3 H3 X.xe I3 (stat fr3) st3 go) fun r s4 ⟨u, hr, h4⟩ => ?_)
    subst hr
    refine wpAny_passesOwn hp (thn h4 fun _ s5 ⟨x, H5, I5, r5, y5, st5, fr5⟩ => ?_)
    have I5' := I5.pinned (stat fr5) (T.obj _ _ st5)
    refine wpAny_passesOwn hp (thn (hg _ s5 σ3 H5 x u _ I5' r5 (step x H5 y5)) fun _ s6 ⟨σ6, H6, I6, q6⟩ => ?_)
    refine wpAny_passesOwn hp (thn (hb _ s6 σ6 H6 _ I6 q6) fun f s7 q7 => ?_)
    have again : ∀ {σ7 : St} {H7 : Hp}, Inv X (pins ++ pinsAt fp s5.heap) σ7 H7 s7 → N σ7 H7 → ∃ m, m < n ∧ ∃ i σ' H', Inv X pins σ' H' s7 ∧ tn i s7.heap ∧ (∀ b ∈ fp, H' b = none) ∧ W i m σ' H' := fun {σ7 H7} I7 n7 => by
      obtain ⟨m', hm, w7⟩ := hN σ7 H7 n7
      refine ⟨m', hm, i + 1, σ7, H7, I7.unpinned, T.keep _ _ _ st5 fun b hb o e => (I7.pin (b, o) (List.mem_append_right _ (List.mem_append_right _ (mem_pinsAt hb e)))).1, fun b hb => ?_, w7⟩
      obtain ⟨o, e, d⟩ := T.obj _ _ st5 b hb
      exact (I7.pin (b, o) (List.mem_append_right _ (List.mem_append_right _ (mem_pinsAt hb e)))).2.1
    cases f with
    | next => obtain ⟨σ7, H7, I7, n7⟩ := q7; exact again I7 n7
    | cont => obtain ⟨σ7, H7, I7, n7⟩ := q7; exact again I7 n7
    | brk => obtain ⟨σ7, H7, I7, q7⟩ := q7; exact ⟨σ7, H7, I7.unpinned, q7⟩
    | ret v => obtain ⟨x7, σ7, H7, I7, r7, q7⟩ := q7; exact ⟨x7, σ7, H7, I7.unpinned, r7, q7⟩
end

/-! ### the forms one uses -/
/-- over a list that the body leaves as it is -/
theorem for_list {K : PySem.W.Frag} {a : Addr} {xs : List V} {g : TG} {tb : TS} {D : Ends} {σ : St} {H : Hp} (Pv : Nat → St → Hp → Prop) (h0 : Pv 0 σ H) (hl : ∀ i σ H, i ≤ xs.length → Pv i σ H → SqL K H a xs)
    (hs : ∀ i x σ H, xs[i]? = some x → Pv i σ H → g x σ H fun σ2 H2 => tb { D with nx := Pv (i + 1), ct := Pv (i + 1), bk := D.nx } σ2 H2) (hd : ∀ σ H, Pv xs.length σ H → D.nx σ H) :
    ∃ W : Nat → Nat → St → Hp → Prop, (∃ m, W 0 m σ H) ∧ ∀ i m σ H, W i m σ H →
      ((Itl K a).stop i H ∧ D.nx σ H) ∨ ((Itl K a).go i H ∧ ∃ N : St → Hp → Prop, (∀ σ' H', N σ' H' → ∃ m', m' < m ∧ W (i + 1) m' σ' H') ∧ ∀ x H', (Itl K a).yld i H x H' → g x σ H' fun σ2 H2 => tb { D with nx := N, ct := N, bk := D.nx } σ2 H2) := by
  refine ⟨fun i m σ H => m = xs.length - i ∧ i ≤ xs.length ∧ Pv i σ H, ⟨xs.length, by simp, Nat.zero_le _, h0⟩, ?_⟩
  rintro i m σ H ⟨rfl, hi, p⟩
  have q := hl i σ H hi p
  by_cases hlt : i < xs.length
  · refine .inr ⟨⟨xs, xs[i], q, by simp [hlt]⟩, Pv (i + 1), fun σ' H' p' => ⟨xs.length - (i + 1), by omega, rfl, hlt, p'⟩, fun x H' y => ?_⟩
    obtain ⟨e, y⟩ := y
    subst e
    exact hs i x σ _ (y xs q) p
  · have e : i = xs.length := by omega
    subst e
    exact .inl ⟨⟨xs, q, Nat.le_refl _⟩, hd σ H p⟩
theorem for_tup {K : PySem.W.Frag} {a : Addr} {xs : List V} {g : TG} {tb : TS} {D : Ends} {σ : St} {H : Hp} (Pv : Nat → St → Hp → Prop) (h0 : Pv 0 σ H) (hl : ∀ i σ H, i ≤ xs.length → Pv i σ H → SqT K H a xs)
    (hs : ∀ i x σ H, xs[i]? = some x → Pv i σ H → g x σ H fun σ2 H2 => tb { D with nx := Pv (i + 1), ct := Pv (i + 1), bk := D.nx } σ2 H2) (hd : ∀ σ H, Pv xs.length σ H → D.nx σ H) :
    ∃ W : Nat → Nat → St → Hp → Prop, (∃ m, W 0 m σ H) ∧ ∀ i m σ H, W i m σ H →
      ((Itt K a).stop i H ∧ D.nx σ H) ∨ ((Itt K a).go i H ∧ ∃ N : St → Hp → Prop, (∀ σ' H', N σ' H' → ∃ m', m' < m ∧ W (i + 1) m' σ' H') ∧ ∀ x H', (Itt K a).yld i H x H' → g x σ H' fun σ2 H2 => tb { D with nx := N, ct := N, bk := D.nx } σ2 H2) := by
  refine ⟨fun i m σ H => m = xs.length - i ∧ i ≤ xs.length ∧ Pv i σ H, ⟨xs.length, by simp, Nat.zero_le _, h0⟩, ?_⟩
  rintro i m σ H ⟨rfl, hi, p⟩
  have q := hl i σ H hi p
  by_cases hlt : i < xs.length
  · refine .inr ⟨⟨xs, xs[i], q, by simp [hlt]⟩, Pv (i + 1), fun σ' H' p' => ⟨xs.length - (i + 1), by omega, rfl, hlt, p'⟩, fun x H' y => ?_⟩
    obtain ⟨e, y⟩ := y
    subst e
    exact hs i x σ _ (y xs q) p
  · have e : i = xs.length := by omega
    subst e
    exact .inl ⟨⟨xs, q, Nat.le_refl _⟩, hd σ H p⟩
theorem for_range {lo : Int} {n : Nat} {g : TG} {tb : TS} {D : Ends} {σ : St} {H : Hp} (Pv : Nat → St → Hp → Prop) (h0 : Pv 0 σ H)
    (hs : ∀ i σ H, i < n → Pv i σ H → g (.int (lo + i)) σ H fun σ2 H2 => tb { D with nx := Pv (i + 1), ct := Pv (i + 1), bk := D.nx } σ2 H2) (hd : ∀ σ H, Pv n σ H → D.nx σ H) :
    ∃ W : Nat → Nat → St → Hp → Prop, (∃ m, W 0 m σ H) ∧ ∀ i m σ H, W i m σ H →
      ((Itr lo n).stop i H ∧ D.nx σ H) ∨ ((Itr lo n).go i H ∧ ∃ N : St → Hp → Prop, (∀ σ' H', N σ' H' → ∃ m', m' < m ∧ W (i + 1) m' σ' H') ∧ ∀ x H', (Itr lo n).yld i H x H' → g x σ H' fun σ2 H2 => tb { D with nx := N, ct := N, bk := D.nx } σ2 H2) := by
  refine ⟨fun i m σ H => m = n - i ∧ i ≤ n ∧ Pv i σ H, ⟨n, by simp, Nat.zero_le _, h0⟩, ?_⟩
  rintro i m σ H ⟨rfl, hi, p⟩
  by_cases hlt : i < n
  · refine .inr ⟨hlt, Pv (i + 1), fun σ' H' p' => ⟨n - (i + 1), by omega, rfl, hlt, p'⟩, fun x H' y => ?_⟩
    obtain ⟨e, y⟩ := y
    subst e y
    exact hs i σ _ hlt p
  · have e : i = n := by omega
    subst e
    exact .inl ⟨Nat.le_refl _, hd σ H p⟩
end L2

namespace L2
open PySem PySem.Spec PyProof.Rows

abbrev R2 := V → V → Hp → VK → Prop
/-- a two-place operation on values: f is binaryOp op, inplaceOp op or compareOp op -/
def OpR (X : Cx) (f : Value → Value → Sem Value) (r : R2) : Prop :=
  ∀ (pins : List (Addr × Obj)) (s : Shared) (σ : St) (H : Hp) (x y : V) (v u : Value) (Q : VK), Inv X pins σ H s → RelV x v → RelV y u → r x y H Q →
    wpAny (model X.prog X.w) X.A (f v u) (EP X pins σ Q) X.xe s
/-- a one-place operation -/
def UnR (X : Cx) (f : Value → Sem Value) (r : V → Hp → VK → Prop) : Prop :=
  ∀ (pins : List (Addr × Obj)) (s : Shared) (σ : St) (H : Hp) (x : V) (v : Value) (Q : VK), Inv X pins σ H s → RelV x v → r x H Q →
    wpAny (model X.prog X.w) X.A (f v) (EP X pins σ Q) X.xe s
/-- a call of a value that is known (a builtin, a type) with values -/
def CallR (X : Cx) (f : Value) (r : List V → Hp → VK → Prop) : Prop :=
  ∀ (pins : List (Addr × Obj)) (s : Shared) (σ : St) (H : Hp) (xs : List V) (us : List Value) (Q : VK), Inv X pins σ H s → Vals xs us → r xs H Q →
    wpAny (model X.prog X.w) X.A (call f us) (EP X pins σ Q) X.xe s
/-- a value's truth -/
def TruR (X : Cx) (r : V → Hp → (Bool → Hp → Prop) → Prop) : Prop :=
  ∀ (pins : List (Addr × Obj)) (s : Shared) (σ : St) (H : Hp) (x : V) (v : Value) (Q : Bool → Hp → Prop), Inv X pins σ H s → RelV x v → r x H Q →
    wpAny (model X.prog X.w) X.A (truthy v) (TP X pins σ Q) X.xe s

def tOp (r : R2) (ta tb : TE) : TE := fun σ H Q => ta σ H fun x H1 => tb σ H1 fun y H2 => r x y H2 Q
def tUn (r : V → Hp → VK → Prop) (ta : TE) : TE := fun σ H Q => ta σ H fun x H1 => r x H1 Q
/-- ints in, under C, and a value out -/
def rI (C : Int → Int → Prop) (g : Int → Int → V) : R2 := fun x y H Q => ∃ i j, x = .int i ∧ y = .int j ∧ C i j ∧ Q (g i j) H
def rI0 (g : Int → Int → V) : R2 := fun x y H Q => ∃ i j, x = .int i ∧ y = .int j ∧ Q (g i j) H
def rU (g : Int → V) : V → Hp → VK → Prop := fun x H Q => ∃ i, x = .int i ∧ Q (g i) H

section
variable {X : Cx} {a b c : Expr} {ta tb tc : TE} {pos : Pos}

theorem binT (ha : PE X a ta) (hb : PE X b tb) {pins : List (Addr × Obj)} {s : Shared} {σ : St} {H : Hp} {R : V → V → Hp → Prop} (I : Inv X pins σ H s)
    (h : ta σ H fun x H1 => tb σ H1 fun y H2 => R x y H2) {Q : Value → Shared → Prop} {f : Value → Value → Sem Value}
    (hf : ∀ v u s2 x y H2, Inv X pins σ H2 s2 → RelV x v → RelV y u → R x y H2 → wpAny (model X.prog X.w) X.A (f v u) Q X.xe s2) :
    wpAny (model X.prog X.w) X.A (eval a X.env) (fun v s₁ => wpAny (model X.prog X.w) X.A (eval b X.env) (fun u s₂ => wpAny (model X.prog X.w) X.A (f v u) Q X.xe s₂) X.xe s₁) X.xe s := by
  refine thn (ha pins s σ H _ I h) fun v s1 ⟨x, H1, I1, r1, q1⟩ => ?_
  refine thn (hb pins s1 σ H1 _ I1 q1) fun u s2 ⟨y, H2, I2, r2, q2⟩ => ?_
  exact hf v u s2 x y H2 I2 r1 r2 q2

theorem pe_op {op : Operator} {r : R2} (ho : OpR X (binaryOp op) r) (ha : PE X a ta) (hb : PE X b tb) : PE X (.BinOp a op b pos) (tOp r ta tb) := by
  intro pins s σ H Q I h
  exact wpAny_BinOp (binT ha hb I h fun v u s2 x y H2 I2 rx ry q => ho pins s2 σ H2 x y v u Q I2 rx ry q)
/-! ### ints -/
theorem opI {f : Value → Value → Sem Value} {C : Int → Int → Prop} {g : Int → Int → Int}
    (rule : ∀ (i j : Int) (t u : Tok) (s : Shared) (Q : Value → Shared → Prop) (E : Value → Shared → Prop), C i j → Q (.int (g i j) s.toks) { s with toks := s.toks + 1 } → wpAny (model X.prog X.w) X.A (f (.int i t) (.int j u)) Q E s) :
    OpR X f (rI C fun i j => .int (g i j)) := by
  intro pins s σ H x y v u Q I rx ry h
  obtain ⟨i, j, rfl, rfl, hc, q⟩ := h
  obtain ⟨t, rfl⟩ := rx
  obtain ⟨t', rfl⟩ := ry
  exact rule i j t t' s _ _ hc ⟨.int (g i j), H, I.tok _, ⟨_, rfl⟩, q⟩
theorem opI0 {f : Value → Value → Sem Value} {g : Int → Int → Int}
    (rule : ∀ (i j : Int) (t u : Tok) (s : Shared) (Q : Value → Shared → Prop) (E : Value → Shared → Prop), Q (.int (g i j) s.toks) { s with toks := s.toks + 1 } → wpAny (model X.prog X.w) X.A (f (.int i t) (.int j u)) Q E s) :
    OpR X f (rI0 fun i j => .int (g i j)) := by
  intro pins s σ H x y v u Q I rx ry h
  obtain ⟨i, j, rfl, rfl, q⟩ := h
  obtain ⟨t, rfl⟩ := rx
  obtain ⟨t', rfl⟩ := ry
  exact rule i j t t' s _ _ ⟨.int (g i j), H, I.tok _, ⟨_, rfl⟩, q⟩
theorem opB0 {f : Value → Value → Sem Value} {g : Int → Int → Bool}
    (rule : ∀ (i j : Int) (t u : Tok) (s : Shared) (Q : Value → Shared → Prop) (E : Value → Shared → Prop), Q (.bool (g i j)) s → wpAny (model X.prog X.w) X.A (f (.int i t) (.int j u)) Q E s) :
    OpR X f (rI0 fun i j => .bl (g i j)) := by
  intro pins s σ H x y v u Q I rx ry h
  obtain ⟨i, j, rfl, rfl, q⟩ := h
  obtain ⟨t, rfl⟩ := rx
  obtain ⟨t', rfl⟩ := ry
  exact rule i j t t' s _ _ ⟨.bl (g i j), H, I, rfl, q⟩

def CDiv (i j : Int) : Prop := 0 < j ∧ j < 1073741824
def CDivN (i j : Int) : Prop := j ≠ 0 ∧ j.natAbs < 1073741824
def CPow (i j : Int) : Prop := 0 ≤ j ∧ j ≤ 1000000 ∧ i.natAbs < 2 ^ 64
def CMul (i j : Int) : Prop := (-(2 ^ 64) < i ∧ i < 2 ^ 64) ∨ (-(2 ^ 64) < j ∧ j < 2 ^ 64)
theorem CMul.ok {i j : Int} (h : CMul i j) : IntMulOk i j := by
  rcases h with ⟨h1, h2⟩ | ⟨h1, h2⟩
  · exact .of_left (intBits_le_64 h1 h2)
  · exact .of_right (intBits_le_64 h1 h2)
theorem op_add : OpR X (binaryOp .Add) (rI0 fun i j => .int (i + j)) := opI0 fun _ _ _ _ _ _ _ q => add_int q
theorem op_sub : OpR X (binaryOp .Sub) (rI0 fun i j => .int (i - j)) := opI0 fun _ _ _ _ _ _ _ q => sub_int q
theorem op_mul : OpR X (binaryOp .Mult) (rI CMul fun i j => .int (i * j)) := opI fun _ _ _ _ _ _ _ hc q => mul_int q hc.ok
/-- // by a positive divisor -/
theorem op_fdiv : OpR X (binaryOp .FloorDiv) (rI CDiv fun i j => .int (i / j)) := opI fun i j _ _ _ _ _ hc q => by
  have h1 : (0 : Int) < j := hc.1
  have h2 : j < 1073741824 := hc.2
  exact floordiv_int (by omega) (by rw [Int.fdiv_eq_ediv_of_nonneg i (by omega)]; exact q) (.inl (PyProof.noPylong_small (by omega)))
/-- % by a positive divisor of any size -/
theorem op_mod : OpR X (binaryOp .Mod) (rI (fun _ j => 0 < j) fun i j => .int (i % j)) := opI fun i j _ _ _ _ _ hc q => by
  have h1 : (0 : Int) < j := hc
  exact mod_int' (by omega) (by rw [Int.fmod_eq_emod_of_nonneg i (by omega)]; exact q)
theorem op_pow : OpR X (binaryOp .Pow) (rI CPow fun i j => .int (i ^ j.toNat)) := opI fun _ _ _ _ _ _ _ hc q => pow_int_small hc.1 hc.2.1 hc.2.2 q
/-! ### bools among ints: n += (a < b) -/
end

/-! ### comparisons -/
/-- the scalars that == tells apart as data does -/
def scal : V → V → Bool
  | .non, .non => true | .non, .int _ => true | .int _, .non => true | .non, .bl _ => true | .bl _, .non => true | .non, .str _ => true | .str _, .non => true
  | .int _, .int _ => true | .bl _, .bl _ => true | .str _, .str _ => true | .byt _, .byt _ => true
  | .int _, .str _ => true | .str _, .int _ => true | .bl _, .str _ => true | .str _, .bl _ => true
  | _, _ => false
def rEq : R2 := fun x y H Q => scal x y = true ∧ Q (.bl (decide (x = y))) H
def rNe : R2 := fun x y H Q => scal x y = true ∧ Q (.bl (!decide (x = y))) H

theorem dec_int {i j : Int} : decide (V.int i = V.int j) = (i == j) := by
  rw [Bool.eq_iff_iff]
  simp
theorem dec_bl {i j : Bool} : decide (V.bl i = V.bl j) = (i == j) := by
  rw [Bool.eq_iff_iff]
  simp
theorem dec_str {i j : Str} : decide (V.str i = V.str j) = (i == j) := by
  rw [Bool.eq_iff_iff]
  simp
theorem dec_byt {i j : Array UInt8} : decide (V.byt i = V.byt j) = (i.toList == j.toList) := by
  rw [Bool.eq_iff_iff]
  cases i
  cases j
  simp

section
variable {X : Cx} {a b c : Expr} {ta tb tc : TE} {pos : Pos}
theorem fin_bl {pins : List (Addr × Obj)} {σ : St} {H : Hp} {s : Shared} {Q : VK} {k k' : Bool} (I : Inv X pins σ H s) (q : Q (.bl k) H) (e : k = k') : EP X pins σ Q (.bool k') s := by
  subst e
  exact ⟨.bl k, H, I, rfl, q⟩
theorem op_eq : OpR X (compareOp .Eq) rEq := by
  intro pins s σ H x y v u Q I rx ry h
  obtain ⟨hs, q⟩ := h
  cases x with
  | non =>
    cases rx
    cases y with
    | non => cases ry; exact PySem.EqNone.eq_none_none (fin_bl I q (by simp))
    | bl j => cases ry; exact PySem.EqNone.eq_none_bool (fin_bl I q (by simp))
    | int j => obtain ⟨t', rfl⟩ := ry; exact PySem.EqNone.eq_none_int (fin_bl I q (by simp))
    | str j => obtain ⟨t', rfl⟩ := ry; exact PySem.EqNone.eq_none_str (fin_bl I q (by simp))
    | _ => exact absurd (show false = true from hs) Bool.false_ne_true
  | bl i =>
    cases rx
    cases y with
    | non => cases ry; exact PySem.EqNone.eq_bool_none (fin_bl I q (by simp))
    | bl j => cases ry; exact eq_bool (fin_bl I q dec_bl)
    | str j => obtain ⟨t', rfl⟩ := ry; exact PySem.EqMixed.eq_bool_str (fin_bl I q (by simp))
    | _ => exact absurd (show false = true from hs) Bool.false_ne_true
  | int i =>
    obtain ⟨t, rfl⟩ := rx
    cases y with
    | non => cases ry; exact PySem.EqNone.eq_int_none (fin_bl I q (by simp))
    | int j => obtain ⟨t', rfl⟩ := ry; exact eq_int (fin_bl I q dec_int)
    | str j => obtain ⟨t', rfl⟩ := ry; exact PySem.EqMixed.eq_int_str (fin_bl I q (by simp))
    | _ => exact absurd (show false = true from hs) Bool.false_ne_true
  | str i =>
    obtain ⟨t, rfl⟩ := rx
    cases y with
    | non => cases ry; exact PySem.EqNone.eq_str_none (fin_bl I q (by simp))
    | bl j => cases ry; exact PySem.EqMixed.eq_str_bool (fin_bl I q (by simp))
    | int j => obtain ⟨t', rfl⟩ := ry; exact PySem.EqMixed.eq_str_int (fin_bl I q (by simp))
    | str j => obtain ⟨t', rfl⟩ := ry; exact eq_str (fin_bl I q dec_str)
    | _ => exact absurd (show false = true from hs) Bool.false_ne_true
  | byt i =>
    obtain ⟨t, rfl⟩ := rx
    cases y with
    | byt j => obtain ⟨t', rfl⟩ := ry; exact PySem.W.eq_bytes (fin_bl I q dec_byt)
    | _ => exact absurd (show false = true from hs) Bool.false_ne_true
  | _ => cases y <;> exact absurd (show false = true from hs) Bool.false_ne_true
theorem op_lt : OpR X (compareOp .Lt) (rI0 fun i j => .bl (decide (i < j))) := opB0 fun _ _ _ _ _ _ _ q => lt_int q
theorem op_le : OpR X (compareOp .LtE) (rI0 fun i j => .bl (decide (i ≤ j))) := opB0 fun _ _ _ _ _ _ _ q => le_int q
theorem op_gt : OpR X (compareOp .Gt) (rI0 fun i j => .bl (decide (j < i))) := opB0 fun _ _ _ _ _ _ _ q => gt_int q
theorem op_ge : OpR X (compareOp .GtE) (rI0 fun i j => .bl (decide (j ≤ i))) := opB0 fun _ _ _ _ _ _ _ q => ge_int q
/-- is, is not of two objects that are tracked lists or instances -/
def isObj : HO → Bool
  | .lst _ => true
  | .ins _ _ _ => true
  | _ => false
/-- two rules for one operation: by cases -/
theorem OpR.or {f : Value → Value → Sem Value} {r r' : R2} (h : OpR X f r) (h' : OpR X f r') : OpR X f (fun x y H Q => r x y H Q ∨ r' x y H Q) := by
  intro pins s σ H x y v u Q I rx ry q
  rcases q with q | q
  · exact h pins s σ H x y v u Q I rx ry q
  · exact h' pins s σ H x y v u Q I rx ry q

theorem nomark (b : Expr) {op : CmpOp} (h : op ≠ .In := by decide) (h2 : op ≠ .NotIn := by decide) : behindInMarks op b = false := by
  have e1 : (op == CmpOp.In) = false := by cases op <;> first | rfl | exact absurd rfl h
  have e2 : (op == CmpOp.NotIn) = false := by cases op <;> first | rfl | exact absurd rfl h2
  cases b <;> simp [behindInMarks, e1, e2]
/-- a comparison as a value; hm: nomark b, or (for in, not in) by with_unfolding_all rfl -/
theorem pe_cmpR {op : CmpOp} {r : R2} (ho : OpR X (compareOp op) r) (ha : PE X a ta) (hb : PE X b tb) (hm : behindInMarks op b = false) : PE X (.Compare a [op] [b] pos) (tOp r ta tb) := by
  intro pins s σ H Q I h
  exact wpAny_Compare1 (binT ha hb I h fun v u s2 x y H2 I2 rx ry q => ho pins s2 σ H2 x y v u Q I2 rx ry q) hm
/-- a reading of a value as a test -/
def tTest (t : TE) : TT := fun σ H Q => t σ H fun x H' => ∃ k, x = .bl k ∧ Q k H'
theorem pt_cmpR {op : CmpOp} {r : R2} (ho : OpR X (compareOp op) r) (ha : PE X a ta) (hb : PE X b tb) (hm : behindInMarks op b = false) : PT X (.Compare a [op] [b] pos) (tTest (tOp r ta tb)) := by
  intro pins s σ H Q I h
  refine wpAny_isTrue_Compare1 (thn (ha pins s σ H _ I h) fun v s1 ⟨x, H1, I1, r1, q1⟩ => thn (hb pins s1 σ H1 _ I1 q1) fun u s2 ⟨y, H2, I2, r2, q2⟩ =>
    thn (ho pins s2 σ H2 x y v u _ I2 r1 r2 q2) fun c s3 ⟨z, H3, I3, r3, k, e, q3⟩ => ?_) hm
  subst e
  cases r3
  exact wpAny_truthy_bool ⟨H3, I3, q3⟩
/-- a op1 b op2 c -/
def tChain (r r' : R2) (ta tb tc : TE) : TE := fun σ H Q => ta σ H fun x H1 => tb σ H1 fun y H2 => r x y H2 fun z H3 => ∃ k, z = .bl k ∧
  (if k = true then tc σ H3 fun w' H4 => r' y w' H4 Q else Q (.bl false) H3)
/-! ### truth -/
/-- a value's truth by the abstract heap -/
def TruV (K : PySem.W.Frag) (x : V) (H : Hp) (k : Bool) : Prop :=
  match x with
  | .non => k = false
  | .bl b => k = b
  | .int i => k = (i != 0)
  | .str y => y.length ≤ sizeLine ∧ k = ((y.length : Int) != 0)
  | .byt y => y.size ≤ sizeLine ∧ k = ((y.size : Int) != 0)
  | .ref p => (∃ xs, SqL K H p xs ∧ k = !xs.isEmpty) ∨ (∃ xs, SqT K H p xs ∧ k = !xs.isEmpty) ∨ ∃ kvs, H p = some (.dK kvs) ∧ k = !kvs.isEmpty
  | _ => False
theorem line63 : (sizeLine : Nat) < 2 ^ 63 := by rw [sizeLine_eq]; decide
/-! ### strs and bytes -/
def PlainIxT (b : Expr) : Prop := ∀ o i, subscripted b false o i = operate [o, i] (getItem o i)
/-! ### scalar builtins, by CallR -/
theorem vals1 {x : V} {us : List Value} (r : Vals [x] us) : ∃ u, us = [u] ∧ RelV x u := by
  cases r with
  | cons r1 r2 => cases r2; exact ⟨_, rfl, r1⟩
theorem vals2 {x y : V} {us : List Value} (r : Vals [x, y] us) : ∃ u w', us = [u, w'] ∧ RelV x u ∧ RelV y w' := by
  cases r with
  | cons r1 r2 =>
    cases r2 with
    | cons r3 r4 => cases r4; exact ⟨_, _, rfl, r1, r3⟩
theorem call_max2 (hc : X.calm = true) : CallR X (.builtin "max") (fun xs H Q => ∃ i j, xs = [.int i, .int j] ∧ Q (.int (if j > i then j else i)) H) := by
  intro pins s σ H xs us Q I r h
  obtain ⟨i, j, rfl, q⟩ := h
  obtain ⟨u, w', rfl, ⟨t, rfl⟩, ⟨t', rfl⟩⟩ := vals2 r
  refine max_two_ints (I.ok.hd hc) fun h' tk k => ⟨_, H, I.kept k, ?_, q⟩
  by_cases hj : j > i
  · rw [if_pos hj, if_pos hj]; exact ⟨_, rfl⟩
  · rw [if_neg hj, if_neg hj]; exact ⟨_, rfl⟩
theorem call_min2 (hc : X.calm = true) : CallR X (.builtin "min") (fun xs H Q => ∃ i j, xs = [.int i, .int j] ∧ Q (.int (if j < i then j else i)) H) := by
  intro pins s σ H xs us Q I r h
  obtain ⟨i, j, rfl, q⟩ := h
  obtain ⟨u, w', rfl, ⟨t, rfl⟩, ⟨t', rfl⟩⟩ := vals2 r
  refine min_two_ints (I.ok.hd hc) fun h' tk k => ⟨_, H, I.kept k, ?_, q⟩
  by_cases hj : j < i
  · rw [if_pos hj, if_pos hj]; exact ⟨_, rfl⟩
  · rw [if_neg hj, if_neg hj]; exact ⟨_, rfl⟩
theorem call_int1 : CallR X (.type "int") (fun xs H Q => (∃ i, xs = [.int i] ∧ Q (.int i) H) ∨ ∃ k, xs = [.bl k] ∧ Q (.int (if k then 1 else 0)) H) := by
  intro pins s σ H xs us Q I r h
  rcases h with ⟨i, rfl, q⟩ | ⟨k, rfl, q⟩
  · obtain ⟨u, rfl, t, rfl⟩ := vals1 r
    exact call_int_int ⟨.int i, H, I, ⟨_, rfl⟩, q⟩
  · obtain ⟨u, rfl, r1⟩ := vals1 r
    cases r1
    exact call_int_bool ⟨.int (if k then 1 else 0), H, I.tok _, ⟨_, rfl⟩, q⟩
/-- len of a str, a bytes, a list, a tuple -/
def LenV (K : PySem.W.Frag) (x : V) (H : Hp) (n : Nat) : Prop :=
  match x with
  | .str y => y.length ≤ sizeLine ∧ n = y.length
  | .byt y => y.size ≤ sizeLine ∧ n = y.size
  | .ref p => (∃ xs, SqL K H p xs ∧ n = xs.length) ∨ ∃ xs, SqT K H p xs ∧ n = xs.length
  | _ => False
end
end L2

namespace L2
open PySem PySem.Spec PyProof.Rows

/-! ### an instance, its attributes a map -/
structure ObjM (h : Heap) (x dx C : Addr) (mA : Str → Option Value) : Prop where
  obj : h.get? x = some (PySem.W.instObj C dx)
  ns : h.Ns1 dx mA
  ne : dx ≠ x

section
variable {prog : Program} {w : World} {A : Around} {E : Value → Shared → Prop} {s : Shared} {K : PySem.W.Frag} {x dx C f : Addr} {mA : Str → Option Value} {name : Str} {v : Value}

end

/-! ### the attributes as a list of pairs -/
def putF (f : Str) (v : V) : List (Str × V) → List (Str × V)
  | [] => [(f, v)]
  | (g, x) :: r => if g = f then (g, v) :: r else (g, x) :: putF f v r
theorem RelO.some_of {v : V} {o : Option Value} (r : RelO (some v) o) : ∃ u, o = some u ∧ RelV v u := by
  cases o with
  | none => exact (show False from r).elim
  | some u => exact ⟨u, rfl, r⟩
theorem RelO.none_of {o : Option Value} (r : RelO none o) : o = none := by
  cases o with
  | none => rfl
  | some u => exact (show False from r).elim
section
variable {P : Program} {w : World} {H H' : Hp} {h h' : Heap} {a C dx : Addr} {fs fs' : List (Str × V)}
end

/-! ### what of the text a class must have -/
structure Cls (K : PySem.W.Frag) (C : Addr) : Prop where
  pg : PySem.W.plainGet K C Str.empty = true
  hd : PySem.W.hasDictIn K C = true
  po : PySem.W.plainOver K C = true
  sa : PySem.W.findIn K (.ref C) "__setattr__" = some (some (.builtin "object.__setattr__"))
theorem Cls.get {K : PySem.W.Frag} {C : Addr} (c : Cls K C) (f : Str) : PySem.W.plainGet K C f = true := c.pg
/-- no class of it has the name -/
def NoAttr (K : PySem.W.Frag) (C : Addr) (f : Str) : Prop := PySem.W.findIn K (.ref C) f = some none
/-- a constant of the class -/
structure Con (K : PySem.W.Frag) (C : Addr) (f : Str) (v : V) (u : Value) : Prop where
  at_ : PySem.W.findIn K (.ref C) f = some (some u)
  rel : RelV v u
  get : PySem.W.specialIn K u "__get__" = some none
  cp : PySem.W.copiedNames.contains f = false
/-- a method: a plain def of the class or of one above it -/
structure Meth (K : PySem.W.Frag) (C : Addr) (m : Str) (f : Addr) : Prop where
  at_ : PySem.W.findIn K (.ref C) m = some (some (.ref f))
  fn : PySem.W.isFn K (.ref f) = true
  kp : PySem.W.keepIn K (.ref f) = true

section
variable {X : Cx} {pins : List (Addr × Obj)} {σ : St} {H : Hp} {s : Shared} {a C dx : Addr} {fs : List (Str × V)} {f : Str} {v : V} {A : Around} {E : Value → Shared → Prop}

/-- a new instance, tracked, without attributes -/
theorem Inv.made (I : Inv X pins σ H s) : Inv X pins σ (upd (upd H s.heap.objs.size (.own (s.heap.objs.size + 1))) (s.heap.objs.size + 1) (.ins C s.heap.objs.size []))
    { s with heap := (s.heap.push PySem.W.emptyDict).push (PySem.W.instObj C s.heap.objs.size) } := by
  have e1 : (s.heap.push PySem.W.emptyDict).get? s.heap.objs.size = some PySem.W.emptyDict := Heap.get?_push_size s.heap rfl
  have e2 : ((s.heap.push PySem.W.emptyDict).push (PySem.W.instObj C s.heap.objs.size)).get? (s.heap.objs.size + 1) = some (PySem.W.instObj C s.heap.objs.size) := by
    have := Heap.get?_push_size (s.heap.push PySem.W.emptyDict) (o := PySem.W.instObj C s.heap.objs.size) rfl
    rwa [Heap.size_push] at this
  have e3 : (s.heap.push PySem.W.emptyDict).Ns s.heap.objs.size (fun _ => none) := ⟨PySem.W.emptyDict, #[], _, e1, rfl, (fun e he => absurd he (by simp)), fun _ => rfl⟩
  have I1 := I.laid (a := s.heap.objs.size) (o := .own (s.heap.objs.size + 1)) (h' := s.heap.push PySem.W.emptyDict) (t' := s.toks) (fun b u q => Heap.get?_push_of_some _ q) (Nat.le_refl _) ⟨_, e1⟩
  refine I1.laid (a := s.heap.objs.size + 1) (o := .ins C s.heap.objs.size []) (t' := s.toks) (fun b u q => Heap.get?_push_of_some _ q) (Nat.le_of_eq (Heap.size_push _ _)) ?_
  have ne : s.heap.objs.size ≠ s.heap.objs.size + 1 := Nat.ne_of_lt (Nat.lt_succ_self _)
  refine ⟨by rw [upd_ne ne, upd_same], Nat.zero_le _, ne, e2, fun _ => none, (Heap.Ns1.of_empty e3).at fun o q => Heap.get?_push_of_some _ q, fun _ => True.intro, fun y hy => absurd rfl hy⟩

end

/-! ### readings and rules -/
/-- e.f, an attribute of the instance -/
def tFld (K : PySem.W.Frag) (ta : TE) (f : Str) : TE := fun σ H Q => ta σ H fun x H1 => ∃ a C dx fs v, x = .ref a ∧ H1 a = some (.ins C dx fs) ∧ Cls K C ∧ NoAttr K C f ∧ fs.lookup f = some v ∧ Q v H1
/-- e.f, a constant of the class -/
def tCon (K : PySem.W.Frag) (ta : TE) (f : Str) : TE := fun σ H Q => ta σ H fun x H1 => ∃ a C dx fs v u, x = .ref a ∧ H1 a = some (.ins C dx fs) ∧ Cls K C ∧ Con K C f v u ∧ fs.lookup f = none ∧ Q v H1
/-- e.f = value -/
def sFld (K : PySem.W.Frag) (ta tv : TE) (f : Str) : TS := fun D σ H => tv σ H fun y H1 => ta σ H1 fun x H2 => ∃ a C dx fs, x = .ref a ∧ H2 a = some (.ins C dx fs) ∧ Cls K C ∧ NoAttr K C f ∧ fs.length < 1000 ∧
  D.nx σ (upd H2 a (.ins C dx (putF f y fs)))
/-- an augmented operator on two values -/
def InOp (X : Cx) (op : Operator) (rd : V → V → Hp → VK → Prop) : Prop :=
  ∀ (pins : List (Addr × Obj)) (s : Shared) (σ : St) (H : Hp) (x y : V) (u v : Value) (Q : VK), Inv X pins σ H s → RelV x u → RelV y v → rd x y H Q → wpAny (model X.prog X.w) X.A (inplaceOp op u v) (EP X pins σ Q) X.xe s
/-- e.f op= value -/
def sFldAug (K : PySem.W.Frag) (ta tv : TE) (rd : V → V → Hp → VK → Prop) (f : Str) : TS := fun D σ H => ta σ H fun x H1 => ∃ a C dx fs v, x = .ref a ∧ H1 a = some (.ins C dx fs) ∧ Cls K C ∧ NoAttr K C f ∧ fs.lookup f = some v ∧
  tv σ H1 fun y H2 => rd v y H2 fun z H3 => ∃ dx' fs', H3 a = some (.ins C dx' fs') ∧ fs'.length < 1000 ∧ D.nx σ (upd H3 a (.ins C dx' (putF f z fs')))

section
variable {X : Cx} {o e value : Expr} {f : Str} {pos pos' tpos : Pos} {ta tv : TE}
def rAdd : V → V → Hp → VK → Prop := fun x y H Q => ∃ i j, x = .int i ∧ y = .int j ∧ Q (.int (i + j)) H
def rSub : V → V → Hp → VK → Prop := fun x y H Q => ∃ i j, x = .int i ∧ y = .int j ∧ Q (.int (i - j)) H
end

/-! ### isinstance -/
section
variable {X : Cx} {pins : List (Addr × Obj)} {σ : St} {H : Hp} {s : Shared} {A : Around} {E : Value → Shared → Prop} {Q : Value → Shared → Prop} {c : Value} {b : Bool}
/-- the type of a value, as the fragment's deciders take it; for an instance its class -/
inductive TyOf (K : PySem.W.Frag) (H : Hp) : V → Value → Prop where
  | non : TyOf K H .non (.type "NoneType")
  | bl (x : Bool) : TyOf K H (.bl x) (.type "bool")
  | int (i : Int) : TyOf K H (.int i) (.type "int")
  | str (x : Str) : TyOf K H (.str x) (.type "str")
  | flt (x : UInt64) : TyOf K H (.flt x) (.type "float")
  | lst {a : Addr} {xs : List V} (e : H a = some (.lst xs)) : TyOf K H (.ref a) (.type "list")
  | frz {a : Addr} {o : Obj} {xs : List V} (e : H a = some (.frz o (.lst xs))) : TyOf K H (.ref a) (.type "list")
  | tup {a : Addr} {xs : List V} (e : H a = some (.tup xs)) : TyOf K H (.ref a) (.type "tuple")
  | dK {a : Addr} {kvs : List (Key × V)} (e : H a = some (.dK kvs)) : TyOf K H (.ref a) (.type "dict")
  | dT {a : Addr} {kvs : List (List Key × V)} (e : H a = some (.dT kvs)) : TyOf K H (.ref a) (.type "dict")
  | ins {a C dx : Addr} {fs : List (Str × V)} (e : H a = some (.ins C dx fs)) (cl : Cls K C) (ha : PySem.W.findIn K (.ref C) "__class__" = some (some (.builtin "object.__class__")))
      (hn : PySem.W.specialIn K (.builtin "object.__class__") "__get__" = some (some (.builtin "getset_descriptor.__get__"))) (htk : PySem.W.takesIn K (.builtin "object.__class__") = some true)
      (hm : PySem.W.mroIn K C (.type "object") = some true) : TyOf K H (.ref a) (.ref C)
end
end L2

namespace L2
open PySem PySem.Spec PyProof.Rows

/-! ### room -/
structure Room (k : Nat) (A : Around) : Prop where
  hd : A.handled = none
  dp : A.depth + 3 * k + 5 < recursionLimit
  un : A.units + 16 * k + 200 < cLine
theorem Room.mono {j k : Nat} {A : Around} (r : Room k A) (h : j ≤ k) : Room j A := ⟨r.hd, by have := r.dp; omega, by have := r.un; omega⟩
theorem Room.deeper {k : Nat} {A : Around} (r : Room (k + 1) A) (env : Env) : Room k (A.deeper env) :=
  ⟨r.hd, by have := r.dp; show A.depth + 1 + 3 * k + 5 < _; omega, by have := r.un; show A.units + 3 + 16 * k + 200 < _; omega⟩
theorem Room.in1 {k : Nat} {A : Around} (r : Room (k + 1) A) : Room k A.in1 :=
  ⟨r.hd, by have := r.dp; show A.depth + 3 * k + 5 < _; omega, by have := r.un; show A.units + 1 + 16 * k + 200 < _; omega⟩
theorem make_depth {A : Around} {C : Addr} {us : List Value} {kw : List (Str × Value)} : (A.under (.builtin "type.__call__" ⟨.ref C :: us, kw⟩)).depth = A.depth + 1 := by
  first | rfl | simp [Around.under, Code.weight, Code.isCreation, Code.isGuard, Code.isCaller, Code.frames, Code.isFrame, guardIds]
theorem make_units {A : Around} {C : Addr} {us : List Value} {kw : List (Str × Value)} : (A.under (.builtin "type.__call__" ⟨.ref C :: us, kw⟩)).units = A.units + 1 := by
  first | rfl | simp [Around.under, Code.cUnits, Code.frames, Code.isFrame]
theorem Room.make {k : Nat} {A : Around} (r : Room (k + 1) A) (C : Addr) (us : List Value) (kw : List (Str × Value)) : Room k (A.under (.builtin "type.__call__" ⟨.ref C :: us, kw⟩)) :=
  ⟨r.hd, by have := r.dp; rw [make_depth]; omega, by have := r.un; rw [make_units]; omega⟩
theorem Room.depth {k : Nat} {A : Around} (r : Room k A) : A.depth < recursionLimit := by have := r.dp; omega
theorem Room.units {k : Nat} {A : Around} (r : Room k A) : A.units + 64 < cLine := by have := r.un; omega
/-! ### argument lists and displays -/
def tNil : TA := fun _ H Q => Q [] H
def tCons (ta : TE) (tr : TA) : TA := fun σ H Q => ta σ H fun x H1 => tr σ H1 fun xs H2 => Q (x :: xs) H2
section
variable {X : Cx} {e : Expr} {es : List Expr} {te : TE} {t : TA} {pos : Pos}
theorem pa_nil : PA X [] tNil := fun _ _ _ _ H Q I h => Calls.spliced_nil ⟨[], H, I, .nil, h⟩
theorem pa_cons (ha : PE X e te) (hr : PA X es t) (hs : starEach (e :: es) X.env = (false, eval e X.env) :: starEach es X.env := by rfl) : PA X (e :: es) (tCons te t) := by
  intro pos pins s σ H Q I h
  rw [hs]
  show wpAny _ _ (spliced ((false, eval e X.env) :: backTo pos (starEach es X.env))) _ _ s
  refine Calls.spliced_cons (thn (ha pins s σ H _ I h) fun u s1 ⟨x, H1, I1, r1, q1⟩ => ?_)
  exact thn (hr pos pins s1 σ H1 _ I1 q1) fun us s2 ⟨xs, H2, I2, r2, q2⟩ => ⟨x :: xs, H2, I2, .cons r1 r2, q2⟩

/-- a tuple, a list of written items -/
def tTup (t : TA) : TE := fun σ H Q => t σ H fun xs H1 => xs.length ≤ sizeLine ∧ ∀ p, H1 p = none → Q (.ref p) (upd H1 p (.tup xs))
def tLst (t : TA) : TE := fun σ H Q => t σ H fun xs H1 => xs.length ≤ sizeLine ∧ ∀ p, H1 p = none → Q (.ref p) (upd H1 p (.lst xs))
theorem pe_tup {x1} (h : PA X es t) : PE X (.Tuple es x1 pos) (tTup t) := by
  intro pins s σ H Q I hq
  refine wpAny_Tuple_spliced (thn (h pos pins s σ H _ I hq) fun us s1 ⟨xs, H1, I1, r, z, q⟩ => ⟨by rw [← r.length]; exact z, ?_⟩)
  have hf : H1 s1.heap.objs.size = none := I1.hok.fresh (Nat.le_refl _)
  refine ⟨.ref s1.heap.objs.size, upd H1 s1.heap.objs.size (.tup xs), I1.laid (t' := s1.toks) (fun b u e => Heap.get?_push_of_some _ e) (Nat.le_refl _) ?_, rfl, q _ hf⟩
  exact ⟨z, us, r, ⟨_, Heap.get?_push_size _ rfl, rfl, _, rfl, rfl⟩⟩
theorem pe_lst (h : PA X es t) : PE X (.List es pos) (tLst t) := by
  intro pins s σ H Q I hq
  refine wpAny_List_spliced (thn (h pos pins s σ H _ I hq) fun us s1 ⟨xs, H1, I1, r, z, q⟩ => ⟨by rw [← r.length]; exact z, ?_⟩)
  have hf : H1 s1.heap.objs.size = none := I1.hok.fresh (Nat.le_refl _)
  refine ⟨.ref s1.heap.objs.size, upd H1 s1.heap.objs.size (.lst xs), I1.laid (t' := s1.toks) (fun b u e => Heap.get?_push_of_some _ e) (Nat.le_refl _) ?_, rfl, q _ hf⟩
  exact ⟨z, us, 0, r, Heap.get?_push_size _ rfl⟩
end

/-! ### what a def promises -/
/-- a def's promise: the bound arguments in the parameters' order, the heap, the wanted end, the wanted exception -/
abbrev Sp := List V → Hp → VK → XK → Prop
/-- how an exception lies behind a call (file 08 gives it): the callers' frames, abstract heap and state ahead of the call, the wish, the exception, the state -/
abbrev CXT := List Env → Hp → Shared → XK → Value → Shared → Prop

/-- the state at a call -/
structure Env0 (P : Program) (w : World) (K : PySem.W.Frag) (mg : Str → Option Value) (base : Heap) (A : Around) (outer : List Env) (s : Shared) (H : Hp) : Prop where
  frames : A.frames = some outer
  mod : Mod K mg base
  bs : ∀ b o, base.get? b = some o → s.heap.get? b = some o ∧ H b = none
  bsz : base.objs.size ≤ s.heap.objs.size
  funs : s.heap.FunFrames base outer
  frf : ∀ b ∈ frs outer, H b = none
  hok : HOk P w H s.heap
  bare : AllBare s.gens
/-- a call's end -/
def CE (outer : List Env) (P : Program) (w : World) (H : Hp) (s : Shared) (Q : VK) (u : Value) (s' : Shared) : Prop :=
  ∃ v H', s'.os = s.os ∧ AllBare s'.gens ∧ Un (frs outer) [] H H' s.heap s'.heap ∧ HOk P w H' s'.heap ∧ RelV v u ∧ Q v H'
def CR (CX : CXT) (outer : List Env) (P : Program) (w : World) (H : Hp) (s : Shared) (Q : VK) (E : XK) (r : Result) (s' : Shared) : Prop :=
  match r with
  | .ok (.ret u) => CE outer P w H s Q u s'
  | .ok _ => False
  | .error e => CX outer H s E e s'
structure FnOk (P : Program) (w : World) (K : PySem.W.Frag) (mg : Str → Option Value) (base : Heap) (CX : CXT) (k : Nat) (f : Addr) (fd : FuncData) (ps : List Str) (sp : Sp) : Prop where
  len : ∀ vs H Q E, sp vs H Q E → vs.length = ps.length
  run : ∀ (A : Around) (outer : List Env) (s : Shared) (H : Hp) (args : Args) (us : List Value) (vs : List V) (Q : VK) (E : XK), Room k A → Env0 P w K mg base A outer s H → BindsTo s fd args (ps.zip us) → Vals vs us → sp vs H Q E →
    codeAny (model P w) A (.call (.ref f) args) (CR CX outer P w H s Q E) s
theorem FnOk.mono {P : Program} {w : World} {K : PySem.W.Frag} {mg : Str → Option Value} {base : Heap} {CX : CXT} {j k : Nat} {f : Addr} {fd : FuncData} {ps : List Str} {sp : Sp} (F : FnOk P w K mg base CX j f fd ps sp) (h : j ≤ k) :
    FnOk P w K mg base CX k f fd ps sp := ⟨F.len, fun A outer s H args us vs Q E hr => F.run A outer s H args us vs Q E (hr.mono h)⟩
theorem Env0.make {P : Program} {w : World} {K : PySem.W.Frag} {mg : Str → Option Value} {base : Heap} {A : Around} {outer : List Env} {s : Shared} {H : Hp} (e : Env0 P w K mg base A outer s H) (C : Addr) (us : List Value) (kw : List (Str × Value)) :
    Env0 P w K mg base (A.under (.builtin "type.__call__" ⟨.ref C :: us, kw⟩)) outer s H := ⟨by first | exact e.frames | (simpa [Around.under, Code.envs, Code.isFrame, pushEnvs] using e.frames), e.mod, e.bs, e.bsz, e.funs, e.frf, e.hok, e.bare⟩
theorem Env0.in1 {P : Program} {w : World} {K : PySem.W.Frag} {mg : Str → Option Value} {base : Heap} {A : Around} {outer : List Env} {s : Shared} {H : Hp} (e : Env0 P w K mg base A outer s H) :
    Env0 P w K mg base A.in1 outer s H := ⟨e.frames, e.mod, e.bs, e.bsz, e.funs, e.frf, e.hok, e.bare⟩

section
variable {X : Cx} {pins : List (Addr × Obj)} {σ : St} {H : Hp} {s s' : Shared}
/-- from a body: what a callee wants -/
theorem Inv.env0 (I : Inv X pins σ H s) : Env0 X.prog X.w X.K X.mg X.base X.A X.stack s H :=
  ⟨I.ok.frames, I.ok.mod, I.bs, Nat.le_trans I.ok.bsz I.sz, I.stack, I.stkFree, I.hok, I.bare⟩
/-- behind a call -/
theorem Inv.after {Q : VK} {u : Value} (I : Inv X pins σ H s) (h : CE X.stack X.prog X.w H s Q u s') : EP X pins σ Q u s' := by
  obtain ⟨v, H', os, bare, un, hok, r, q⟩ := h
  obtain ⟨hh, g, d, t, os'⟩ := s'
  obtain rfl : os' = s.os := os
  exact ⟨v, H', I.call (h' := hh) (g' := g) (d' := d) (t' := t) (ch := []) un hok bare (fun b z => absurd z (by simp)), r, q⟩
end

/-! ### calls -/
/-- f(..): the written arguments, then the defaults dvs; E: what is wanted of an exception -/
def tCall (sp : Sp) (dvs : List V) (E : XK) (t : TA) : TE := fun σ H Q => t σ H fun vs H1 => sp (vs ++ dvs) H1 Q E
/-- o.m(..) of an instance of the class at C -/
def tMeth (C : Addr) (m : Str) (sp : Sp) (dvs : List V) (E : XK) (ta : TE) (t : TA) : TE := fun σ H Q => ta σ H fun x H1 => ∃ a dx fs, x = .ref a ∧ H1 a = some (.ins C dx fs) ∧ fs.lookup m = none ∧
  t σ H1 fun vs H2 => sp (x :: (vs ++ dvs)) H2 Q E
/-- C(..): a new instance and its dict, then __init__ -/
def tMake (C : Addr) (sp : Sp) (dvs : List V) (E : XK) (t : TA) : TE := fun σ H Q => t σ H fun vs H1 => ∀ x dx, H1 x = none → H1 dx = none → dx ≠ x →
  sp (.ref x :: (vs ++ dvs)) (upd (upd H1 dx (.own x)) x (.ins C dx [])) (fun v H2 => v = .non ∧ Q (.ref x) H2) E

/-- how the parameters are bound: us the positional arguments, kw the keywords' values by name, ds the defaults that fill up -/
def Binds (K : PySem.W.Frag) (fd : FuncData) (ps : List Str) (ds : List Value) : Prop :=
  ∀ (s : Shared) (us : List Value), K.In s.heap → (us ++ ds).length = ps.length → BindsTo s fd ⟨us, []⟩ (ps.zip (us ++ ds))
/-- every parameter is given -/
theorem Binds.all {K : PySem.W.Frag} {fd : FuncData} {ps : List Str} (h : ∀ us : List Value, us.length = ps.length → bindArgs fd ⟨us, []⟩ = pure (ps.zip us)) : Binds K fd ps [] := fun s us _ hl => by
  rw [List.append_nil] at hl ⊢
  exact .of_eq (h us hl)

/-- an exception of a callee reaches what this body wants of exceptions -/
def Passes (CX : CXT) (X : Cx) (E : XK) : Prop := ∀ (pins : List (Addr × Obj)) (σ : St) (H : Hp) (s : Shared) (e : Value) (s' : Shared), Inv X pins σ H s → CX X.stack H s E e s' → X.xe e s'

section
variable {X : Cx} {CX : CXT} {k : Nat} {f C : Addr} {fd : FuncData} {ps : List Str} {sp : Sp} {dvs : List V} {ds : List Value} {E : XK} {x m : Str} {p pos apos : Pos} {e o : Expr} {es : List Expr} {ta : TE} {t : TA}

/-- the callee runs -/
theorem run_fn {pins : List (Addr × Obj)} {σ : St} {H : Hp} {s : Shared} {Q : VK} {us : List Value} {vs : List V} (F : FnOk X.prog X.w X.K X.mg X.base CX k f fd ps sp) (hr : Room k X.A) (hb : Binds X.K fd ps ds) (hd : Vals dvs ds) (hx : Passes CX X E)
    (I : Inv X pins σ H s) (r : Vals vs us) (h : sp (vs ++ dvs) H Q E) : wpAny (model X.prog X.w) X.A (call (.ref f) us) (EP X pins σ Q) X.xe s := by
  have r2 : Vals (vs ++ dvs) (us ++ ds) := r.append hd
  have hl : (us ++ ds).length = ps.length := by rw [← r2.length]; exact F.len _ _ _ _ h
  refine wpAny_call (codeAny_mono (F.run X.A X.stack s H ⟨us, []⟩ (us ++ ds) (vs ++ dvs) Q E hr I.env0 (hb s us I.kIn hl) r2 h) fun r s' hq => ?_)
  cases r with
  | error e => exact hx pins σ H s e s' I hq
  | ok fl =>
    cases fl with
    | ret u => exact I.after hq
    | next => exact False.elim hq
    | brk => exact False.elim hq
    | cont => exact False.elim hq

theorem pe_call (F : FnOk X.prog X.w X.K X.mg X.base CX k f fd ps sp) (hr : Room k X.A) (hg : Gl X x) (hm : X.mg x = some (.ref f)) (hk : PySem.W.keepIn X.K (.ref f) = true) (hb : Binds X.K fd ps ds) (hd : Vals dvs ds) (hx : Passes CX X E)
    (ha : PA X (e :: es) t) (hdb : (x == ("__debug__" : Str)) = false := by decide) (he : starEach (e :: es) X.env = (false, eval e X.env) :: starEach es X.env := by rfl) (hpl : (backTo pos (starEach es X.env)).any (·.1) = false := by rfl) :
    PE X (.Call (.Name x p) (e :: es) [] pos) (tCall sp dvs E t) := by
  intro pins s σ H Q I h
  refine wpAny_Call_Name_kw (ld_glob I hg hm ?_ hdb)
  refine PySem.W.callWith_K (h₀ := X.base) I.ok.mod.kin hk (thn (ha pos pins s σ H _ I h) fun us s1 ⟨vs, H1, I1, r, q⟩ => ⟨I1.kIn, ?_⟩) he hpl
  exact run_fn F hr hb hd hx I1 r q
/-- what a class must have to be made -/
structure Mk (K : PySem.W.Frag) (C f : Addr) : Prop where
  makes : PySem.W.makesIn K C = true
  init : PySem.W.findIn K (.ref C) "__init__" = some (some (.ref f))
  fn : PySem.W.isFn K (.ref f) = true
  kp : PySem.W.keepIn K (.ref C) = true

end

/-! ### keywords -/
/-- the values of the keywords, from the left -/
def PK (X : Cx) (kws : List Keyword) (t : TA) : Prop :=
  ∀ (pos : Pos) (pins : List (Addr × Obj)) (s : Shared) (σ : St) (H : Hp) (Q : List V → Hp → Prop), Inv X pins σ H s → t σ H Q → wpAny (model X.prog X.w) X.A (evalAll ((backToKw pos (keywordEach kws X.env)).map (·.2))) (AP X pins σ Q) X.xe s
section
variable {X : Cx} {CX : CXT} {k : Nat} {f C : Addr} {fd : FuncData} {ps ks : List Str} {sp : Sp} {E : XK} {x m : Str} {p pos apos kpos : Pos} {e o : Expr} {es : List Expr} {kws : List Keyword} {te ta : TE} {t tk : TA} {nm : Option Str}
/-- how a call with keywords binds: g puts the positional values us and the keywords' values ws (names ks) in the parameters' order, defaults among them -/
structure KBinds (K : PySem.W.Frag) (fd : FuncData) (ps ks : List Str) (g : List Value → List Value → List Value) (gV : List V → List V → List V) : Prop where
  to : ∀ (s : Shared) (us ws : List Value), K.In s.heap → (g us ws).length = ps.length → BindsTo s fd ⟨us, ks.zip ws⟩ (ps.zip (g us ws))
  rel : ∀ {vs : List V} {us : List Value} {zs : List V} {ws : List Value}, Vals vs us → Vals zs ws → Vals (gV vs zs) (g us ws)
def tCallK (sp : Sp) (gV : List V → List V → List V) (E : XK) (t tk : TA) : TE := fun σ H Q => t σ H fun vs H1 => tk σ H1 fun zs H2 => sp (gV vs zs) H2 Q E
variable {g : List Value → List Value → List Value} {gV : List V → List V → List V}
end

/-! ### a def's body keeps its promise -/
/-- names: the parameters first -/
structure FnScope (N P : List Str) (sc : Scope) : Prop where
  kind : sc.kind = .function
  co : sc.isCoroutine = false
  gen : sc.isGenerator = false
  nd : N.Nodup
  pre : N.take P.length = P
  par : ∀ x ∈ P, sc.names.lookup x = some .local ∨ sc.names.lookup x = some .cell
  nofree : ∀ y ∈ sc.names, y.2 ≠ .free

theorem bindL_out {kindOf : Str → Option NameKind} {x : Str} : ∀ {binds : List (Str × Value)} {m : Str → Option Value}, (∀ v, (x, v) ∉ binds) → bindL kindOf binds m x = m x
  | [], _, _ => rfl
  | (n, v) :: r, m, h => by
    unfold bindL
    rw [bindL_out fun w hw => h w (List.mem_cons_of_mem _ hw)]
    split
    · have : x ≠ n := by rintro rfl; exact h v List.mem_cons_self
      simp [this]
    · rfl
theorem bindC_out {kindOf : Str → Option NameKind} {x : Str} : ∀ {binds : List (Str × Value)} {m : Str → Option Value}, (∀ v, (x, v) ∉ binds) → bindC kindOf binds m x = m x
  | [], _, _ => rfl
  | (n, v) :: r, m, h => by
    unfold bindC
    rw [bindC_out fun w hw => h w (List.mem_cons_of_mem _ hw)]
    split
    · rfl
    · have : x ≠ n := by rintro rfl; exact h v List.mem_cons_self
      simp [this]
theorem bindL_get {kindOf : Str → Option NameKind} {x : Str} {v : Value} : ∀ {P : List Str} {vs : List Value} {i : Nat} {m : Str → Option Value}, P.Nodup → P[i]? = some x → vs[i]? = some v → kindOf x = some .local →
    bindL kindOf (P.zip vs) m x = some v
  | [], _, _, _, _, h, _, _ => by simp at h
  | _ :: _, [], _, _, _, _, h, _ => by simp at h
  | p :: P, w :: vs, 0, m, nd, h1, h2, hk => by
    simp at h1 h2; subst h1; subst h2
    show bindL kindOf ((p, w) :: P.zip vs) m p = _
    unfold bindL
    rw [bindL_out fun v hv => (List.nodup_cons.mp nd).1 (List.of_mem_zip hv).1, if_pos hk]
    simp
  | p :: P, w :: vs, i + 1, m, nd, h1, h2, hk => by
    show bindL kindOf ((p, w) :: P.zip vs) m x = _
    unfold bindL
    exact bindL_get (i := i) (List.nodup_cons.mp nd).2 (by simpa using h1) (by simpa using h2) hk
theorem bindC_get {kindOf : Str → Option NameKind} {x : Str} {v : Value} : ∀ {P : List Str} {vs : List Value} {i : Nat} {m : Str → Option Value}, P.Nodup → P[i]? = some x → vs[i]? = some v → kindOf x ≠ some .local →
    bindC kindOf (P.zip vs) m x = some v
  | [], _, _, _, _, h, _, _ => by simp at h
  | _ :: _, [], _, _, _, _, h, _ => by simp at h
  | p :: P, w :: vs, 0, m, nd, h1, h2, hk => by
    simp at h1 h2; subst h1; subst h2
    show bindC kindOf ((p, w) :: P.zip vs) m p = _
    unfold bindC
    rw [bindC_out fun v hv => (List.nodup_cons.mp nd).1 (List.of_mem_zip hv).1, if_neg hk]
    simp
  | p :: P, w :: vs, i + 1, m, nd, h1, h2, hk => by
    show bindC kindOf ((p, w) :: P.zip vs) m x = _
    unfold bindC
    exact bindC_get (i := i) (List.nodup_cons.mp nd).2 (by simpa using h1) (by simpa using h2) hk

/-- the names' values at the entry -/
def start (N : List Str) (vs : List V) : St := vs.map some ++ List.replicate (N.length - vs.length) none

/-- the context of a def's body, at its entry; an exception leaves the frame, then lies as CX says -/
def cxOf (CX : CXT) (P : Program) (w : World) (K : PySem.W.Frag) (mg : Str → Option Value) (base : Heap) (N : List Str) (qual : Str) (scope : Scope) (f : Addr) (cd : Value) (A : Around) (outer : List Env) (s : Shared) (H : Hp) (E : XK) : Cx where
  prog := P
  w := w
  K := K
  mg := mg
  base := base
  A := A.deeper (envOfC qual scope s.heap.objs.size f cd)
  N := N
  s₀ := s
  H₀ := H
  env := envOfC qual scope s.heap.objs.size f cd
  outer := outer
  stack := envOfC qual scope s.heap.objs.size f cd :: outer
  ex := []
  calm := true
  fn := fun _ => true
  pn := []
  xe := fun e s' => wpAny (model P w) (A.deeper (envOfC qual scope s.heap.objs.size f cd)) (leaving (envOfC qual scope s.heap.objs.size f cd) e) (fun _ s'' => CX outer H s E e s'') (fun e' s'' => CX outer H s E e' s'') s'

theorem cell_has {sc : Scope} {n : Nat} {x : Str} (h : sc.names.lookup x = some .cell) : ∃ c, (cellsFrom n sc.names []).lookup x = some c := by
  have q := PySem.W.cellsFrom_some sc.names n [] (.inl h)
  exact Option.isSome_iff_exists.mp q

theorem inv_start {CX : CXT} {P : Program} {w : World} {K : PySem.W.Frag} {mg : Str → Option Value} {base : Heap} {N ps : List Str} {qual : Str} {scope : Scope} {f : Addr} {cd : Value} {A : Around} {outer : List Env} {s s1 : Shared} {H : Hp} {E : XK} {us : List Value} {vs : List V}
    (S : FnScope N ps scope) (hd : A.handled = none) (e0 : Env0 P w K mg base A outer s H) (hl : vs.length = ps.length) (r : Vals vs us)
    (x : InCallC s s.heap.objs.size (bindL (envOfC qual scope s.heap.objs.size f cd).kindOf (ps.zip us) fun _ => none) (cellsFrom (s.heap.objs.size + 1) scope.names []) (bindC (envOfC qual scope s.heap.objs.size f cd).kindOf (ps.zip us) fun _ => none) s1) :
    Inv (cxOf CX P w K mg base N qual scope f cd A outer s H E) [] (start N vs) H s1 := by
  have hpl : ps.length ≤ N.length := by have := congrArg List.length S.pre; rw [List.length_take] at this; omega
  obtain ⟨h1, tk, rfl, hk⟩ := x.done
  have noA : ∀ b : Addr, b ∉ (cxOf CX P w K mg base N qual scope f cd A outer s H E).ex := fun b z => absurd (show b ∈ ([] : List Addr) from z) (by simp)
  refine ⟨⟨e0.mod, S.kind, rfl, rfl, Nat.le_refl _, fun y z c h1 h2 => ?_, fun y hy => ?_, fun y c _ h => ?_, fun _ => hd, Around.frames_deeper e0.frames, .inr ⟨rfl, rfl⟩, fun b z => absurd z (noA b), e0.bs, e0.bsz, fun b _ _ => noA b, fun b z => absurd z (noA b), e0.funs, e0.frf⟩,
    rfl, e0.bare, Un.kept hk, ⟨_, x.toInCall.ns, fun i y v h1 h2 h3 => ?_⟩, fun y c h => ⟨_, x.cell y c h⟩, e0.hok.fresh (Nat.le_refl _), fun y c h => ?_, fun p hp => absurd (show p ∈ ([] : List (Addr × Obj)) from hp) (by simp), e0.hok.kept hk, ?_⟩
  · exact name_of_addr x.apart (PySem.mem_of_lookup h1) (PySem.mem_of_lookup h2)
  · have hy : scope.names.lookup y = some .cell ∨ scope.names.lookup y = some .free := hy
    rcases hy with hy | hy
    · exact cell_has hy
    · exact absurd rfl (S.nofree _ (PySem.mem_of_lookup hy))
  · exact Nat.le_of_lt (x.above y c (PySem.mem_of_lookup h))
  · have hi : i < vs.length := by
      unfold start at h2
      by_cases hi : i < vs.length
      · exact hi
      · rw [List.getElem?_append_right (by simpa using hi)] at h2
        rw [List.getElem?_replicate] at h2
        split at h2 <;> cases h2
    have ha : vs[i]? = some v := by
      unfold start at h2
      rw [List.getElem?_append_left (by simpa using hi), List.getElem?_map] at h2
      cases e : vs[i]? with
      | none => rw [e] at h2; cases h2
      | some a => rw [e] at h2; cases h2; rfl
    obtain ⟨u, hu, rv⟩ := r.get ha
    have hp : ps[i]? = some y := by
      rw [← S.pre, List.getElem?_take_of_lt (by omega)]; exact h1
    have ndP : ps.Nodup := by rw [← S.pre]; exact S.nd.sublist (List.take_sublist _ _)
    refine ⟨u, rv, ?_⟩
    rcases S.par y (List.mem_of_getElem? hp) with k | k
    · exact .inl ⟨k, bindL_get ndP hp hu k⟩
    · obtain ⟨c, e⟩ := cell_has (n := s.heap.objs.size + 1) k
      refine .inr ⟨.inl k, c, e, ?_⟩
      have q := x.cell y c e
      rw [bindC_get ndP hp hu (by show scope.names.lookup y ≠ _; rw [k]; decide)] at q
      exact q
  · exact e0.hok.fresh (Nat.le_of_lt (x.above y c (PySem.mem_of_lookup h)))
  · unfold start
    show _ = N.length
    rw [List.length_append, List.length_map, List.length_replicate]
    omega

/-- THE RULE: a def (or a method) of the text, by its body. The body's reading t is chosen for each entry; it is run at the parameters' values -/
theorem fn_of {CX : CXT} {P : Program} {w : World} {K : PySem.W.Frag} {mg : Str → Option Value} {base : Heap} {k : Nat} {f : Addr} {name qual : Str} {params : Arguments} {body : List Stmt} {scope : Scope} {dV kV doc pm cdv ct oc : Value} {an od : Option Addr}
    {osl : Array (Option Value)} {N ps : List Str} {sp : Sp} (lk : K.lookup f = some ⟨oc, od, .func (PySem.W.fnOf name qual params body scope dV kV doc pm an cdv ct), osl⟩) (hcd : PySem.W.codeIn K cdv qual = true) (S : FnScope N ps scope)
    (len : ∀ vs H Q E, sp vs H Q E → vs.length = ps.length)
    (hbody : ∀ (A : Around) (outer : List Env) (s : Shared) (H : Hp) (vs : List V) (Q : VK) (E : XK), Room k (A.deeper (envOfC qual scope s.heap.objs.size f cdv)) → sp vs H Q E →
      ∃ t, PSs (cxOf CX P w K mg base N qual scope f cdv A outer s H E) body t ∧ t { nx := fun _ H' => Q .non H', rt := Q } (start N vs) H) :
    FnOk P w K mg base CX (k + 1) f (PySem.W.fnOf name qual params body scope dV kV doc pm an cdv ct) ps sp := by
  refine ⟨len, fun A outer s H args us vs Q E hr e0 hb r hsp => ?_⟩
  have hl := len _ _ _ _ hsp
  have KX : K.In s.heap := e0.mod.kin.keeps fun b o e => (e0.bs b o e).1
  have lim : s.heap.NoLimit := e0.mod.nolimit.keeps fun b o e => (e0.bs b o e).1
  have hkind : ∀ y ∈ ps.zip us, scope.names.lookup y.1 = some .local ∨ (scope.names.lookup y.1 = some .cell ∧ ((cellsFrom (s.heap.objs.size + 1) scope.names []).lookup y.1).isSome = true) := fun ⟨n, v⟩ hy => by
    rcases S.par n (List.of_mem_zip hy).1 with q | q
    · exact .inl q
    · exact .inr ⟨q, PySem.W.cellsFrom_some _ _ _ (.inl q)⟩
  refine codeAny_call_function hr.depth (KX _ _ lk) rfl S.co S.gen rfl (PySem.W.codeRec_of KX hcd) (hb _ _ _ _ ?_)
  refine wpAny_newFunctionEnv_cells S.kind hkind fun env he s1 x => ?_
  subst he
  refine ⟨lim.keeps x.toInCall.keep, codeAny_func ?_⟩
  obtain ⟨t, ht, hq⟩ := hbody A outer s H vs Q E (hr.deeper _) hsp
  have I : Inv (cxOf CX P w K mg base N qual scope f cdv A outer s H E) [] (start N vs) H s1 := inv_start S hr.hd e0 hl r x
  refine wpAny_mono (ht [] s1 (start N vs) H _ I hq) (fun fl s' hs => ?_) fun e s' hs => hs
  have fin : ∀ {σ' : St} {H' : Hp} {v : V} {u : Value}, Inv (cxOf CX P w K mg base N qual scope f cdv A outer s H E) [] σ' H' s' → RelV v u → Q v H' → CE outer P w H s Q u s' :=
    fun {σ' H' v u} J rv q => ⟨v, H', J.os, J.bare, J.base, J.hok, rv, q⟩
  cases fl with
  | ret u =>
    obtain ⟨v, σ', H', J, rv, q⟩ := hs
    exact fin J rv q
  | next =>
    obtain ⟨σ', H', J, q⟩ := hs
    exact fin (v := V.non) (u := Value.none) J rfl q
  | brk =>
    obtain ⟨_, _, _, q⟩ := hs
    exact False.elim q
  | cont =>
    obtain ⟨_, _, _, q⟩ := hs
    exact False.elim q
end L2

namespace L2
open PySem PySem.Spec PyProof.Rows
section
variable {X : Cx} {x : Str} {p pos : Pos} {e : Expr} {es : List Expr} {t : TA} {id T : String} {r : List V → Hp → VK → Prop}

def tCB (r : List V → Hp → VK → Prop) (t : TA) : TE := fun σ H Q => t σ H fun vs H1 => r vs H1 Q
/-- f(e, ..), f a built-in function -/
theorem pe_callB (hc : CallR X (.builtin id) r) (hg : Gl X x) (hm : X.mg x = none) (hv : bootBuiltins x = some (.builtin id)) (ha : PA X (e :: es) t) (hn : x ≠ "__name__" := by decide) (hdb : (x == ("__debug__" : Str)) = false := by decide)
    (he : starEach (e :: es) X.env = (false, eval e X.env) :: starEach es X.env := by rfl) (hpl : (backTo pos (starEach es X.env)).any (·.1) = false := by rfl) : PE X (.Call (.Name x p) (e :: es) [] pos) (tCB r t) := by
  intro pins s σ H Q I h
  refine wpAny_Call_Name_kw (ld_blt I hg hm hv ?_ hn hdb)
  exact PyProof.Rows.callWith_builtin1 (thn (ha pos pins s σ H _ I h) fun us s1 ⟨vs, H1, I1, r1, q1⟩ => hc pins s1 σ H1 vs us Q I1 r1 q1) he hpl
/-- T(e, ..), T a built-in type -/
theorem pe_callTy (hc : CallR X (.type T) r) (hg : Gl X x) (hm : X.mg x = none) (hv : bootBuiltins x = some (.type T)) (ha : PA X (e :: es) t) (hn : x ≠ "__name__" := by decide) (hdb : (x == ("__debug__" : Str)) = false := by decide)
    (he : starEach (e :: es) X.env = (false, eval e X.env) :: starEach es X.env := by rfl) (hpl : (backTo pos (starEach es X.env)).any (·.1) = false := by rfl) : PE X (.Call (.Name x p) (e :: es) [] pos) (tCB r t) := by
  intro pins s σ H Q I h
  refine wpAny_Call_Name_kw (ld_blt I hg hm hv ?_ hn hdb)
  exact PyProof.Rows.callWith_type1 (thn (ha pos pins s σ H _ I h) fun us s1 ⟨vs, H1, I1, r1, q1⟩ => hc pins s1 σ H1 vs us Q I1 r1 q1) he hpl
end
end L2

namespace HT
open PySem PyProof.Rows

/-- t < u of tuples of ints -/
def lexLt : List Int → List Int → Bool
  | [], [] => false
  | [], _ :: _ => true
  | _ :: _, [] => false
  | x :: xs, y :: ys => if x = y then lexLt xs ys else decide (x < y)
section
open PySem.SeqAt
open PySem.AutoSeq1 (wpAny_loadPart')
open PySem.MeetsSeq PySem.MeetsSeq2 PySem.MeetsSeq3

end

section
variable {prog : Program} {w : World} {A : Around} {E : Value → Shared → Prop} {s : Shared}

/-! ### t[a:b], not the whole -/
/-- a slice's bound as a place among n (d where it is left out) -/
def sIx (n d : Nat) : Option Int → Nat
  | none => d
  | some v => if v < 0 then (v + (n : Int)).toNat else min v.toNat n
theorem sIx_le (n d : Nat) (hd : d ≤ n) (o : Option Int) : sIx n d o ≤ n := by
  cases o with
  | none => exact hd
  | some v =>
    show (if v < 0 then (v + (n : Int)).toNat else min v.toNat n) ≤ n
    by_cases hv : v < 0
    · rw [if_pos hv]; omega
    · rw [if_neg hv]; exact Nat.min_le_right _ _
theorem clip_eq (v : Int) (n d : Nat) : (if v < 0 then max (v + (n : Int)) 0 else min v (n : Int)) = ((sIx n d (some v) : Nat) : Int) := by
  show (if v < 0 then max (v + (n : Int)) 0 else min v (n : Int)) = (((if v < 0 then (v + (n : Int)).toNat else min v.toNat n) : Nat) : Int)
  by_cases hv : v < 0
  · simp only [if_pos hv]; omega
  · simp only [if_neg hv]; omega
theorem adjust_gen (lo hi : Option Int) (n : Nat) : Builtin.Slice.sliceAdjust lo hi 1 (n : Int) = (((sIx n 0 lo : Nat) : Int), ((sIx n n hi : Nat) : Int)) := by
  have h1 : ¬ ((1 : Int) < 0) := by omega
  unfold Builtin.Slice.sliceAdjust
  simp only [h1, if_false]
  refine Prod.ext ?_ ?_
  · cases lo with
    | none => rfl
    | some v => exact clip_eq v n 0
  · cases hi with
    | none => rfl
    | some v => exact clip_eq v n n
theorem places_gen (i j : Nat) : Builtin.Slice.slicePlaces (i : Int) (j : Int) 1 = j - i := by
  unfold Builtin.Slice.slicePlaces
  have h1 : (1 : Int) > 0 := by omega
  simp only [h1, if_true, Int.ediv_one]
  split <;> omega
theorem slicePart_ {v : Value} {o : Option Int} {Q : Option Int → Shared → Prop} (p : IsPart v o) (h : Q o s) : wpAny (model prog w) A (Builtin.Slice.slicePartIndex v) Q E s := by
  cases p with
  | none => exact slicePart_none h
  | int i t => exact slicePart_int h
theorem sliceApplied_gen {sl : Addr} {vl vu : Value} {lo hi : Option Int} {n : Nat} {Q : Int × Int × Nat → Shared → Prop} (hs : s.heap.IsSliceOf sl vl vu .none) (pl : IsPart vl lo) (pu : IsPart vu hi)
    (h : Q (((sIx n 0 lo : Nat) : Int), 1, sIx n n hi - sIx n 0 lo) s) : wpAny (model prog w) A (Builtin.Slice.sliceApplied (.ref sl) (pure (n : Int))) Q E s := by
  obtain ⟨os, hos, hcs, hds⟩ := id hs
  unfold Builtin.Slice.sliceApplied Builtin.Slice.sliceFields
  refine wpAny_bind (wpAny_bind (wpAny_field hos hds (x := vl) rfl (wpAny_bind (wpAny_field hos hds (x := vu) rfl (wpAny_bind (wpAny_field hos hds (x := .none) rfl (wpAny_pure ?_)))))))
  refine wpAny_bind (slicePart_none ?_)
  show wpAny _ _ (if ((1 : Int) == 0) = true then _ else _) _ _ s
  rw [if_neg (by decide)]
  refine wpAny_bind (slicePart_ pl (wpAny_bind (slicePart_ pu (wpAny_bind (wpAny_pure ?_)))))
  show wpAny _ _ (match Builtin.Slice.sliceAdjust lo hi 1 (n : Int) with | (lo, hi) => pure (lo, (1 : Int), Builtin.Slice.slicePlaces lo hi 1)) _ _ s
  rw [adjust_gen lo hi n]
  show wpAny _ _ (pure (((sIx n 0 lo : Nat) : Int), (1 : Int), Builtin.Slice.slicePlaces ((sIx n 0 lo : Nat) : Int) ((sIx n n hi : Nat) : Int) 1)) _ _ s
  rw [places_gen]
  exact wpAny_pure h
theorem pick_gen (xs : Array Value) (i k : Nat) : ((List.range k).filterMap fun (m : Nat) => xs[((i : Int) + (m : Int) * 1).toNat]?).toArray = ((xs.toList.drop i).take k).toArray := by
  have e : (fun (m : Nat) => xs[((i : Int) + (m : Int) * 1).toNat]?) = fun m => xs[i + m]? := by
    funext m
    have : ((i : Int) + (m : Int) * 1).toNat = i + m := by omega
    rw [this]
  rw [e]
  have := pick_run xs i k
  rw [List.filterMap_map] at this
  have e2 : ((fun x => xs[x]?) ∘ fun x => i + x) = fun m => xs[i + m]? := rfl
  rw [e2] at this
  rw [this]

theorem getItem_tuple_cut {t sl : Addr} {items : Array Value} {vl vu : Value} {lo hi : Option Int} {Q : Value → Shared → Prop} (ht : IsTup s.heap t items) (hs : s.heap.IsSliceOf sl vl vu .none) (pl : IsPart vl lo) (pu : IsPart vu hi)
    (hw : ¬ (sIx items.size 0 lo = 0 ∧ sIx items.size items.size hi = items.size))
    (h : Q (.ref s.heap.objs.size) { s with heap := s.heap.push { cls := .type "tuple", data := .seq ((items.toList.drop (sIx items.size 0 lo)).take (sIx items.size items.size hi - sIx items.size 0 lo)).toArray } })
    (hsz : items.size ≤ sizeLine) : wpAny (model prog w) A (getItem (.ref t) (.ref sl)) Q E s := by
  have htake : sizeOk (.seq ((items.toList.drop (sIx items.size 0 lo)).take (sIx items.size items.size hi - sIx items.size 0 lo)).toArray) := by
    show ((items.toList.drop (sIx items.size 0 lo)).take (sIx items.size items.size hi - sIx items.size 0 lo)).toArray.size ≤ sizeLine
    rw [List.size_toArray, List.length_take, List.length_drop, Array.length_toList]
    omega
  have hj : sIx items.size items.size hi ≤ items.size := sIx_le _ _ (Nat.le_refl _) hi
  obtain ⟨os, hos, hcs, hds⟩ := id hs
  have hTs : s.TypeIs (.ref sl) "slice" := ⟨os, hos, hcs⟩
  unfold getItem
  try with_reducible refine wpAny_holding ?_
  first | refine wpAny_bind (wpAny_pure ?_) | skip
  refine wpAny_bind (wpAny_sequenceKey ht.typeIs (by decide) ?_)
  refine wpAny_bind (wpAny_callSpecial?_slot (name := Str.ofString "__getitem__") ht.typeIs PyProof.Rows.slot_tuple_getitem
    (wpAny_call_entry PyProof.Rows.slot_tuple_getitem ht.typeIs entry_tuple_getitem ?_ (args_tuple_getitem _ _)))
  show wpAny _ _ (Builtin.Tuple.tupleItemsOf (.ref t) >>= _) _ _ s
  refine wpAny_bind (tupleItemsOf_ ht ?_)
  refine wpAny_bind (wpAny_typeOf hTs ?_)
  rw [if_pos (by decide)]
  refine wpAny_bind (sliceApplied_gen hs pl pu ?_)
  have hno : ¬ ((((sIx items.size 0 lo : Nat) : Int) == 0 && (1 : Int) == 1 && (sIx items.size items.size hi - sIx items.size 0 lo) == items.size) = true) := by
    intro q
    rw [Bool.and_eq_true, Bool.and_eq_true] at q
    have q1 : ((sIx items.size 0 lo : Nat) : Int) = 0 := eq_of_beq q.1.1
    have q2 : sIx items.size items.size hi - sIx items.size 0 lo = items.size := eq_of_beq q.2
    exact hw ⟨by omega, by omega⟩
  show wpAny _ _ (if (((sIx items.size 0 lo : Nat) : Int) == 0 && (1 : Int) == 1 && (sIx items.size items.size hi - sIx items.size 0 lo) == items.size) = true then _ else _) _ _ s
  rw [if_neg hno, pick_gen]
  first
    | exact wpAny_bind (m := Builtin.Tuple.tupleExact _) (wpAny_newObj_type (wpAny_pure ⟨_, rfl, wpAny_pure h⟩) htake)
    | exact wpAny_bind (m := Builtin.Tuple.tupleExact _) (wpAny_newObj_type (wpAny_bind (wpAny_pure (wpAny_pure ⟨_, rfl, wpAny_pure h⟩))) htake)
    | exact wpAny_bind (wpAny_bind (m := Builtin.Tuple.tupleExact _) (wpAny_newObj_type (wpAny_pure (wpAny_pure ⟨_, rfl, wpAny_pure h⟩)) htake))
    | exact wpAny_bind (wpAny_bind (m := Builtin.Tuple.tupleExact _) (wpAny_newObj_type (wpAny_pure ⟨_, rfl, wpAny_pure h⟩) htake))
end
end HT

namespace L2
open PySem PySem.Spec PyProof.Rows

/-! ### the parts of a slice -/
abbrev TO := St → Hp → (Option Int → Hp → Prop) → Prop
/-- a slice's part (left out, or an int) -/
def PO (X : Cx) (e : Option Expr) (t : TO) : Prop :=
  ∀ (pins : List (Addr × Obj)) (s : Shared) (σ : St) (H : Hp) (Q : Option Int → Hp → Prop), Inv X pins σ H s → t σ H Q →
    wpAny (model X.prog X.w) X.A (evalPart e X.env) (fun u s' => ∃ o H', Inv X pins σ H' s' ∧ IsPart u o ∧ Q o H') X.xe s
def tNoPart : TO := fun _ H Q => Q none H
def tPart (t : TE) : TO := fun σ H Q => t σ H fun x H1 => ∃ i, x = .int i ∧ Q (some i) H1

theorem intsAre_of {ns : List Int} : ∀ {us : List Value}, Vals (ns.map V.int) us → IntsAre us ns := by
  induction ns with
  | nil => intro us r; rw [List.map_nil] at r; cases r; exact .nil
  | cons n ns ih =>
    intro us r
    rw [List.map_cons] at r
    cases r with
    | cons r1 r2 =>
      obtain ⟨t, e⟩ := r1
      subst e
      exact .cons n t (ih r2)

section
variable {X : Cx} {e : Expr} {te : TE} {lo hi : Option Expr} {tl th : TO} {pos p2 : Pos}

theorem po_none : PO X none tNoPart := by
  intro pins s σ H Q I h
  rw [evalPart_none]
  exact wpAny_pure ⟨none, H, I, .none, h⟩
theorem po_some (h : PE X e te) : PO X (some e) (tPart te) := by
  intro pins s σ H Q I hw
  rw [evalPart_some]
  refine thn (h pins s σ H _ I hw) fun u s1 ⟨x, H1, I1, r1, q1⟩ => ?_
  obtain ⟨i, rfl, q⟩ := q1
  obtain ⟨t, rfl⟩ := r1
  exact ⟨some i, H1, I1, .int i t, q⟩

/-- what a slice of a value is, by values: the slice object stands at sl -/
def SlR (X : Cx) (r : V → Option Int → Option Int → Hp → VK → Prop) : Prop :=
  ∀ (pins : List (Addr × Obj)) (s : Shared) (σ : St) (H : Hp) (x : V) (v vl vu : Value) (lo hi : Option Int) (sl : Addr) (Q : VK), Inv X pins σ H s → RelV x v → s.heap.IsSliceOf sl vl vu .none → IsPart vl lo → IsPart vu hi → r x lo hi H Q →
    ∃ T id, typeLookup (.type T) "__getitem__" = pure (some (.builtin id)) ∧ s.TypeIs v T ∧ wpAny (model X.prog X.w) X.A (getItem v (.ref sl)) (EP X pins σ Q) X.xe s
theorem SlR.or {r r' : V → Option Int → Option Int → Hp → VK → Prop} (h : SlR X r) (h' : SlR X r') : SlR X (fun x lo hi H Q => r x lo hi H Q ∨ r' x lo hi H Q) := by
  intro pins s σ H x v vl vu lo hi sl Q I rx hs pl pu q
  rcases q with q | q
  · exact h pins s σ H x v vl vu lo hi sl Q I rx hs pl pu q
  · exact h' pins s σ H x v vl vu lo hi sl Q I rx hs pl pu q
def tSl (r : V → Option Int → Option Int → Hp → VK → Prop) (te : TE) (tl th : TO) : TE := fun σ H Q => te σ H fun x H1 => tl σ H1 fun l H2 => th σ H2 fun u H3 => r x l u H3 Q
/-- a[lo:hi], any a -/
theorem pe_slice {r : V → Option Int → Option Int → Hp → VK → Prop} (hr : SlR X r) (he : PE X e te) (hl : PO X lo tl) (hu : PO X hi th) : PE X (.Subscript e (.Slice lo hi none p2) pos) (tSl r te tl th) := by
  intro pins s σ H Q I h
  refine Subscript_ (thn (he pins s σ H _ I h) fun v s1 ⟨x, H1, I1, r1, q1⟩ => ?_)
  refine wpAny_Slice (thn (hl pins s1 σ H1 _ I1 q1) fun vl s2 ⟨l, H2, I2, pl, q2⟩ => thn (hu pins s2 σ H2 _ I2 q2) fun vu s3 ⟨u, H3, I3, pu, q3⟩ => ?_)
  rw [evalPart_none]
  refine wpAny_pure ?_
  have I4 : Inv X pins σ H3 { s3 with heap := s3.heap.push { cls := .type "slice", data := .fields #[vl, vu, .none] } } := I3.kept (t' := s3.toks) fun b ob q => Heap.get?_push_of_some _ q
  obtain ⟨T, id, hT, ht, hg⟩ := hr pins { s3 with heap := s3.heap.push { cls := .type "slice", data := .fields #[vl, vu, .none] } } σ H3 x v vl vu l u s3.heap.objs.size Q I4 r1 (Heap.IsSliceOf.new ..) pl pu q3
  show wpAny (model X.prog X.w) X.A (subscriptTail e (.Slice lo hi none p2) v (.ref s3.heap.objs.size)) (EP X pins σ Q) X.xe { s3 with heap := s3.heap.push { cls := .type "slice", data := .fields #[vl, vu, .none] } }
  exact tail_any (ops := [.ref s3.heap.objs.size, v]) ht hT hg (by with_unfolding_all rfl)

/-- the items of xs[lo:hi] -/
def cutV (xs : List V) (lo hi : Option Int) : List V := (xs.drop (HT.sIx xs.length 0 lo)).take (HT.sIx xs.length xs.length hi - HT.sIx xs.length 0 lo)
theorem cutV_length (xs : List V) (lo hi : Option Int) : (cutV xs lo hi).length ≤ xs.length := by
  unfold cutV
  rw [List.length_take, List.length_drop]
  omega
/-- t[lo:hi], not the whole of it (the whole would be t itself) -/
def rSlT (K : PySem.W.Frag) : V → Option Int → Option Int → Hp → VK → Prop := fun x lo hi H Q => ∃ a xs, x = .ref a ∧ SqT K H a xs ∧
  ¬ (HT.sIx xs.length 0 lo = 0 ∧ HT.sIx xs.length xs.length hi = xs.length) ∧ ∀ p, H p = none → Q (.ref p) (upd H p (.tup (cutV xs lo hi)))
theorem sl_tup : SlR X (rSlT X.K) := by
  intro pins s σ H x v vl vu lo hi sl Q I rx hs pl pu h
  obtain ⟨a, xs, rfl, hx, hw, q⟩ := h
  cases rx
  obtain ⟨its, r, ht, hz⟩ := I.tuple hx
  have hlen : its.toArray.size = xs.length := by rw [List.size_toArray]; exact r.length.symm
  refine ⟨"tuple", _, PyProof.Rows.slot_tuple_getitem.lookup, ht.typeIs, ?_⟩
  refine HT.getItem_tuple_cut ht hs pl pu (by rw [hlen]; exact hw) ?_ (by rw [hlen]; exact hz)
  rw [hlen]
  refine ⟨.ref s.heap.objs.size, _, I.laid (t' := s.toks) (o := .tup (cutV xs lo hi)) (fun b ob q => Heap.get?_push_of_some _ q) (Nat.le_refl _) ?_, rfl, q _ (I.hok.fresh (Nat.le_refl _))⟩
  exact ⟨Nat.le_trans (cutV_length xs lo hi) hz, _, (r.drop (HT.sIx xs.length 0 lo)).take (HT.sIx xs.length xs.length hi - HT.sIx xs.length 0 lo), ⟨_, Heap.get?_push_size _ rfl, rfl, _, rfl, rfl⟩⟩

/-! ### t < u, t + u -/
def rLtT (K : PySem.W.Frag) : R2 := fun x y H Q => ∃ a b ns ms, x = .ref a ∧ y = .ref b ∧ SqT K H a (ns.map V.int) ∧ SqT K H b (ms.map V.int) ∧ Q (.bl (HT.lexLt ns ms)) H
/-- t + u, t not empty: u empty gives t itself -/
def rCatT (K : PySem.W.Frag) : R2 := fun x y H Q => ∃ a b xs ys, x = .ref a ∧ y = .ref b ∧ SqT K H a xs ∧ SqT K H b ys ∧ xs ≠ [] ∧ xs.length + ys.length ≤ sizeLine ∧
  (ys = [] → Q (.ref a) H) ∧ (ys ≠ [] → ∀ p, H p = none → Q (.ref p) (upd H p (.tup (xs ++ ys))))
end
end L2

namespace L2
open PySem PySem.Spec PyProof.Rows

/-! ### places -/
/-- the place that an index of any sign means -/
def ixN (n : Nat) (i : Int) : Option Nat := if 0 ≤ i then (if i < n then some i.toNat else none) else if -(n : Int) ≤ i then some (i + n).toNat else none
def atI {α : Type} (xs : List α) (i : Int) : Option α := (ixN xs.length i).bind fun j => xs[j]?
theorem ixN_seq {n : Nat} {i : Int} {j : Nat} (h : ixN n i = some j) : seqIndex? i n = some j ∧ j < n ∧ -(n : Int) ≤ i ∧ i < n := by
  unfold ixN at h
  by_cases h0 : 0 ≤ i
  · rw [if_pos h0] at h
    by_cases h1 : i < n
    · rw [if_pos h1] at h
      have e : i.toNat = j := Option.some.inj h
      exact ⟨by rw [seqIndex_of h0 h1, e], by omega, by omega, h1⟩
    · rw [if_neg h1] at h; cases h
  · rw [if_neg h0] at h
    by_cases h1 : -(n : Int) ≤ i
    · rw [if_pos h1] at h
      have e : (i + n).toNat = j := Option.some.inj h
      exact ⟨by rw [seqIndex_neg (by omega) h1, e], by omega, h1, by omega⟩
    · rw [if_neg h1] at h; cases h
theorem atI_get {α : Type} {xs : List α} {i : Int} {v : α} (h : atI xs i = some v) : ∃ j, seqIndex? i xs.length = some j ∧ xs[j]? = some v ∧ j < xs.length ∧ -(xs.length : Int) ≤ i ∧ i < xs.length := by
  unfold atI at h
  cases e : ixN xs.length i with
  | none => rw [e] at h; cases h
  | some j =>
    rw [e] at h
    obtain ⟨h1, h2, h3, h4⟩ := ixN_seq e
    exact ⟨j, h1, h, h2, h3, h4⟩
theorem atI_nat {α : Type} {xs : List α} {j : Nat} {v : α} (h : xs[j]? = some v) : atI xs (j : Int) = some v := by
  have hj : j < xs.length := (List.getElem?_eq_some_iff.mp h).1
  have e : ixN xs.length (j : Int) = some j := by
    unfold ixN
    rw [if_pos (by omega), if_pos (by omega)]; simp
  unfold atI; rw [e]; exact h
/-! ### what may be subscripted -/
/-- what stands as an index of a plain subscript -/
def PlainIx (b : Expr) : Prop := ∀ o i, subscripted b false o i = operate [o, i] (getItem o i)
/-- a subscript by values -/
def IxR (X : Cx) (r : R2) : Prop :=
  ∀ (value slice : Expr) (pins : List (Addr × Obj)) (s : Shared) (σ : St) (H : Hp) (x y : V) (v u : Value) (Q : VK), Inv X pins σ H s → RelV x v → RelV y u → r x y H Q →
    subscripted slice false v u = operate [v, u] (getItem v u) → wpAny (model X.prog X.w) X.A (subscriptTail value slice v u) (EP X pins σ Q) X.xe s
/-- a call of a builtin's method by values: the receiver, the arguments -/
def MtR (X : Cx) (id : String) (r : V → List V → Hp → VK → Prop) : Prop :=
  ∀ (pins : List (Addr × Obj)) (s : Shared) (σ : St) (H : Hp) (x : V) (xs : List V) (v : Value) (us : List Value) (Q : VK), Inv X pins σ H s → RelV x v → Vals xs us → r x xs H Q →
    wpAny (model X.prog X.w) X.A (call (.builtin id) (v :: us)) (EP X pins σ Q) X.xe s
section
variable {X : Cx} {a b : Expr} {ta tb : TE} {pos : Pos}
theorem IxR.or {r r' : R2} (h : IxR X r) (h' : IxR X r') : IxR X (fun x y H Q => r x y H Q ∨ r' x y H Q) := by
  intro value slice pins s σ H x y v u Q I rx ry q hs
  rcases q with q | q
  · exact h value slice pins s σ H x y v u Q I rx ry q hs
  · exact h' value slice pins s σ H x y v u Q I rx ry q hs
theorem MtR.or {id : String} {r r' : V → List V → Hp → VK → Prop} (h : MtR X id r) (h' : MtR X id r') : MtR X id (fun x xs H Q => r x xs H Q ∨ r' x xs H Q) := by
  intro pins s σ H x xs v us Q I rx rs q
  rcases q with q | q
  · exact h pins s σ H x xs v us Q I rx rs q
  · exact h' pins s σ H x xs v us Q I rx rs q
/-- a[b] -/
theorem pe_ix {r : R2} (hr : IxR X r) (ha : PE X a ta) (hb : PE X b tb) (hs : PlainIx b) : PE X (.Subscript a b pos) (tOp r ta tb) := by
  intro pins s σ H Q I h
  exact Subscript_ (binT ha hb I h fun v u s2 x y H2 I2 rx ry q => hr a b pins s2 σ H2 x y v u Q I2 rx ry q (hs _ _))

def rIxL (K : PySem.W.Frag) : R2 := fun x y H Q => ∃ p xs i v, x = .ref p ∧ y = .int i ∧ SqL K H p xs ∧ atI xs i = some v ∧ Q v H
def rIxT (K : PySem.W.Frag) : R2 := fun x y H Q => ∃ p xs i v, x = .ref p ∧ y = .int i ∧ SqT K H p xs ∧ atI xs i = some v ∧ Q v H
def rIxS : R2 := fun x y H Q => ∃ z i c, x = .str z ∧ y = .int i ∧ z.length ≤ sizeLine ∧ atI z.cps.toList i = some c ∧ Q (.str ⟨#[c]⟩) H
theorem ix_list : IxR X (rIxL X.K) := by
  intro value slice pins s σ H x y v u Q I rx ry h hs
  obtain ⟨p, xs, i, z, rfl, rfl, hq, he, q⟩ := h
  cases rx
  obtain ⟨t, rfl⟩ := ry
  obtain ⟨its, r, pl, hz⟩ := I.list hq
  obtain ⟨j, h1, h2, h3, h4, h5⟩ := atI_get he
  obtain ⟨w, ew, rw'⟩ := r.get h2
  have hl := r.length
  have hn := line63
  have fin : EP X pins σ Q w s := ⟨z, H, I, rw', q⟩
  by_cases h0 : 0 ≤ i
  · have hj : i.toNat = j := by
      rw [seqIndex_of h0 h5] at h1
      exact Option.some.inj h1
    exact item_listR pl.isList h0 (by omega) (by rw [hj]; simpa using ew) fin hs
  · have hj : (i + (its.toArray.size : Int)).toNat = j := by
      rw [seqIndex_neg (by omega) h4] at h1
      rw [List.size_toArray, ← hl]
      exact Option.some.inj h1
    exact subscriptTail_builtinR (x := w) pl.isList.typeIs slot_list_getitem.lookup
      (wpAny_getItem_list_neg (Q := fun r s' => r = w ∧ EP X pins σ Q r s') pl.isList (by omega) (by rw [List.size_toArray] <;> omega) (by omega) (by rw [hj]; simpa using ew) ⟨rfl, fin⟩) hs
theorem ix_tup : IxR X (rIxT X.K) := by
  intro value slice pins s σ H x y v u Q I rx ry h hs
  obtain ⟨p, xs, i, z, rfl, rfl, hq, he, q⟩ := h
  cases rx
  obtain ⟨t, rfl⟩ := ry
  obtain ⟨its, r, pl, hz⟩ := I.tuple hq
  obtain ⟨j, h1, h2, h3, h4, h5⟩ := atI_get he
  obtain ⟨w, ew, rw'⟩ := r.get h2
  have hl := r.length
  have hn := line63
  have fin : EP X pins σ Q w s := ⟨z, H, I, rw', q⟩
  exact subscriptTail_builtinR (x := w) pl.typeIs slot_tuple_getitem.lookup
    (getItem_tuple (j := j) (Q := fun r s' => r = w ∧ EP X pins σ Q r s') pl (by omega) (by omega) (by rw [List.size_toArray, ← hl]; exact h1) (by simpa using ew) ⟨rfl, fin⟩) hs
theorem ix_str : IxR X rIxS := by
  intro value slice pins s σ H x y v u Q I rx ry h hs
  obtain ⟨z, i, c, rfl, rfl, hz, he, q⟩ := h
  obtain ⟨t, rfl⟩ := rx
  obtain ⟨t', rfl⟩ := ry
  obtain ⟨j, h1, h2, h3, h4, h5⟩ := atI_get he
  have hl : z.cps.toList.length = z.length := by simp [Str.length]
  rw [hl] at h1 h4 h5
  have hn := line63
  exact tail_any (typeIs_str s z t) slot_str_getitem.lookup (getItem_str (c := c) (by
    have e1 : decide (i < -(2 ^ 63 : Int)) = false := decide_eq_false (by omega)
    have e2 : decide (i ≥ 2 ^ 63) = false := decide_eq_false (by omega)
    rw [e1, e2, Bool.or_false]) (by rw [h1]; simpa using h2) ⟨.str ⟨#[c]⟩, H, I.tok _, ⟨_, rfl⟩, q⟩) hs
/-- list, tuple or str -/
def rIx (K : PySem.W.Frag) : R2 := fun x y H Q => rIxL K x y H Q ∨ rIxT K x y H Q ∨ rIxS x y H Q
/-! ### xs[i] = v, any sign -/
/-- the list's object behind a store -/
theorem mapSeq_set (its : List Value) (n j : Nat) (u : Value) : Obj.mapSeq (·.setIfInBounds j u) { cls := .type "list", data := .seq its.toArray n } = { cls := .type "list", data := .seq (its.set j u).toArray n } := by
  simp [Obj.mapSeq]
theorem Inv.lst {pins : List (Addr × Obj)} {σ : St} {H : Hp} {s : Shared} {p : Addr} {xs : List V} (I : Inv X pins σ H s) (h : H p = some (.lst xs)) :
    ∃ (its : List Value) (n : Nat), Vals xs its ∧ s.heap.get? p = some { cls := .type "list", data := .seq its.toArray n } ∧ xs.length ≤ sizeLine := by
  obtain ⟨z, its, n, r, e⟩ := I.hok p _ h
  exact ⟨its, n, r, e, z⟩
/-- the list at p is written by an update of its object -/
theorem Inv.lstUpd {pins : List (Addr × Obj)} {σ : St} {H : Hp} {s : Shared} {p : Addr} {xs ys : List V} {its its' : List Value} {n n' : Nat} {f : Obj → Obj} (I : Inv X pins σ H s) (h : H p = some (.lst xs))
    (ho : s.heap.get? p = some { cls := .type "list", data := .seq its.toArray n }) (hf : f { cls := .type "list", data := .seq its.toArray n } = { cls := .type "list", data := .seq its'.toArray n' }) (r : Vals ys its') (hz : ys.length ≤ sizeLine) (t : Nat) :
    Inv X pins σ (upd H p (.lst ys)) { s with heap := s.heap.update p f, toks := t } := by
  have e : (s.heap.update p f).get? p = some { cls := .type "list", data := .seq its'.toArray n' } := by
    rw [Heap.get?_update_self f ho (by rw [hf] <;> rfl), hf]
  refine I.write (x := p) (e := p) (by rw [h]; trivial) (.inl rfl) (fun b u hb q => (Heap.get?_update_other _ _ (Ne.symm hb)).trans q) ⟨_, e⟩ ?_
  exact ⟨hz, its', n', r, e⟩
def rSetL : V → V → V → Hp → (Hp → Prop) → Prop := fun o i v H Q => ∃ p xs k j, o = .ref p ∧ i = .int k ∧ H p = some (.lst xs) ∧ ixN xs.length k = some j ∧ Q (upd H p (.lst (xs.set j v)))
theorem set_list : PSet X rSetL := by
  intro pins s σ H o i v ov iv u Q I ro ri rv h
  obtain ⟨p, xs, k, j, rfl, rfl, hp, hj, q⟩ := h
  cases ro
  obtain ⟨t, rfl⟩ := ri
  obtain ⟨its, n, r, ho, hz⟩ := I.lst hp
  obtain ⟨h1, h2, h3, h4⟩ := ixN_seq hj
  have hl := r.length
  have hn := line63
  have I' : Inv X pins σ (upd H p (.lst (xs.set j v))) { s with heap := s.heap.update p (Obj.mapSeq (·.setIfInBounds j u)) } :=
    I.lstUpd hp ho (mapSeq_set its n j u) (r.set rv j) (by rw [List.length_set]; exact hz) s.toks
  by_cases h0 : 0 ≤ k
  · have hk : k.toNat = j := by
      rw [seqIndex_of h0 h4] at h1
      exact Option.some.inj h1
    exact PySem.W.ki_setAt ho h0 (by omega) (by rw [List.size_toArray, ← hl]; exact h4) (by rw [hk]; exact ⟨_, I', q⟩)
  · have hk : (k + (its.toArray.size : Int)).toNat = j := by
      rw [seqIndex_neg (by omega) h3] at h1
      rw [List.size_toArray, ← hl]
      exact Option.some.inj h1
    exact PySem.W.ki_setBack ho (by omega) (by rw [List.size_toArray, ← hl]; exact h3) (by omega) (by rw [hk]; exact ⟨_, I', q⟩)

/-! ### slices -/
/-- xs[lo:hi] of a list: a new list -/
def rSlL (K : PySem.W.Frag) : V → Option Int → Option Int → Hp → VK → Prop := fun x lo hi H Q => ∃ a xs, x = .ref a ∧ SqL K H a xs ∧ ∀ p, H p = none → Q (.ref p) (upd H p (.lst (cutV xs lo hi)))
/-! ### in, not in: flat items -/
def flatV : V → Bool
  | .non => true
  | .bl _ => true
  | .int _ => true
  | .str _ => true
  | _ => false
/-- == of flat values -/
def eqV : V → V → Bool
  | .non, .non => true
  | .bl a, .bl b => a == b
  | .bl a, .int b => (if a then 1 else 0) == b
  | .int a, .bl b => a == (if b then 1 else 0)
  | .int a, .int b => a == b
  | .str a, .str b => a == b
  | _, _ => false
theorem eqAt_V {A : Around} {s : Shared} {y x : V} {u v : Value} (ry : RelV y u) (rx : RelV x v) (fy : flatV y = true) (fx : flatV x = true) : SeqAt.EqAt A s u v (eqV y x) := by
  cases y with
  | non =>
    cases ry
    cases x with
    | non => cases rx; exact SeqAt.EqAt.same _
    | bl b => cases rx; exact SeqAt.EqAt.none_bool b
    | int b => obtain ⟨t, rfl⟩ := rx; exact SeqAt.EqAt.none_int b t
    | str b => obtain ⟨t, rfl⟩ := rx; exact SeqAt.EqAt.none_str b t
    | _ => exact absurd (show false = true from fx) Bool.false_ne_true
  | bl a =>
    cases ry
    cases x with
    | non => cases rx; exact SeqAt.EqAt.bool_none a
    | bl b => cases rx; exact SeqAt.EqAt.bool_bool a b
    | int b => obtain ⟨t, rfl⟩ := rx; exact SeqAt.EqAt.bool_int a b t
    | str b => obtain ⟨t, rfl⟩ := rx; exact SeqAt.EqAt.bool_str a b t
    | _ => exact absurd (show false = true from fx) Bool.false_ne_true
  | int a =>
    obtain ⟨t', rfl⟩ := ry
    cases x with
    | non => cases rx; exact SeqAt.EqAt.int_none a t'
    | bl b => cases rx; exact SeqAt.EqAt.int_bool a t' b
    | int b => obtain ⟨t, rfl⟩ := rx; exact SeqAt.EqAt.int_int a t' b t
    | str b => obtain ⟨t, rfl⟩ := rx; exact SeqAt.EqAt.int_str a t' b t
    | _ => exact absurd (show false = true from fx) Bool.false_ne_true
  | str a =>
    obtain ⟨t', rfl⟩ := ry
    cases x with
    | non => cases rx; exact SeqAt.EqAt.str_none a t'
    | bl b => cases rx; exact SeqAt.EqAt.str_bool a t' b
    | int b => obtain ⟨t, rfl⟩ := rx; exact SeqAt.EqAt.str_int a t' b t
    | str b => obtain ⟨t, rfl⟩ := rx; exact SeqAt.EqAt.str_str a t' b t
    | _ => exact absurd (show false = true from fx) Bool.false_ne_true
  | _ => exact absurd (show false = true from fy) Bool.false_ne_true
/-- the items' answers, read off the values (a value's own answer does not lean on its token) -/
def eqU (x : V) (u : Value) : Bool := match u with
  | .none => eqV .non x
  | .bool b => eqV (.bl b) x
  | .int i _ => eqV (.int i) x
  | .str z _ => eqV (.str z) x
  | _ => false
theorem eqU_of {x y : V} {u : Value} (r : RelV y u) (f : flatV y = true) : eqU x u = eqV y x := by
  cases y with
  | non => cases r; rfl
  | bl b => cases r; rfl
  | int i => obtain ⟨t, rfl⟩ := r; rfl
  | str z => obtain ⟨t, rfl⟩ := r; rfl
  | _ => exact absurd (show false = true from f) Bool.false_ne_true
theorem any_eqU {x : V} : ∀ {xs : List V} {us : List Value}, Vals xs us → xs.all flatV = true → us.any (eqU x) = xs.any fun y => eqV y x
  | _, _, .nil, _ => rfl
  | y :: xs, u :: us, .cons r t, f => by
    rw [List.all_cons, Bool.and_eq_true] at f
    rw [List.any_cons, List.any_cons, eqU_of r f.1, any_eqU t f.2]
theorem mem_eqAt {A : Around} {s : Shared} {x : V} {v : Value} (rx : RelV x v) (fx : flatV x = true) : ∀ {xs : List V} {us : List Value}, Vals xs us → xs.all flatV = true → ∀ u ∈ us, SeqAt.EqAt A s u v (eqU x u)
  | _, _, .nil, _ => fun u hu => by cases hu
  | y :: xs, u :: us, .cons r t, f => fun u' hu => by
    rw [List.all_cons, Bool.and_eq_true] at f
    rcases List.mem_cons.mp hu with rfl | hu
    · rw [eqU_of r f.1]; exact eqAt_V r rx f.1 fx
    · exact mem_eqAt rx fx t f.2 u' hu
def inV (x : V) (xs : List V) : Bool := xs.any fun y => eqV y x
/-- x in a list or tuple of flat items -/
def rIn (K : PySem.W.Frag) (neg : Bool) : R2 := fun x y H Q => ∃ p xs, y = .ref p ∧ (SqL K H p xs ∨ SqT K H p xs) ∧ flatV x = true ∧ xs.all flatV = true ∧ Q (.bl (if neg then !inV x xs else inV x xs)) H
theorem op_notIn_seq : OpR X (compareOp .NotIn) (rIn X.K true) := by
  intro pins s σ H x y v u Q I rx ry h
  obtain ⟨p, xs, rfl, hq, fx, fs, q⟩ := h
  cases ry
  rcases hq with hq | hq
  · obtain ⟨its, r, pl, hz⟩ := I.list hq
    refine SeqAt.notIn_listAt (eqU x) pl.isList (fun w hw => mem_eqAt rx fx r fs w (by simpa using hw)) ⟨.bl _, H, I, rfl, ?_⟩
    rw [show its.toArray.any (eqU x) = its.any (eqU x) by simp, any_eqU r fs]
    exact q
  · obtain ⟨its, r, pl, hz⟩ := I.tuple hq
    refine SeqAt.notIn_tupleAt (eqU x) pl (fun w hw => mem_eqAt rx fx r fs w (by simpa using hw)) ⟨.bl _, H, I, rfl, ?_⟩
    rw [show its.toArray.any (eqU x) = its.any (eqU x) by simp, any_eqU r fs]
    exact q
/-! ### len, list(x), tuple(x) of any list or tuple that is read -/
theorem call_len_seq : CallR X (.builtin "len") (fun xs H Q => ∃ p ys, xs = [.ref p] ∧ (SqL X.K H p ys ∨ SqT X.K H p ys) ∧ Q (.int ys.length) H) := by
  intro pins s σ H xs us Q I r h
  obtain ⟨p, ys, rfl, hq, q⟩ := h
  obtain ⟨u, rfl, rx⟩ := vals1 r
  cases rx
  have hn := line63
  rcases hq with hq | hq
  · obtain ⟨its, r', pl, hz⟩ := I.list hq
    have hlen := r'.length
    exact Calls.call_len_list pl.isList (by simp only [List.size_toArray] <;> omega) ⟨.int ys.length, H, I.tok _, ⟨s.toks + 1, by rw [List.size_toArray, hlen]⟩, q⟩
  · obtain ⟨its, r', pl, hz⟩ := I.tuple hq
    have hlen := r'.length
    exact len_tuple pl (by simp only [List.size_toArray] <;> omega) ⟨.int ys.length, H, I.tok _, ⟨s.toks + 1, by rw [List.size_toArray, hlen]⟩, q⟩
theorem CallR.or {f : Value} {r r' : List V → Hp → VK → Prop} (h : CallR X f r) (h' : CallR X f r') : CallR X f (fun xs H Q => r xs H Q ∨ r' xs H Q) := by
  intro pins s σ H xs us Q I rs q
  rcases q with q | q
  · exact h pins s σ H xs us Q I rs q
  · exact h' pins s σ H xs us Q I rs q
theorem call_list_of : CallR X (.type "list") (fun xs H Q => ∃ p ys, xs = [.ref p] ∧ (SqL X.K H p ys ∨ SqT X.K H p ys) ∧ ∀ l, H l = none → Q (.ref l) (upd H l (.lst ys))) := by
  intro pins s σ H xs us Q I r h
  obtain ⟨p, ys, rfl, hq, q⟩ := h
  obtain ⟨u, rfl, rx⟩ := vals1 r
  cases rx
  have fin : ∀ (its : List Value), Vals ys its → ys.length ≤ sizeLine → ∀ (h' : Heap) (c' : Nat), (∀ b o', s.heap.get? b = some o' → h'.get? b = some o') →
      h'.get? s.heap.objs.size = some { cls := .type "list", dict := none, data := .seq its.toArray c', slots := #[] } → EP X pins σ Q (.ref s.heap.objs.size) { s with heap := h' } := fun its r' hz h' c' kp e =>
    ⟨.ref s.heap.objs.size, _, I.laid (t' := s.toks) kp (Nat.le_refl _) (show ObjOk X.prog X.w _ h' _ (.lst ys) from ⟨hz, its, c', r', e⟩), rfl, q _ (I.hok.fresh (Nat.le_refl _))⟩
  rcases hq with hq | hq
  · obtain ⟨its, r', pl, hz⟩ := I.list hq
    have hlen := r'.length
    obtain ⟨o, ho, hc, n, hd⟩ := pl.isList
    exact call_list_seq p (.inl rfl) ho hc hd (fun h' c' kp e => fin its r' hz h' c' kp e) (by simp only [List.size_toArray] <;> omega)
  · obtain ⟨its, r', pl, hz⟩ := I.tuple hq
    have hlen := r'.length
    obtain ⟨o, ho, hc, n, hd⟩ := pl
    exact call_list_seq p (.inr rfl) ho hc hd (fun h' c' kp e => fin its r' hz h' c' kp e) (by simp only [List.size_toArray] <;> omega)
theorem call_tuple_of : CallR X (.type "tuple") (fun xs H Q => ∃ p ys, xs = [.ref p] ∧ ((SqL X.K H p ys ∧ ∀ l, H l = none → Q (.ref l) (upd H l (.tup ys))) ∨ (SqT X.K H p ys ∧ Q (.ref p) H))) := by
  intro pins s σ H xs us Q I r h
  obtain ⟨p, ys, rfl, h⟩ := h
  obtain ⟨u, rfl, rx⟩ := vals1 r
  cases rx
  rcases h with ⟨hq, q⟩ | ⟨hq, q⟩
  · obtain ⟨its, r', pl, hz⟩ := I.list hq
    have hlen := r'.length
    refine call_tuple_list pl.isList (fun h' kp => ?_) (by simp only [List.size_toArray] <;> omega)
    have I1 : Inv X pins σ H { s with heap := h' } := I.kept (t' := s.toks) kp
    have I2 : Inv X pins σ (upd H h'.objs.size (.tup ys)) { s with heap := h'.push { cls := .type "tuple", data := .seq its.toArray } } :=
      I1.laid (t' := s.toks) (fun b o e => Heap.get?_push_of_some _ e) (Nat.le_refl _) (show ObjOk X.prog X.w _ _ _ (.tup ys) from ⟨hz, its, r', ⟨_, Heap.get?_push_size _ rfl, rfl, _, rfl, rfl⟩⟩)
    exact ⟨.ref h'.objs.size, _, I2, rfl, q _ (I1.hok.fresh (Nat.le_refl _))⟩
  · obtain ⟨its, r', pl, hz⟩ := I.tuple hq
    exact call_tuple_same pl ⟨.ref p, H, I, rfl, q⟩

/-! ### the call of a builtin's method: o.m(..) -/
/-- the value is of that builtin type -/
def tyV (K : PySem.W.Frag) (T : String) (x : V) (H : Hp) : Prop := match x with
  | .str _ => T = "str"
  | .int _ => T = "int"
  | .ref p => (T = "list" ∧ ∃ xs, SqL K H p xs) ∨ (T = "tuple" ∧ ∃ o, K.lookup p = some o ∧ o.cls = .type "tuple" ∧ o.dict = none) ∨
      (T = "dict" ∧ ((∃ kvs, H p = some (.dK kvs)) ∨ ∃ kvs, H p = some (.dT kvs))) ∨ (T = "set" ∧ ∃ S n, H p = some (.set S n))
  | _ => False
theorem tyV_is {pins : List (Addr × Obj)} {σ : St} {H : Hp} {s : Shared} {T : String} {x : V} {v : Value} (I : Inv X pins σ H s) (r : RelV x v) (ty : tyV X.K T x H) :
    s.TypeIs v T ∧ ∀ a, v = .ref a → ∃ ob, s.heap.get? a = some ob ∧ ob.dict = none := by
  cases x with
  | str z =>
    obtain ⟨t, rfl⟩ := r
    cases (show T = "str" from ty)
    exact ⟨typeIs_str s z t, fun _ e => nomatch e⟩
  | int i =>
    obtain ⟨t, rfl⟩ := r
    cases (show T = "int" from ty)
    exact ⟨typeIs_int s i t, fun _ e => nomatch e⟩
  | ref p =>
    cases r
    rcases ty with ⟨rfl, xs, hq⟩ | ⟨rfl, o, hk, hc, hd⟩ | ⟨rfl, hk⟩ | ⟨rfl, S, n, hk⟩
    · obtain ⟨its, _, pl, _⟩ := I.list hq
      refine ⟨pl.isList.typeIs, fun a e => ?_⟩
      cases e
      obtain ⟨o, n, e, c, hd, _⟩ := pl
      exact ⟨o, e, hd⟩
    · refine ⟨⟨o, I.kIn p o hk, hc⟩, fun a e => ?_⟩
      cases e
      exact ⟨o, I.kIn _ o hk, hd⟩
    · have z : ∃ o, s.heap.get? p = some o ∧ o.ExactDict := by
        rcases hk with ⟨kvs, hk⟩ | ⟨kvs, hk⟩
        · obtain ⟨_, _, _, _, o, _, _, e, ex, _⟩ := I.hok p _ hk
          exact ⟨o, e, ex⟩
        · obtain ⟨_, _, _, _, o, _, _, e, ex, _⟩ := I.hok p _ hk
          exact ⟨o, e, ex⟩
      obtain ⟨o, e, ex⟩ := z
      refine ⟨⟨o, e, ex.1⟩, fun a e2 => ?_⟩
      cases e2
      exact ⟨o, e, ex.2.1⟩
    · obtain ⟨o, _, _, _, e, ex, _⟩ := I.hok p _ hk
      refine ⟨⟨o, e, ex.1⟩, fun a e2 => ?_⟩
      cases e2
      exact ⟨o, e, ex.2.1⟩
  | _ => exact False.elim ty
def tBM0 (K : PySem.W.Frag) (T : String) (r : V → List V → Hp → VK → Prop) (to : TE) : TE := fun σ H Q => to σ H fun x H1 => tyV K T x H1 ∧ r x [] H1 Q
def tBM (K : PySem.W.Frag) (T : String) (r : V → List V → Hp → VK → Prop) (to : TE) (t : TA) : TE := fun σ H Q => to σ H fun x H1 => tyV K T x H1 ∧ t σ H1 fun xs H2 => r x xs H2 Q
variable {o e : Expr} {es : List Expr} {to : TE} {t : TA} {name : Str} {apos cpos : Pos} {T id : String} {r : V → List V → Hp → VK → Prop}
theorem pe_bm (pa : PlainAttrs T) (slot : Slot T name id) (hty : typeOf (.builtin id) = pure (.type "method_descriptor")) (hm : MtR X id r) (ho : PE X o to) (ha : PA X (e :: es) t)
    (hbase : attributeBase o name X.env (eval o X.env) = eval o X.env := by rfl)
    (hfew : ((backTo cpos (starEach (e :: es) X.env)).all (fun x => !x.1) && (backToKw cpos (keywordEach [] X.env)).all (fun x => x.1.isSome)
      && decide ((e :: es).length + ([] : List Keyword).length + (if ([] : List Keyword).isEmpty then 0 else 1) < 30)) = true := by rfl)
    (hline : (apos.endLine == cpos.line) = true := by rfl) (hs : starEach (e :: es) X.env = (false, eval e X.env) :: starEach es X.env := by rfl) (hplain : (backTo cpos (starEach es X.env)).any (·.1) = false := by rfl) :
    PE X (.Call (.Attribute o name apos) (e :: es) [] cpos) (tBM X.K T r to t) := by
  intro pins s σ H Q I h
  refine wpAny_Call_method_late hbase hfew hline rfl (thn (ho pins s σ H _ I h) fun v s1 ⟨x, H1, I1, r1, ty, q1⟩ => ?_)
  obtain ⟨h1, h2⟩ := tyV_is I1 r1 ty
  refine ⟨T, id, pa, slot, hty, h1, h2, ?_⟩
  have hA := ha cpos pins s1 σ H1 _ I1 q1
  rw [hs] at hA ⊢
  refine Calls.callWith_builtin (by show (false || (backTo cpos (starEach es X.env)).any (·.1)) = false; rw [hplain] <;> rfl) (Calls.evalArgs_plain ?_)
  exact thn hA fun us s2 ⟨vs, H2, I2, r2, q2⟩ => hm pins s2 σ H2 x vs v us Q I2 r1 r2 q2
/- xs.append(e), list.index on a module's tuple .. are MtR facts of 06m -/
end
end L2

namespace L2
open PySem PySem.Spec PyProof.Rows

def MtM (X : Cx) (id : String) (r : V → List V → Hp → VK → Prop) : Prop :=
  ∀ (pins : List (Addr × Obj)) (s : Shared) (σ : St) (H : Hp) (x : V) (xs : List V) (v : Value) (us : List Value) (Q : VK), Inv X pins σ H s → RelV x v → Vals xs us → r x xs H Q →
    wpAny (model X.prog X.w) X.A (call (.builtin id) (v :: us)) (EP X pins σ Q) X.xe s

/-! ### lists of values -/
theorem Vals.one : ∀ {x : V} {us : List Value}, Vals [x] us → ∃ u, us = [u] ∧ RelV x u
  | _, _, .cons r .nil => ⟨_, rfl, r⟩
theorem Vals.two : ∀ {x y : V} {us : List Value}, Vals [x, y] us → ∃ u v, us = [u, v] ∧ RelV x u ∧ RelV y v
  | _, _, _, .cons r (.cons q .nil) => ⟨_, _, rfl, r, q⟩
theorem Vals.zero : ∀ {us : List Value}, Vals [] us → us = []
  | _, .nil => rfl
theorem Vals.dropLast {xs : List V} {us : List Value} (h : Vals xs us) : Vals xs.dropLast us.dropLast := by
  induction h with
  | nil => exact .nil
  | cons r t ih =>
    cases t with
    | nil => exact .nil
    | cons q t' => exact .cons r ih
theorem Vals.eraseIdx : ∀ {xs : List V} {us : List Value} (i : Nat), Vals xs us → Vals (xs.eraseIdx i) (us.eraseIdx i)
  | _, _, _, .nil => .nil
  | _, _, 0, .cons _ t => t
  | _, _, i + 1, .cons r t => .cons r (Vals.eraseIdx i t)
theorem Vals.reverse {xs : List V} {us : List Value} (h : Vals xs us) : Vals xs.reverse us.reverse := by
  induction h with
  | nil => exact .nil
  | cons r t ih => rw [List.reverse_cons, List.reverse_cons]; exact Vals.append ih (.cons r .nil)
section
variable {X : Cx} {pins : List (Addr × Obj)} {σ : St} {H : Hp} {s : Shared} {l b : Addr} {xs ys zs : List V}

/-! ### the two steps: a tracked list is rewritten, a new list is laid -/
theorem Inv.lset {its its' : List Value} {n : Nat} {f : Array Value → Array Value} {t' : Nat} (I : Inv X pins σ H s) (hH : H l = some (.lst xs))
    (e : s.heap.get? l = some { cls := .type "list", data := .seq its.toArray n }) (hf : f its.toArray = its'.toArray) (hv : Vals ys its') (hz : ys.length ≤ sizeLine) :
    Inv X pins σ (upd H l (.lst ys)) { s with heap := s.heap.update l (Obj.mapSeq f), toks := t' } := by
  have q := PySem.IsL.update e f
  rw [hf] at q
  refine I.write (x := l) (e := l) (by rw [hH]; exact trivial) (.inl rfl) (fun b' u hb hu => (Heap.get?_update_other s.heap (Obj.mapSeq f) (Ne.symm hb)).trans hu) ⟨_, q⟩ ?_
  exact ⟨hz, its', _, hv, q⟩
theorem Inv.lnew {its : List Value} {t' : Nat} (I : Inv X pins σ H s) (hv : Vals ys its) (hz : ys.length ≤ sizeLine) :
    Inv X pins σ (upd H s.heap.objs.size (.lst ys)) { s with heap := s.heap.push { cls := .type "list", data := .seq its.toArray }, toks := t' } :=
  I.laid (fun _ _ q => Heap.get?_push_of_some _ q) (Nat.le_refl _) ⟨hz, its, 0, hv, Heap.get?_push_size _ rfl⟩
theorem Inv.fresh (I : Inv X pins σ H s) : H s.heap.objs.size = none := I.hok.fresh (Nat.le_refl _)
theorem Inv.lstM (I : Inv X pins σ H s) (hH : H l = some (.lst xs)) : xs.length ≤ sizeLine ∧ ∃ (its : List Value) (n : Nat), Vals xs its ∧ xs.length = its.length ∧ s.heap.get? l = some { cls := .type "list", data := .seq its.toArray n } := by
  obtain ⟨z, its, n, r, e⟩ := I.hok l _ hH
  exact ⟨z, its, n, r, r.length, e⟩

theorem notLongL {n : Nat} (h : n ≤ sizeLine) : Builtin.List.listTooLong n = false := by
  unfold Builtin.List.listTooLong
  exact decide_eq_false (by omega)
end

section
variable {X : Cx}

/-! ### methods -/
def rAppend : V → List V → Hp → VK → Prop := fun x vs H Q => ∃ l xs y, x = .ref l ∧ vs = [y] ∧ H l = some (.lst xs) ∧ xs.length < sizeLine ∧ Q .non (upd H l (.lst (xs ++ [y])))
theorem mt_append : MtM X "list.append" rAppend := by
  intro pins s σ H x vs v us Q I rx rv h
  obtain ⟨l, xs, y, rfl, rfl, hH, hz, q⟩ := h
  cases rx
  obtain ⟨u, rfl, ru⟩ := rv.one
  obtain ⟨z, its, n, r, hl, e⟩ := I.lstM hH
  refine call_meets F.slot_list_append ⟨_, e, rfl⟩ F.entry_list_append (F.args_list_append_2 _ _) (PySem.list_append l its.toArray n u (by rw [List.size_toArray]; omega)) ⟨e, ?_⟩
  refine ⟨.non, _, I.lset (its' := its ++ [u]) hH e (by simp) (r.append (.cons ru .nil)) ?_, rfl, q⟩
  rw [List.length_append, List.length_singleton]
  omega

def rExtend : V → List V → Hp → VK → Prop := fun x vs H Q => ∃ l b xs zs, x = .ref l ∧ vs = [.ref b] ∧ H l = some (.lst xs) ∧ H b = some (.lst zs) ∧ xs.length + zs.length ≤ sizeLine ∧ Q .non (upd H l (.lst (xs ++ zs)))
theorem mt_extend : MtM X "list.extend" rExtend := by
  intro pins s σ H x vs v us Q I rx rv h
  obtain ⟨l, b, xs, zs, rfl, rfl, hH, hB, hz, q⟩ := h
  cases rx
  obtain ⟨u, rfl, ru⟩ := rv.one
  cases ru
  obtain ⟨z, its, n, r, hl, e⟩ := I.lstM hH
  obtain ⟨z2, its2, n2, r2, hl2, e2⟩ := I.lstM hB
  have hsz : its.toArray.size + its2.toArray.size ≤ sizeLine := by rw [List.size_toArray, List.size_toArray]; omega
  have hlong : ¬ (!its.toArray.isEmpty && Builtin.List.listTooLong (its.toArray.size + its2.toArray.size)) = true := by
    rw [notLongL hsz, Bool.and_false]
    exact Bool.false_ne_true
  refine call_meets F.slot_list_extend ⟨_, e, rfl⟩ F.entry_list_extend (F.args_list_extend_2 _ _)
    (AutoSeq1.list_extend_list_list_0 l its.toArray n b its2.toArray n2 hlong (by rw [List.size_toArray]; omega) (by omega)) ⟨e, e2, ?_⟩
  refine ⟨.non, _, I.lset (its' := its ++ its2) hH e (by simp) (r.append r2) ?_, rfl, q⟩
  rw [List.length_append]
  omega

def rPop : V → List V → Hp → VK → Prop := fun x vs H Q => ∃ l xs y, x = .ref l ∧ vs = [] ∧ H l = some (.lst xs) ∧ xs[xs.length - 1]? = some y ∧ Q y (upd H l (.lst xs.dropLast))
def rPopAt : V → List V → Hp → VK → Prop := fun x vs H Q => ∃ l xs i k y, x = .ref l ∧ vs = [.int i] ∧ H l = some (.lst xs) ∧ -(2 ^ 63) ≤ i ∧ i < 2 ^ 63 ∧ seqIndex? i xs.length = some k ∧ xs[k]? = some y ∧ Q y (upd H l (.lst (xs.eraseIdx k)))
def rReverse : V → List V → Hp → VK → Prop := fun x vs H Q => ∃ l xs, x = .ref l ∧ vs = [] ∧ H l = some (.lst xs) ∧ Q .non (upd H l (.lst xs.reverse))
def rClear : V → List V → Hp → VK → Prop := fun x vs H Q => ∃ l xs, x = .ref l ∧ vs = [] ∧ H l = some (.lst xs) ∧ Q .non (upd H l (.lst []))
/-! ### list + list, list += list, list * int -/
def rCat : R2 := fun x y H Q => ∃ l b xs zs, x = .ref l ∧ y = .ref b ∧ H l = some (.lst xs) ∧ H b = some (.lst zs) ∧ xs.length + zs.length ≤ sizeLine ∧ ∀ p, H p = none → Q (.ref p) (upd H p (.lst (xs ++ zs)))
theorem op_cat : OpR X (binaryOp .Add) rCat := by
  intro pins s σ H x y v u Q I rx ry h
  obtain ⟨l, b, xs, zs, rfl, rfl, hH, hB, hz, q⟩ := h
  cases rx
  cases ry
  obtain ⟨z, its, n, r, hl, e⟩ := I.lstM hH
  obtain ⟨z2, its2, n2, r2, hl2, e2⟩ := I.lstM hB
  refine PySem.P.add_list e e2 ?_ (by rw [List.size_toArray, List.size_toArray]; omega)
  have ea : its.toArray ++ its2.toArray = (its ++ its2).toArray := by simp
  rw [ea]
  exact ⟨.ref _, _, I.lnew (t' := s.toks) (r.append r2) (by rw [List.length_append]; omega), rfl, q _ I.fresh⟩
/-- a list times an int (a negative one is nothing) -/
def rRep : R2 := fun x y H Q => ∃ l k xs, x = .ref l ∧ y = .int k ∧ H l = some (.lst xs) ∧ -(2 ^ 63) ≤ k ∧ k < 2 ^ 63 ∧ xs.length * k.toNat ≤ sizeLine ∧
  ∀ p, H p = none → Q (.ref p) (upd H p (.lst (List.replicate k.toNat xs).flatten))
/-! ### del xs[i] -/
end

/-! ### xs[a:b] = ys -/
section
variable {prog : Program} {w : World} {A : Around} {E : Value → Shared → Prop} {s : Shared}
end

section
variable {X : Cx}
end
end L2

namespace Att
open PySem PySem.W PySem.Calls PyProof.Rows

/-! ### the script -/
theorem ints_of_wellAll {P : Params} {h : Heap} : ∀ (ns : List Int) (vs : List Value), WellAll P h vs (ns.map WData.int) → IntsAre vs ns := by
  intro ns
  induction ns with
  | nil =>
    intro vs w
    rw [List.map_nil] at w
    cases w
    exact .nil
  | cons n ns ih =>
    intro vs w
    rw [List.map_cons] at w
    cases w with
    | cons a b =>
      cases a
      exact .cons _ _ (ih _ b)

theorem script_of {l : OpenLaw} {n : Nat} (hn : l.most = some n) {P : Params} {h : Heap} {args : List WData} {vals : List Value}
    (hpre : l.row.toRowW.claim.pre args = true) (hwl : WellAll P h vals args) :
    ∃ a vs ns, vals = [Value.ref a] ∧ args = [WData.list (ns.map WData.int)] ∧ h.get? a = some { cls := .type "list", data := .seq vs.toArray } ∧ IntsAre vs ns ∧ ns.length ≤ n := by
  have hsh : WShape.hasAll [] args [.list .int] = true := (pre_splitW hpre).1
  have hc : l.pre.holds [] { args := args } = true := (pre_splitW hpre).2
  obtain ⟨d, r, rfl, h1, h2⟩ := hasAllW_cons hsh
  obtain rfl := hasAllW_nil h2
  obtain ⟨xs, rfl, h3⟩ := hasW_list h1
  obtain ⟨ns, rfl⟩ := items_int h3
  have hlen : ns.length ≤ n := by
    unfold OpenLaw.pre at hc
    have h4 : (WTm.not (.lt (.lit (.int (n : Int))) (.len (.arg 0)))).holds [] { args := [.list (ns.map .int)] } = true := by
      have h4 := (holds_andW hc).1
      rw [hn] at h4
      exact h4
    have h5 := condW_of h4 (w_not (w_lt w_lit (w_len_list (w_arg rfl))))
    rw [List.length_map] at h5
    refine Nat.le_of_not_lt fun q => ?_
    have q' : (n : Int) < ((ns.length : Nat) : Int) := by omega
    first
      | (rw [decide_eq_true q'] at h5; exact absurd h5 (by decide))
      | (simp at h5; omega)
  cases hwl with
  | cons w1 w2 =>
    cases w2
    cases w1 with
    | list ho hall => exact ⟨_, _, ns, rfl, rfl, ho, ints_of_wellAll ns _ hall, hlen⟩

theorem post_true (l : OpenLaw) (args : List WData) : l.row.toRowW.claim.post args (.bool true) args = true :=
  postW_of (r := l.row.toRowW) (X := (true == true))
    (show WShape.has [] (.bool true) .bool = true by first | rfl | decide | simp [WShape.has, WShape.arms, WShape.armsAll])
    (show (WTm.eq .res (.lit (.bool true))).value [] { args := args, res := some (.bool true), after := args } = some (.bool (true == true)) from w_eq_bool (w_res rfl) w_lit) rfl

/-! ### the attachment: holds_open's last premise (the goal 'hc' behind k_head) from a wpAny of the law's body -/
/-- the same from a codeAny of the CALL (for a layer whose function contracts speak of calls) -/
theorem attach_call {l : OpenLaw} {n : Nat} {q : Program} {loose : List Str} {XP : (Str → Option Value) → Heap → Prop} {YP : World → Heap → Prop} {d : DefRec}
    (hn : l.most = some n) (hdf : d.params.defaults = [])
    (call : ∀ (w : World) (s₀ s₁ : Shared) (mg mb : Str → Option Value) (fa : Addr) (o : Obj) (pm cd doc : Value) (a : Addr) (vs : List Value) (ns : List Int),
      Ground q loose [] XP w s₀ mg mb s₁.heap → YP w s₁.heap →
      s₁.heap.get? fa = some o → o.data = .func (docDef d.name d.params d.body d.scope pm cd doc) → s₁.heap.CodeRec cd d.name → mg d.name = some (.ref fa) →
      s₁.heap.get? a = some { cls := .type "list", data := .seq vs.toArray } → IntsAre vs ns → ns.length ≤ n → s₁.gens = #[] →
      codeAny (model l.prog w) callerA (.call (.ref fa) ⟨[.ref a], []⟩) (fun r s' => r = .ok (.ret (.bool true)) ∧ OldK s₁.heap s'.heap ∧ s'.os = s₁.os ∧ AllBare s'.gens) s₁) :
    WalkO q loose XP YP l.row.toRowW d [] (fun f vs => PySem.call f vs) := by
  intro w s₀ s₁ mg mb G Y fa o pm cd doc dV kV ho hd hcd hD hmg hg args vals as hpre hlay hrd hwl hlo
  obtain rfl : dV = .none := Dflts.none hD hdf
  obtain rfl : kV = .none := Dflts.noKw hD
  obtain ⟨a, vs, ns, rfl, rfl, hobj, hints, hlen⟩ := script_of hn hpre hwl
  refine enter_call (codeAny_mono (call w s₀ s₁ mg mb fa o pm cd doc a vs ns G Y ho (fd_plain hd) hcd hmg hobj hints hlen hg) fun r s' hq => ?_)
  obtain ⟨rfl, h2, h3, h4⟩ := hq
  exact ⟨.inl ⟨.bool true, .bool true, [], rfl, fun _ => rfl, .bool true, post_true l _, fun _ => ⟨List.Pairwise.nil, fun _ hm => (nomatch hm)⟩⟩, h2, h3, h4⟩

/-! ### rules over ANY heap (no ledger) from facts about the written part K: the library's own take a ledger (News) for what they write -/
section
variable {prog : Program} {w : World} {A : Around} {E : Value → Shared → Prop} {s : Shared} {K : Frag}

/-! the whole heap as the ledger: makes every rule that writes through a ledger a rule over any heap -/
def noObjs (h : Heap) : Heap := { h with objs := #[] }
def ledger (h : Heap) (L d : Addr) : List (Addr × Obj) := (List.range h.objs.size).filterMap fun a => if a = L ∨ a = d then none else (h.get? a).map fun o => (a, o)
end
end Att

namespace L2
open PySem PySem.Spec PyProof.Rows

theorem vals_ints : ∀ {vs : List Value} {ns : List Int}, IntsAre vs ns → Vals (ns.map V.int) vs
  | _, _, .nil => .nil
  | _, _, .cons n t h => .cons ⟨t, rfl⟩ (vals_ints h)

/-- nothing is tracked but the script, known to the object (or it is an object of the module) -/
def Only (H : Hp) : Prop := ∀ b, H b = none ∨ ∃ o xs, H b = some (.frz o (.lst xs))

/-- THE HEAD: the law's promise, at the heap behind the top. F, the promise of the law's def, may use that base is part of the heap (so K.In base, base.Ns mainGlobals mg stand in Mod) -/
theorem law_call {P : Program} {w : World} {K : PySem.W.Frag} {mg mb : Str → Option Value} {CX : CXT} {k : Nat} {fa a : Addr} {fd : FuncData} {x : Str} {sp : Sp} {s₁ : Shared} {vs : List Value} {ns : List Int}
    (KX : K.In s₁.heap) (hns : s₁.heap.Ns mainGlobals mg) (hb : s₁.heap.Ns builtinsNs mb) (hbb : ∀ x : Str, x ≠ "__name__" → mb x = bootBuiltins x) (hlim : s₁.heap.NoLimit) (hg : s₁.gens = #[])
    (ha : s₁.heap.get? a = some { cls := .type "list", data := .seq vs.toArray }) (hi : IntsAre vs ns) (hl : ns.length ≤ sizeLine) (hr : Room k callerA)
    (F : ∀ base : Heap, K.In base → base.Ns mainGlobals mg → FnOk P w K mg base CX k fa fd [x] sp) (hbind : ∀ (s : Shared) (u : Value), BindsTo s fd ⟨[u], []⟩ [(x, u)])
    (hsp : ∀ H : Hp, Only H → SqL K H a (ns.map V.int) → sp [.ref a] H (fun v _ => v = .bl true) fun _ _ _ => False)
    (hCX : ∀ H e s', CX [] H s₁ (fun _ _ _ => False) e s' → False) :
    codeAny (model P w) callerA (.call (.ref fa) ⟨[.ref a], []⟩) (fun r s' => r = .ok (.ret (.bool true)) ∧ OldK s₁.heap s'.heap ∧ s'.os = s₁.os ∧ AllBare s'.gens) s₁ := by
  have rv := vals_ints hi
  have lenV := hi.length
  -- from an abstract heap in which nothing but the script may be tracked
  have core : ∀ H : Hp, Only H → SqL K H a (ns.map V.int) → HOk P w H s₁.heap → (∀ b, H b ≠ none → b = a) → (H a ≠ none → K.lookup a = none) →
      codeAny (model P w) callerA (.call (.ref fa) ⟨[.ref a], []⟩) (fun r s' => r = .ok (.ret (.bool true)) ∧ OldK s₁.heap s'.heap ∧ s'.os = s₁.os ∧ AllBare s'.gens) s₁ := by
    intro H hO hS hok hA hK
    have base_of : ∀ {b : Addr} {o : Obj}, s₁.heap.get? b = some o → H b = none → (hidT s₁.heap H).get? b = some o := fun e n => hidT_get e n
    have noA : ∀ {b : Addr} {o : Obj} {es : Array DictEntry} {ep : Nat}, s₁.heap.get? b = some o → o.data = .dict es ep → H b = none := fun {b o es ep} e d => by
      cases q : H b with
      | none => rfl
      | some u =>
        have e' : b = a := hA b (by rw [q]; simp)
        subst e'
        rw [ha] at e; cases e
        have d' : Data.seq vs.toArray _ = Data.dict es ep := d
        cases d'
    have nsK : ∀ {b : Addr} {m : Str → Option Value}, s₁.heap.Ns b m → (hidT s₁.heap H).Ns b m := fun {b m} ⟨o, es, ep, e, d, r⟩ => ⟨o, es, ep, base_of e (noA e d), d, r⟩
    have hKb : K.In (hidT s₁.heap H) := fun b o e => base_of (KX b o e) (by
      cases q : H b with
      | none => rfl
      | some u =>
        have e' : b = a := hA b (by rw [q]; simp)
        subst e'
        rw [hK (by rw [q]; simp)] at e; cases e)
    have hM : Mod K mg (hidT s₁.heap H) := ⟨hKb, nsK hns, ⟨mb, nsK hb, hbb⟩, let ⟨mc, h1, h2⟩ := hlim; ⟨mc, nsK h1, h2⟩⟩
    have e0 : Env0 P w K mg (hidT s₁.heap H) callerA [] s₁ H := ⟨rfl, hM, fun b o e => of_hidT e, Nat.le_of_eq (hidT_size _ _), trivial, fun b hb => absurd (show b ∈ ([] : List Addr) from hb) (by simp), hok, .of_eq hg⟩
    refine codeAny_mono ((F _ hKb (nsK hns)).run callerA [] s₁ H ⟨[.ref a], []⟩ [.ref a] [.ref a] _ _ hr e0 (hbind s₁ (.ref a)) (.cons rfl .nil) (hsp H hO hS)) fun r s' h => ?_
    cases r with
    | error e => exact (hCX H e s' h).elim
    | ok fl =>
      cases fl with
      | next => exact False.elim h
      | brk => exact False.elim h
      | cont => exact False.elim h
      | ret u =>
        obtain ⟨v, H', os, bare, un, hok', r', q⟩ := h
        have q' : v = .bl true := q
        subst q'
        obtain rfl : u = Value.bool true := r'
        refine ⟨rfl, OldK.of_keep fun b o e => ?_, os, bare⟩
        cases q : H b with
        | none => exact un.keep b o e q (by intro z; exact absurd (show b ∈ ([] : List Addr) from z) (by simp)) (by simp)
        | some u =>
          rcases hO b with z | ⟨ob, xs, z⟩
          · rw [q] at z; cases z
          · have z2 := un.frzs b ob _ z
            obtain ⟨e1, _⟩ := hok b _ z
            obtain ⟨e2, _⟩ := hok' b _ z2
            rw [e] at e1; cases e1
            exact e2
  cases hk : K.lookup a with
  | some o =>
    -- the script is one of the module's own objects
    have e := KX a o hk
    rw [ha] at e
    cases e
    refine core (fun _ => none) (fun _ => .inl rfl) (.inr ⟨_, vs.toArray, _, hk, rfl, rfl, rfl, by rw [List.size_toArray, lenV]; exact hl, by simpa using rv⟩) (fun b u z => by have z' : (none : Option HO) = some u := z; cases z') (fun b z => absurd rfl z) fun z => absurd rfl z
  | none =>
    refine core (fun b => if b = a then some (.frz { cls := .type "list", data := .seq vs.toArray } (.lst (ns.map V.int))) else none) (fun b => ?_) (.inl (.inr ⟨{ cls := .type "list", data := .seq vs.toArray }, if_pos rfl⟩)) (fun b u z => ?_) (fun b z => ?_) fun _ => hk
    · by_cases hb : b = a
      · exact .inr ⟨_, _, if_pos hb⟩
      · exact .inl (if_neg hb)
    · by_cases hb : b = a
      · have z' := (if_pos hb).symm.trans z
        cases z'
        subst hb
        exact ⟨ha, by rw [List.length_map]; exact hl, vs, _, rv, ha⟩
      · have z' := (if_neg hb).symm.trans z
        cases z'
    · by_cases hb : b = a
      · exact hb
      · exact absurd (if_neg hb) z
end L2

namespace L2
open PySem PySem.Spec PyProof.Rows

abbrev KOf {K : PySem.W.Frag} {h : Heap} (_ : K.In h) : PySem.W.Frag := K

/-- the goal that k_head leaves (case hc), from the law's promise. F gives the function object fd (K's own) once, then the promise over every base -/
theorem walk_of {l : PySem.W.OpenLaw} {n k : Nat} {q : Program} {loose : List Str} {XP : (Str → Option Value) → Heap → Prop} {YP : World → Heap → Prop} {d : DefRec} {K : Params → PySem.W.Frag} {CX : World → CXT} {sp : World → Sp} {x : Str}
    (hn : l.most = some n) (hn2 : n ≤ sizeLine) (hdf : d.params.defaults = []) (hr : Room k callerA)
    (hY : ∀ (w : World) (h : Heap), YP w h → (K w.params).In h)
    (F : ∀ (w : World) (mg : Str → Option Value) (fa : Addr) (h : Heap), (K w.params).In h → h.Ns mainGlobals mg → mg d.name = some (.ref fa) →
      ∃ fd : FuncData, (∀ (s : Shared) (u : Value), BindsTo s fd ⟨[u], []⟩ [(x, u)]) ∧
        ∀ base : Heap, (K w.params).In base → base.Ns mainGlobals mg → FnOk l.prog w (K w.params) mg base (CX w) k fa fd [x] (sp w))
    (hsp : ∀ (w : World) (H : Hp) (a : Addr) (ns : List Int), ns.length ≤ n → Only H → SqL (K w.params) H a (ns.map V.int) → sp w [.ref a] H (fun v _ => v = .bl true) fun _ _ _ => False)
    (hCX : ∀ (w : World) (H : Hp) (s : Shared) (e : Value) (s' : Shared), CX w [] H s (fun _ _ _ => False) e s' → False) :
    PySem.W.WalkO q loose XP YP l.row.toRowW d [] (fun f vs => PySem.call f vs) := by
  refine Att.attach_call hn hdf fun w s₀ s₁ mg mb fa o pm cd doc a vs ns G Y ho hd hcd hmg hobj hints hlen hg => ?_
  have KX := hY w _ Y
  obtain ⟨fd, hb, hF⟩ := F w mg fa _ KX G.T.g hmg
  exact law_call KX G.T.g G.T.b G.T.builtins G.T.nolimit hg hobj hints (Nat.le_trans hlen hn2) hr hF hb (fun H hO hS => hsp w H a ns hlen hO hS) fun H e s' => hCX w H s₁ e s'
end L2

/- THE LAST THEOREM (shape; LID, My.* are yours):
   My.Adr: a structure of the addresses that your layer names (classes, functions); My.Txt K t: a structure (Prop) of the equations over K;
   My.txt_mk : {K} {implicit addresses ..} (e1 : nsIn K mainGlobals "law" = some (some (.ref f))) (e2 : K.lookup f = some ⟨oc, od, .func (fnOf "law" "law" params body scope dV kV doc pm an cdv ct), sl⟩) (e3 : codeIn K cdv "law" = true) .. : ∃ t, My.Txt K t

set_option maxRecDepth 100000 in
set_option maxHeartbeats 0 in
theorem PySem.Challenge.cw_LID_holds : PySem.Challenge.rw_LID.Holds := by
  w_on; o_law; k_head; (case hw => w_witness2)
  k_fill
  refine L2.walk_of (l := PySem.Challenge.rw_LID) (n := 63) (k := 40) (x := "script") (CX := fun w => ..) (sp := fun _ => My.sp_law) rfl (by decide) rfl ⟨rfl, by decide, by decide⟩ (fun w h Y => PySem.W.kIn_of Y) ?F ?S ?C
  case F =>
    intro w mg fa h KX G hmg
    have T : ∃ t, My.Txt (L2.KOf KX) t := by
      dsimp only [L2.KOf]                          -- K must stand as «<heap const> w.params» for k_is
      refine' My.txt_mk ?e1 ?e2 ?e3 ..
      (case e1 => PySem.W.k_is)                    -- in the order: a name -> its address -> its object -> its parts
      (case e2 => PySem.W.k_is)
      ..
    obtain ⟨t, T⟩ := T
    have e0 := hmg.symm.trans (PySem.W.mg_of KX G T.law)
    cases e0                                       -- fa is the law's own address
    exact ⟨_, fun s u => .of_eq rfl, fun base kb nb => My.law_fn T kb nb⟩     -- if «.of_eq rfl» comes too early: refine' ⟨_, ?b, fun base kb nb => My.law_fn T kb nb⟩; exact fun s u => .of_eq rfl
  case S => exact fun w H a ns hl hO hS => ..
  case C => exact ..
(the tactic k_is has no namespace: write k_is) -/

/-! SHORT WORDS over the layer: a def of the text, its body, what a loop and a test want. -/
namespace L2
open PySem PySem.Spec PyProof.Rows

/-! ### the text by places -/
/-- the j-th statement of a class's body -/
def inClass (s : Stmt) (j : Nat) : Stmt := match s with
  | .ClassDef _ _ _ body _ _ _ _ _ _ _ => body.getD j (.Pass ⟨0, 0, 0, 0⟩)
  | _ => .Pass ⟨0, 0, 0, 0⟩
def defArgs (s : Stmt) : Arguments := match s with
  | .FunctionDef _ a _ _ _ _ _ _ _ _ => a
  | _ => { posonlyargs := [], args := [], vararg := none, kwonlyargs := [], kw_defaults := [], kwarg := none, defaults := [] }
def defBody (s : Stmt) : List Stmt := match s with
  | .FunctionDef _ _ b _ _ _ _ _ _ _ => b
  | _ => []
def defScope (s : Stmt) : Scope := match s with
  | .FunctionDef _ _ _ _ _ _ sc _ _ _ => sc
  | _ => { kind := .function, names := [], isGenerator := false, isCoroutine := false }

/-! ### no exception leaves a def -/
abbrev CX0 : CXT := fun _ _ _ _ _ _ => False
abbrev E0 : XK := fun _ _ _ => False
theorem pass0 {X : Cx} : Passes CX0 X E0 := fun _ _ _ _ _ _ _ h => h.elim

/-! ### a def (or method) of the text as it stands behind the top -/
structure Fun (K : PySem.W.Frag) (x qual : Str) (st : Stmt) (f : Addr) (fd : FuncData) : Prop where
  ex : ∃ (oc : Value) (od : Option Addr) (kV doc pm : Value) (an : Option Addr) (cdv ct : Value) (osl : Array (Option Value)),
    fd = PySem.W.fnOf x qual (defArgs st) (defBody st) (defScope st) .none kV doc pm an cdv ct ∧ K.lookup f = some ⟨oc, od, .func fd, osl⟩ ∧ PySem.W.codeIn K cdv qual = true
  kp : PySem.W.keepIn K (.ref f) = true
section
variable {P : Program} {w : World} {K : PySem.W.Frag} {mg : Str → Option Value} {base : Heap}
/-- THE RULE for a def: its body as a term of rules, and the reading of that term -/
theorem Fun.ok {x qual : Str} {st : Stmt} {f : Addr} {fd : FuncData} {N ps : List Str} {k : Nat} {sp : Sp} (F : Fun K x qual st f fd) (S : FnScope N ps (defScope st)) (len : ∀ vs H Q E, sp vs H Q E → vs.length = ps.length)
    (hbody : ∀ (cdv : Value) (A : Around) (outer : List Env) (s : Shared) (H : Hp) (vs : List V) (Q : VK) (E : XK), Room k (A.deeper (envOfC qual (defScope st) s.heap.objs.size f cdv)) → sp vs H Q E →
      ∃ t, PSs (cxOf CX0 P w K mg base N qual (defScope st) f cdv A outer s H E).nox (defBody st) t ∧ t { nx := fun _ H' => Q .non H', rt := Q } (start N vs) H) : FnOk P w K mg base CX0 (k + 1) f fd ps sp := by
  obtain ⟨oc, od, kV, doc, pm, an, cdv, ct, osl, rfl, lk, hcd⟩ := F.ex
  refine fn_of lk hcd S len fun A outer s H vs Q E hr hsp => ?_
  obtain ⟨t, h, q⟩ := hbody cdv A outer s H vs Q E hr hsp
  exact ⟨t, h.nox, q⟩
/-- how its arguments bind (no defaults): h is «fun _ _ _ _ _ _ us hl => match us, hl with | [_, _], _ => rfl», one _ a parameter -/
theorem Fun.binds {x qual : Str} {st : Stmt} {f : Addr} {fd : FuncData} {ps : List Str} (F : Fun K x qual st f fd)
    (h : ∀ (kV doc pm : Value) (an : Option Addr) (cdv ct : Value) (us : List Value), us.length = ps.length → bindArgs (PySem.W.fnOf x qual (defArgs st) (defBody st) (defScope st) .none kV doc pm an cdv ct) ⟨us, []⟩ = pure (ps.zip us)) : Binds K fd ps [] := by
  obtain ⟨oc, od, kV, doc, pm, an, cdv, ct, osl, rfl, lk, hcd⟩ := F.ex
  exact .all (h kV doc pm an cdv ct)
theorem fun_mk {x qual : Str} {st : Stmt} {f : Addr} {oc : Value} {od an : Option Addr} {osl : Array (Option Value)} {kV doc pm cdv ct : Value} (l : K.lookup f = some ⟨oc, od, .func (PySem.W.fnOf x qual (defArgs st) (defBody st) (defScope st) .none kV doc pm an cdv ct), osl⟩)
    (c : PySem.W.codeIn K cdv qual = true) (k : PySem.W.keepIn K (.ref f) = true) : Fun K x qual st f (PySem.W.fnOf x qual (defArgs st) (defBody st) (defScope st) .none kV doc pm an cdv ct) := ⟨⟨oc, od, kV, doc, pm, an, cdv, ct, osl, rfl, l, c⟩, k⟩
end
theorem hu_of {A : Around} {k : Nat} (hr : Room k A) : A.units + 1 < cLine := Nat.lt_of_le_of_lt (Nat.add_le_add_left (by decide : 1 ≤ 64) _) hr.units
theorem small1000 {n : Nat} (h : n ≤ 1000) : n < sizeLine := Nat.lt_of_le_of_lt h (by decide)

/-! ### expressions in short: the name that stands in the i-th slot -/
section
variable {X : Cx}
theorem pv (i : Nat) {x : Str} {pos : Pos} (hN : X.N[i]? = some x := by rfl) (hv : Vis X.env.scope x := by first | exact Or.inl rfl | exact Or.inr (Or.inl rfl) | exact Or.inr (Or.inr rfl)) (hd : (x == ("__debug__" : Str)) = false := by decide)
    (hcd : (x == ("__classdict__" : Str)) = false := by decide) : PE X (.Name x pos) (tVar i) := pe_var hN hv hd hcd
end

/-! ### tests -/
theorem iteF {A B : Prop} (h : B) : if false = true then A else B := by
  rw [if_neg Bool.false_ne_true]
  exact h
theorem iteT {A B : Prop} (h : A) : if true = true then A else B := by
  rw [if_pos rfl]
  exact h
theorem ite2 {c A B : Prop} [Decidable c] (h1 : c → A) (h2 : ¬ c → B) : if c then A else B := by
  by_cases h : c
  · rw [if_pos h]
    exact h1 h
  · rw [if_neg h]
    exact h2 h
/-! ### heaps -/
/-- all that was tracked is as it was -/
def Same (H H' : Hp) : Prop := ∀ b o, H b = some o → H' b = some o
theorem Same.refl (H : Hp) : Same H H := fun _ _ h => h
theorem Same.trans {H H1 H2 : Hp} (a : Same H H1) (b : Same H1 H2) : Same H H2 := fun c o h => b c o (a c o h)
theorem Same.free {H H' : Hp} (e : Same H H') {l : Addr} (h : H' l = Option.none) : H l = Option.none := by
  cases q : H l with
  | none => rfl
  | some o =>
    rw [e l o q] at h
    cases h
theorem Same.seq {K : PySem.W.Frag} {H H' : Hp} {a : Addr} {xs : List V} (e : Same H H') (h : SqL K H a xs) : SqL K H' a xs := by
  rcases h with (h | ⟨o, h⟩) | h
  · exact .inl (.inl (e _ _ h))
  · exact .inl (.inr ⟨o, e _ _ h⟩)
  · exact .inr h

end L2

set_option Elab.async false
set_option linter.all false
set_option maxRecDepth 100000
namespace L2
open PySem PySem.Spec PyProof.Rows

/-! ### lists of pairs as tables -/
section
variable {κ : Type} [DecidableEq κ]
def valV (kvs : List (κ × V)) (k : κ) : Option V := (kvs.find? fun kv => decide (kv.1 = k)).map (·.2)
/-- in its place, or at the end -/
def putK (kvs : List (κ × V)) (k : κ) (v : V) : List (κ × V) :=
  if (kvs.any fun kv => decide (kv.1 = k)) = true then kvs.map (fun kv => if kv.1 = k then (kv.1, v) else kv) else kvs ++ [(k, v)]
def dropK (kvs : List (κ × V)) (k : κ) : List (κ × V) := kvs.filter fun kv => decide (kv.1 ≠ k)

theorem valV_pos {p : κ × V} {r : List (κ × V)} {k : κ} (e : p.1 = k) : valV (p :: r) k = some p.2 := by simp [valV, List.find?_cons, e]
theorem valV_neg {p : κ × V} {r : List (κ × V)} {k : κ} (e : ¬ p.1 = k) : valV (p :: r) k = valV r k := by simp [valV, List.find?_cons, e]
theorem valV_any (k : κ) : ∀ kvs : List (κ × V), (kvs.any fun kv => decide (kv.1 = k)) = (valV kvs k).isSome
  | [] => rfl
  | p :: r => by
    rw [List.any_cons]
    by_cases e : p.1 = k
    · simp only [valV_pos e, decide_eq_true e, Bool.true_or, Option.isSome_some]
    · rw [valV_neg e, decide_eq_false e, Bool.false_or]; exact valV_any k r
theorem valV_map (k j : κ) (y : V) : ∀ kvs : List (κ × V), valV (kvs.map fun kv => if kv.1 = k then (kv.1, y) else kv) j = (valV kvs j).map fun x => if j = k then y else x
  | [] => rfl
  | p :: r => by
    have ih := valV_map k j y r
    rw [List.map_cons]
    by_cases h : p.1 = k
    · rw [if_pos h]
      by_cases e : p.1 = j
      · rw [valV_pos (p := (p.1, y)) e, valV_pos e, Option.map_some, if_pos (e.symm.trans h)]
      · rw [valV_neg (p := (p.1, y)) e, valV_neg e, ih]
    · rw [if_neg h]
      by_cases e : p.1 = j
      · rw [valV_pos (p := p) e, valV_pos e, Option.map_some, if_neg (fun z => h (e.trans z))]
      · rw [valV_neg (p := p) e, valV_neg e, ih]
theorem valV_snoc (k j : κ) (y : V) : ∀ kvs : List (κ × V), valV kvs k = none → valV (kvs ++ [(k, y)]) j = if j = k then some y else valV kvs j
  | [], _ => by
    by_cases e : k = j
    · rw [if_pos e.symm]; exact valV_pos (p := (k, y)) e
    · rw [if_neg (fun z => e z.symm)]; exact valV_neg (p := (k, y)) e
  | p :: r, hn => by
    rw [List.cons_append]
    have hk : ¬ p.1 = k := fun z => by rw [valV_pos z] at hn; cases hn
    rw [valV_neg hk] at hn
    have ih := valV_snoc k j y r hn
    by_cases e : p.1 = j
    · rw [valV_pos e, valV_pos e, if_neg (fun z => hk (e.trans z))]
    · rw [valV_neg e, valV_neg e, ih]
theorem valV_put (kvs : List (κ × V)) (k j : κ) (y : V) : valV (putK kvs k y) j = if j = k then some y else valV kvs j := by
  unfold putK
  by_cases a : (kvs.any fun kv => decide (kv.1 = k)) = true
  · rw [if_pos a, valV_map]
    rw [valV_any] at a
    by_cases e : j = k
    · obtain ⟨x, hx⟩ := Option.isSome_iff_exists.mp a
      rw [if_pos e, e, hx, Option.map_some, if_pos rfl]
    · rw [if_neg e]
      cases valV kvs j with
      | none => rfl
      | some x => rw [Option.map_some, if_neg e]
  · rw [if_neg a]
    refine valV_snoc k j y kvs ?_
    rw [valV_any] at a
    cases q : valV kvs k with
    | none => rfl
    | some x => rw [q] at a; exact (a rfl).elim
theorem length_putK (kvs : List (κ × V)) (k : κ) (v : V) : (putK kvs k v).length ≤ kvs.length + 1 := by
  unfold putK
  split
  · rw [List.length_map]; omega
  · rw [List.length_append, List.length_cons, List.length_nil]; omega
theorem putK_new {kvs : List (κ × V)} {k : κ} (v : V) (h : valV kvs k = none) : putK kvs k v = kvs ++ [(k, v)] := by
  unfold putK
  rw [valV_any, h]
  exact if_neg (by decide)

theorem RelO.isSome_eq {o : Option V} {u : Option Value} (r : RelO o u) : o.isSome = u.isSome := by
  cases o with
  | none => cases u with
    | none => rfl
    | some _ => exact (show False from r).elim
  | some _ => cases u with
    | none => exact (show False from r).elim
    | some _ => rfl
theorem RelO.getD {o : Option V} {u : Option Value} {d : V} {d' : Value} (r : RelO o u) (rd : RelV d d') : RelV (o.getD d) (u.getD d') := by
  cases o with
  | none => cases u with
    | none => exact rd
    | some _ => exact (show False from r).elim
  | some _ => cases u with
    | none => exact (show False from r).elim
    | some _ => exact r

/-- raw tables of the same keys -/
theorem KV.val {kvs : List (κ × V)} {vs : List (κ × Value)} (r : KV kvs vs) (k : κ) : RelO (valV kvs k) (valueAt vs k) := by
  unfold KV at r
  induction r with
  | nil => exact True.intro
  | @cons p q ps qs h t ih =>
    obtain ⟨h1, h2⟩ := h
    by_cases e : p.1 = k
    · have e' : q.1 = k := h1.symm.trans e
      have b : valueAt (q :: qs) k = some q.2 := by simp [valueAt, List.find?_cons, e']
      rw [valV_pos e, b]; exact h2
    · have e' : ¬ q.1 = k := fun z => e (h1.trans z)
      have b : valueAt (q :: qs) k = valueAt qs k := by simp [valueAt, List.find?_cons, e']
      rw [valV_neg e, b]; exact ih
theorem KV.any {kvs : List (κ × V)} {vs : List (κ × Value)} (r : KV kvs vs) (k : κ) : (kvs.any fun kv => decide (kv.1 = k)) = vs.any fun kv => decide (kv.1 = k) := by
  unfold KV at r
  induction r with
  | nil => rfl
  | cons h t ih => rw [List.any_cons, List.any_cons, ih, h.1]
theorem KV.repl {kvs : List (κ × V)} {vs : List (κ × Value)} (r : KV kvs vs) (k : κ) {y : V} {u : Value} (ry : RelV y u) :
    KV (kvs.map fun kv => if kv.1 = k then (kv.1, y) else kv) (vs.map fun kv => if kv.1 = k then (kv.1, u) else kv) := by
  unfold KV at r ⊢
  induction r with
  | nil => exact .nil
  | @cons p q ps qs h t ih =>
    rw [List.map_cons, List.map_cons]
    refine .cons ?_ ih
    obtain ⟨h1, h2⟩ := h
    by_cases e : p.1 = k
    · rw [if_pos e, if_pos (h1.symm.trans e)]; exact ⟨h1, ry⟩
    · rw [if_neg e, if_neg (fun z => e (h1.trans z))]; exact ⟨h1, h2⟩
theorem KV.put {kvs : List (κ × V)} {vs : List (κ × Value)} (r : KV kvs vs) (k : κ) {y : V} {u : Value} (ry : RelV y u) : KV (putK kvs k y) (stored vs k u) := by
  unfold putK stored
  rw [r.any k]
  by_cases e : (vs.any fun kv => decide (kv.1 = k)) = true
  · rw [if_pos e, if_pos e]; exact r.repl k ry
  · rw [if_neg e, if_neg e]; exact Paired.snoc r ⟨rfl, ry⟩
theorem KV.drop {kvs : List (κ × V)} {vs : List (κ × Value)} (r : KV kvs vs) (k : κ) : KV (dropK kvs k) (without vs k) := by
  unfold KV at r ⊢
  unfold dropK without
  induction r with
  | nil => exact .nil
  | @cons p q ps qs h t ih =>
    obtain ⟨h1, h2⟩ := h
    rw [List.filter_cons, List.filter_cons]
    by_cases e : p.1 = k
    · have a : ¬ decide (p.1 ≠ k) = true := by simp [e]
      have b : ¬ decide (q.1 ≠ k) = true := by simp [h1.symm.trans e]
      rw [if_neg a, if_neg b]; exact ih
    · have e' : ¬ q.1 = k := fun z => e (h1.trans z)
      have a : decide (p.1 ≠ k) = true := by simp [e]
      have b : decide (q.1 ≠ k) = true := by simp [e']
      rw [if_pos a, if_pos b]; exact .cons ⟨h1, h2⟩ ih
theorem KV.keys {kvs : List (κ × V)} {vs : List (κ × Value)} (r : KV kvs vs) : kvs.map (·.1) = vs.map (·.1) := by
  unfold KV at r
  induction r with
  | nil => rfl
  | cons h t ih => rw [List.map_cons, List.map_cons, ih, h.1]
theorem KV.length {kvs : List (κ × V)} {vs : List (κ × Value)} (r : KV kvs vs) : kvs.length = vs.length := Paired.length r
theorem dropK_le (kvs : List (κ × V)) (k : κ) : (dropK kvs k).length ≤ kvs.length := List.length_filter_le _ _
end


/-! ### a tracked dict, its keys ints and texts or tuples of these -/
theorem kV_is {P : Program} {w : World} {k : Key} {u : Value} (r : RelV (kV k) u) : (mixKind P w).is k u = true := by
  cases k with
  | inl i => obtain ⟨t, e⟩ := (show ∃ t, u = Value.int i t from r); subst e; exact mixKind_int P w i t
  | inr x => obtain ⟨t, e⟩ := (show ∃ t, u = Value.str x t from r); subst e; exact mixKind_str P w x t
theorem items_are {P : Program} {w : World} : ∀ {ks : List Key} {us : List Value}, Vals (ks.map kV) us → ItemsAre (mixKind P w) ks us
  | [], _, r => by rw [List.map_nil] at r; cases r; exact .nil
  | k :: ks, _, r => by
    rw [List.map_cons] at r
    cases r with
    | cons h t => exact .cons (kV_is h) (items_are t)

/-- raw entries of a dict with tuple keys -/
abbrev KT (H : Hp) : List (List Key × V) → List (List Key × Addr × Value) → Prop := Paired fun p q => p.1 = q.1 ∧ H q.2.1 = some (.tup (p.1.map kV)) ∧ RelV p.2 q.2.2
theorem KT.val {H : Hp} {kvs : List (List Key × V)} {xs : List (List Key × Addr × Value)} (r : KT H kvs xs) (k : List Key) : RelO (valV kvs k) ((atKey xs k).map (·.2)) := by
  induction r with
  | nil => exact True.intro
  | @cons p q ps qs h t ih =>
    obtain ⟨h1, _, h2⟩ := h
    by_cases e : p.1 = k
    · have e' : q.1 = k := h1.symm.trans e
      have b : atKey (q :: qs) k = some q.2 := by simp [atKey, List.find?_cons, e']
      rw [valV_pos e, b]; exact h2
    · have e' : ¬ q.1 = k := fun z => e (h1.trans z)
      have b : atKey (q :: qs) k = atKey qs k := by simp [atKey, List.find?_cons, e']
      rw [valV_neg e, b]; exact ih
theorem KT.repl {H : Hp} {kvs : List (List Key × V)} {xs : List (List Key × Addr × Value)} (r : KT H kvs xs) (k : List Key) {y : V} {u : Value} (ry : RelV y u) :
    KT H (kvs.map fun kv => if kv.1 = k then (kv.1, y) else kv) (xs.map (putAt k u)) := by
  induction r with
  | nil => exact .nil
  | @cons p q ps qs h t ih =>
    rw [List.map_cons, List.map_cons]
    refine .cons ?_ ih
    obtain ⟨h1, h2, h3⟩ := h
    unfold putAt
    by_cases e : p.1 = k
    · rw [if_pos e, if_pos (h1.symm.trans e)]; exact ⟨h1, h2, ry⟩
    · rw [if_neg e, if_neg (fun z => e (h1.trans z))]; exact ⟨h1, h2, h3⟩
theorem KT.put {H : Hp} {kvs : List (List Key × V)} {xs : List (List Key × Addr × Value)} (r : KT H kvs xs) (k : List Key) {b : Addr} {y : V} {u : Value} (hb : H b = some (.tup (k.map kV))) (ry : RelV y u) :
    KT H (putK kvs k y) (storedH xs k b u) := by
  have e : (kvs.any fun kv => decide (kv.1 = k)) = (atKey xs k).isSome := by
    rw [valV_any, (r.val k).isSome_eq, Option.isSome_map]
  unfold putK storedH
  rw [e]
  by_cases q : (atKey xs k).isSome = true
  · rw [if_pos q, if_pos q]; exact r.repl k ry
  · rw [if_neg q, if_neg q]; exact Paired.snoc r ⟨rfl, hb, ry⟩
theorem KT.keeps {H H' : Hp} {kvs : List (List Key × V)} {xs : List (List Key × Addr × Value)} (r : KT H kvs xs) (ht : ∀ b ys, H b = some (.tup ys) → H' b = some (.tup ys)) : KT H' kvs xs :=
  Paired.mapP r fun _ _ z => ⟨z.1, ht _ _ z.2.1, z.2.2⟩

section
variable {P : Program} {w : World} {H : Hp} {h : Heap} {a : Addr}
theorem rd_of {u : HO} (ok : HOk P w H h) (e : Rd H a u) : ObjOk P w H h a u := e.ok ok
theorem dk_rd {kvs : List (Key × V)} (ok : HOk P w H h) (e : Rd H a (.dK kvs)) : kvs.length ≤ sizeLine ∧ (a == sysModules) = false ∧ ∃ vs, KV kvs vs ∧ h.DictOf (mixKind P w) a vs :=
  show ObjOk P w H h a (.dK kvs) from rd_of ok e
theorem dk_of {kvs : List (Key × V)} (ok : HOk P w H h) (e : H a = some (.dK kvs)) : kvs.length ≤ sizeLine ∧ (a == sysModules) = false ∧ ∃ vs, KV kvs vs ∧ h.DictOf (mixKind P w) a vs := dk_rd ok (.inl e)
/-- a tracked tuple of ints and texts is a key -/
theorem key_of {ks : List Key} (ok : HOk P w H h) (e : H a = some (.tup (ks.map kV))) : (tupleKind (mixKind P w)).is h ks a := by
  obtain ⟨_, its, r, o, h1, h2, n, h3⟩ := (show ObjOk P w H h a (.tup (ks.map kV)) from ok a _ e)
  exact ⟨o, its.toArray, n, h1, h2, h3.1, by simpa using items_are r⟩
theorem dt_rd {kvs : List (List Key × V)} (ok : HOk P w H h) (e : Rd H a (.dT kvs)) : kvs.length ≤ sizeLine ∧ (a == sysModules) = false ∧
    ∃ xs, KT H kvs xs ∧ h.DictOfH (tupleKind (mixKind P w)) a xs := by
  obtain ⟨z, y, xs, r, o, es, ep, h1, h2, h3, h4, h5⟩ := (show ObjOk P w H h a (.dT kvs) from rd_of ok e)
  refine ⟨z, y, xs, r, o, es, ep, h1, h2, h3, h4, fun x hx => ?_, h5⟩
  have all : ∀ {l : List (List Key × V)} {m : List (List Key × Addr × Value)}, KT H l m → ∀ x ∈ m, (tupleKind (mixKind P w)).is h x.1 x.2.1 := by
    intro l m q
    induction q with
    | nil => intro x hx; exact nomatch hx
    | @cons p q ps qs hq t ih =>
      intro x hx
      rcases List.mem_cons.mp hx with e | hx
      · subst e
        exact key_of ok (by rw [← hq.1]; exact hq.2.1)
      · exact ih x hx
  exact all r x hx
theorem dt_of {kvs : List (List Key × V)} (ok : HOk P w H h) (e : H a = some (.dT kvs)) : kvs.length ≤ sizeLine ∧ (a == sysModules) = false ∧
    ∃ xs, KT H kvs xs ∧ h.DictOfH (tupleKind (mixKind P w)) a xs := dt_rd ok (.inl e)
end

/-- what the dict at a holds at the key y -/
def DGet (H : Hp) (a : Addr) (y : V) (r : Option V) : Prop :=
  (∃ kvs k, Rd H a (.dK kvs) ∧ y = kV k ∧ r = valV kvs k) ∨ ∃ kvs k b, Rd H a (.dT kvs) ∧ y = .ref b ∧ H b = some (.tup (k.map kV)) ∧ r = valV kvs k
/-- the heap behind a[y] = v -/
def DPut (H : Hp) (a : Addr) (y v : V) (H' : Hp) : Prop :=
  (∃ kvs k, H a = some (.dK kvs) ∧ y = kV k ∧ kvs.length < sizeLine ∧ H' = upd H a (.dK (putK kvs k v))) ∨
  ∃ kvs k b, H a = some (.dT kvs) ∧ y = .ref b ∧ H b = some (.tup (k.map kV)) ∧ kvs.length < sizeLine ∧ H' = upd H a (.dT (putK kvs k v))
theorem DGet.k {H : Hp} {a : Addr} {kvs : List (Key × V)} {k : Key} (e : H a = some (.dK kvs)) : DGet H a (kV k) (valV kvs k) := .inl ⟨kvs, k, .inl e, rfl, rfl⟩
theorem DGet.t {H : Hp} {a b : Addr} {kvs : List (List Key × V)} {k : List Key} (e : H a = some (.dT kvs)) (eb : H b = some (.tup (k.map kV))) : DGet H a (.ref b) (valV kvs k) := .inr ⟨kvs, k, b, .inl e, rfl, eb, rfl⟩
theorem DPut.k {H : Hp} {a : Addr} {kvs : List (Key × V)} {k : Key} {v : V} (e : H a = some (.dK kvs)) (hl : kvs.length < sizeLine) : DPut H a (kV k) v (upd H a (.dK (putK kvs k v))) := .inl ⟨kvs, k, e, rfl, hl, rfl⟩
theorem DPut.t {H : Hp} {a b : Addr} {kvs : List (List Key × V)} {k : List Key} {v : V} (e : H a = some (.dT kvs)) (eb : H b = some (.tup (k.map kV))) (hl : kvs.length < sizeLine) :
    DPut H a (.ref b) v (upd H a (.dT (putK kvs k v))) := .inr ⟨kvs, k, b, e, rfl, eb, hl, rfl⟩


section
variable {X : Cx} {pins : List (Addr × Obj)} {σ : St} {H : Hp} {s : Shared} {a : Addr} {y v : V} {u r : Value} {o : Option V} {A : Around} {E : Value → Shared → Prop}

theorem Inv.big (I : Inv X pins σ H s) : sysModules < s.heap.objs.size := by
  have h : mainGlobals < s.heap.objs.size := (I.mod.glob.keeps I.bk).lt
  exact Nat.lt_trans (by decide) h

/-- d[y], there -/
theorem d_getItem {Q : Value → Shared → Prop} (hu : A.units + 1 < cLine) (I : Inv X pins σ H s) (g : DGet H a y (some v)) (ry : RelV y u) (h : ∀ w' s', Inv X pins σ H s' → RelV v w' → Q w' s') :
    wpAny (model X.prog X.w) A (getItem (.ref a) u) Q E s := by
  rcases g with ⟨kvs, k, e, ey, l⟩ | ⟨kvs, k, b, e, ey, eb, l⟩
  · subst ey
    obtain ⟨z, hd, vs, rel, dd⟩ := dk_rd I.hok e
    obtain ⟨w', hw, rw'⟩ := RelO.some_of (v := v) (o := valueAt vs k) (by rw [l]; exact rel.val k)
    exact wpAny_getItem_of (kV_is ry) dd.mapOf hw (h w' _ (I.tok _) rw')
  · subst ey
    cases (show u = Value.ref b from ry)
    obtain ⟨z, hd, xs, rel, dd⟩ := dt_rd I.hok e
    obtain ⟨w', hw, rw'⟩ := RelO.some_of (v := v) (o := (atKey xs k).map (·.2)) (by rw [l]; exact rel.val k)
    obtain ⟨p, hp, hp2⟩ := Option.map_eq_some_iff.mp hw
    refine wpAny_getItem_heap (tupleKind_room_in1 hu) (key_of I.hok eb) dd hp ?_
    rw [hp2]
    exact h w' _ (I.tok _) rw'
/-- a dict's object is replaced -/
theorem d_write {h' : Heap} {t' : Nat} {ob : HO} (I : Inv X pins σ H s) (mu : Mut (H a)) (hs : Heap.SameBut a s.heap h') (he : ∃ q, h'.get? a = some q) (new : ObjOk X.prog X.w (upd H a ob) h' a ob) :
    Inv X pins σ (upd H a ob) { s with heap := h', toks := t' } :=
  I.write (x := a) (e := a) mu (.inl rfl) (fun b q hb z => (hs.2 b hb).trans z) he new
theorem dk_new {P : Program} {w : World} {H' : Hp} {h' : Heap} {kvs : List (Key × V)} {vs : List (Key × Value)} (z : kvs.length ≤ sizeLine) (hd : (a == sysModules) = false) (rel : KV kvs vs) (dd : h'.DictOf (mixKind P w) a vs) :
    ObjOk P w H' h' a (.dK kvs) := ⟨z, hd, vs, rel, dd⟩
/-- d[y] = v -/
theorem d_setItem {H' : Hp} {Q : Unit → Shared → Prop} (hu : A.units + 1 < cLine) (I : Inv X pins σ H s) (g : DPut H a y v H') (ry : RelV y u) (rv : RelV v r) (h : ∀ s', Inv X pins σ H' s' → Q () s') :
    wpAny (model X.prog X.w) A (setItem (.ref a) u r) Q E s := by
  rcases g with ⟨kvs, k, e, ey, l, eH⟩ | ⟨kvs, k, b, e, ey, eb, l, eH⟩
  · subst ey eH
    obtain ⟨z, hd, vs, rel, dd⟩ := dk_of I.hok e
    have hz : vs.length ≤ sizeLine := by rw [← rel.length]; exact z
    have hl : (putK kvs k v).length ≤ sizeLine := by have := length_putK kvs k v; omega
    refine wpAny_setItem_pairs (hsz := hz) (kV_is ry) dd fun h' dd' hs => h _ ?_
    have he : ∃ q, h'.get? a = some q := let ⟨q, _, _, hq, _⟩ := dd'; ⟨q, hq⟩
    exact d_write I (by rw [e]; exact True.intro) hs he (dk_new hl hd (rel.put k rv) dd')
  · subst ey eH
    cases (show u = Value.ref b from ry)
    obtain ⟨z, hd, xs, rel, dd⟩ := dt_of I.hok e
    have hz : xs.length ≤ sizeLine := by rw [← Paired.length rel]; exact z
    have hl : (putK kvs k v).length ≤ sizeLine := by have := length_putK kvs k v; omega
    refine wpAny_setItem_heap (hsz := hz) (tupleKind_room_in1 hu) (key_of I.hok eb) dd fun h' dd' hs => h _ ?_
    obtain ⟨q, es, ep, hq, h2, h3, h4, _, h5⟩ := dd'
    refine d_write I (by rw [e]; exact True.intro) hs ⟨q, hq⟩ ⟨hl, hd, _, (rel.put k eb rv).keeps fun c ys ec => ?_, q, es, ep, hq, h2, h3, h4, h5⟩
    rw [upd_ne (ne_of ec e (fun z => nomatch z))]
    exact ec
end

section
variable {X : Cx} {pins : List (Addr × Obj)} {σ : St} {H : Hp} {s : Shared} {a : Addr} {kvs : List (Key × V)} {k : Key} {u : Value} {A : Around} {E : Value → Shared → Prop}
/-- d.pop(k[, x]), there -/
theorem d_pop {v : V} {more : List Value} {Q : Value → Shared → Prop} (I : Inv X pins σ H s) (e : H a = some (.dK kvs)) (ry : RelV (kV k) u) (l : valV kvs k = some v) (hm : more = [] ∨ ∃ x, more = [x])
    (h : ∀ w' s', Inv X pins σ (upd H a (.dK (dropK kvs k))) s' → RelV v w' → Q w' s') : wpAny (model X.prog X.w) A (call (.builtin "dict.pop") (.ref a :: u :: more)) Q E s := by
  obtain ⟨z, hd, vs, rel, dd⟩ := dk_of I.hok e
  obtain ⟨w', hw, rw'⟩ := RelO.some_of (v := v) (o := valueAt vs k) (by rw [← l]; exact rel.val k)
  have hp : (keyPart u).isSome = true := by
    cases k with
    | inl i => obtain ⟨t, q⟩ := (show ∃ t, u = Value.int i t from ry); subst q; rfl
    | inr x => obtain ⟨t, q⟩ := (show ∃ t, u = Value.str x t from ry); subst q; rfl
  have ha : argsOk "dict.pop" ⟨.ref a :: u :: more, []⟩ := by
    rcases hm with q | ⟨x, q⟩
    · subst q; exact PySem.F.args_dict_pop_2 _ _
    · subst q; exact PySem.F.args_dict_pop_3 _ _ _
  refine call_meetsIn PySem.F.slot_dict_pop dd.typeIs PySem.F.entry_dict_pop ha (meets_dict_pop_there (mixKind X.prog X.w) a (kV_is ry) more hm hp)
    ⟨vs, w', dd, by rw [← rel.length]; exact z, hw, fun h' dd' hs => h w' _ ?_ rw'⟩
  have he : ∃ q, h'.get? a = some q := let ⟨q, _, _, hq, _⟩ := dd'; ⟨q, hq⟩
  exact d_write I (by rw [e]; exact True.intro) hs he (dk_new (Nat.le_trans (dropK_le kvs k) z) hd (rel.drop k) dd')
/-- d.pop(k, x), not there -/
theorem d_popD {r : Value} {Q : Value → Shared → Prop} (I : Inv X pins σ H s) (e : H a = some (.dK kvs)) (ry : RelV (kV k) u) (l : valV kvs k = none) (h : ∀ s', Inv X pins σ H s' → Q r s') :
    wpAny (model X.prog X.w) A (call (.builtin "dict.pop") [.ref a, u, r]) Q E s := by
  obtain ⟨z, hd, vs, rel, dd⟩ := dk_of I.hok e
  have hn : valueAt vs k = none := RelO.none_of (by rw [← l]; exact rel.val k)
  have hp : (keyPart u).isSome = true := by
    cases k with
    | inl i => obtain ⟨t, q⟩ := (show ∃ t, u = Value.int i t from ry); subst q; rfl
    | inr x => obtain ⟨t, q⟩ := (show ∃ t, u = Value.str x t from ry); subst q; rfl
  exact call_meetsIn PySem.F.slot_dict_pop dd.typeIs PySem.F.entry_dict_pop (PySem.F.args_dict_pop_3 _ _ _) (meets_dict_pop_default (mixKind X.prog X.w) a (kV_is ry) hd hp r) ⟨vs, dd, hn, h _ (I.tok _)⟩
end


/-! ### readings and rules -/
/-- the element of a subscription, not a slice -/
def NoSl (i : Expr) : Prop := ∀ ov iv, subscripted i false ov iv = operate [ov, iv] (getItem ov iv)
theorem subD_of {prog : Program} {w : World} {A : Around} {E : Value → Shared → Prop} {s : Shared} {env : Env} {value slice : Expr} {pos : Pos} {T id : String} {Q : Value → Shared → Prop}
    (hl : typeLookup (.type T) "__getitem__" = pure (some (.builtin id))) (hs : NoSl slice)
    (h : wpAny (model prog w) A (eval value env) (fun o s₁ => wpAny (model prog w) A (eval slice env) (fun i s₂ => s₂.TypeIs o T ∧ wpAny (model prog w) A (getItem o i) Q E s₂) E s₁) E s) :
    wpAny (model prog w) A (eval (.Subscript value slice pos) env) Q E s := by
  refine Subscript_ (wpAny_mono h (fun o s₁ h₁ => wpAny_mono h₁ (fun i s₂ h₂ => ?_) fun _ _ x => x) fun _ _ x => x)
  obtain ⟨hT, h₂⟩ := h₂
  unfold subscriptTail
  refine wpAny_bind ?_
  rw [getitemInPython_of_ne hT.not_modules]
  refine wpAny_bind (wpAny_specialOf hT hl ?_)
  have fin : wpAny (model prog w) A (subscripted slice false o i) (fun r s₃ => wpAny (model prog w) A (letTemporaryGo value o r >>= fun _ => pure r) Q E s₃) E s₂ := by
    rw [hs o i]
    exact wpAny_operating (wpAny_mono h₂ (fun r s₃ h₃ => wpAny_bind (wpAny_letTemporaryGo (wpAny_pure h₃))) fun _ _ x => x)
  first
    | exact wpAny_pure (wpAny_bind fin)
    | exact wpAny_bind (wpAny_pure (wpAny_bind fin))
    | exact wpAny_bind fin

theorem dict_typeIs {X : Cx} {pins : List (Addr × Obj)} {σ : St} {H : Hp} {s : Shared} {a : Addr} {y : V} {o : Option V} (I : Inv X pins σ H s) (g : DGet H a y o) : s.TypeIs (.ref a) "dict" := by
  rcases g with ⟨kvs, k, e, _, _⟩ | ⟨kvs, k, b, e, _, _, _⟩
  · obtain ⟨_, _, vs, _, dd⟩ := dk_rd I.hok e
    exact dd.typeIs
  · obtain ⟨_, _, xs, _, dd⟩ := dt_rd I.hok e
    exact dd.typeIs
/-- d[y] -/
def tDGet (td ty : TE) : TE := fun σ H Q => td σ H fun x H1 => ty σ H1 fun y H2 => ∃ a v, x = .ref a ∧ DGet H2 a y (some v) ∧ Q v H2
/-- y in d, y not in d -/
def tDIn (ty td : TE) : TE := fun σ H Q => ty σ H fun y H1 => td σ H1 fun x H2 => ∃ a o, x = .ref a ∧ DGet H2 a y o ∧ Q (.bl o.isSome) H2
def tDNotIn (ty td : TE) : TE := fun σ H Q => ty σ H fun y H1 => td σ H1 fun x H2 => ∃ a o, x = .ref a ∧ DGet H2 a y o ∧ Q (.bl (!o.isSome)) H2
/-- d[y] = v -/
def sDPut (td ty tv : TE) : TS := fun D σ H => tv σ H fun v H1 => td σ H1 fun x H2 => ty σ H2 fun y H3 => ∃ a H4, x = .ref a ∧ DPut H3 a y v H4 ∧ D.nx σ H4
/-- d[y] op= v -/
def sDAug (td ty tv : TE) (rd : V → V → Hp → VK → Prop) : TS := fun D σ H => td σ H fun x H1 => ty σ H1 fun y H2 => ∃ a v, x = .ref a ∧ DGet H2 a y (some v) ∧
  tv σ H2 fun y2 H3 => rd v y2 H3 fun z H4 => ∃ H5, DPut H4 a y z H5 ∧ D.nx σ H5
/-- del d[y] -/
def sDDel (td ty : TE) : TS := fun D σ H => td σ H fun x H1 => ty σ H1 fun y H2 => ∃ a kvs k, x = .ref a ∧ H2 a = some (.dK kvs) ∧ y = kV k ∧ (valV kvs k).isSome = true ∧ D.nx σ (upd H2 a (.dK (dropK kvs k)))

section
variable {X : Cx} {o i e value : Expr} {pos pos' tpos : Pos} {td ty tv : TE}
theorem pe_dget (hu : X.A.units + 1 < cLine) (ho : PE X o td) (hi : PE X i ty) (hs : NoSl i) : PE X (.Subscript o i pos) (tDGet td ty) := by
  intro pins s σ H Q I h
  refine subD_of PySem.F.slot_dict_getitem.lookup hs (thn (ho pins s σ H _ I h) fun u s1 ⟨x, H1, I1, rx, q1⟩ => thn (hi pins s1 σ H1 _ I1 q1) fun iv s2 ⟨y, H2, I2, ry, a, v, ex, g, q2⟩ => ?_)
  subst ex
  obtain rfl : u = Value.ref a := rx
  exact ⟨dict_typeIs I2 g, d_getItem hu I2 g ry fun w' s3 I3 rw' => ⟨v, H2, I3, rw', q2⟩⟩
theorem ps_dput (hu : X.A.units + 1 < cLine) (ho : PE X o td) (hi : PE X i ty) (hv : PE X value tv) (hs : swapsWith value (some (.Subscript o i pos')) pos.line X.env = pure false) :
    PS X (.Assign [.Subscript o i pos'] value pos) (sDPut td ty tv) := by
  intro pins s σ H D I h
  refine wpAny_Assign_Subscript (thn (hv pins s σ H _ I h) fun r s1 ⟨v, H1, I1, rv, q1⟩ => thn (ho pins s1 σ H1 _ I1 q1) fun u s2 ⟨x, H2, I2, rx, q2⟩ => thn (hi pins s2 σ H2 _ I2 q2) fun iv s3 ⟨y, H3, I3, ry, a, H4, ex, g, q3⟩ => ?_) hs
  subst ex
  obtain rfl : u = Value.ref a := rx
  exact d_setItem hu I3 g ry rv fun s4 I4 => ⟨σ, H4, I4, q3⟩
end


/-! ### displays -/
theorem dk_empty {P : Program} {w : World} {H : Hp} (h : Heap) (hb : sysModules < h.objs.size) : ObjOk P w H (h.push { cls := .type "dict", data := .dict #[] }) h.objs.size (.dK []) :=
  ⟨Nat.zero_le _, beq_eq_false_iff_ne.mpr (Ne.symm (Nat.ne_of_lt hb)), [], .nil, Heap.DictOf.new h⟩
/-- {}, to be a dict of the kind that is wanted -/
def tDNewK : TE := fun _ H Q => ∀ p, H p = none → Q (.ref p) (upd H p (.dK []))
def tDNewT : TE := fun _ H Q => ∀ p, H p = none → Q (.ref p) (upd H p (.dT []))
section
variable {X : Cx} {pos : Pos}
theorem pe_dnewK : PE X (.Dict [] [] pos) tDNewK := fun pins s σ H Q I h =>
  wpAny_Dict_empty ⟨.ref s.heap.objs.size, _, I.laid (a := s.heap.objs.size) (o := .dK []) (t' := s.toks) (fun _ _ q => Heap.get?_push_of_some _ q) (Nat.le_refl _) (dk_empty s.heap I.big), rfl, h _ (I.hok.fresh (Nat.le_refl _))⟩
end

/-- the pairs of a display, from the left -/
def tPairs : List (TE × TE) → St → Hp → (List (V × V) → Hp → Prop) → Prop
  | [], _, H, Q => Q [] H
  | (tk, tv) :: r, σ, H, Q => tk σ H fun x H1 => tv σ H1 fun y H2 => tPairs r σ H2 fun ps H3 => Q ((x, y) :: ps) H3
abbrev VV : List (V × V) → List (Value × Value) → Prop := Paired fun p q => RelV p.1 q.1 ∧ RelV p.2 q.2
def PPs (X : Cx) (pos : Pos) (keys : List (Option Expr)) (values : List Expr) (trs : List (TE × TE)) : Prop :=
  ∀ (pins : List (Addr × Obj)) (s : Shared) (σ : St) (H : Hp) (Q : List (V × V) → Hp → Prop), Inv X pins σ H s → tPairs trs σ H Q →
    wpAny (model X.prog X.w) X.A (evalPairs (pairTrees keys values X.env pos)) (fun vs s' => ∃ ps H', Inv X pins σ H' s' ∧ VV ps vs ∧ Q ps H') X.xe s
def mergeK (kvs more : List (Key × V)) : List (Key × V) := more.foldl (fun acc kv => putK acc kv.1 kv.2) kvs
/-- {k: v, ..} with keys ints and texts; the new dict stands empty while the pairs are made -/
def tDisp (trs : List (TE × TE)) : TE := fun σ H Q => ∀ p, H p = none → tPairs trs σ (upd H p (.dK [])) fun ps H2 => H2 p = some (.dK []) ∧ ∃ kvs : List (Key × V), ps = kvs.map (fun kv => (kV kv.1, kv.2)) ∧ kvs.length ≤ 15 ∧ Q (.ref p) (upd H2 p (.dK (mergeK [] kvs)))
/-! ### methods -/
/-- a method call o.m(e) of a built-in, with one argument: what must be seen of the text -/
structure M1 (X : Cx) (o : Expr) (m : Str) (apos : Pos) (e : Expr) (cpos : Pos) : Prop where
  base : attributeBase o m X.env (eval o X.env) = eval o X.env
  few : ((backTo cpos (starEach [e] X.env)).all (fun x => !x.1) && (backToKw cpos (keywordEach [] X.env)).all (fun x => x.1.isSome)
    && decide (([e] : List Expr).length + ([] : List Keyword).length + (if ([] : List Keyword).isEmpty then 0 else 1) < 30)) = true
  line : (apos.endLine == cpos.line) = true
  trees : backTo cpos (starEach [e] X.env) = [(false, eval e X.env)]
structure M2 (X : Cx) (o : Expr) (m : Str) (apos : Pos) (e f : Expr) (cpos : Pos) : Prop where
  base : attributeBase o m X.env (eval o X.env) = eval o X.env
  few : ((backTo cpos (starEach [e, f] X.env)).all (fun x => !x.1) && (backToKw cpos (keywordEach [] X.env)).all (fun x => x.1.isSome)
    && decide (([e, f] : List Expr).length + ([] : List Keyword).length + (if ([] : List Keyword).isEmpty then 0 else 1) < 30)) = true
  line : (apos.endLine == cpos.line) = true
  trees : backTo cpos (starEach [e, f] X.env) = [(false, eval e X.env), (false, eval f X.env)]

/-- a is a dict, whatever its keys -/
def IsD (H : Hp) (a : Addr) : Prop := (∃ kvs, Rd H a (.dK kvs)) ∨ ∃ kvs, Rd H a (.dT kvs)
theorem isD_at {X : Cx} {pins : List (Addr × Obj)} {σ : St} {H : Hp} {s : Shared} {a : Addr} (I : Inv X pins σ H s) (d : IsD H a) :
    s.TypeIs (.ref a) "dict" ∧ (∀ b, Value.ref a = .ref b → ∃ ob, s.heap.get? b = some ob ∧ ob.dict = none) ∧ (a == sysModules) = false := by
  rcases d with ⟨kvs, e⟩ | ⟨kvs, e⟩
  · obtain ⟨_, hd, vs, _, dd⟩ := dk_rd I.hok e
    refine ⟨dd.typeIs, fun b q => ?_, hd⟩
    cases q
    obtain ⟨ob, _, _, h1, h2, _⟩ := dd
    exact ⟨ob, h1, h2.2.1⟩
  · obtain ⟨_, hd, xs, _, dd⟩ := dt_rd I.hok e
    refine ⟨dd.typeIs, fun b q => ?_, hd⟩
    cases q
    obtain ⟨ob, _, _, h1, h2, _⟩ := dd
    exact ⟨ob, h1, h2.2.1⟩

section
variable {X : Cx} {pins : List (Addr × Obj)} {σ : St} {H : Hp} {s : Shared} {a : Addr} {y d : V} {u r : Value} {o : Option V} {A : Around} {E : Value → Shared → Prop}
/-- d.get(y, x) -/
theorem d_get2 {Q : Value → Shared → Prop} (hu : A.units + 1 < cLine) (I : Inv X pins σ H s) (g : DGet H a y o) (ry : RelV y u) (rd : RelV d r) (h : ∀ w' s', Inv X pins σ H s' → RelV (o.getD d) w' → Q w' s') :
    wpAny (model X.prog X.w) A (call (.builtin "dict.get") [.ref a, u, r]) Q E s := by
  rcases g with ⟨kvs, k, e, ey, l⟩ | ⟨kvs, k, b, e, ey, eb, l⟩
  · subst ey
    obtain ⟨z, hd, vs, rel, dd⟩ := dk_rd I.hok e
    refine call_meetsIn PySem.F.slot_dict_get dd.typeIs PySem.F.entry_dict_get (PySem.F.args_dict_get_3 _ _ _) (meets_dict_get_default (mixKind X.prog X.w) a (kV_is ry) hd r) ⟨_, dd.mapOf, h _ _ (I.tok _) ?_⟩
    rw [l]
    exact (rel.val k).getD rd
  · subst ey
    cases (show u = Value.ref b from ry)
    obtain ⟨z, hd, xs, rel, dd⟩ := dt_rd I.hok e
    refine call_meetsIn PySem.F.slot_dict_get dd.typeIs PySem.F.entry_dict_get (PySem.F.args_dict_get_3 _ _ _) (meetsH_dict_get_default (tupleKind (mixKind X.prog X.w)) a b hd r) ⟨tupleKind_room_in1 hu, k, xs, key_of I.hok eb, dd, h _ _ (I.tok _) ?_⟩
    rw [l]
    exact (rel.val k).getD rd
end

def tDGet1 (td ty : TE) : TE := fun σ H Q => td σ H fun x H1 => ∃ a, x = .ref a ∧ IsD H1 a ∧ ty σ H1 fun y H2 => ∃ o, DGet H2 a y o ∧ Q (o.getD .non) H2
def tDGet2 (td ty tx : TE) : TE := fun σ H Q => td σ H fun x H1 => ∃ a, x = .ref a ∧ IsD H1 a ∧ ty σ H1 fun y H2 => tx σ H2 fun z H3 => ∃ o, DGet H3 a y o ∧ Q (o.getD z) H3
/-- d.pop(k): there; d.pop(k, x): there or not -/
def tDPop1 (td ty : TE) : TE := fun σ H Q => td σ H fun x H1 => ∃ a, x = .ref a ∧ IsD H1 a ∧ ty σ H1 fun y H2 => ∃ kvs k v, H2 a = some (.dK kvs) ∧ y = kV k ∧ valV kvs k = some v ∧ Q v (upd H2 a (.dK (dropK kvs k)))
def tDPop2 (td ty tx : TE) : TE := fun σ H Q => td σ H fun x H1 => ∃ a, x = .ref a ∧ IsD H1 a ∧ ty σ H1 fun y H2 => tx σ H2 fun z H3 => ∃ kvs k, H3 a = some (.dK kvs) ∧ y = kV k ∧
  (∀ v, valV kvs k = some v → Q v (upd H3 a (.dK (dropK kvs k)))) ∧ (valV kvs k = none → Q z H3)
section
variable {X : Cx} {o e f : Expr} {apos cpos : Pos} {td ty tx : TE}
theorem pe_dpop2 (ho : PE X o td) (he : PE X e ty) (hf : PE X f tx) (m : M2 X o "pop" apos e f cpos) : PE X (.Call (.Attribute o "pop" apos) [e, f] [] cpos) (tDPop2 td ty tx) := by
  intro pins s σ H Q I h
  refine wpAny_Call_method m.base m.few m.line PySem.F.plainAttrs_dict PySem.F.slot_dict_pop PySem.F.type_dict_pop (thn (ho pins s σ H _ I h) fun u s1 ⟨x, H1, I1, rx, a, ex, d, q1⟩ => ?_)
  subst ex
  obtain rfl : u = Value.ref a := rx
  obtain ⟨t1, t2, _⟩ := isD_at I1 d
  refine ⟨t1, t2, ?_⟩
  rw [m.trees]
  refine Calls.callWith_builtin rfl (Calls.evalArgs_plain (Calls.spliced_cons (thn (he pins s1 σ H1 _ I1 q1) fun iv s2 ⟨y, H2, I2, ry, q2⟩ =>
    Calls.spliced_cons (thn (hf pins s2 σ H2 _ I2 q2) fun fv s3 ⟨z, H3, I3, rz, kvs, k, ea, ey, q3, q4⟩ => Calls.spliced_nil ?_))))
  subst ey
  cases l : valV kvs k with
  | some v => exact d_pop I3 ea ry l (.inr ⟨fv, rfl⟩) fun w' s4 I4 rw' => ⟨v, _, I4, rw', q3 v l⟩
  | none => exact d_popD I3 ea ry l fun s4 I4 => ⟨z, H3, I4, rz, q4 l⟩
end

/-! ### dict(d): a copy -/
section
variable {X : Cx} {pins : List (Addr × Obj)} {σ : St} {H : Hp} {s : Shared} {a : Addr} {kvs : List (Key × V)} {A : Around} {E : Value → Shared → Prop}
end


section
variable {X : Cx} {pins : List (Addr × Obj)} {σ : St} {H : Hp} {s : Shared} {a : Addr} {y : V} {u : Value} {A : Around} {E : Value → Shared → Prop}
end
end L2
namespace L2
open PySem PySem.Spec PyProof.Rows
section
variable {X : Cx}
end
section
variable {κ : Type} [DecidableEq κ]
theorem valV_in {kvs : List (κ × V)} {k : κ} {v : V} (h : valV kvs k = some v) : k ∈ kvs.map (·.1) := by
  have q : (kvs.any fun kv => decide (kv.1 = k)) = true := by
    rw [valV_any, h]
    all_goals rfl
  obtain ⟨p, hp, e⟩ := List.any_eq_true.mp q
  exact List.mem_map.mpr ⟨p, hp, of_decide_eq_true e⟩
theorem dropK_pos {p : κ × V} {r : List (κ × V)} {k : κ} (e : p.1 = k) : dropK (p :: r) k = dropK r k := by
  unfold dropK
  rw [List.filter_cons, if_neg (by simp [e])]
theorem dropK_neg {p : κ × V} {r : List (κ × V)} {k : κ} (e : ¬ p.1 = k) : dropK (p :: r) k = p :: dropK r k := by
  unfold dropK
  rw [List.filter_cons, if_pos (by simp [e])]
end
end L2

set_option Elab.async false
set_option linter.all false
set_option maxRecDepth 100000
namespace L2
open PySem PySem.Spec PyProof.Rows
section
variable {X : Cx}
/-! ### more of ints -/
theorem op_mulB : OpR X (binaryOp .Mult) (rI IntMulOk fun i j => .int (i * j)) := opI fun _ _ _ _ _ _ _ hc q => mul_int q hc
def CDivB (_i j : Int) : Prop := 0 < j ∧ j.natAbs.log2 < 9000
theorem op_fdivB : OpR X (binaryOp .FloorDiv) (rI CDivB fun i j => .int (i / j)) := opI fun i j _ _ _ _ _ hc q => by
  have h1 : (0 : Int) < j := hc.1
  exact floordiv_int (by omega) (by rw [Int.fdiv_eq_ediv_of_nonneg i (by omega)]; exact q) (.inl (PyProof.noPylong_of_log2 hc.2))
/-! ### isinstance by a builtin type -/
def rIsi (K : PySem.W.Frag) : List V → Hp → VK → Prop := fun xs H Q => ∃ x T t b, xs = [x, .ty T] ∧ TyOf K H x t ∧ PySem.W.kitOne K t (.type T) = some b ∧ Q (.bl b) H
/-! ### a call of a def of the text -/
structure Own (P : Program) (w : World) (K : PySem.W.Frag) (mg : Str → Option Value) (base : Heap) (x : Str) (k : Nat) (ps : List Str) (sp : Sp) : Prop where
  ex : ∃ f fd, FnOk P w K mg base CX0 k f fd ps sp ∧ mg x = some (.ref f) ∧ PySem.W.keepIn K (.ref f) = true ∧ Binds K fd ps []
variable {x : Str} {k : Nat} {ps : List Str} {sp : Sp} {e : Expr} {es : List Expr} {t : TA} {p pos : Pos}
theorem pe_own (o : Own X.prog X.w X.K X.mg X.base x k ps sp) (hr : Room k X.A) (hg : Gl X x) (ha : PA X (e :: es) t)
    (hdb : (x == ("__debug__" : Str)) = false := by decide) (he : starEach (e :: es) X.env = (false, eval e X.env) :: starEach es X.env := by rfl)
    (hpl : (backTo pos (starEach es X.env)).any (·.1) = false := by rfl) : PE X (.Call (.Name x p) (e :: es) [] pos) (tCall sp [] E0 t) := by
  obtain ⟨f, fd, F, hm, hk, hb⟩ := o.ex
  exact pe_call F hr hg hm hk hb .nil pass0 ha hdb he hpl
end
theorem at0 {α : Type} {x : α} {xs : List α} : atI (x :: xs) 0 = some x := atI_nat (j := 0) rfl
theorem at1 {α : Type} {x y : α} {xs : List α} : atI (x :: y :: xs) 1 = some y := atI_nat (j := 1) rfl
theorem at2 {α : Type} {x y z : α} {xs : List α} : atI (x :: y :: z :: xs) 2 = some z := atI_nat (j := 2) rfl
/-- an index that lies in the list -/
theorem at_in {α : Type} {xs : List α} {i : Int} (h0 : 0 ≤ i) (h1 : i < xs.length) : ∃ v, atI xs i = some v ∧ v ∈ xs := by
  obtain ⟨j, rfl⟩ : ∃ j : Nat, i = j := ⟨i.toNat, by omega⟩
  have hj : j < xs.length := by omega
  exact ⟨xs[j], atI_nat (by simp [hj]), List.getElem_mem hj⟩
theorem bt_len : bootBuiltins "len" = some (.builtin "len") := by decide +kernel
theorem bt_min : bootBuiltins "min" = some (.builtin "min") := by decide +kernel
theorem bt_max : bootBuiltins "max" = some (.builtin "max") := by decide +kernel
theorem bt_int : bootBuiltins "int" = some (.type "int") := by decide +kernel
theorem bt_tuple : bootBuiltins "tuple" = some (.type "tuple") := by decide +kernel
theorem bt_list : bootBuiltins "list" = some (.type "list") := by decide +kernel

/-! ### the laws' bag of draws -/
def Bag (H : Hp) (b : Addr) : Prop := ∃ x y : Int, H b = some (.lst [.int x, .int y]) ∧ 0 ≤ y ∧ y < 2147483648
/-- all that was tracked is as it was, but what stands at b -/
def Fix (b : Addr) (H H' : Hp) : Prop := ∀ c o, H c = some o → c ≠ b → H' c = some o
theorem Fix.refl (b : Addr) (H : Hp) : Fix b H H := fun _ _ h _ => h
theorem Fix.trans {b : Addr} {H H1 H2 : Hp} (u : Fix b H H1) (v : Fix b H1 H2) : Fix b H H2 := fun c o h n => v c o (u c o h n) n
theorem Fix.upd_b {b : Addr} {H : Hp} {o : HO} : Fix b H (upd H b o) := fun c u h n => by rw [upd_ne n]; exact h
theorem Fix.new {b p : Addr} {H : Hp} {o : HO} (hp : H p = none) : Fix b H (upd H p o) := fun c u h _ => by rw [upd_ne (ne_of_none h hp)]; exact h
theorem Fix.of_same {b : Addr} {H H' : Hp} (h : Same H H') : Fix b H H' := fun c o e _ => h c o e
theorem Same.new {p : Addr} {H : Hp} {o : HO} (hp : H p = none) : Same H (upd H p o) := fun c u h => by rw [upd_ne (ne_of_none h hp)]; exact h
theorem Bag.new {b p : Addr} {H : Hp} {o : HO} (h : Bag H b) (hp : H p = none) : Bag (upd H p o) b := by
  obtain ⟨x, y, e, q⟩ := h
  exact ⟨x, y, by rw [upd_ne (ne_of_none e hp)]; exact e, q⟩
theorem Bag.same {b : Addr} {H H' : Hp} (h : Bag H b) (s : Same H H') : Bag H' b := by
  obtain ⟨x, y, e, q⟩ := h
  exact ⟨x, y, s _ _ e, q⟩
theorem ln1 {α : Type} {x0 : α} : [x0].length ≤ sizeLine := by show 1 ≤ sizeLine; decide
theorem ln2 {α : Type} {x0 x1 : α} : [x0, x1].length ≤ sizeLine := by show 2 ≤ sizeLine; decide
theorem ln3 {α : Type} {x0 x1 x2 : α} : [x0, x1, x2].length ≤ sizeLine := by show 3 ≤ sizeLine; decide
theorem ln5 {α : Type} {x0 x1 x2 x3 x4 : α} : [x0, x1, x2, x3, x4].length ≤ sizeLine := by show 5 ≤ sizeLine; decide
theorem ln7 {α : Type} {x0 x1 x2 x3 x4 x5 x6 : α} : [x0, x1, x2, x3, x4, x5, x6].length ≤ sizeLine := by show 7 ≤ sizeLine; decide
theorem Same.of_fix {b : Addr} {H H1 H2 : Hp} (s : Same H H1) (n : H b = none) (f : Fix b H1 H2) : Same H H2 := fun c o e => f c o (s c o e) (ne_of_none e n)
theorem Bag.ne_tup {b p : Addr} {H : Hp} {xs : List V} (h : Bag H b) (e : H p = some (.tup xs)) : p ≠ b := by
  obtain ⟨x, y, e1, _⟩ := h
  exact ne_of e e1 (by intro z; cases z)
theorem Bag.ne_new {b p : Addr} {H : Hp} (h : Bag H b) (e : H p = none) : p ≠ b := by
  obtain ⟨x, y, e1, _⟩ := h
  exact fun z => ne_of_none e1 e z.symm
/-- numbers -/
theorem c10 {i j : Int} (h1 : i = 10) (h2 : 0 ≤ j) (h3 : j ≤ 1000) : CPow i j := by subst h1; exact ⟨h2, by omega, by decide⟩
/-- _law_bag -/
def spBag (K : PySem.W.Frag) : Sp := fun vs H Q _ => ∃ (a : Addr) (ns : List Int) (k : Int), vs = [.ref a, .int k] ∧ SqL K H a (ns.map V.int) ∧ 0 ≤ k ∧
  ∀ b H', H b = none → Bag H' b → Same H H' → Q (.ref b) H'
/-- _law_take -/
def spTake : Sp := fun vs H Q _ => ∃ (b : Addr) (m : Int), vs = [.ref b, .int m] ∧ Bag H b ∧ (0 < m ∧ m.natAbs.log2 < 9000) ∧
  ∀ r H', 0 ≤ r → r < m → Bag H' b → Fix b H H' → Q (.int r) H'
def spLaw (K : PySem.W.Frag) : Sp := fun vs H Q _ => ∃ (a : Addr) (ns : List Int), vs = [.ref a] ∧ SqL K H a (ns.map V.int) ∧ ns.length ≤ 63 ∧ ∀ H', Q (.bl true) H'
end L2

set_option Elab.async false
set_option linter.all false
set_option maxRecDepth 100000
namespace L2
open PySem PySem.Spec PyProof.Rows
/-! ### comprehensions: the cells that a block takes along -/
def clF (cells : List (Str × Addr)) : List (Str × NameKind) → List (Str × Addr) → List (Str × Addr)
  | [], cs => cs
  | (n, k) :: r, cs => clF cells r (if k == .free then (n, (cells.lookup n).getD 0) :: cs else cs)
theorem closure_eq {scope : Scope} {env : Env} (hf : ∀ y ∈ scope.names, y.2 = .free → ∃ c, env.cells.lookup y.1 = some c) : closureFor scope env = pure (clF env.cells scope.names []) := by
  have key : ∀ (names : List (Str × NameKind)) (cs : List (Str × Addr)), (∀ y ∈ names, y.2 = .free → ∃ c, env.cells.lookup y.1 = some c) →
      (forIn names cs fun x r => match x with
        | (name, kind) => if (kind == NameKind.free) = true then (do let a ← cellOf env name; pure (ForInStep.yield ((name, a) :: r))) else pure (ForInStep.yield r) : Sem (List (Str × Addr))) = pure (clF env.cells names cs) := by
    intro names
    induction names with
    | nil => intro cs _; rfl
    | cons y r ih =>
      intro cs hy
      obtain ⟨n, k⟩ := y
      have ih' := fun cs => ih cs fun z hz => hy z (List.mem_cons_of_mem _ hz)
      rw [List.forIn_cons]
      by_cases hk : (k == NameKind.free) = true
      · have e : k = .free := by simpa using hk
        obtain ⟨c, hc⟩ := hy (n, k) List.mem_cons_self e
        have hc' : env.cells.lookup n = some c := hc
        simp only [hk, if_true, cellOf, hc', pure_bind, clF, Option.getD_some]
        exact ih' _
      · have hk' : (k == NameKind.free) = false := by simpa using hk
        simp only [hk', Bool.false_eq_true, if_false, pure_bind, clF]
        exact ih' _
  unfold closureFor
  have e := key scope.names [] hf
  show ((forIn scope.names ([] : List (Str × Addr)) fun x r => match x with
        | (name, kind) => if (kind == NameKind.free) = true then (do let a ← cellOf env name; pure (ForInStep.yield ((name, a) :: r))) else pure (ForInStep.yield r) : Sem (List (Str × Addr))) >>= fun r => pure r) = _
  rw [e, pure_bind]
theorem clF_agree {cells : List (Str × Addr)} : ∀ (names : List (Str × NameKind)) (cs : List (Str × Addr)), (∀ y ∈ names, y.2 = .free → ∃ c, cells.lookup y.1 = some c) →
    (∀ x c, cs.lookup x = some c → cells.lookup x = some c) → ∀ x c, (clF cells names cs).lookup x = some c → cells.lookup x = some c
  | [], _, _, h, x, c, e => h x c e
  | (n, k) :: r, cs, hf, h, x, c, e => by
    refine clF_agree r _ (fun y hy => hf y (List.mem_cons_of_mem _ hy)) (fun z d hz => ?_) x c e
    by_cases hk : (k == NameKind.free) = true
    · rw [if_pos hk] at hz
      obtain ⟨c', hc⟩ := hf (n, k) List.mem_cons_self (by simpa using hk)
      have hc' : cells.lookup n = some c' := hc
      rw [List.lookup_cons] at hz
      cases hzn : z == n with
      | true =>
        rw [hzn] at hz
        have : z = n := by simpa using hzn
        subst this
        rw [hc'] at hz ⊢
        simpa using hz
      | false => rw [hzn] at hz; exact h z d hz
    · rw [if_neg hk] at hz; exact h z d hz
theorem clF_has {cells : List (Str × Addr)} {x : Str} : ∀ (names : List (Str × NameKind)) (cs : List (Str × Addr)), ((x, NameKind.free) ∈ names ∨ ∃ c, cs.lookup x = some c) → ∃ c, (clF cells names cs).lookup x = some c
  | [], _, h => by
    rcases h with h | h
    · cases h
    · exact h
  | (n, k) :: r, cs, h => by
    refine clF_has r _ ?_
    by_cases hk : (k == NameKind.free) = true
    · rw [if_pos hk]
      cases hxn : x == n with
      | true => exact .inr ⟨_, by rw [List.lookup_cons, hxn]⟩
      | false =>
        rcases h with h | ⟨c, h⟩
        · rcases List.mem_cons.mp h with h | h
          · have : x = n := (Prod.mk.inj h).1
            subst this
            simp at hxn
          · exact .inl h
        · exact .inr ⟨c, by rw [List.lookup_cons, hxn]; exact h⟩
    · rw [if_neg hk]
      rcases h with h | h
      · rcases List.mem_cons.mp h with h | h
        · have : NameKind.free = k := (Prod.mk.inj h).2
          subst this
          simp at hk
        · exact .inl h
      · exact .inr h
theorem relabel_back {env : Env} {x : Str} {k : NameKind} (hk : k = .cell ∨ k = .free) : ∀ {names : List (Str × NameKind)}, (∀ y ∈ names, y.2 ≠ .cell) →
    (names.map fun (n, k) => if (k == NameKind.free && env.scope.kind == .function && env.kindOf n == some .cell) then (n, NameKind.cell) else (n, k)).lookup x = some k → (x, NameKind.free) ∈ names
  | [], _, h => by simp at h
  | (n, q) :: r, hc, h => by
    have ih := relabel_back (env := env) (x := x) hk (names := r) (fun y hy => hc y (List.mem_cons_of_mem _ hy))
    have h' : List.lookup x ((if (q == NameKind.free && env.scope.kind == .function && env.kindOf n == some .cell) = true then (n, NameKind.cell) else (n, q)) :: _) = some k := h
    by_cases hq : (q == NameKind.free && env.scope.kind == .function && env.kindOf n == some .cell) = true
    · rw [if_pos hq, List.lookup_cons] at h'
      have eq : q = .free := by
        rw [Bool.and_eq_true, Bool.and_eq_true] at hq
        simpa using hq.1.1
      cases hxn : x == n with
      | true =>
        have : x = n := by simpa using hxn
        subst this; subst eq
        exact List.mem_cons_self
      | false => rw [hxn] at h'; exact List.mem_cons_of_mem _ (ih h')
    · rw [if_neg hq, List.lookup_cons] at h'
      cases hxn : x == n with
      | true =>
        rw [hxn] at h'
        have : x = n := by simpa using hxn
        subst this
        have e : q = k := Option.some.inj h'
        subst e
        rcases hk with hk | hk
        · exact absurd hk (hc (x, q) List.mem_cons_self)
        · subst hk; exact List.mem_cons_self
      | false => rw [hxn] at h'; exact List.mem_cons_of_mem _ (ih h')
theorem relabel_free {env : Env} {x : Str} : ∀ {names : List (Str × NameKind)}, names.lookup x = some .free →
    (names.map fun (n, k) => if (k == NameKind.free && env.scope.kind == .function && env.kindOf n == some .cell) then (n, NameKind.cell) else (n, k)).lookup x = some .cell ∨
    (names.map fun (n, k) => if (k == NameKind.free && env.scope.kind == .function && env.kindOf n == some .cell) then (n, NameKind.cell) else (n, k)).lookup x = some .free
  | [], h => by simp at h
  | (n, q) :: r, h => by
    have ih := relabel_free (env := env) (x := x) (names := r)
    show List.lookup x ((if (q == NameKind.free && env.scope.kind == .function && env.kindOf n == some .cell) = true then (n, NameKind.cell) else (n, q)) :: _) = some .cell ∨
      List.lookup x ((if (q == NameKind.free && env.scope.kind == .function && env.kindOf n == some .cell) = true then (n, NameKind.cell) else (n, q)) :: _) = some .free
    rw [List.lookup_cons] at h
    by_cases hq : (q == NameKind.free && env.scope.kind == .function && env.kindOf n == some .cell) = true
    · rw [if_pos hq, List.lookup_cons]
      cases hxn : x == n with
      | true => exact .inl rfl
      | false => rw [hxn] at h; exact ih h
    · rw [if_neg hq, List.lookup_cons]
      cases hxn : x == n with
      | true => rw [hxn] at h; exact .inr h
      | false => rw [hxn] at h; exact ih h

/-- the block's context -/
def blkCx (X : Cx) (scope : Scope) (C : Addr) (N' : List Str) (fp : List Addr) (s₁ : Shared) (H₁ : Hp) : Cx where
  prog := X.prog
  w := X.w
  K := X.K
  mg := X.mg
  base := X.base
  A := X.A
  N := N'
  s₀ := s₁
  H₀ := H₁
  env := compEnvC scope (clF X.env.cells scope.names []) C X.env
  outer := X.stack
  stack := X.stack
  ex := fp
  fn := fun _ => false
  calm := X.calm
  pn := []
  xe := fun _ _ => False
/-- the names that the block takes from outside: their places outside -/
def FrOk (X : Cx) (scope : Scope) : List Str → List Nat → Prop
  | [], [] => True
  | x :: fr, j :: js => (X.N[j]? = some x ∧ (X.env.kindOf x = some .cell ∨ X.env.kindOf x = some .free) ∧ scope.names.lookup x = some .free) ∧ FrOk X scope fr js
  | _, _ => False
theorem FrOk.len {X : Cx} {scope : Scope} : ∀ {fr : List Str} {js : List Nat}, FrOk X scope fr js → fr.length = js.length
  | [], [], _ => rfl
  | _ :: _, _ :: _, h => by simp [FrOk.len h.2]
  | [], _ :: _, h => h.elim
  | _ :: _, [], h => h.elim
theorem FrOk.mem {X : Cx} {scope : Scope} {x : Str} : ∀ {fr : List Str} {js : List Nat}, FrOk X scope fr js → x ∈ fr → X.env.kindOf x = some .cell ∨ X.env.kindOf x = some .free
  | [], [], _, h => by cases h
  | a :: fr, b :: js, h, hm => by
    rcases List.mem_cons.mp hm with rfl | hm
    · exact h.1.2.1
    · exact FrOk.mem h.2 hm
  | [], _ :: _, h, _ => h.elim
  | _ :: _, [], h, _ => h.elim
theorem FrOk.get {X : Cx} {scope : Scope} : ∀ {fr : List Str} {js : List Nat} {i : Nat} {x : Str} {j : Nat}, FrOk X scope fr js → fr[i]? = some x → js[i]? = some j →
    X.N[j]? = some x ∧ (X.env.kindOf x = some .cell ∨ X.env.kindOf x = some .free) ∧ scope.names.lookup x = some .free
  | [], [], _, _, _, _, h, _ => by simp at h
  | a :: fr, b :: js, 0, x, j, h, h1, h2 => by
    simp at h1 h2
    subst h1; subst h2
    exact h.1
  | a :: fr, b :: js, i + 1, x, j, h, h1, h2 => FrOk.get h.2 (by simpa using h1) (by simpa using h2)
  | [], _ :: _, _, _, _, h, _, _ => h.elim
  | _ :: _, [], _, _, _, h, _, _ => h.elim
/-- the block's names at its start -/
def blk (n : Nat) (js : List Nat) (σ : St) : St := List.replicate n none ++ js.map fun j => σ.getD j none

theorem blk_ok {X : Cx} {pins : List (Addr × Obj)} {σ : St} {H : Hp} {s : Shared} {scope : Scope} {fp : List Addr} {C : Addr} {N' : List Str} (I : Inv X pins σ H s) (hk : scope.kind = .function) (hcell : ∀ y ∈ scope.names, y.2 ≠ .cell)
    (hf : ∀ y ∈ scope.names, y.2 = .free → ∃ c, X.env.cells.lookup y.1 = some c) (hC : s.heap.objs.size ≤ C) (hfp : ∀ b ∈ fp, FpOk X pins H b) (hlt : ∀ b ∈ fp, b < s.heap.objs.size) : (blkCx X scope C N' fp s H).Ok := by
  have ag : ∀ x c, (clF X.env.cells scope.names []).lookup x = some c → X.env.cells.lookup x = some c := clF_agree scope.names [] hf fun x c e => by simp at e
  refine ⟨I.ok.mod, hk, I.ok.glob, I.ok.blt, hC, fun x y c h1 h2 => I.ok.inj x y c (ag x c h1) (ag y c h2), fun x hx => ?_, (fun x c h => (by cases h)), I.ok.hd, I.ok.frames, .inl rfl, fun b hb => ?_, I.bs, ?_, fun b o e hb => ?_, fun b hb => ?_, I.stack, I.stkFree⟩
  · refine clF_has scope.names [] (.inl ?_)
    rcases hx with hx | hx
    · exact relabel_back (.inl rfl) hcell hx
    · exact relabel_back (.inr rfl) hcell hx
  · obtain ⟨h1, h2, h3, h4, h5, h6⟩ := hfp b hb
    exact ⟨Nat.ne_of_lt (Nat.lt_of_lt_of_le (hlt b hb) hC), fun x c e => h5 x c (ag x c e)⟩
  · exact Nat.le_trans I.ok.bsz I.sz
  · obtain ⟨h1, h2, h3, h4, h5, h6⟩ := hfp b hb
    rcases h4 with h4 | h4
    · exact I.ok.noex b o e h4
    · exact absurd (Nat.lt_of_lt_of_le (Heap.lt_size e) (Nat.le_trans I.ok.bsz h4)) (Nat.lt_irrefl _)
  · obtain ⟨h1, h2, h3, h4, h5, h6⟩ := hfp b hb
    intro z
    rcases List.mem_cons.mp (I.stkSub b z) with z | z
    · exact h2 z
    · exact h3 z

/-- what a comprehension wants of its block: a word W by the turn, a measure, the items so far, the names, the heap -/
def LcG (J : It) (n : Nat) (js : List Nat) (g : TG) (ct : TT) (te : TE) (acc : Addr) (σ : St) (H1 : Hp) (Q : VK) : Prop :=
  ∃ W : Nat → Nat → List V → St → Hp → Prop, (∃ m, W 0 m [] (blk n js σ) (upd H1 acc (.lst []))) ∧ ∀ i m ys τ H2, W i m ys τ H2 → H2 acc = some (.lst ys) ∧ ys.length < sizeLine ∧
    ((J.stop i H2 ∧ Q (.ref acc) H2) ∨ (J.go i H2 ∧ ∃ N : List V → St → Hp → Prop, (∀ ys' τ' H', N ys' τ' H' → ∃ m', m' < m ∧ W (i + 1) m' ys' τ' H') ∧ ∀ x H3, J.yld i H2 x H3 → g x τ H3 fun τ1 H4 => ct τ1 H4 fun b H5 =>
      if b = true then te τ1 H5 fun y H6 => H6 acc = some (.lst ys) ∧ N (ys ++ [y]) τ1 (upd H6 acc (.lst (ys ++ [y]))) else N ys τ1 H5))
/-- [elt for tg in iter if c ..] -/
def tLC (n : Nat) (js : List Nat) (wi : TI) (g : TG) (ct : TT) (te : TE) : TE := fun σ H Q => wi σ H fun J H1 => ∀ acc, H1 acc = none → LcG J n js g ct te acc σ H1 Q
/-- the tests of a comprehension's clause -/
def PTs (X : Cx) (ifs : List Expr) (t : TT) : Prop :=
  ∀ (pins : List (Addr × Obj)) (s : Shared) (σ : St) (H : Hp) (Q : Bool → Hp → Prop), Inv X pins σ H s → t σ H Q →
    wpAny (model X.prog X.w) X.A (forIn ifs true fun c r => if r = true then do let ok ← isTrue c X.env (eval c X.env); pure (ForInStep.yield ok) else pure (ForInStep.yield r)) (TP X pins σ Q) X.xe s
def tYes : TT := fun _ H Q => Q true H
theorem pts_nil {X : Cx} : PTs X [] tYes := fun _ _ σ H Q I h => wpAny_pure ⟨H, I, h⟩
theorem pts_one {X : Cx} {c : Expr} {t : TT} (h : PT X c t) : PTs X [c] t := by
  intro pins s σ H Q I q
  rw [List.forIn_cons]
  simp only [if_true, bind_assoc, pure_bind]
  refine wpAny_bind (thn (h pins s σ H Q I q) fun b s1 h1 => ?_)
  exact wpAny_pure h1
section
variable {X : Cx} {pos : Pos}
theorem codeAny_compLoop_tg {prog : Program} {w : World} {A : Around} {R : Result → Shared → Prop} {s : Shared} {elt target iter : Expr} {ifs : List Expr} {scope : Scope} {pos : Pos} {it acc : Value} {env : Env} (I : Nat → Shared → Prop)
    (turn : ∀ n s, I n s → wpAny (model prog w) A (pyNext it) (fun r s₁ => match r with
      | none => R (.ok .next) s₁
      | some v => wpAny (model prog w) A (letOwnedTupleGo target it v) (fun _ s₁' => wpAny (model prog w) A (assign target env v) (fun _ s₂ =>
          wpAny (model prog w) A (forIn ifs true fun c r => if r = true then do let ok ← isTrue c env (eval c env); pure (ForInStep.yield ok) else pure (ForInStep.yield r)) (fun ok s₃ =>
            if ok = true then wpAny (model prog w) A (eval elt env) (fun x s₄ =>
              wpAny (model prog w) A (call (.builtin "list.append") [acc, x]) (fun _ s₅ => ∃ m, m < n ∧ I m s₅) (fun _ _ => False) s₄) (fun _ _ => False) s₃
            else ∃ m, m < n ∧ I m s₃) (fun _ _ => False) s₂) (fun _ _ => False) s₁') (fun _ _ => False) s₁) (fun _ _ => False) s)
    (n : Nat) (h : I n s) :
    codeAny (model prog w) A (.compLoop (.ListComp elt [⟨target, iter, ifs, 0⟩] scope pos) 0 it acc env) R s := by
  refine codeAny_loop rfl I (fun n s hI => ?_) n h
  show wpAny _ A ((compTurn (.ListComp elt [⟨target, iter, ifs, 0⟩] scope pos) 0 it acc env).onRaise (fun x => do noteFrame x env; theTreesLotGoes x)) _ _ s
  refine wpAny_noted ?_
  rw [compTurn_list]
  refine wpAny_bind (wpAny_standAt (wpAny_bind (wpAny_mono (turn n s hI) (fun r s₁ h₁ => ?_) fun _ _ h' => h'.elim)))
  cases r with
  | none => exact wpAny_pure h₁
  | some v =>
    refine wpAny_bind (wpAny_mono h₁ (fun _ s₁' h₁' => ?_) fun _ _ h' => h'.elim)
    refine wpAny_bind (wpAny_mono h₁' (fun _ s₂ h₂ => wpAny_bind (wpAny_mono h₂ (fun ok s₃ h₃ => ?_) fun _ _ h' => h'.elim)) fun _ _ h' => h'.elim)
    cases ok with
    | false => exact wpAny_pure ⟨rfl, h₃⟩
    | true =>
      exact wpAny_bind (wpAny_bind (wpAny_mono h₃ (fun x s₄ h₄ => wpAny_bind (wpAny_mono h₄ (fun _ s₅ h₅ => wpAny_pure (wpAny_pure ⟨rfl, h₅⟩)) fun _ _ h' => h'.elim)) fun _ _ h' => h'.elim))
/-- the block, from the iterator on -/
theorem lc_core {pins : List (Addr × Obj)} {σ : St} {H : Hp} {s : Shared} {E : Value → Shared → Prop} {tg elt iter : Expr} {ifs : List Expr} {scope : Scope} {g : TG} {ct : TT} {te : TE} {ts fr : List Str} {js : List Nat}
    {it : Addr} {fp : List Addr} {tn : Nat → Heap → Prop} {J : It} {Q : VK} {RR : Value → Addr → Result → Shared → Prop}
    (hc : X.calm = true) (hkind : scope.kind = .function) (hcell : ∀ y ∈ scope.names, y.2 ≠ .cell) (hfree : ∀ y ∈ scope.names, y.2 = .free → X.env.kindOf y.1 = some .cell ∨ X.env.kindOf y.1 = some .free)
    (hfr : FrOk X scope fr js) (htg : ∀ C fp s₁ H₁, PG (blkCx X scope C (ts ++ fr) fp s₁ H₁) tg g) (hct : ∀ C fp s₁ H₁, PTs (blkCx X scope C (ts ++ fr) fp s₁ H₁) ifs ct) (hte : ∀ C fp s₁ H₁, PE (blkCx X scope C (ts ++ fr) fp s₁ H₁) elt te)
    (I : Inv X pins σ H s) (T : Turn X.prog X.w X.K tg J fp it tn) (st : tn 0 s.heap) (hfp : ∀ b ∈ fp, FpOk X pins H b)
    (h : ∀ acc, H acc = none → LcG J ts.length js g ct te acc σ H Q)
    (hRR : ∀ acc C H' s' m, Inv X pins σ H' s' → s'.heap.Ns C m → H' C = none → s.heap.objs.size ≤ C → Q (.ref acc) H' → RR (.ref acc) C (.ok .next) s') :
    wpAny (model X.prog X.w) X.A (newList []) (fun acc s₃ => wpAny (model X.prog X.w) X.A (newFunctionEnv scope X.env.globals (clF X.env.cells scope.names []) [] X.env.qual none .none (some X.env)) (fun cenv s₄ =>
      codeAny (model X.prog X.w) X.A (.compStart (.ListComp elt [⟨tg, iter, ifs, 0⟩] scope pos) 0 (.ref it) acc { cenv with scope := relabel scope X.env }) (RR acc cenv.locals) s₄) E s₃) E s := by
  have hf : ∀ y ∈ scope.names, y.2 = .free → ∃ c, X.env.cells.lookup y.1 = some c := fun y hy e => I.ok.has y.1 (hfree y hy e)
  have ag : ∀ x c, (clF X.env.cells scope.names []).lookup x = some c → X.env.cells.lookup x = some c := clF_agree scope.names [] hf fun x c e => by simp at e
  have hlt : ∀ b ∈ fp, b < s.heap.objs.size := fun b hb => by
    obtain ⟨o, e, _⟩ := T.obj _ _ st b hb
    exact Heap.lt_size e
  refine wpAny_newObj_type (wpAny_newFunctionEnv hcell (by intro y hy; simp at hy) (fun h₁ hns₁ hsb₁ => ?_) hkind)
  dsimp only at hns₁ hsb₁ ⊢
  generalize hH2 : s.heap.push { cls := .type "list", dict := none, data := .seq ([] : List Value).toArray } = G2 at hns₁ hsb₁ ⊢
  have hC : G2.objs.size = s.heap.objs.size + 1 := by rw [← hH2, Heap.size_push]
  have hDC : s.heap.objs.size ≠ G2.objs.size := by rw [hC]; exact Nat.ne_of_lt (Nat.lt_succ_self _)
  have hCle : s.heap.objs.size ≤ G2.objs.size := by rw [hC]; exact Nat.le_succ _
  have below : ∀ b, b < s.heap.objs.size → b ≠ G2.objs.size ∧ b ≠ s.heap.objs.size := fun b hb => ⟨by rw [hC]; exact Nat.ne_of_lt (Nat.lt_succ_of_lt hb), Nat.ne_of_lt hb⟩
  have old : ∀ b o, s.heap.get? b = some o → h₁.get? b = some o := fun b o e => hsb₁.extBut b o (below b (Heap.lt_size e)).1 (Heap.get?_push_of_some _ (hH2 ▸ Heap.get?_push_of_some _ e))
  have hacc : h₁.get? s.heap.objs.size = some { cls := .type "list", data := .seq ([] : List Value).toArray } := hsb₁.extBut _ _ hDC (Heap.get?_push_of_some _ (hH2 ▸ Heap.get?_push_size _ rfl))
  have nD : H s.heap.objs.size = none := I.hok.fresh (Nat.le_refl _)
  have nC : H G2.objs.size = none := I.hok.fresh hCle
  obtain ⟨W, ⟨m0, w0⟩, turn⟩ := h s.heap.objs.size nD
  generalize hXb : blkCx X scope G2.objs.size (ts ++ fr) fp s H = Xb
  have Ib : ∀ tk, Inv Xb [] (blk ts.length js σ) (upd H s.heap.objs.size (.lst [])) { s with heap := h₁, toks := tk } := by
    intro tk
    subst hXb
    refine ⟨blk_ok I hkind hcell hf hCle hfp hlt, rfl, I.bare, Un.laid old (Nat.le_refl _) nD, ⟨_, hns₁, fun i x v e1 e2 e3 => ?_⟩, fun x c e => ?_, ?_, fun x c e => ?_, fun p hp => absurd (show p ∈ ([] : List (Addr × Obj)) from hp) (by simp), I.hok.laid old (Nat.le_refl _) ⟨by show 0 ≤ sizeLine; decide, [], _, .nil, hacc⟩, ?_⟩
    · have hi : ts.length ≤ i := by
        refine Nat.le_of_not_lt fun hi => ?_
        unfold blk at e2
        rw [List.getElem?_append_left (by simpa using hi), List.getElem?_replicate] at e2
        split at e2 <;> cases e2
      have e1' : fr[i - ts.length]? = some x := by
        have e1'' : (ts ++ fr)[i]? = some x := e1
        rw [List.getElem?_append_right hi] at e1''
        exact e1''
      unfold blk at e2
      rw [List.getElem?_append_right (by simpa using hi), List.length_replicate, List.getElem?_map] at e2
      cases ej : js[i - ts.length]? with
      | none => rw [ej] at e2; cases e2
      | some j =>
        rw [ej] at e2
        have e2' : σ.getD j none = some v := by simpa using e2
        obtain ⟨q1, q2, q3⟩ := hfr.get e1' ej
        have e2'' : σ[j]? = some (some v) := by
          rw [List.getD_eq_getElem?_getD] at e2'
          cases ez : σ[j]? with
          | none => rw [ez] at e2'; cases e2'
          | some z => rw [ez] at e2'; rw [show z = some v from e2']
        obtain ⟨m, hn, hl⟩ := I.loc
        obtain ⟨u, r, l⟩ := hl j x v q1 e2'' (by
          rcases q2 with q2 | q2
          · exact .inr (.inl q2)
          · exact .inr (.inr q2))
        refine ⟨u, r, .inr ⟨relabel_free q3, ?_⟩⟩
        rcases l with ⟨l, _⟩ | ⟨_, c, lc, lv⟩
        · rcases q2 with q2 | q2 <;> (rw [l] at q2; cases q2)
        · obtain ⟨c', hc'⟩ := clF_has (cells := X.env.cells) scope.names [] (.inl (PySem.mem_of_lookup q3))
          have := ag x c' hc'
          rw [lc] at this
          cases this
          obtain ⟨o, ho, hd⟩ := lv
          exact ⟨c, hc', o, old _ _ ho, hd⟩
    · obtain ⟨v, o, ho, hd⟩ := I.cell x c (ag x c e)
      exact ⟨v, o, old _ _ ho, hd⟩
    · show upd H s.heap.objs.size (.lst []) G2.objs.size = none
      rw [upd_ne hDC.symm]; exact nC
    · obtain ⟨v, o, ho, hd⟩ := I.cell x c (ag x c e)
      rw [upd_ne (Nat.ne_of_lt (Heap.lt_size ho))]
      exact I.freeC x c (ag x c e)
    · show (blk ts.length js σ).length = (ts ++ fr).length
      unfold blk
      rw [List.length_append, List.length_replicate, List.length_map, List.length_append, hfr.len]
  have fpB : ∀ {H' : Hp}, (∀ b ∈ fp, H' b = none) → ∀ b ∈ fp, FpOk Xb [] H' b := fun {H'} hn b hb => by
    subst hXb
    obtain ⟨h1, h2, h3, h4, h5, h6⟩ := hfp b hb
    refine ⟨hn b hb, (below b (hlt b hb)).1, fun z => ?_, .inl hb, fun x c e => h5 x c (ag x c e), fun p hp => absurd (show p ∈ ([] : List (Addr × Obj)) from hp) (by simp)⟩
    rcases List.mem_cons.mp (I.stkSub b z) with z | z
    · exact h2 z
    · exact h3 z
  have fin : ∀ {τ : St} {H' : Hp} {s' : Shared}, Inv Xb [] τ H' s' → Q (.ref s.heap.objs.size) H' → RR (.ref s.heap.objs.size) G2.objs.size (.ok .next) s' := fun {τ H' s'} Jb q => by
    subst hXb
    obtain ⟨m, hn, _⟩ := Jb.loc
    refine hRR _ _ H' s' m (I.call' (ch := fp) Jb.os Jb.base Jb.hok Jb.bare fun b hb => ?_) hn Jb.free hCle q
    obtain ⟨h1, h2, h3, h4, h5, h6⟩ := hfp b hb
    exact ⟨h4, h2, h5, h6⟩
  have loop : ∀ tk, codeAny (model X.prog X.w) X.A (.compLoop (.ListComp elt [⟨tg, iter, ifs, 0⟩] scope pos) 0 (.ref it) (.ref s.heap.objs.size) (compEnvC scope (clF X.env.cells scope.names []) G2.objs.size X.env))
        (RR (.ref s.heap.objs.size) G2.objs.size) { s with heap := h₁, toks := tk } := by
    intro tk
    refine codeAny_compLoop_tg (fun n s' => ∃ i ys τ H', Inv Xb [] τ H' s' ∧ tn i s'.heap ∧ (∀ b ∈ fp, H' b = none) ∧ W i n ys τ H') ?_ m0 ⟨0, [], _, _, Ib tk, T.keep _ _ _ st fun b hb o e => old b o e, fun b hb => ?_, w0⟩
    · rintro n s3 ⟨i, ys, τ, H3, I3, st3, fr3, w3⟩
      have htg' := htg G2.objs.size fp s H
      have hct' := hct G2.objs.size fp s H
      have hte' := hte G2.objs.size fp s H
      rw [hXb] at htg' hct' hte'
      have eP : Xb.prog = X.prog := by subst hXb; rfl
      have ew : Xb.w = X.w := by subst hXb; rfl
      have eK : Xb.K = X.K := by subst hXb; rfl
      have eA : Xb.A = X.A := by subst hXb; rfl
      have ec : Xb.calm = true := by subst hXb; exact hc
      have ee : Xb.env = compEnvC scope (clF X.env.cells scope.names []) G2.objs.size X.env := by subst hXb; rfl
      have ex : Xb.xe = fun _ _ => False := by subst hXb; rfl
      rw [← eP, ← ew, ← eA, ← ee]
      obtain ⟨ha, hl, turn'⟩ := turn i n ys τ H3 w3
      rcases turn' with ⟨stop, q⟩ | ⟨go, N, hN, step⟩
      · have hd := T.done Xb eP ew eK ec i [] s3 τ H3 (fun _ _ => False) I3 (fpB fr3) st3 stop
        rw [← eP, ← ew] at hd
        refine wpAny_mono hd (fun r s4 hr4 => ?_) fun _ _ z => z
        obtain ⟨hr, I4⟩ := hr4
        subst hr
        exact fin I4 q
      · have hd := T.item Xb eP ew eK ec i [] s3 τ H3 (fun _ _ => False) I3 (fpB fr3) st3 go
        rw [← eP, ← ew] at hd
        refine wpAny_mono hd (fun r s4 hr4 => ?_) fun _ _ z => z
        obtain ⟨u, hr, h4⟩ := hr4
        subst hr
        refine wpAny_mono h4 (fun _ s5 ⟨x, H5, I5, r5, y5, st5, fr5⟩ => ?_) fun _ _ z => z
        have I5' := I5.pinned (fpB fr5) (T.obj _ _ st5)
        have keepT : ∀ {σ7 : St} {H7 : Hp} {s7 : Shared}, Inv Xb ([] ++ pinsAt fp s5.heap) σ7 H7 s7 → tn (i + 1) s7.heap ∧ ∀ b ∈ fp, H7 b = none := fun {σ7 H7 s7} I7 => by
          refine ⟨T.keep _ _ _ st5 fun b hb o e => (I7.pin (b, o) (List.mem_append_right _ (List.mem_append_right _ (mem_pinsAt hb e)))).1, fun b hb => ?_⟩
          obtain ⟨o, e, d⟩ := T.obj _ _ st5 b hb
          exact (I7.pin (b, o) (List.mem_append_right _ (List.mem_append_right _ (mem_pinsAt hb e)))).2.1
        refine wpAny_mono (htg' _ s5 τ H5 x u _ I5' r5 (step x H5 y5)) (fun _ s6 ⟨τ6, H6, I6, q6⟩ => ?_) (fun _ _ z => by rw [ex] at z; exact z)
        refine wpAny_mono (hct' _ s6 τ6 H6 _ I6 q6) (fun ok s7 ⟨H7, I7, q7⟩ => ?_) (fun _ _ z => by rw [ex] at z; exact z)
        cases ok with
        | false =>
          have q7' : N ys τ6 H7 := by rw [if_neg (by simp)] at q7; exact q7
          rw [if_neg (by simp)]
          obtain ⟨m', hm, w7⟩ := hN _ _ _ q7'
          exact ⟨m', hm, i + 1, ys, τ6, H7, I7.unpinned, (keepT I7).1, (keepT I7).2, w7⟩
        | true =>
          rw [if_pos rfl] at q7 ⊢
          refine wpAny_mono (hte' _ s7 τ6 H7 _ I7 q7) (fun v s8 ⟨y, H8, I8, r8, ha8, n8⟩ => ?_) (fun _ _ z => by rw [ex] at z; exact z)
          refine wpAny_mono (mt_append (X := Xb) _ s8 τ6 H8 (.ref s.heap.objs.size) [y] (.ref s.heap.objs.size) [v] (fun _ H9 => H9 = upd H8 s.heap.objs.size (.lst (ys ++ [y]))) I8 rfl (.cons r8 .nil) ⟨_, ys, y, rfl, rfl, ha8, hl, rfl⟩) (fun _ s9 ⟨_, H9, I9, _, e9⟩ => ?_) (fun _ _ z => by rw [ex] at z; exact z)
          subst e9
          obtain ⟨m', hm, w8⟩ := hN _ _ _ n8
          exact ⟨m', hm, i + 1, _, τ6, _, I9.unpinned, (keepT I9).1, (keepT I9).2, w8⟩
    · rw [upd_ne (Nat.ne_of_lt (hlt b hb))]
      exact (hfp b hb).1
  exact codeAny_compStart_list (loop _) (T.self _ 0 _ _ _ (T.keep _ _ _ st fun b hb o e => old b o e) (loop _))

theorem Inv.let_go {pins : List (Addr × Obj)} {σ : St} {H H' : Hp} {s s' : Shared} {C : Addr} {h' : Heap} (I : Inv X pins σ H s) {σ' : St} (I' : Inv X pins σ' H' s') (hC : H' C = none) (hle : s.heap.objs.size ≤ C) (hsb : Heap.SameBut C s'.heap h') :
    Inv X pins σ' H' { s' with heap := h' } := by
  obtain ⟨h1, h2, h3, h4, h5, h6⟩ := I.fpOk (H' := H') hle hC
  exact I'.turned (t' := s'.toks) (fun b o hb e => hsb.extBut b o hb e) hC h2 h4 h5 h6
theorem pe_lcomp {tg elt iter : Expr} {ifs : List Expr} {scope : Scope} {wi : TI} {g : TG} {ct : TT} {te : TE} (ts fr : List Str) (js : List Nat)
    (hc : X.calm = true) (hi : PI X tg iter wi) (hkind : scope.kind = .function) (hcell : ∀ y ∈ scope.names, y.2 ≠ .cell) (hnames : ∀ y ∈ scope.names, y.2 = .local → scope.names.lookup y.1 = some .local)
    (hfree0 : ∀ y ∈ scope.names, y.2 = .free → y.1 ∈ fr) (hfr : FrOk X scope fr js)
    (htg : ∀ C fp s₁ H₁, PG (blkCx X scope C (ts ++ fr) fp s₁ H₁) tg g) (hct : ∀ C fp s₁ H₁, PTs (blkCx X scope C (ts ++ fr) fp s₁ H₁) ifs ct) (hte : ∀ C fp s₁ H₁, PE (blkCx X scope C (ts ++ fr) fp s₁ H₁) elt te)
    (hs : ∀ x, foldedSetIterable iter X.env x = pure x := by intro _; rfl) : PE X (.ListComp elt [⟨tg, iter, ifs, 0⟩] scope pos) (tLC ts.length js wi g ct te) := by
  have hfree : ∀ y ∈ scope.names, y.2 = .free → X.env.kindOf y.1 = some .cell ∨ X.env.kindOf y.1 = some .free := fun y hy e => hfr.mem (hfree0 y hy e)
  intro pins s σ H Q I h
  rw [eval_ListComp]
  refine wpAny_comprehension_free (use := none) rfl hs (closure_eq fun y hy e => I.ok.has y.1 (hfree y hy e)) hkind hnames (thn (hi pins s σ H _ I h) fun xv s1 h1 => thn h1 fun itv s2 h2 => ?_)
  obtain ⟨it, fp, tn, J, H2, e, I2, T, st2, f2, hW⟩ := h2
  subst e
  refine lc_core (RR := fun acc C => compPost (model X.prog X.w) X.A X.xe none (EP X pins σ Q) acc C) hc hkind hcell hfree hfr htg hct hte I2 T st2 f2 hW ?_
  intro acc C H' s' m I' hn hC hle q
  exact ⟨m, hn, fun h' hsb => ⟨.ref acc, H', I2.let_go I' hC hle hsb, rfl, q⟩⟩
/-- name = [.. for ..] -/
theorem ps_setLC {tg elt iter : Expr} {ifs : List Expr} {scope : Scope} {wi : TI} {g : TG} {ct : TT} {te : TE} {i : Nat} {y : Str} {py spos : Pos} (ts fr : List Str) (js : List Nat)
    (hsw : swapsWith (.ListComp elt [⟨tg, iter, ifs, 0⟩] scope pos) (some (.Name y py)) spos.line X.env = pure true) (hN : X.N.Nodup) (hi0 : X.N[i]? = some y) (hx : X.env.scope.names.lookup y = some .local)
    (hc : X.calm = true) (hi : PI X tg iter wi) (hkind : scope.kind = .function) (hcell : ∀ y ∈ scope.names, y.2 ≠ .cell) (hnames : ∀ y ∈ scope.names, y.2 = .local → scope.names.lookup y.1 = some .local)
    (hfree0 : ∀ y ∈ scope.names, y.2 = .free → y.1 ∈ fr) (hfr : FrOk X scope fr js)
    (htg : ∀ C fp s₁ H₁, PG (blkCx X scope C (ts ++ fr) fp s₁ H₁) tg g) (hct : ∀ C fp s₁ H₁, PTs (blkCx X scope C (ts ++ fr) fp s₁ H₁) ifs ct) (hte : ∀ C fp s₁ H₁, PE (blkCx X scope C (ts ++ fr) fp s₁ H₁) elt te)
    (hs : ∀ x, foldedSetIterable iter X.env x = pure x := by intro _; rfl) : PS X (.Assign [.Name y py] (.ListComp elt [⟨tg, iter, ifs, 0⟩] scope pos) spos) (tAsg (tLC ts.length js wi g ct te) (gName i)) := by
  have hfree : ∀ y ∈ scope.names, y.2 = .free → X.env.kindOf y.1 = some .cell ∨ X.env.kindOf y.1 = some .free := fun y hy e => hfr.mem (hfree0 y hy e)
  intro pins s σ H D I h
  rw [exec_Assign_Name_used _ _ _ _ hsw]
  refine wpAny_bind (wpAny_standAt (wpAny_bind ?_))
  show wpAny _ X.A (do let _ ← comprehension (.ListComp elt [⟨tg, iter, ifs, 0⟩] scope pos) scope X.env _ (newList []) false (eval iter X.env) (some (assign (.Name y py) X.env))) _ _ s
  refine wpAny_bind (wpAny_mono (wpAny_comprehension_free (use := some (assign (.Name y py) X.env)) (Q := fun _ s' => SP X pins D .next s') rfl hs (closure_eq fun y hy e => I.ok.has y.1 (hfree y hy e)) hkind hnames
    (thn (hi pins s σ H _ I h) fun xv s1 h1 => thn h1 fun itv s2 h2 => ?_)) (fun _ s' hq => wpAny_pure (wpAny_pure hq)) fun _ _ e => e)
  obtain ⟨it, fp, tn, J, H2, e, I2, T, st2, f2, hW⟩ := h2
  subst e
  refine lc_core (Q := fun v H' => D.nx (σ.set i (some v)) H') (RR := fun acc C => compPost (model X.prog X.w) X.A X.xe (some (assign (.Name y py) X.env)) (fun _ s' => SP X pins D .next s') acc C) hc hkind hcell hfree hfr htg hct hte I2 T st2 f2 hW ?_
  intro acc C H' s' m I' hn hC hle q
  show wpAny _ X.A (assign (.Name y py) X.env (.ref acc)) _ _ _
  refine wpAny_assign_Name (store_ok2 I' hN hi0 (.inl hx) (v := .ref acc) rfl (fun s'' I'' hch => ?_) (.inr hx))
  obtain ⟨h1, h2, h3, h4, h5, h6⟩ := I2.fpOk (H' := H') hle hC
  obtain ⟨a, hsb, ha⟩ := hch
  refine ⟨m, hn.sameBut hsb ?_, fun h' hsb' => ⟨_, H', I2.let_go I'' hC hle hsb', q⟩⟩
  rcases ha with ha | ha
  · rw [ha]; exact h2
  · exact fun z => h5 y a ha z.symm
end
/-! ### the forms one uses -/
theorem lc_list {K : PySem.W.Frag} {a acc : Addr} {xs : List V} {n : Nat} {js : List Nat} {g : TG} {ct : TT} {te : TE} {σ : St} {H1 : Hp} {Q : VK} (Pv : Nat → List V → St → Hp → Prop) (h0 : Pv 0 [] (blk n js σ) (upd H1 acc (.lst [])))
    (hl : ∀ i ys τ H, i ≤ xs.length → Pv i ys τ H → SqL K H a xs ∧ H acc = some (.lst ys) ∧ ys.length < sizeLine)
    (hs : ∀ i x ys τ H, xs[i]? = some x → Pv i ys τ H → g x τ H fun τ1 H4 => ct τ1 H4 fun b H5 => if b = true then te τ1 H5 fun y H6 => H6 acc = some (.lst ys) ∧ Pv (i + 1) (ys ++ [y]) τ1 (upd H6 acc (.lst (ys ++ [y]))) else Pv (i + 1) ys τ1 H5)
    (hd : ∀ ys τ H, Pv xs.length ys τ H → Q (.ref acc) H) :
    LcG (Itl K a) n js g ct te acc σ H1 Q := by
  refine ⟨fun i m ys τ H => m = xs.length - i ∧ i ≤ xs.length ∧ Pv i ys τ H, ⟨xs.length, by simp, Nat.zero_le _, h0⟩, ?_⟩
  rintro i m ys τ H ⟨rfl, hi, p⟩
  obtain ⟨q, q2, q3⟩ := hl i ys τ H hi p
  refine ⟨q2, q3, ?_⟩
  by_cases hlt : i < xs.length
  · refine .inr ⟨⟨xs, xs[i], q, by simp [hlt]⟩, Pv (i + 1), fun ys' τ' H' p' => ⟨xs.length - (i + 1), by omega, rfl, hlt, p'⟩, fun x H' y => ?_⟩
    obtain ⟨e, y⟩ := y
    subst e
    exact hs i x ys τ _ (y xs q) p
  · have e : i = xs.length := by omega
    subst e
    exact .inl ⟨⟨xs, q, Nat.le_refl _⟩, hd ys τ H p⟩
theorem lc_tup {K : PySem.W.Frag} {a acc : Addr} {xs : List V} {n : Nat} {js : List Nat} {g : TG} {ct : TT} {te : TE} {σ : St} {H1 : Hp} {Q : VK} (Pv : Nat → List V → St → Hp → Prop) (h0 : Pv 0 [] (blk n js σ) (upd H1 acc (.lst [])))
    (hl : ∀ i ys τ H, i ≤ xs.length → Pv i ys τ H → SqT K H a xs ∧ H acc = some (.lst ys) ∧ ys.length < sizeLine)
    (hs : ∀ i x ys τ H, xs[i]? = some x → Pv i ys τ H → g x τ H fun τ1 H4 => ct τ1 H4 fun b H5 => if b = true then te τ1 H5 fun y H6 => H6 acc = some (.lst ys) ∧ Pv (i + 1) (ys ++ [y]) τ1 (upd H6 acc (.lst (ys ++ [y]))) else Pv (i + 1) ys τ1 H5)
    (hd : ∀ ys τ H, Pv xs.length ys τ H → Q (.ref acc) H) :
    LcG (Itt K a) n js g ct te acc σ H1 Q := by
  refine ⟨fun i m ys τ H => m = xs.length - i ∧ i ≤ xs.length ∧ Pv i ys τ H, ⟨xs.length, by simp, Nat.zero_le _, h0⟩, ?_⟩
  rintro i m ys τ H ⟨rfl, hi, p⟩
  obtain ⟨q, q2, q3⟩ := hl i ys τ H hi p
  refine ⟨q2, q3, ?_⟩
  by_cases hlt : i < xs.length
  · refine .inr ⟨⟨xs, xs[i], q, by simp [hlt]⟩, Pv (i + 1), fun ys' τ' H' p' => ⟨xs.length - (i + 1), by omega, rfl, hlt, p'⟩, fun x H' y => ?_⟩
    obtain ⟨e, y⟩ := y
    subst e
    exact hs i x ys τ _ (y xs q) p
  · have e : i = xs.length := by omega
    subst e
    exact .inl ⟨⟨xs, q, Nat.le_refl _⟩, hd ys τ H p⟩
theorem lc_range {lo : Int} {k : Nat} {acc : Addr} {n : Nat} {js : List Nat} {g : TG} {ct : TT} {te : TE} {σ : St} {H1 : Hp} {Q : VK} (Pv : Nat → List V → St → Hp → Prop) (h0 : Pv 0 [] (blk n js σ) (upd H1 acc (.lst [])))
    (hl : ∀ i ys τ H, i ≤ k → Pv i ys τ H → H acc = some (.lst ys) ∧ ys.length < sizeLine)
    (hs : ∀ i ys τ H, i < k → Pv i ys τ H → g (.int (lo + i)) τ H fun τ1 H4 => ct τ1 H4 fun b H5 => if b = true then te τ1 H5 fun y H6 => H6 acc = some (.lst ys) ∧ Pv (i + 1) (ys ++ [y]) τ1 (upd H6 acc (.lst (ys ++ [y]))) else Pv (i + 1) ys τ1 H5)
    (hd : ∀ ys τ H, Pv k ys τ H → Q (.ref acc) H) :
    LcG (Itr lo k) n js g ct te acc σ H1 Q := by
  refine ⟨fun i m ys τ H => m = k - i ∧ i ≤ k ∧ Pv i ys τ H, ⟨k, by simp, Nat.zero_le _, h0⟩, ?_⟩
  rintro i m ys τ H ⟨rfl, hi, p⟩
  obtain ⟨q2, q3⟩ := hl i ys τ H hi p
  refine ⟨q2, q3, ?_⟩
  by_cases hlt : i < k
  · refine .inr ⟨hlt, Pv (i + 1), fun ys' τ' H' p' => ⟨k - (i + 1), by omega, rfl, hlt, p'⟩, fun x H' y => ?_⟩
    obtain ⟨e, y⟩ := y
    subst e y
    exact hs i ys τ _ hlt p
  · have e : i = k := by omega
    subst e
    exact .inl ⟨Nat.le_refl _, hd ys τ H p⟩
section
variable {X : Cx}
/-- max of a list of ints -/
def rMaxL (K : PySem.W.Frag) : List V → Hp → VK → Prop := fun vs H Q => ∃ (p : Addr) (ns : List Int), vs = [.ref p] ∧ SqL K H p (ns.map V.int) ∧ 0 < ns.length ∧ ∀ M, M ∈ ns → (∀ a, a ∈ ns → a ≤ M) → Q (.int M) H
end

/-- a statement, cut behind it by a word of one's own -/
def tCut (t : TS) : TS := fun D σ H => ∃ M : St → Hp → Prop, t { D with nx := M } σ H ∧ ∀ σ' H', M σ' H' → D.nx σ' H'
theorem ps_cut {X : Cx} {st : Stmt} {t : TS} (h : PS X st t) : PS X st (tCut t) := by
  intro pins s σ H D I q
  obtain ⟨M, q, hM⟩ := q
  refine thn (h pins s σ H _ I q) fun f s' hs => ?_
  cases f with
  | next =>
    obtain ⟨σ', H', I', m⟩ := hs
    exact ⟨σ', H', I', hM _ _ m⟩
  | brk => exact hs
  | cont => exact hs
  | ret u => exact hs
theorem smallM {m : Int} (h0 : 0 < m) (h1 : m < 1073741824) : m.natAbs.log2 < 9000 := by
  have h : m.natAbs.log2 < 30 := (Nat.log2_lt (by omega)).mpr (by omega)
  omega
theorem pg_tupK {X : Cx} {K : PySem.W.Frag} {es : List Expr} {k : Nat} {t : TGs} {n : Nat} {pos : Pos} (hK : X.K = K) (h : PG X (.Tuple es k pos) (gTup X.K n t)) : PG X (.Tuple es k pos) (gTup K n t) := by
  subst hK
  exact h
end L2

set_option Elab.async false
set_option linter.all false
set_option maxRecDepth 100000
namespace L2
open PySem PySem.Spec PyProof.Rows
/-! ### data within the heap: == and != at any depth -/
mutual
inductive RdD (H : Hp) : V → PyData → Prop
  | non : RdD H .non .none
  | bl (b : Bool) : RdD H (.bl b) (.bool b)
  | int (i : Int) : RdD H (.int i) (.int i)
  | str (x : Str) : RdD H (.str x) (.str x)
  | lst {p : Addr} {xs : List V} {ds : List PyData} : H p = some (.lst xs) → RdDs H xs ds → RdD H (.ref p) (.list ds)
  | tup {p : Addr} {xs : List V} {ds : List PyData} : H p = some (.tup xs) → RdDs H xs ds → RdD H (.ref p) (.tuple ds)
inductive RdDs (H : Hp) : List V → List PyData → Prop
  | nil : RdDs H [] []
  | cons {x : V} {xs : List V} {d : PyData} {ds : List PyData} : RdD H x d → RdDs H xs ds → RdDs H (x :: xs) (d :: ds)
end
section
variable {P : Program} {w : World} {H : Hp} {h : Heap}
mutual
theorem RdD.reads (ok : HOk P w H h) : ∀ {x : V} {d : PyData} {v : Value}, RdD H x d → RelV x v → ∃ as, Reads h v d as
  | _, _, v, .non, r => by
    cases (show v = Value.none from r)
    exact ⟨_, .none⟩
  | _, _, v, .bl b, r => by
    cases (show v = Value.bool b from r)
    exact ⟨_, .bool b⟩
  | _, _, v, .int i, r => by
    obtain ⟨t, e⟩ := (show ∃ t, v = Value.int i t from r)
    cases e
    exact ⟨_, .int i t⟩
  | _, _, v, .str x, r => by
    obtain ⟨t, e⟩ := (show ∃ t, v = Value.str x t from r)
    cases e
    exact ⟨_, .str x t⟩
  | _, _, v, .lst (p := p) (xs := xs) e ds, r => by
    cases (show v = Value.ref p from r)
    obtain ⟨_, its, n, rv, h1⟩ := (show ObjOk P w H h p (.lst xs) from ok p _ e)
    obtain ⟨as, ra⟩ := RdDs.reads ok ds rv
    exact ⟨_, .list (vs := its.toArray) h1 rfl rfl (by simpa using ra)⟩
  | _, _, v, .tup (p := p) (xs := xs) e ds, r => by
    cases (show v = Value.ref p from r)
    obtain ⟨_, its, rv, o, h1, h2, n, h3⟩ := (show ObjOk P w H h p (.tup xs) from ok p _ e)
    obtain ⟨as, ra⟩ := RdDs.reads ok ds rv
    exact ⟨_, .tuple (vs := its.toArray) h1 h2 h3.1 (by simpa using ra)⟩
theorem RdDs.reads (ok : HOk P w H h) : ∀ {xs : List V} {ds : List PyData} {vs : List Value}, RdDs H xs ds → Vals xs vs → ∃ as, ReadsAll h vs ds as
  | _, _, _, .nil, .nil => ⟨_, .nil⟩
  | _, _, _, .cons r rs, .cons q qs => by
    obtain ⟨as, ra⟩ := RdD.reads ok r q
    obtain ⟨bs, rb⟩ := RdDs.reads ok rs qs
    exact ⟨_, .cons ra rb⟩
end
end
section
variable {X : Cx}
def rEqD (neg : Bool) : R2 := fun x y H Q => ∃ dx dy, RdD H x dx ∧ RdD H y dy ∧ dx.canLay0 = true ∧ dy.canLay0 = true ∧ min dx.depth dy.depth ≤ 60 ∧ Q (.bl (if neg then !PyData.eqv dx dy else PyData.eqv dx dy)) H
theorem op_eqD (hu : X.A.units + 64 < cLine) : OpR X (compareOp .Eq) (rEqD false) := by
  intro pins s σ H x y v u Q I rx ry h
  obtain ⟨dx, dy, r1, r2, c1, c2, hd, q⟩ := h
  obtain ⟨as, ra⟩ := r1.reads I.hok rx
  obtain ⟨bs, rb⟩ := r2.reads I.hok ry
  exact PySem.SeqAt.compareEq_reads ra rb c1 c2 (by omega) ⟨.bl _, H, I, rfl, q⟩
theorem op_neD (hu : X.A.units + 64 < cLine) : OpR X (compareOp .NotEq) (rEqD true) := by
  intro pins s σ H x y v u Q I rx ry h
  obtain ⟨dx, dy, r1, r2, c1, c2, hd, q⟩ := h
  obtain ⟨as, ra⟩ := r1.reads I.hok rx
  obtain ⟨bs, rb⟩ := r2.reads I.hok ry
  exact PySem.SeqAt.neOverData X.prog X.w X.A X.xe s v u dx dy as bs _ ra rb c1 c2 (by omega) ⟨.bl _, H, I, rfl, q⟩
end
end L2

set_option Elab.async false
set_option linter.all false
set_option maxRecDepth 100000
namespace L2
open PySem PySem.Spec PyProof.Rows
/-! ### texts -/
def one (c : Nat) : Str := ⟨#[c]⟩
theorem glued_toList (rest : List Str) : ∀ a : Array Nat, (rest.foldl (fun acc p => acc ++ Str.empty.cps ++ p.cps) a).toList = a.toList ++ rest.flatMap (·.cps.toList) := by
  induction rest with
  | nil => intro a; simp
  | cons x r ih =>
    intro a
    rw [List.foldl_cons, ih]
    have e : Str.empty.cps = #[] := rfl
    simp [e]
theorem join_ones (cs : List Nat) : (Txt.join Str.empty (cs.map one)).cps.toList = cs := by
  cases cs with
  | nil => rfl
  | cons c r =>
    show (List.foldl (fun acc p => acc ++ Str.empty.cps ++ p.cps) (#[c] : Array Nat) (r.map one)).toList = c :: r
    rw [glued_toList]
    simp only [List.flatMap_map, one]
    simp
theorem empty_is : Str.ofString "" = Str.empty := by decide +kernel
theorem strsAre_of {ys : List Str} : ∀ {us : List Value}, Vals (ys.map V.str) us → StrsAre us ys := by
  induction ys with
  | nil => intro us r; cases r; exact .nil
  | cons y ys ih =>
    intro us r
    cases r with
    | cons h t =>
      obtain ⟨k, e⟩ := h
      subst e
      exact .cons y k (ih t)
section
variable {X : Cx}
/-- sep.join(list of texts) -/
def rJoin (K : PySem.W.Frag) : V → List V → Hp → VK → Prop := fun x vs H Q => ∃ (z : Str) (p : Addr) (ys : List Str), x = .str z ∧ vs = [.ref p] ∧ SqL K H p (ys.map V.str) ∧ (ys.map (·.length)).sum + ys.length * z.length ≤ 16777216 ∧ Q (.str (Txt.join z ys)) H
theorem mt_join : MtR X "str.join" (rJoin X.K) := by
  intro pins s σ H x vs v us Q I rx rv h
  obtain ⟨z, p, ys, rfl, rfl, hS, hz, q⟩ := h
  obtain ⟨t, e⟩ := (show ∃ t, v = Value.str z t from rx)
  subst e
  obtain ⟨u, rfl, ru⟩ := vals1 rv
  cases (show u = Value.ref p from ru)
  obtain ⟨its, rv', pl, _⟩ := I.list hS
  exact join_list pl.isList (by simpa using strsAre_of rv') hz fun t' k => ⟨.str _, H, I.tok k, ⟨_, rfl⟩, q⟩
end
/-! ### plans as data -/
inductive Deed where
  | put (x : Str) (n : Int)
  | copy (x y : Str)
  | add (x : Str) (n : Int)
  | read (x : Str)
  | tell (x : Str)
inductive End where
  | stop
  | go (p : Nat)
  | tst (less : Bool) (x : Str) (n : Int) (p q : Nat)
abbrev Piece := List Deed × End
def wT (b : Bool) : Str := if b = true then "less" else "is"
def dDeed : Deed → PyData
  | .put x n => .tuple [.str "put", .str x, .int n]
  | .copy x y => .tuple [.str "copy", .str x, .str y]
  | .add x n => .tuple [.str "add", .str x, .int n]
  | .read x => .tuple [.str "read", .str x]
  | .tell x => .tuple [.str "tell", .str x]
def dEnd : End → PyData
  | .stop => .tuple [.str "stop"]
  | .go p => .tuple [.str "go", .int p]
  | .tst b x n p q => .tuple [.str (wT b), .str x, .int n, .int p, .int q]
def dPiece (p : Piece) : PyData := .tuple [.tuple (p.1.map dDeed), dEnd p.2]
def dPlan (ps : List Piece) : PyData := .tuple (ps.map dPiece)
structure NameOk (x : Str) : Prop where
  lo : 1 ≤ x.length
  hi : x.length ≤ 8
  az : ∀ c ∈ x.cps.toList, 97 ≤ c ∧ c ≤ 122
def NumOk (n : Int) : Prop := -(10 ^ 40) < n ∧ n < 10 ^ 40
def DeedOk (xs : List Str) : Deed → Prop
  | .put x n => x ∈ xs ∧ NumOk n
  | .copy x y => x ∈ xs ∧ y ∈ xs
  | .add x n => x ∈ xs ∧ NumOk n
  | .read x => x ∈ xs
  | .tell x => x ∈ xs
def EndOk (xs : List Str) (count : Nat) : End → Prop
  | .stop => True
  | .go p => p < count
  | .tst _ x n p q => x ∈ xs ∧ NumOk n ∧ p < count ∧ q < count
structure PlanOk (xs : List Str) (most : Nat) (ps : List Piece) : Prop where
  deeds : ∀ p ∈ ps, p.1.length ≤ most ∧ ∀ d ∈ p.1, DeedOk xs d
  ends : ∀ p ∈ ps, EndOk xs ps.length p.2
/-! ### data of tuples alone stays -/
mutual
def noList : PyData → Bool
  | .list _ => false
  | .tuple xs => noLists xs
  | _ => true
def noLists : List PyData → Bool
  | [] => true
  | x :: xs => noList x && noLists xs
end
mutual
theorem RdD.tups {H H' : Hp} (k : ∀ p xs, H p = some (.tup xs) → H' p = some (.tup xs)) : ∀ {x : V} {d : PyData}, RdD H x d → noList d = true → RdD H' x d
  | _, _, .non, _ => .non
  | _, _, .bl b, _ => .bl b
  | _, _, .int i, _ => .int i
  | _, _, .str x, _ => .str x
  | _, _, .lst _ _, h => nomatch h
  | _, _, .tup e ds, h => .tup (k _ _ e) (RdDs.tups k ds h)
theorem RdDs.tups {H H' : Hp} (k : ∀ p xs, H p = some (.tup xs) → H' p = some (.tup xs)) : ∀ {xs : List V} {ds : List PyData}, RdDs H xs ds → noLists ds = true → RdDs H' xs ds
  | _, _, .nil, _ => .nil
  | _, _, .cons r rs, h => by
    simp only [noLists, Bool.and_eq_true] at h
    exact .cons (RdD.tups k r h.1) (RdDs.tups k rs h.2)
end
theorem RdD.fix {b : Addr} {H H' : Hp} {x : V} {d : PyData} (r : RdD H x d) (hb : Bag H b) (f : Fix b H H') (n : noList d = true) : RdD H' x d :=
  r.tups (fun p xs e => f p _ e (hb.ne_tup e)) n
theorem RdD.same {H H' : Hp} {x : V} {d : PyData} (r : RdD H x d) (f : Same H H') (n : noList d = true) : RdD H' x d :=
  r.tups (fun p xs e => f p _ e) n
theorem RdDs.fix {b : Addr} {H H' : Hp} {xs : List V} {ds : List PyData} (r : RdDs H xs ds) (hb : Bag H b) (f : Fix b H H') (n : noLists ds = true) : RdDs H' xs ds :=
  r.tups (fun p xs e => f p _ e (hb.ne_tup e)) n
theorem RdDs.same {H H' : Hp} {xs : List V} {ds : List PyData} (r : RdDs H xs ds) (f : Same H H') (n : noLists ds = true) : RdDs H' xs ds :=
  r.tups (fun p xs e => f p _ e) n
/-- a list is rewritten -/
theorem RdDs.put {H : Hp} {xs ys : List V} {ds : List PyData} {l : Addr} {o : HO} (r : RdDs H xs ds) (hl : H l = some (.lst ys)) (n : noLists ds = true) : RdDs (upd H l o) xs ds :=
  r.tups (fun p zs e => by rw [upd_ne (ne_of e hl (by intro z; cases z))]; exact e) n
theorem RdDs.app {H : Hp} {x : V} {d : PyData} : ∀ {xs : List V} {ds : List PyData}, RdDs H xs ds → RdD H x d → RdDs H (xs ++ [x]) (ds ++ [d])
  | _, _, .nil, q => .cons q .nil
  | _, _, .cons r rs, q => .cons r (RdDs.app rs q)
theorem RdDs.len {H : Hp} : ∀ {xs : List V} {ds : List PyData}, RdDs H xs ds → xs.length = ds.length
  | _, _, .nil => rfl
  | _, _, .cons _ rs => by simp [RdDs.len rs]
theorem noList_deed (d : Deed) : noList (dDeed d) = true := by cases d <;> rfl
theorem noList_end (e : End) : noList (dEnd e) = true := by cases e <;> rfl
theorem noLists_deeds : ∀ ds : List Deed, noLists (ds.map dDeed) = true
  | [] => rfl
  | d :: ds => by show (noList (dDeed d) && noLists (ds.map dDeed)) = true; rw [noList_deed, noLists_deeds ds]; rfl
theorem noList_piece (p : Piece) : noList (dPiece p) = true := by
  show (noLists (p.1.map dDeed) && (noList (dEnd p.2) && true)) = true
  rw [noLists_deeds, noList_end]; rfl
theorem noLists_pieces : ∀ ps : List Piece, noLists (ps.map dPiece) = true
  | [] => rfl
  | p :: ps => by show (noList (dPiece p) && noLists (ps.map dPiece)) = true; rw [noList_piece, noLists_pieces ps]; rfl
theorem noList_plan (ps : List Piece) : noList (dPlan ps) = true := noLists_pieces ps
/-! ### the promises of the laws' own drawing -/
/-- the list of names at l -/
structure NamesAt (H : Hp) (b l : Addr) (xs : List Str) : Prop where
  at_ : H l = some (.lst (xs.map V.str))
  ne : l ≠ b
  some_ : xs ≠ []
  few : xs.length ≤ 1000
  ok : ∀ x ∈ xs, NameOk x
theorem NamesAt.fix {H H' : Hp} {b l : Addr} {xs : List Str} (h : NamesAt H b l xs) (f : Fix b H H') : NamesAt H' b l xs := ⟨f l _ h.at_ h.ne, h.ne, h.some_, h.few, h.ok⟩
theorem NamesAt.pos {H : Hp} {b l : Addr} {xs : List Str} (h : NamesAt H b l xs) : 0 < ((xs.map V.str).length : Int) ∧ ((xs.map V.str).length : Int) < 1073741824 := by
  have h1 := h.some_
  have h2 := h.few
  have h3 : 0 < xs.length := by cases xs with | nil => exact absurd rfl h1 | cons _ _ => simp
  rw [List.length_map]
  omega
def spNames : Sp := fun vs H Q _ => ∃ (b : Addr), vs = [.ref b] ∧ Bag H b ∧ ∀ l xs H', NamesAt H' b l xs → xs.length ≤ 4 → Bag H' b → Fix b H H' → Q (.ref l) H'
def spNumber : Sp := fun vs H Q _ => ∃ (b : Addr), vs = [.ref b] ∧ Bag H b ∧ ∀ n H', NumOk n → Bag H' b → Fix b H H' → Q (.int n) H'
def spDeed : Sp := fun vs H Q _ => ∃ (b l : Addr) (xs : List Str), vs = [.ref b, .ref l] ∧ Bag H b ∧ NamesAt H b l xs ∧ ∀ v d H', RdD H' v (dDeed d) → DeedOk xs d → Bag H' b → Fix b H H' → Q v H'
def spEndP : Sp := fun vs H Q _ => ∃ (b l : Addr) (xs : List Str) (c : Nat), vs = [.ref b, .ref l, .int c] ∧ Bag H b ∧ NamesAt H b l xs ∧ 0 < c ∧ c < 1073741824 ∧ ∀ v e H', RdD H' v (dEnd e) → EndOk xs c e → Bag H' b → Fix b H H' → Q v H'
def spPlan : Sp := fun vs H Q _ => ∃ (b : Addr) (c m : Nat), vs = [.ref b, .int c, .int m] ∧ Bag H b ∧ 0 < c ∧ c ≤ 1000 ∧ m ≤ 1000 ∧ ∀ v xs ps H', RdD H' v (dPlan ps) → ps.length = c → PlanOk xs m ps → ((∀ x ∈ xs, NameOk x) ∧ xs.length ≤ 4) → Bag H' b → Fix b H H' → Q v H'
def spCount : Sp := fun vs H Q _ => ∃ (b : Addr) (m : Nat), vs = [.ref b, .int m] ∧ Bag H b ∧ 0 < m ∧ m ≤ 1000 ∧ ∀ (n : Nat) H', 0 < n → n ≤ max m 4 → Bag H' b → Fix b H H' → Q (.int n) H'
def abc : Str := "abcdefghijklmnopqrstuvwxyz"
theorem abc_list : abc.cps.toList = (List.range 26).map (· + 97) := by decide +kernel
theorem abc_len : abc.length ≤ sizeLine := by decide +kernel
theorem abc_at {r : Int} (h0 : 0 ≤ r) (h1 : r < 26) : ∃ c, atI abc.cps.toList r = some c ∧ 97 ≤ c ∧ c ≤ 122 := by
  have hl : abc.cps.toList.length = 26 := by rw [abc_list]; simp
  obtain ⟨c, hc, hm⟩ := at_in (xs := abc.cps.toList) h0 (by rw [hl]; exact h1)
  refine ⟨c, hc, ?_⟩
  rw [abc_list] at hm
  obtain ⟨k, hk, rfl⟩ := List.mem_map.mp hm
  have := List.mem_range.mp hk
  omega
/-- an item of a list of names -/
theorem names_at {xs : List Str} {r : Int} (h0 : 0 ≤ r) (h1 : r < ((xs.map V.str).length : Int)) : ∃ x, atI (xs.map V.str) r = some (V.str x) ∧ x ∈ xs := by
  obtain ⟨v, hv, hm⟩ := at_in h0 h1
  obtain ⟨x, hx, rfl⟩ := List.mem_map.mp hm
  exact ⟨x, hv, hx⟩
theorem yes_ {σ : L2.St} {H : Hp} {Q : Bool → Hp → Prop} (h : Q true H) : tYes σ H Q := h
theorem gname_ {i : Nat} {v : V} {σ : L2.St} {H : Hp} {Q : L2.St → Hp → Prop} (h : Q (σ.set i (some v)) H) : gName i v σ H Q := h
end L2

set_option Elab.async false
set_option linter.all false
set_option maxRecDepth 100000
namespace L2
open PySem PySem.Spec PyProof.Rows
/-! ### data, taken apart -/
theorem RdD.tup_inv {H : Hp} {v : V} {ds : List PyData} (h : RdD H v (.tuple ds)) : ∃ p xs, v = .ref p ∧ H p = some (.tup xs) ∧ RdDs H xs ds := by
  cases h with
  | tup e r => exact ⟨_, _, rfl, e, r⟩
theorem RdD.int_inv {H : Hp} {v : V} {i : Int} (h : RdD H v (.int i)) : v = .int i := by cases h; rfl
theorem RdD.str_inv {H : Hp} {v : V} {x : Str} (h : RdD H v (.str x)) : v = .str x := by cases h; rfl
theorem RdDs.cons_inv {H : Hp} {xs : List V} {d : PyData} {ds : List PyData} (h : RdDs H xs (d :: ds)) : ∃ x r, xs = x :: r ∧ RdD H x d ∧ RdDs H r ds := by
  cases h with
  | cons a b => exact ⟨_, _, rfl, a, b⟩
theorem RdDs.nil_inv {H : Hp} {xs : List V} (h : RdDs H xs []) : xs = [] := by cases h; rfl
theorem RdDs.get {H : Hp} : ∀ {xs : List V} {ds : List PyData} {i : Nat} {d : PyData}, RdDs H xs ds → ds[i]? = some d → ∃ x, xs[i]? = some x ∧ RdD H x d
  | _, _, _, _, .nil, e => by simp at e
  | _, _, 0, _, .cons r _, e => by
    simp at e
    subst e
    exact ⟨_, rfl, r⟩
  | _, _, i + 1, d, .cons _ t, e => by
    obtain ⟨x, h1, h2⟩ := RdDs.get (i := i) (d := d) t (by simpa using e)
    exact ⟨x, by simpa using h1, h2⟩
theorem RdDs.ints {H : Hp} : ∀ {xs : List V} {ns : List Int}, RdDs H xs (ns.map PyData.int) → xs = ns.map V.int
  | _, [], h => h.nil_inv
  | _, n :: ns, h => by
    obtain ⟨x, r, rfl, h1, h2⟩ := h.cons_inv
    rw [h1.int_inv, RdDs.ints h2]
    rfl
/-- the tuple of a deed, of an end -/
def vDeed : Deed → List V
  | .put x n => [.str "put", .str x, .int n]
  | .copy x y => [.str "copy", .str x, .str y]
  | .add x n => [.str "add", .str x, .int n]
  | .read x => [.str "read", .str x]
  | .tell x => [.str "tell", .str x]
def vEnd : End → List V
  | .stop => [.str "stop"]
  | .go p => [.str "go", .int p]
  | .tst b x n p q => [.str (wT b), .str x, .int n, .int p, .int q]
theorem rd_deed {H : Hp} {v : V} {d : Deed} (h : RdD H v (dDeed d)) : ∃ p, v = .ref p ∧ H p = some (.tup (vDeed d)) := by
  cases d <;> (
    obtain ⟨p, xs, rfl, e, r⟩ := RdD.tup_inv h
    obtain ⟨x1, r1, rfl, h1, r⟩ := r.cons_inv
    obtain ⟨x2, r2, rfl, h2, r⟩ := r.cons_inv
    first
      | (obtain ⟨x3, r3, rfl, h3, r⟩ := r.cons_inv
         have z := r.nil_inv
         subst z
         refine ⟨p, rfl, ?_⟩
         first
           | rw [e, h1.str_inv, h2.str_inv, h3.int_inv]; rfl
           | rw [e, h1.str_inv, h2.str_inv, h3.str_inv]; rfl)
      | (have z := r.nil_inv
         subst z
         refine ⟨p, rfl, ?_⟩
         rw [e, h1.str_inv, h2.str_inv]; rfl))
theorem rd_end {H : Hp} {v : V} {e : End} (h : RdD H v (dEnd e)) : ∃ p, v = .ref p ∧ H p = some (.tup (vEnd e)) := by
  cases e with
  | stop =>
    obtain ⟨p, xs, rfl, e, r⟩ := RdD.tup_inv h
    obtain ⟨x1, r1, rfl, h1, r⟩ := r.cons_inv
    have z := r.nil_inv
    subst z
    exact ⟨p, rfl, by rw [e, h1.str_inv]; rfl⟩
  | go q =>
    obtain ⟨p, xs, rfl, e, r⟩ := RdD.tup_inv h
    obtain ⟨x1, r1, rfl, h1, r⟩ := r.cons_inv
    obtain ⟨x2, r2, rfl, h2, r⟩ := r.cons_inv
    have z := r.nil_inv
    subst z
    exact ⟨p, rfl, by rw [e, h1.str_inv, h2.int_inv]; rfl⟩
  | tst b x n q q' =>
    obtain ⟨p, xs, rfl, e, r⟩ := RdD.tup_inv h
    obtain ⟨x1, r1, rfl, h1, r⟩ := r.cons_inv
    obtain ⟨x2, r2, rfl, h2, r⟩ := r.cons_inv
    obtain ⟨x3, r3, rfl, h3, r⟩ := r.cons_inv
    obtain ⟨x4, r4, rfl, h4, r⟩ := r.cons_inv
    obtain ⟨x5, r5, rfl, h5, r⟩ := r.cons_inv
    have z := r.nil_inv
    subst z
    exact ⟨p, rfl, by rw [e, h1.str_inv, h2.str_inv, h3.int_inv, h4.int_inv, h5.int_inv]; rfl⟩
/-- a piece of a plan -/
theorem rd_piece {H : Hp} {v : V} {ps : List Piece} {i : Nat} {ds : List Deed} {e : End} (h : RdD H v (dPlan ps)) (hi : ps[i]? = some (ds, e)) :
    ∃ p xs pc da ea vs, v = .ref p ∧ H p = some (.tup xs) ∧ xs.length = ps.length ∧ xs[i]? = some (.ref pc) ∧ H pc = some (.tup [.ref da, .ref ea]) ∧ H da = some (.tup vs) ∧ RdDs H vs (ds.map dDeed) ∧ H ea = some (.tup (vEnd e)) := by
  obtain ⟨p, xs, rfl, e1, r⟩ := RdD.tup_inv h
  have hl := r.len
  obtain ⟨x, hx, rx⟩ := r.get (i := i) (d := dPiece (ds, e)) (by rw [List.getElem?_map, hi]; rfl)
  obtain ⟨pc, ys, rfl, e2, r2⟩ := RdD.tup_inv rx
  obtain ⟨y1, t1, rfl, q1, r2⟩ := r2.cons_inv
  obtain ⟨y2, t2, rfl, q2, r2⟩ := r2.cons_inv
  have z := r2.nil_inv
  subst z
  obtain ⟨da, vs, rfl, e3, r3⟩ := RdD.tup_inv q1
  obtain ⟨ea, rfl, e4⟩ := rd_end q2
  exact ⟨p, xs, pc, da, ea, vs, rfl, e1, by rw [hl, List.length_map], hx, e2, e3, r3, e4⟩
theorem small1000' {n : Nat} (h : n ≤ 1000000) : n < sizeLine := Nat.lt_of_le_of_lt h (by decide)
theorem iteFb {c : Bool} {A B : Prop} (hc : c = false) (h : B) : if c = true then A else B := by subst hc; exact iteF h
theorem iteTb {c : Bool} {A B : Prop} (hc : c = true) (h : A) : if c = true then A else B := by subst hc; exact iteT h
/-- d.get(k, x), its value told apart -/
def tDGet2v (td ty tx : TE) : TE := fun σ H Q => td σ H fun x H1 => ∃ a, x = .ref a ∧ IsD H1 a ∧ ty σ H1 fun y H2 => tx σ H2 fun z H3 => ∃ o v, DGet H3 a y o ∧ o.getD z = v ∧ Q v H3
theorem pe_dget2v {X : Cx} {o e f : Expr} {apos cpos : Pos} {td ty tx : TE} (hu : X.A.units + 1 < cLine) (ho : PE X o td) (he : PE X e ty) (hf : PE X f tx) (m : M2 X o "get" apos e f cpos) : PE X (.Call (.Attribute o "get" apos) [e, f] [] cpos) (tDGet2v td ty tx) := by
  intro pins s σ H Q I h
  refine wpAny_Call_method m.base m.few m.line PySem.F.plainAttrs_dict PySem.F.slot_dict_get PySem.F.type_dict_get (thn (ho pins s σ H _ I h) fun u s1 ⟨x, H1, I1, rx, a, ex, d, q1⟩ => ?_)
  subst ex
  obtain rfl : u = Value.ref a := rx
  obtain ⟨t1, t2, _⟩ := isD_at I1 d
  refine ⟨t1, t2, ?_⟩
  rw [m.trees]
  refine Calls.callWith_builtin rfl (Calls.evalArgs_plain (Calls.spliced_cons (thn (he pins s1 σ H1 _ I1 q1) fun iv s2 ⟨y, H2, I2, ry, q2⟩ =>
    Calls.spliced_cons (thn (hf pins s2 σ H2 _ I2 q2) fun fv s3 ⟨z, H3, I3, rz, ov, v, g, ev, q3⟩ => Calls.spliced_nil ?_))))
  exact d_get2 hu I3 g ry rz fun w' s4 I4 rw' => ⟨v, H3, I4, by rw [← ev]; exact rw', q3⟩
/-! ### the run -/
structure RS where
  piece : Nat
  place : Nat
  w : Str → Int
  taken : Nat
  told : List Int
  word : Str
  been : List Nat
def setW (w : Str → Int) (x : Str) (n : Int) : Str → Int := fun y => if y = x then n else w y
def stepD (nums : List Int) (S : RS) : Deed → RS
  | .put x n => { S with w := setW S.w x n, place := S.place + 1 }
  | .copy x y => { S with w := setW S.w x (S.w y), place := S.place + 1 }
  | .add x n => { S with w := setW S.w x (S.w x + n), place := S.place + 1 }
  | .tell x => { S with told := S.told ++ [S.w x], place := S.place + 1 }
  | .read x => match nums[S.taken]? with
    | none => { S with word := "dry" }
    | some n => { S with w := setW S.w x n, taken := S.taken + 1, place := S.place + 1 }
def ansT (b : Bool) (u n : Int) : Bool := if b = true then decide (u < n) else decide (u = n)
def stepE (S : RS) : End → RS
  | .stop => { S with word := "stop" }
  | .go p => { S with piece := p, place := 0, been := S.been ++ [p] }
  | .tst b x n p q => { S with piece := if ansT b (S.w x) n = true then p else q, place := 0, been := S.been ++ [if ansT b (S.w x) n = true then p else q] }
def stepF (ps : List Piece) (nums : List Int) (S : RS) : RS := match ps[S.piece]? with
  | none => S
  | some (ds, e) => match ds[S.place]? with
    | some d => stepD nums S d
    | none => stepE S e
/-- the dict of worths -/
def DW (kvs : List (Key × V)) (w : Str → Int) : Prop := ∀ x : Str, (valV kvs (Sum.inr x : Key)).getD (.int 0) = .int (w x)
theorem DW.put {kvs : List (Key × V)} {w : Str → Int} (h : DW kvs w) (x : Str) (n : Int) : DW (putK kvs (Sum.inr x) (.int n)) (setW w x n) := fun y => by
  rw [valV_put]
  unfold setW
  by_cases e : y = x
  · subst e
    rw [if_pos rfl, if_pos rfl]; rfl
  · rw [if_neg (fun z => e (Sum.inr.inj z)), if_neg e]
    exact h y
/-- the walker's state as it lies: the tuple at st, the dict at d, what was told at tl, where it was at bl -/
structure StAt (H : Hp) (st d tl bl : Addr) (S : RS) (m : Nat) : Prop where
  at_ : H st = some (.tup [.int S.piece, .int S.place, .ref d, .int S.taken, .ref tl, .str S.word, .ref bl])
  dict : ∃ kvs, H d = some (.dK kvs) ∧ DW kvs S.w ∧ kvs.length ≤ m
  told : H tl = some (.lst (S.told.map V.int))
  been : H bl = some (.lst (S.been.map fun k => V.int (k : Nat)))
  ne : tl ≠ bl
  few : S.told.length ≤ m ∧ S.been.length ≤ m + 1
/-- but the three -/
def But (d tl bl : Addr) (H H' : Hp) : Prop := ∀ c o, H c = some o → c ≠ d → c ≠ tl → c ≠ bl → H' c = some o
theorem But.refl (d tl bl : Addr) (H : Hp) : But d tl bl H H := fun _ _ h _ _ _ => h
theorem But.trans {d tl bl : Addr} {H H1 H2 : Hp} (a : But d tl bl H H1) (b : But d tl bl H1 H2) : But d tl bl H H2 := fun c o h n1 n2 n3 => b c o (a c o h n1 n2 n3) n1 n2 n3
theorem But.new {d tl bl p : Addr} {H : Hp} {o : HO} (hp : H p = none) : But d tl bl H (upd H p o) := fun c u h _ _ _ => by rw [upd_ne (ne_of_none h hp)]; exact h
/-- all P lie in the plan -/
def InPlan (ps : List Piece) : Prop := ∀ p ∈ ps, match p.2 with
  | .stop => True
  | .go q => q < ps.length
  | .tst _ _ _ q r => q < ps.length ∧ r < ps.length
def spStep : Sp := fun vs H Q _ => ∃ (pv : V) (st np d tl bl : Addr) (ps : List Piece) (nums : List Int) (S : RS) (m : Nat), vs = [pv, .ref st, .ref np] ∧ RdD H pv (dPlan ps) ∧ InPlan ps ∧ H np = some (.tup (nums.map V.int)) ∧ StAt H st d tl bl S m ∧
  S.piece < ps.length ∧ S.taken ≤ nums.length ∧ m ≤ 10000 ∧ ∀ st' H', StAt H' st' d tl bl (stepF ps nums S) (m + 1) → But d tl bl H H' → Q (.ref st') H'
end L2

set_option Elab.async false
set_option linter.all false
set_option maxRecDepth 100000
namespace L2
open PySem PySem.Spec PyProof.Rows
/-! ### parts of stretches -/
def vO : Option Int → V
  | none => .non
  | some i => .int i
def LEo : Option Int → Option Int → Prop
  | some a, some b => a ≤ b
  | _, _ => True
def liesB (n : Int) (lo hi : Option Int) : Bool := (match lo with | none => true | some a => decide (a ≤ n)) && (match hi with | none => true | some a => decide (n ≤ a))
abbrev Rs := Option (Option Int × Option Int)
/-- the parts -/
def topF (hi : Option Int) (n : Int) : Int := match hi with | none => n - 1 | some h => if n - 1 < h then n - 1 else h
def botF (lo : Option Int) (n : Int) : Int := match lo with | none => n | some l => if n > l then n else l
def belowF (lo hi : Option Int) (n : Int) : Rs :=
  match lo with | none => some (none, some (topF hi n)) | some l => if topF hi n < l then none else some (some l, some (topF hi n))
def fromF (lo hi : Option Int) (n : Int) : Rs :=
  match hi with | none => some (some (botF lo n), none) | some h => if h < botF lo n then none else some (some (botF lo n), some h)
def atF (lo hi : Option Int) (n : Int) : Rs := if liesB n lo hi = true then some (some n, some n) else none
def besF (lo hi : Option Int) (n : Int) : Rs := if lo = some n then (if hi = some n then none else some (some (n + 1), hi)) else if hi = some n then some (lo, some (n - 1)) else some (lo, hi)
def lessF (lo hi : Option Int) (n : Int) (side : Bool) : Rs := if side = true then belowF lo hi n else fromF lo hi n
def isF (lo hi : Option Int) (n : Int) (side : Bool) : Rs := if side = true then atF lo hi n else besF lo hi n
def partF (w : Str) (lo hi : Option Int) (n : Int) (side : Bool) : Rs := if w = "less" then lessF lo hi n side else isF lo hi n side
def ansF (rt rf : Rs) : Str := match rf with
  | none => "yes"
  | some _ => match rt with
    | none => "no"
    | some _ => "open"
/-- a part as it lies -/
def RV (H : Hp) (v : V) (r : Rs) : Prop := match r with
  | none => v = .non
  | some (a, b) => ∃ p, v = .ref p ∧ H p = some (.tup [vO a, vO b])
theorem RV.same {H H' : Hp} {v : V} {r : Rs} (h : RV H v r) (s : Same H H') : RV H' v r := by
  cases r with
  | none => exact h
  | some ab =>
    obtain ⟨p, e, h⟩ := h
    exact ⟨p, e, s _ _ h⟩
theorem RV.put {H : Hp} {v : V} {r : Rs} {l : Addr} {xs : List V} {o : HO} (h : RV H v r) (hl : H l = some (.lst xs)) : RV (upd H l o) v r := by
  cases r with
  | none => exact h
  | some ab =>
    obtain ⟨p, e, h⟩ := h
    exact ⟨p, e, by rw [upd_ne (ne_of h hl (by intro z; cases z))]; exact h⟩
def dO : Option Int → PyData
  | none => .none
  | some i => .int i
def dR : Rs → PyData
  | none => .none
  | some (a, b) => .tuple [dO a, dO b]
theorem rd_o {H : Hp} (o : Option Int) : RdD H (vO o) (dO o) := by
  cases o with
  | none => exact .non
  | some i => exact .int i
theorem RV.rd {H : Hp} {v : V} {r : Rs} (h : RV H v r) : RdD H v (dR r) := by
  cases r with
  | none => cases (show v = V.non from h); exact .non
  | some ab =>
    obtain ⟨a, b⟩ := ab
    obtain ⟨p, rfl, h⟩ := h
    exact .tup h (.cons (rd_o a) (.cons (rd_o b) .nil))
def spLies : Sp := fun vs H Q _ => ∃ (n : Int) (q : Addr) (lo hi : Option Int), vs = [.int n, .ref q] ∧ H q = some (.tup [vO lo, vO hi]) ∧ Q (.bl (liesB n lo hi)) H
def spP (F : Option Int → Option Int → Int → Rs) : Sp := fun vs H Q _ => ∃ (p : Addr) (n : Int) (lo hi : Option Int), vs = [.ref p, .int n] ∧ H p = some (.tup [vO lo, vO hi]) ∧ ∀ v H', RV H' v (F lo hi n) → Same H H' → Q v H'
def spL (F : Option Int → Option Int → Int → Bool → Rs) : Sp := fun vs H Q _ => ∃ (p : Addr) (n : Int) (side : Bool) (lo hi : Option Int), vs = [.ref p, .int n, .bl side] ∧ H p = some (.tup [vO lo, vO hi]) ∧ ∀ v H', RV H' v (F lo hi n side) → Same H H' → Q v H'
def spPart : Sp := fun vs H Q _ => ∃ (p : Addr) (w : Str) (n : Int) (side : Bool) (lo hi : Option Int), vs = [.ref p, .str w, .int n, .bl side] ∧ H p = some (.tup [vO lo, vO hi]) ∧ ∀ v H', RV H' v (partF w lo hi n side) → Same H H' → Q v H'
def spAns : Sp := fun vs H Q _ => ∃ (p : Addr) (w : Str) (n : Int) (lo hi : Option Int), vs = [.ref p, .str w, .int n] ∧ H p = some (.tup [vO lo, vO hi]) ∧ ∀ H', Same H H' → Q (.str (ansF (partF w lo hi n true) (partF w lo hi n false))) H'
theorem Same.put {H H' : Hp} {l : Addr} {o : HO} (s : Same H H') (n : H l = none) : Same H (upd H' l o) := fun c u e => by rw [upd_ne (ne_of_none e n)]; exact s c u e
theorem less_less : decide (V.str "less" = V.str "less") = true := by decide +kernel
theorem dec_o {lo : Option Int} {n : Int} : decide (vO lo = V.int n) = decide (lo = some n) := by
  cases lo with
  | none => rfl
  | some i =>
    by_cases h : i = n
    · subst h; simp [vO]
    · have h1 : ¬ (V.int i = V.int n) := fun z => h (V.int.inj z)
      have h2 : ¬ ((some i : Option Int) = some n) := fun z => h (Option.some.inj z)
      rw [show vO (some i) = V.int i from rfl, decide_eq_false h1, decide_eq_false h2]
theorem scal_o {lo : Option Int} {n : Int} : scal (vO lo) (V.int n) = true := by cases lo <;> rfl
end L2

set_option Elab.async false
set_option linter.all false
set_option maxRecDepth 100000
namespace L2
open PySem PySem.Spec PyProof.Rows
/-! ### own classes -/
structure MOwn (P : Program) (w : World) (K : PySem.W.Frag) (mg : Str → Option Value) (base : Heap) (C : Addr) (m : Str) (k : Nat) (ps : List Str) (sp : Sp) : Prop where
  cl : Cls K C
  ex : ∃ f fd, FnOk P w K mg base CX0 k f fd ps sp ∧ Meth K C m f ∧ Binds K fd ps []
structure COwn (P : Program) (w : World) (K : PySem.W.Frag) (mg : Str → Option Value) (base : Heap) (C : Addr) (x : Str) (k : Nat) (ps : List Str) (sp : Sp) : Prop where
  ex : ∃ f fd, FnOk P w K mg base CX0 k f fd ps sp ∧ Mk K C f ∧ mg x = some (.ref C) ∧ Binds K fd ps []
section
variable {X : Cx} {C : Addr} {m x : Str} {k : Nat} {ps : List Str} {sp : Sp} {oe e : Expr} {es : List Expr} {ta : TE} {t : TA} {p pos apos : Pos}
end
theorem bt_dict : bootBuiltins "dict" = some (.type "dict") := by decide +kernel
/-! ### the fields of a walker's stand -/
def sfl (a0 a1 a2 a3 a4 a5 a6 a7 : V) : List (Str × V) := [("pieces", a0), ("passed", a1), ("place", a2), ("worths", a3), ("numbers", a4), ("taken", a5), ("spoken", a6), ("over", a7)]
section
variable {a0 a1 a2 a3 a4 a5 a6 a7 z : V}
end
structure StT (K : PySem.W.Frag) (C : Addr) : Prop where
  cl : Cls K C
  pieces : NoAttr K C "pieces"
  passed : NoAttr K C "passed"
  place : NoAttr K C "place"
  worths : NoAttr K C "worths"
  numbers : NoAttr K C "numbers"
  taken : NoAttr K C "taken"
  spoken : NoAttr K C "spoken"
  over : NoAttr K C "over"
/-- the stand as it lies: the list of pieces passed at pl, the worths at d, the numbers at nl, what was spoken at sl -/
structure SAt (C : Addr) (H : Hp) (p pl d nl sl : Addr) (plv : V) (nums : List Int) (S : RS) (m : Nat) : Prop where
  ob : ∃ dx, H p = some (.ins C dx (sfl plv (.ref pl) (.int S.place) (.ref d) (.ref nl) (.int S.taken) (.ref sl) (.bl (decide (S.word = "stop")))))
  passed : H pl = some (.lst (S.been.map fun k => V.int (k : Nat)))
  last : ∃ xs, S.been = xs ++ [S.piece]
  dict : ∃ kvs, H d = some (.dK kvs) ∧ DW kvs S.w ∧ kvs.length ≤ m
  nums : H nl = some (.lst (nums.map V.int))
  spoken : H sl = some (.lst (S.told.map V.int))
  ne : pl ≠ nl ∧ pl ≠ sl ∧ nl ≠ sl
  few : S.told.length ≤ m ∧ S.been.length ≤ m + 1
/-- but the four -/
def But4 (p pl d sl : Addr) (H H' : Hp) : Prop := ∀ c o, H c = some o → c ≠ p → c ≠ pl → c ≠ d → c ≠ sl → H' c = some o
theorem But4.refl (p pl d sl : Addr) (H : Hp) : But4 p pl d sl H H := fun _ _ h _ _ _ _ => h
theorem But4.trans {p pl d sl : Addr} {H H1 H2 : Hp} (a : But4 p pl d sl H H1) (b : But4 p pl d sl H1 H2) : But4 p pl d sl H H2 := fun c o h n1 n2 n3 n4 => b c o (a c o h n1 n2 n3 n4) n1 n2 n3 n4
theorem But4.of_same {p pl d sl : Addr} {H H' : Hp} (h : Same H H') : But4 p pl d sl H H' := fun c o e _ _ _ _ => h c o e
section
variable {C : Addr} {H H' : Hp} {p pl d nl sl : Addr} {plv : V} {nums : List Int} {S : RS} {m : Nat}
theorem SAt.nes (A : SAt C H p pl d nl sl plv nums S m) : p ≠ pl ∧ p ≠ d ∧ p ≠ nl ∧ p ≠ sl ∧ d ≠ pl ∧ d ≠ nl ∧ d ≠ sl := by
  obtain ⟨dx, h1⟩ := A.ob
  obtain ⟨kvs, h2, _⟩ := A.dict
  refine ⟨ne_of h1 A.passed ?_, ne_of h1 h2 ?_, ne_of h1 A.nums ?_, ne_of h1 A.spoken ?_, ne_of h2 A.passed ?_, ne_of h2 A.nums ?_, ne_of h2 A.spoken ?_⟩ <;> (intro z; cases z)
theorem SAt.tup {c : Addr} {xs : List V} (A : SAt C H p pl d nl sl plv nums S m) (b : But4 p pl d sl H H') (h : H c = some (.tup xs)) : H' c = some (.tup xs) := by
  obtain ⟨dx, h1⟩ := A.ob
  obtain ⟨kvs, h2, _⟩ := A.dict
  refine b c _ h (ne_of h h1 ?_) (ne_of h A.passed ?_) (ne_of h h2 ?_) (ne_of h A.spoken ?_) <;> (intro z; cases z)
theorem SAt.rd {x : V} {dd : PyData} (A : SAt C H p pl d nl sl plv nums S m) (b : But4 p pl d sl H H') (r : RdD H x dd) (n : noList dd = true) : RdD H' x dd :=
  r.tups (fun c xs e => A.tup b e) n
theorem SAt.same (A : SAt C H p pl d nl sl plv nums S m) (s : Same H H') : SAt C H' p pl d nl sl plv nums S m := by
  obtain ⟨⟨dx, h1⟩, h2, h3, ⟨kvs, h4, h5⟩, h6, h7, h8, h9⟩ := A
  exact ⟨⟨dx, s _ _ h1⟩, s _ _ h2, h3, ⟨kvs, s _ _ h4, h5⟩, s _ _ h6, s _ _ h7, h8, h9⟩
/-- the object is written, its fields alone -/
theorem SAt.obj {dx : Addr} {S' : RS} {fs : List (Str × V)} (A : SAt C H p pl d nl sl plv nums S m)
    (e : fs = sfl plv (.ref pl) (.int S'.place) (.ref d) (.ref nl) (.int S'.taken) (.ref sl) (.bl (decide (S'.word = "stop"))))
    (e1 : S'.been = S.been) (e2 : S'.piece = S.piece) (e3 : S'.w = S.w) (e4 : S'.told = S.told) : SAt C (upd H p (.ins C dx fs)) p pl d nl sl plv nums S' m := by
  obtain ⟨n1, n2, n3, n4, _⟩ := A.nes
  obtain ⟨kvs, h4, h5⟩ := A.dict
  subst e
  refine ⟨⟨dx, upd_same⟩, by rw [upd_ne n1.symm, e1]; exact A.passed, by rw [e1, e2]; exact A.last, ⟨kvs, by rw [upd_ne n2.symm]; exact h4, by rw [e3]; exact h5⟩, by rw [upd_ne n3.symm]; exact A.nums, by rw [upd_ne n4.symm, e4]; exact A.spoken, A.ne, by rw [e1, e4]; exact A.few⟩
/-- the worths are written -/
theorem SAt.worths {kvs : List (Key × V)} {x : Str} {n : Int} (A : SAt C H p pl d nl sl plv nums S m) (h : H d = some (.dK kvs)) (dw : DW kvs S.w) (hl : kvs.length ≤ m) :
    SAt C (upd H d (.dK (putK kvs (Sum.inr x) (.int n)))) p pl d nl sl plv nums { S with w := setW S.w x n } (m + 1) := by
  obtain ⟨n1, n2, n3, n4, n5, n6, n7⟩ := A.nes
  obtain ⟨dx, h1⟩ := A.ob
  refine ⟨⟨dx, by rw [upd_ne n2]; exact h1⟩, by rw [upd_ne n5.symm]; exact A.passed, A.last, ⟨_, upd_same, dw.put x n, ?_⟩, by rw [upd_ne n6.symm]; exact A.nums, by rw [upd_ne n7.symm]; exact A.spoken, A.ne, ⟨Nat.le_succ_of_le A.few.1, Nat.le_succ_of_le A.few.2⟩⟩
  have := length_putK kvs (Sum.inr x : Key) (V.int n)
  omega
/-- more is spoken -/
theorem SAt.speak {n : Int} (A : SAt C H p pl d nl sl plv nums S m) : SAt C (upd H sl (.lst (S.told.map V.int ++ [.int n]))) p pl d nl sl plv nums { S with told := S.told ++ [n] } (m + 1) := by
  obtain ⟨n1, n2, n3, n4, n5, n6, n7⟩ := A.nes
  obtain ⟨dx, h1⟩ := A.ob
  obtain ⟨kvs, h4, h5, h6⟩ := A.dict
  refine ⟨⟨dx, by rw [upd_ne n4]; exact h1⟩, by rw [upd_ne A.ne.2.1]; exact A.passed, A.last, ⟨kvs, by rw [upd_ne n7]; exact h4, h5, Nat.le_succ_of_le h6⟩, by rw [upd_ne A.ne.2.2]; exact A.nums, by rw [upd_same, List.map_append]; rfl, A.ne, ?_, Nat.le_succ_of_le A.few.2⟩
  have := A.few.1
  show (S.told ++ [n]).length ≤ m + 1
  rw [List.length_append]
  exact Nat.succ_le_succ this
/-- a piece more -/
theorem SAt.come {q : Nat} (A : SAt C H p pl d nl sl plv nums S m) : SAt C (upd H pl (.lst ((S.been.map fun k => V.int (k : Nat)) ++ [.int q]))) p pl d nl sl plv nums { S with piece := q, been := S.been ++ [q] } (m + 1) := by
  obtain ⟨n1, n2, n3, n4, n5, n6, n7⟩ := A.nes
  obtain ⟨dx, h1⟩ := A.ob
  obtain ⟨kvs, h4, h5, h6⟩ := A.dict
  refine ⟨⟨dx, by rw [upd_ne n1]; exact h1⟩, by rw [upd_same, List.map_append]; rfl, ⟨S.been, rfl⟩, ⟨kvs, by rw [upd_ne n5]; exact h4, h5, Nat.le_succ_of_le h6⟩, by rw [upd_ne A.ne.1.symm]; exact A.nums, by rw [upd_ne A.ne.2.1.symm]; exact A.spoken, A.ne, Nat.le_succ_of_le A.few.1, ?_⟩
  have := A.few.2
  show (S.been ++ [q]).length ≤ m + 1 + 1
  rw [List.length_append]
  exact Nat.succ_le_succ this
theorem SAt.mono {m' : Nat} (A : SAt C H p pl d nl sl plv nums S m) (h : m ≤ m') : SAt C H p pl d nl sl plv nums S m' := by
  obtain ⟨h1, h2, h3, ⟨kvs, h4, h5, h6⟩, h7, h8, h9, h10⟩ := A
  exact ⟨h1, h2, h3, ⟨kvs, h4, h5, Nat.le_trans h6 h⟩, h7, h8, h9, Nat.le_trans h10.1 h, Nat.le_trans h10.2 (Nat.succ_le_succ h)⟩
end
/-! ### the promises -/
def spWorth (C : Addr) : Sp := fun vs H Q _ => ∃ (p pl d nl sl : Addr) (plv : V) (nums : List Int) (S : RS) (m : Nat) (x : Str), vs = [.ref p, .str x] ∧ SAt C H p pl d nl sl plv nums S m ∧ Q (.int (S.w x)) H
/-- what comes next: a deed or the end -/
inductive Nx (H : Hp) (ds : List Deed) (e : End) (i : Nat) (v : V) : Prop
  | deed (dd : Deed) (q : Addr) (h : ds[i]? = some dd) (hv : v = .ref q) (hq : H q = some (.tup (vDeed dd)))
  | end_ (q : Addr) (h : ds[i]? = none) (hv : v = .ref q) (hq : H q = some (.tup (vEnd e)))
def spComing (C : Addr) : Sp := fun vs H Q _ => ∃ (p pl d nl sl : Addr) (plv : V) (nums : List Int) (S : RS) (m : Nat) (ps : List Piece) (ds : List Deed) (e : End), vs = [.ref p] ∧ SAt C H p pl d nl sl plv nums S m ∧ RdD H plv (dPlan ps) ∧ ps[S.piece]? = some (ds, e) ∧
  ∀ v, Nx H ds e S.place v → Q v H
def isRead : Deed → Bool
  | .read _ => true
  | _ => false
def lackB (ps : List Piece) (nums : List Int) (S : RS) : Bool := match ps[S.piece]? with
  | none => false
  | some (ds, _) => match ds[S.place]? with
    | some dd => isRead dd && decide (S.taken = nums.length)
    | none => false
def spLacks (C : Addr) : Sp := fun vs H Q _ => ∃ (p pl d nl sl : Addr) (plv : V) (nums : List Int) (S : RS) (m : Nat) (ps : List Piece), vs = [.ref p] ∧ SAt C H p pl d nl sl plv nums S m ∧ RdD H plv (dPlan ps) ∧ S.piece < ps.length ∧ Q (.bl (lackB ps nums S)) H
def spTakeN (C : Addr) : Sp := fun vs H Q _ => ∃ (p pl d nl sl : Addr) (plv : V) (nums : List Int) (S : RS) (m : Nat) (n : Int), vs = [.ref p] ∧ SAt C H p pl d nl sl plv nums S m ∧ nums[S.taken]? = some n ∧
  ∀ H', SAt C H' p pl d nl sl plv nums { S with taken := S.taken + 1 } m → But4 p pl d sl H H' → Q (.int n) H'
def spDoDeed (C : Addr) : Sp := fun vs H Q _ => ∃ (p pl d nl sl q : Addr) (plv : V) (nums : List Int) (S : RS) (m : Nat) (dd : Deed), vs = [.ref p, .ref q] ∧ SAt C H p pl d nl sl plv nums S m ∧ H q = some (.tup (vDeed dd)) ∧ (isRead dd = true → S.taken < nums.length) ∧ m ≤ 10000 ∧
  ∀ H', SAt C H' p pl d nl sl plv nums (stepD nums S dd) (m + 1) → But4 p pl d sl H H' → Q .non H'
def spCome (C : Addr) : Sp := fun vs H Q _ => ∃ (p pl d nl sl : Addr) (plv : V) (nums : List Int) (S : RS) (m n : Nat), vs = [.ref p, .int n] ∧ SAt C H p pl d nl sl plv nums S m ∧ m ≤ 10000 ∧
  ∀ H', SAt C H' p pl d nl sl plv nums { S with piece := n, place := 0, been := S.been ++ [n] } (m + 1) → But4 p pl d sl H H' → Q .non H'
def spDoEnd (C : Addr) : Sp := fun vs H Q _ => ∃ (p pl d nl sl q : Addr) (plv : V) (nums : List Int) (S : RS) (m : Nat) (e : End), vs = [.ref p, .ref q] ∧ SAt C H p pl d nl sl plv nums S m ∧ H q = some (.tup (vEnd e)) ∧ m ≤ 10000 ∧
  ∀ H', SAt C H' p pl d nl sl plv nums (stepE S e) (m + 1) → But4 p pl d sl H H' → Q .non H'
def spDoStep (C : Addr) : Sp := fun vs H Q _ => ∃ (p pl d nl sl : Addr) (plv : V) (nums : List Int) (S : RS) (m : Nat) (ps : List Piece), vs = [.ref p] ∧ SAt C H p pl d nl sl plv nums S m ∧ RdD H plv (dPlan ps) ∧ S.piece < ps.length ∧ S.taken ≤ nums.length ∧ lackB ps nums S = false ∧ m ≤ 10000 ∧
  ∀ H', SAt C H' p pl d nl sl plv nums (stepF ps nums S) (m + 1) → But4 p pl d sl H H' → Q .non H'
/-! ### many steps -/
def onF (ps : List Piece) (nums : List Int) (S : RS) : RS := if S.word = "on" then stepF ps nums S else S
def walkF (ps : List Piece) (nums : List Int) : Nat → RS → RS
  | 0, S => S
  | n + 1, S => onF ps nums (walkF ps nums n S)
def start0 (pc : Nat) (w : Str → Int) : RS := ⟨pc, 0, w, 0, [], "on", [pc]⟩
/-! ### held: a stop was done, or a number lacks -/
def heldB (ps : List Piece) (nums : List Int) (S : RS) : Bool := decide (S.word = "stop") || lackB ps nums S
def goF (ps : List Piece) (nums : List Int) : Nat → RS → RS
  | 0, S => S
  | n + 1, S => if heldB ps nums (goF ps nums n S) = true then goF ps nums n S else stepF ps nums (goF ps nums n S)
def cntF (ps : List Piece) (nums : List Int) : Nat → RS → Nat
  | 0, _ => 0
  | n + 1, S => if heldB ps nums (goF ps nums n S) = true then cntF ps nums n S else cntF ps nums n S + 1
def spHeld (C : Addr) : Sp := fun vs H Q _ => ∃ (p pl d nl sl : Addr) (plv : V) (nums : List Int) (S : RS) (m : Nat) (ps : List Piece), vs = [.ref p] ∧ SAt C H p pl d nl sl plv nums S m ∧ RdD H plv (dPlan ps) ∧ S.piece < ps.length ∧ Q (.bl (heldB ps nums S)) H
/-- the stand at the end of the steps, and how many were done -/
def spGoOn (C : Addr) : Sp := fun vs H Q _ => ∃ (p pl d nl sl : Addr) (plv : V) (nums : List Int) (S : RS) (m n : Nat) (ps : List Piece), vs = [.ref p, .int n] ∧ SAt C H p pl d nl sl plv nums S m ∧ RdD H plv (dPlan ps) ∧ InPlan ps ∧ S.piece < ps.length ∧ S.taken ≤ nums.length ∧ m + n ≤ 10000 ∧
  ∀ H', SAt C H' p pl d nl sl plv nums (goF ps nums n S) (m + cntF ps nums n S) → But4 p pl d sl H H' → Q (.int (cntF ps nums n S : Nat)) H'
def spInitS (C : Addr) : Sp := fun vs H Q _ => ∃ (p dx d0 np : Addr) (plv : V) (pc : Nat) (kvs : List (Key × V)) (w : Str → Int) (nums : List Int), vs = [.ref p, plv, .int pc, .ref d0, .ref np] ∧ H p = some (.ins C dx []) ∧ H d0 = some (.dK kvs) ∧ DW kvs w ∧ H np = some (.tup (nums.map V.int)) ∧
  ∀ (pl d nl sl : Addr) (H' : Hp), SAt C H' p pl d nl sl plv nums (start0 pc w) kvs.length → (∀ c o, H c = some o → c ≠ p → H' c = some o) → H pl = none → H d = none → H nl = none → H sl = none → Q .non H'
def dRun (S : RS) : PyData := .tuple [.str S.word, .tuple (S.told.map PyData.int)]
def spRunAt : Sp := fun vs H Q _ => ∃ (d0 np : Addr) (plv : V) (pc n : Nat) (kvs : List (Key × V)) (w : Str → Int) (nums : List Int) (ps : List Piece), vs = [plv, .int pc, .ref d0, .ref np, .int n] ∧ RdD H plv (dPlan ps) ∧ InPlan ps ∧ pc < ps.length ∧ H d0 = some (.dK kvs) ∧ DW kvs w ∧ H np = some (.tup (nums.map V.int)) ∧ kvs.length ≤ 1000 ∧ n ≤ 2000 ∧
  ∀ v H', RdD H' v (dRun (walkF ps nums n (start0 pc w))) → Same H H' → Q v H'
def spRun : Sp := fun vs H Q _ => ∃ (np : Addr) (plv : V) (n : Nat) (nums : List Int) (ps : List Piece), vs = [plv, .ref np, .int n] ∧ RdD H plv (dPlan ps) ∧ InPlan ps ∧ 0 < ps.length ∧ H np = some (.tup (nums.map V.int)) ∧ n ≤ 2000 ∧
  ∀ v H', RdD H' v (dRun (walkF ps nums n (start0 0 fun _ => 0))) → Same H H' → Q v H'
def dSeen (S : RS) : PyData := .tuple (S.been.map fun k => PyData.int (k : Nat))
def spSeen : Sp := fun vs H Q _ => ∃ (np : Addr) (plv : V) (n : Nat) (nums : List Int) (ps : List Piece), vs = [plv, .ref np, .int n] ∧ RdD H plv (dPlan ps) ∧ InPlan ps ∧ 0 < ps.length ∧ H np = some (.tup (nums.map V.int)) ∧ n ≤ 2000 ∧
  ∀ v H', RdD H' v (dSeen (walkF ps nums n (start0 0 fun _ => 0))) → Same H H' → Q v H'
end L2

set_option Elab.async false
set_option linter.all false
set_option maxRecDepth 100000
namespace HT
open PySem PyProof.Rows PySem.Spec
section
variable {prog : Program} {w : World} {A : Around} {E : Value → Shared → Prop} {s : Shared}
theorem getItem_tuple_all {t sl : Addr} {items : Array Value} {vl vu : Value} {lo hi : Option Int} {Q : Value → Shared → Prop} (ht : IsTup s.heap t items) (hs : s.heap.IsSliceOf sl vl vu .none) (pl : IsPart vl lo) (pu : IsPart vu hi)
    (hw : sIx items.size 0 lo = 0 ∧ sIx items.size items.size hi = items.size) (h : Q (.ref t) s) : wpAny (model prog w) A (getItem (.ref t) (.ref sl)) Q E s := by
  obtain ⟨os, hos, hcs, hds⟩ := id hs
  have hTs : s.TypeIs (.ref sl) "slice" := ⟨os, hos, hcs⟩
  unfold getItem
  try with_reducible refine wpAny_holding ?_
  first | refine wpAny_bind (wpAny_pure ?_) | skip
  refine wpAny_bind (wpAny_sequenceKey ht.typeIs (by decide) ?_)
  refine wpAny_bind (wpAny_callSpecial?_slot (name := Str.ofString "__getitem__") ht.typeIs PyProof.Rows.slot_tuple_getitem
    (wpAny_call_entry PyProof.Rows.slot_tuple_getitem ht.typeIs entry_tuple_getitem ?_ (args_tuple_getitem _ _)))
  show wpAny _ _ (Builtin.Tuple.tupleItemsOf (.ref t) >>= _) _ _ s
  refine wpAny_bind (tupleItemsOf_ ht ?_)
  refine wpAny_bind (wpAny_typeOf hTs ?_)
  rw [if_pos (by decide)]
  refine wpAny_bind (sliceApplied_gen hs pl pu ?_)
  have hno : ((((sIx items.size 0 lo : Nat) : Int) == 0 && (1 : Int) == 1 && (sIx items.size items.size hi - sIx items.size 0 lo) == items.size) = true) := by
    rw [hw.1, hw.2]
    simp
  show wpAny _ _ (if (((sIx items.size 0 lo : Nat) : Int) == 0 && (1 : Int) == 1 && (sIx items.size items.size hi - sIx items.size 0 lo) == items.size) = true then _ else _) _ _ s
  rw [if_pos hno]
  refine wpAny_bind ?_
  unfold Builtin.Tuple.tupleIsExact
  refine wpAny_bind (wpAny_typeOf ht.typeIs (wpAny_pure ?_))
  rw [if_pos (by decide)]
  refine wpAny_bind (wpAny_rule ?_)
  first
    | exact wpAny_pure ⟨_, rfl, wpAny_pure h⟩
    | exact wpAny_bind (wpAny_pure (wpAny_pure ⟨_, rfl, wpAny_pure h⟩))
    | exact wpAny_pure (wpAny_pure ⟨_, rfl, wpAny_pure h⟩)
end
end HT
namespace L2
open PySem PySem.Spec PyProof.Rows
section
variable {X : Cx}
/-- t[lo:hi] -/
def rSlTA (K : PySem.W.Frag) : V → Option Int → Option Int → Hp → VK → Prop := fun x lo hi H Q => ∃ a xs, x = .ref a ∧ SqT K H a xs ∧
  ((HT.sIx xs.length 0 lo = 0 ∧ HT.sIx xs.length xs.length hi = xs.length) → Q (.ref a) H) ∧ (¬ (HT.sIx xs.length 0 lo = 0 ∧ HT.sIx xs.length xs.length hi = xs.length) → ∀ p, H p = none → Q (.ref p) (upd H p (.tup (cutV xs lo hi))))
theorem sl_tupA : SlR X (rSlTA X.K) := by
  intro pins s σ H x v vl vu lo hi sl Q I rx hs pl pu h
  obtain ⟨a, xs, rfl, hx, q1, q2⟩ := h
  by_cases hw : HT.sIx xs.length 0 lo = 0 ∧ HT.sIx xs.length xs.length hi = xs.length
  · cases rx
    obtain ⟨its, r, ht, hz⟩ := I.tuple hx
    have hlen : its.toArray.size = xs.length := by rw [List.size_toArray]; exact r.length.symm
    refine ⟨"tuple", _, PyProof.Rows.slot_tuple_getitem.lookup, ht.typeIs, ?_⟩
    exact HT.getItem_tuple_all ht hs pl pu (by rw [hlen]; exact hw) ⟨.ref a, H, I, rfl, q1 hw⟩
  · exact sl_tup pins s σ H (.ref a) v vl vu lo hi sl Q I rx hs pl pu ⟨a, xs, rfl, hx, hw, q2 hw⟩
end
theorem StAt.mono {H : Hp} {st d tl bl : Addr} {S : RS} {m m' : Nat} (h : StAt H st d tl bl S m) (le : m ≤ m') : StAt H st d tl bl S m' := by
  obtain ⟨h1, ⟨kvs, h2, h3, h4⟩, h5, h6, h7, h8⟩ := h
  exact ⟨h1, ⟨kvs, h2, h3, Nat.le_trans h4 le⟩, h5, h6, h7, Nat.le_trans h8.1 le, Nat.le_trans h8.2 (Nat.succ_le_succ le)⟩
/-- the law's walk -/
def spWalkL : Sp := fun vs H Q _ => ∃ (np : Addr) (plv : V) (n : Nat) (nums : List Int) (ps : List Piece), vs = [plv, .ref np, .int n] ∧ RdD H plv (dPlan ps) ∧ InPlan ps ∧ 0 < ps.length ∧ H np = some (.tup (nums.map V.int)) ∧ n ≤ 2000 ∧
  ∀ st d tl bl H', StAt H' st d tl bl (walkF ps nums n (start0 0 fun _ => 0)) n → Same H H' → Q (.ref st) H'
def spInputL : Sp := fun vs H Q _ => ∃ (b : Addr), vs = [.ref b] ∧ Bag H b ∧ ∀ (t : Addr) (nums : List Int) (H' : Hp), H' t = some (.tup (nums.map V.int)) → Bag H' b → Fix b H H' → Q (.ref t) H'
def spRightL : Sp := fun vs H Q _ => ∃ (np : Addr) (plv : V) (n : Nat) (nums : List Int) (ps : List Piece), vs = [plv, .ref np, .int n] ∧ RdD H plv (dPlan ps) ∧ InPlan ps ∧ 0 < ps.length ∧ H np = some (.tup (nums.map V.int)) ∧ n ≤ 2000 ∧
  ∀ H', Same H H' → Q (.bl true) H'
end L2

set_option Elab.async false
set_option linter.all false
set_option maxRecDepth 100000
namespace L2
open PySem PySem.Spec PyProof.Rows
theorem mix_str_inv {P : Program} {w : World} {x : Str} {v : Value} (h : (mixKind P w).is (Sum.inr x) v = true) : ∃ t, v = .str x t := by
  cases v with
  | str y t =>
    have : y = x := by simpa [mixKind, keyIs, Value.isStrOf] using h
    exact ⟨t, by rw [this]⟩
  | _ => simp [mixKind, keyIs, Value.isStrOf] at h
theorem strsAre_at : ∀ {vs : List Value} {ks : List Str}, vs.length = ks.length → (∀ (j : Nat) (v : Value) (x : Str), vs[j]? = some v → ks[j]? = some x → ∃ t, v = .str x t) → StrsAre vs ks
  | [], [], _, _ => .nil
  | v :: vs, x :: ks, hl, h => by
    obtain ⟨t, rfl⟩ := h 0 v x rfl rfl
    exact .cons x t (strsAre_at (by simpa using hl) fun j v' x' h1 h2 => h (j + 1) v' x' (by simpa using h1) (by simpa using h2))
  | [], _ :: _, hl, _ => by simp at hl
  | _ :: _, [], hl, _ => by simp at hl
section
variable {prog : Program} {w : World} {A : Around} {E : Value → Shared → Prop} {s : Shared}
open PySem.Calls PySem.W in
/-- the items of a source, gathered; the heap has grown -/
theorem gather {T : String} {r d : Addr} {n : Nat} {P : Nat → Value → Prop} {OK : Heap → Prop} {G : List Value → Shared → Prop} (src : KdlSrc prog w T r d n P OK) (calm : A.handled = none) (ok : OK s.heap) (few : n ≤ sizeLine)
    (fin : ∀ (g : Heap) (tk : Nat) (got : Array Value), (∀ b o, s.heap.get? b = some o → g.get? b = some o) → ItemsOf P got n → s.heap.objs.size ≤ g.objs.size → G got.toList { s with heap := g, toks := tk }) :
    wpAny (model prog w) A (collect (.ref r)) G E s := by
  obtain ⟨lt1, lt2⟩ := src.there _ ok
  unfold collect
  refine wpAny_bind (wpAny_runValue (codeAny_builtin entry_proto_collect' ?_))
  rw [Around.under_plainId PySem.F.plain_proto_collect _]
  show wpAny _ A.in1 (newList [] >>= fun z => again (.builtin "list.__iadd__" ⟨[z, .ref r], []⟩)) _ _ s
  refine wpAny_bind (wpAny_newObj_type (wpAny_pure ⟨plainId_quiet PySem.F.plain_list_iadd _, codeAny_builtin entry_list_iadd' ?_⟩))
  rw [Around.under_plainId PySem.F.plain_list_iadd _]
  show wpAny _ A.in1 (Builtin.List.listExtendWith (.ref s.heap.objs.size) (.ref r) (.ref s.heap.objs.size)) _ _ _
  have made : (s.heap.push { cls := .type "list", data := .seq ([] : List Value).toArray }).get? s.heap.objs.size = some { cls := .type "list", data := .seq #[] } := Heap.get?_push_size _ rfl
  have run := kdl_extend (A := A) (s := { s with heap := s.heap.push { cls := .type "list", data := .seq ([] : List Value).toArray } })
    (R := fun (z : Result) (t : Shared) => ∃ (g : Heap) (tk : Nat) (got : Array Value) (c : Nat), z = .ok (.ret (.ref s.heap.objs.size)) ∧ t = { s with heap := g, toks := tk } ∧
      (∀ b o, s.heap.get? b = some o → g.get? b = some o) ∧ g.get? s.heap.objs.size = some { cls := .type "list", dict := none, data := .seq got c, slots := #[] } ∧ ItemsOf P got n)
    src calm (src.keep _ _ ok fun b _ o e => Heap.get?_push_of_some _ e) s.heap.objs.size (Nat.ne_of_gt lt1) (Nat.ne_of_gt lt2) (.ref s.heap.objs.size) 0 made
    (fun g tk got c kept at_ its => ⟨g, tk, got, c, rfl, rfl, fun b o e => kept b o (Nat.ne_of_lt (Heap.lt_size e)) (Heap.get?_push_of_some _ e), at_, its⟩) few
  refine wpAny_mono run (fun z t x => ?_) fun z t ⟨_, _, _, _, bad, _⟩ => by cases bad
  cases z with
  | done f =>
    obtain ⟨g, tk, got, c, e, rfl, kept, at_, its⟩ := x
    cases e
    show wpAny _ A (load s.heap.objs.size >>= _) _ _ _
    exact wpAny_bind (wpAny_load at_ (wpAny_pure (fin g tk got kept its (Nat.le_of_lt (Heap.lt_size at_)))))
  | again more =>
    refine ⟨x.1, codeAny_mono x.2 fun z' t' ⟨g, tk, got, c, e1, e2, kept, at_, its⟩ => ?_⟩
    subst e1 e2
    show wpAny _ A (load s.heap.objs.size >>= _) _ _ _
    exact wpAny_bind (wpAny_load at_ (wpAny_pure (fin g tk got kept its (Nat.le_of_lt (Heap.lt_size at_)))))
theorem sorted_dictS {a : Addr} {kvs : List (Key × Value)} {ks : List Str} {Q : Value → Shared → Prop} (hh : A.handled = none) (lo : (a == sysModules) = false) (dd : s.heap.DictOf (mixKind prog w) a kvs)
    (hk : kvs.map (·.1) = ks.map Sum.inr) (h64 : ks.length < 64)
    (h : ∀ (h' : Heap) (tk : Nat) (D : Addr) (out : Array Value) (ss' : List Str) (e : Nat), (∀ b o, s.heap.get? b = some o → h'.get? b = some o) → s.heap.objs.size ≤ D → h'.get? D = some { cls := .type "list", data := .seq out e } →
      StrsAre out.toList ss' → ss'.Perm ks → sortedS ss' = true → Q (.ref D) { s with heap := h', toks := tk }) :
    wpAny (model prog w) A (call (.builtin "sorted") [.ref a]) Q E s := by
  refine Calls.call_function_entry kind_sorted plain_sorted entry_sorted (args_sorted1 _) ?_
  unfold Builtin.«sorted»
  refine wpAny_bind (m := checkCount "sorted" 1 1 _) (wpAny_pure ?_)
  obtain ⟨ep, hat⟩ := dd.dictAt
  have hlk : kvs.length = ks.length := by have := congrArg List.length hk; simpa using this
  have hs : sizeLine = 16777216 ∨ 64 ≤ sizeLine := .inr (by decide)
  have hz : kvs.length ≤ sizeLine := by rw [hlk]; exact Nat.le_trans (Nat.le_of_lt h64) (by decide)
  refine wpAny_bind (gather (A := A.in1) (PySem.W.kdl_dict (knd := mixKind prog w) (kvs := kvs) (ep := ep) lo) hh hat hz fun h' tk acc hkeep hacc hsz => ?_)
  have hl : acc.toList.length = ks.length := by rw [Array.length_toList, hacc.1, hlk]
  have hS : StrsAre acc.toList ks := strsAre_at hl fun j v x h1 h2 => by
    obtain ⟨k, y, e1, e2⟩ := hacc.2 j v (by rw [← Array.getElem?_toList]; exact h1)
    have e3 : (kvs.map (·.1))[j]? = some k := by rw [List.getElem?_map, e1]; rfl
    rw [hk, List.getElem?_map, h2] at e3
    cases (Option.some.inj e3)
    exact mix_str_inv e2
  refine wpAny_bind (wpAny_newList ?_ (by rw [hl]; exact Nat.le_trans (Nat.le_of_lt h64) (by decide)))
  have hoL : (h'.push (seqObj "list" acc.toList.toArray 0)).get? h'.objs.size = some (seqObj "list" acc.toList.toArray 0) := Heap.get?_push_size _ rfl
  refine wpAny_bind (wpAny_holding (wpAny_call_entry slot_list_sort ⟨_, hoL, rfl⟩ entry_list_sort (list_sort_treeK strKind_oneLt hoL hS.keysOf (fun v₁ v₂ rest e => keyKind_strs (by rw [← e]; exact hS)) (by rw [hl]; exact h64) fun st' a1 a2 => ⟨_, rfl, ?_⟩) (args_list_sort _)))
  obtain ⟨ss', b1, b2, b3⟩ := sorted_out_str hS a1 a2
  obtain ⟨e, he⟩ := sortedHeap_at (out := (arrOf st').map (·.2)) hoL
  refine wpAny_pure ⟨_, rfl, h _ tk _ _ ss' e (fun b o ho => ?_) hsz he b1 b2 b3⟩
  have h1 := hkeep b o ho
  have hlt := Heap.lt_size h1
  rw [sortedHeap_old (Nat.ne_of_lt hlt) (by rw [size_push']; exact Nat.lt_succ_of_lt hlt)]
  exact Heap.get?_push_of_some _ h1
end
theorem valsStr : ∀ {us : List Value} {ys : List Str}, StrsAre us ys → Vals (ys.map V.str) us
  | _, _, .nil => .nil
  | _, _, .cons x t r => .cons ⟨t, rfl⟩ (valsStr r)
section
variable {X : Cx}
/-- sorted(d), keys texts -/
theorem call_sortedD (hc : X.calm = true) : CallR X (.builtin "sorted") (fun vs H Q => ∃ (a : Addr) (kvs : List (Key × V)) (ks : List Str), vs = [.ref a] ∧ H a = some (.dK kvs) ∧ kvs.map (·.1) = ks.map Sum.inr ∧ ks.length < 64 ∧
    ∀ (l : Addr) (ss : List Str), ss.Perm ks → sortedS ss = true → H l = none → Q (.ref l) (upd H l (.lst (ss.map V.str)))) := by
  intro pins s σ H xs us Q I r h
  obtain ⟨a, kvs, ks, rfl, ha, hk, h64, q⟩ := h
  obtain ⟨u, rfl, ru⟩ := vals1 r
  cases (show u = Value.ref a from ru)
  obtain ⟨z, hd, vs, rel, dd⟩ := dk_of I.hok ha
  refine sorted_dictS (I.ok.hd hc) hd dd (by rw [← rel.keys]; exact hk) h64 fun h' tk D out ss' e hkeep hD he hS hp hs => ?_
  have hv : Vals (ss'.map V.str) out.toList := valsStr hS
  refine ⟨.ref D, _, I.laid (t' := tk) (o := .lst (ss'.map V.str)) hkeep hD (show ObjOk X.prog X.w _ h' _ (.lst (ss'.map V.str)) from ⟨?_, out.toList, e, hv, by simpa using he⟩), rfl, q D ss' hp hs (I.hok.fresh hD)⟩
  rw [List.length_map, hp.length_eq]
  exact Nat.le_trans (Nat.le_of_lt h64) (by decide)
end
end L2
namespace L2
open PySem PySem.Spec PyProof.Rows
theorem valV_mem {kvs : List (Key × V)} {k : Key} {v : V} (nd : (kvs.map (·.1)).Nodup) (h : (k, v) ∈ kvs) : valV kvs k = some v := by
  induction kvs with
  | nil => cases h
  | cons p r ih =>
    obtain ⟨k', v'⟩ := p
    rw [List.map_cons, List.nodup_cons] at nd
    rcases List.mem_cons.mp h with e | h
    · cases e
      simp [valV]
    · have hne : ¬ k' = k := fun z => nd.1 (by rw [z]; exact List.mem_map.mpr ⟨(k, v), h, rfl⟩)
      have := ih nd.2 h
      simp [valV, hne] at this ⊢
      exact this
section
variable {X : Cx}
def rSameD (neg : Bool) : R2 := fun x y H Q => ∃ a b kvs, x = .ref a ∧ y = .ref b ∧ H a = some (.dK kvs) ∧ H b = some (.dK kvs) ∧ (∀ p ∈ kvs, ∃ i, p.2 = V.int i) ∧ Q (.bl (!neg)) H
end
theorem sub_len {α : Type} [DecidableEq α] : ∀ {l m : List α}, l.Nodup → (∀ x ∈ l, x ∈ m) → l.length ≤ m.length
  | [], _, _, _ => Nat.zero_le _
  | x :: l, m, nd, h => by
    rw [List.nodup_cons] at nd
    have hx := h x (List.mem_cons_self ..)
    have h1 := sub_len (l := l) (m := m.erase x) nd.2 fun y hy => (List.mem_erase_of_ne (fun z => nd.1 (by rw [← z]; exact hy))).mpr (h y (List.mem_cons_of_mem _ hy))
    rw [List.length_erase_of_mem hx] at h1
    have h2 : 0 < m.length := List.length_pos_of_mem hx
    show l.length + 1 ≤ m.length
    omega
end L2
namespace L2
open PySem PySem.Spec PyProof.Rows
theorem bt_sorted : bootBuiltins "sorted" = some (.builtin "sorted") := PyProof.Rows.boot_sorted
/-- keys texts out of xs, each once -/
def KOk (xs : List Str) (kvs : List (Key × V)) : Prop := ∃ ks : List Str, kvs.map (·.1) = ks.map Sum.inr ∧ ks.Nodup ∧ ∀ x ∈ ks, x ∈ xs
theorem putK_keys {kvs : List (Key × V)} {k : Key} {v : V} : (putK kvs k v).map (·.1) = kvs.map (·.1) ∧ k ∈ kvs.map (·.1) ∨ (putK kvs k v).map (·.1) = kvs.map (·.1) ++ [k] ∧ ¬ k ∈ kvs.map (·.1) := by
  unfold putK
  by_cases h : (kvs.any fun kv => decide (kv.1 = k)) = true
  · rw [if_pos h]
    refine .inl ⟨?_, ?_⟩
    · rw [List.map_map]
      refine List.map_congr_left fun p _ => ?_
      show (if p.1 = k then (p.1, v) else p).1 = p.1
      split <;> rfl
    · obtain ⟨p, hp, he⟩ := List.any_eq_true.mp h
      exact List.mem_map.mpr ⟨p, hp, of_decide_eq_true he⟩
  · rw [if_neg h]
    refine .inr ⟨by rw [List.map_append]; rfl, fun hm => h ?_⟩
    obtain ⟨p, hp, he⟩ := List.mem_map.mp hm
    exact List.any_eq_true.mpr ⟨p, hp, decide_eq_true he⟩
theorem KOk.put {xs : List Str} {kvs : List (Key × V)} (h : KOk xs kvs) {x : Str} (hx : x ∈ xs) (v : V) : KOk xs (putK kvs (Sum.inr x) v) := by
  obtain ⟨ks, e, nd, hm⟩ := h
  rcases putK_keys (kvs := kvs) (k := (Sum.inr x : Key)) (v := v) with ⟨e1, _⟩ | ⟨e1, hn⟩
  · exact ⟨ks, by rw [e1]; exact e, nd, hm⟩
  · have hx' : ¬ x ∈ ks := fun z => hn (by rw [e]; exact List.mem_map.mpr ⟨x, z, rfl⟩)
    refine ⟨ks ++ [x], by rw [e1, e, List.map_append]; rfl, ?_, fun y hy => ?_⟩
    · rw [List.nodup_append]
      refine ⟨nd, by simp, fun a ha b hb => ?_⟩
      rw [List.mem_singleton] at hb
      subst hb
      exact fun z => hx' (by rw [← z]; exact ha)
    · rcases List.mem_append.mp hy with hy | hy
      · exact hm y hy
      · rw [List.mem_singleton.mp hy]; exact hx
theorem KOk.len {xs : List Str} {kvs : List (Key × V)} (h : KOk xs kvs) : kvs.length ≤ xs.length := by
  obtain ⟨ks, e, nd, hm⟩ := h
  have h1 := sub_len nd hm
  have h2 := congrArg List.length e
  simp only [List.length_map] at h2
  omega
def nameD : Deed → Str
  | .put x _ => x
  | .copy x _ => x
  | .add x _ => x
  | .read x => x
  | .tell x => x
theorem at_nameD (dd : Deed) : atI (vDeed dd) 1 = some (.str (nameD dd)) := by cases dd <;> exact at1
theorem DeedOk.name {xs : List Str} {dd : Deed} (h : DeedOk xs dd) : nameD dd ∈ xs := by
  cases dd with
  | put x n => exact h.1
  | copy x y => exact h.1
  | add x n => exact h.1
  | read x => exact h
  | tell x => exact h
/-- worths off a dict of numbers -/
def wOf (kvs : List (Key × V)) : Str → Int := fun x => match valV kvs (Sum.inr x : Key) with
  | some (.int i) => i
  | _ => 0
def IntsIn (kvs : List (Key × V)) : Prop := ∀ p ∈ kvs, ∃ i, p.2 = V.int i
theorem valV_from {kvs : List (Key × V)} {k : Key} {v : V} (h : valV kvs k = some v) : ∃ p ∈ kvs, p.2 = v := by
  unfold valV at h
  cases e : kvs.find? fun kv => decide (kv.1 = k) with
  | none => rw [e] at h; cases h
  | some p => rw [e] at h; exact ⟨p, List.mem_of_find?_eq_some e, Option.some.inj h⟩
theorem IntsIn.dw {kvs : List (Key × V)} (h : IntsIn kvs) : DW kvs (wOf kvs) := fun x => by
  unfold wOf
  cases e : valV kvs (Sum.inr x : Key) with
  | none => rfl
  | some v =>
    obtain ⟨p, hp, rfl⟩ := valV_from e
    obtain ⟨i, hi⟩ := h p hp
    rw [hi]
    rfl
theorem IntsIn.put {kvs : List (Key × V)} (h : IntsIn kvs) (k : Key) (i : Int) : IntsIn (putK kvs k (.int i)) := fun p hp => by
  unfold putK at hp
  split at hp
  · obtain ⟨q, hq, rfl⟩ := List.mem_map.mp hp
    split
    · exact ⟨i, rfl⟩
    · exact h q hq
  · rcases List.mem_append.mp hp with hp | hp
    · exact h p hp
    · rw [List.mem_singleton.mp hp]; exact ⟨i, rfl⟩
def spNamesIn : Sp := fun vs H Q _ => ∃ (plv : V) (ps : List Piece) (xs : List Str) (m : Nat), vs = [plv] ∧ RdD H plv (dPlan ps) ∧ PlanOk xs m ps ∧ xs.length ≤ 4 ∧
  ∀ (l : Addr) (ss : List Str) (H' : Hp), H' l = some (.lst (ss.map V.str)) → ss.length ≤ 63 → Same H H' → Q (.ref l) H'
theorem Bag.put {H : Hp} {b p : Addr} {o : HO} (h : Bag H b) (n : b ≠ p) : Bag (upd H p o) b := by
  obtain ⟨x, y, e, z⟩ := h
  exact ⟨x, y, by rw [upd_ne n]; exact e, z⟩
end L2
namespace L2
open PySem PySem.Spec PyProof.Rows
end L2

set_option Elab.async false
set_option linter.all false
set_option maxRecDepth 100000
namespace PySem
theorem lk_tuple_keys : typeLookup (.type "tuple") "keys" = pure none := by rw [typeLookup_type, builtinLookup_eq_fast]; kernel_rfl
section
variable {prog : Program} {w : World} {A : Around} {E : Value → Shared → Prop} {s : Shared}
/-- a tuple has no attribute of this name -/
theorem by_miss_tuple {a : Addr} {xs : Array Value} {k : Nat} {sl : Array (Option Value)} {name : Str} {u : Tok} {Q : Value → Shared → Prop} (hx : s.heap.get? a = some { cls := .type "tuple", dict := none, data := .seq xs k, slots := sl })
    (miss : typeLookup (.type "tuple") name = pure none) (plain : (["__module__", "__name__", "__qualname__", "__doc__", "__annotations__"] : List Str).contains name = false) (calm : A.handled = none) (fits : name.length + 100 ≤ sizeLine)
    (fin : ∀ g tk e, Heap.NewExcOf s.heap g e "AttributeError" → E (.ref e) { s with heap := g, toks := tk }) : wpAny (model prog w) A (getAttrBy (.ref a) (.str name u) false) Q E s := by
  obtain ⟨hp, gs, dr, tk, os⟩ := s
  have hT : ∀ tk', (⟨hp, gs, dr, tk', os⟩ : Shared).TypeIs (.ref a) "tuple" := fun _ => ⟨_, hx, rfl⟩
  have f1 := sub_AttributeError
  have f3 := F.slot_tuple_getattribute.lookup
  have f4 := F.slot_tuple_getattribute.bind (.ref a)
  have f5 := am_tuple_getattr_none
  unfold getAttrBy
  repeat (any_goals (first | exact hT _ | assumption | ((with_reducible show wpAny _ _ (call (Value.builtin "tuple.__getattribute__") _ _) _ _ _); refine call_meets F.slot_tuple_getattribute (hT _) am_entry_tuple_getattribute (F.args_tuple_getattribute_2 _ _) (meets_getattribute_miss_tuple a xs k sl name _ miss plain fits) ⟨hx, calm, fun g t e ne => ?_⟩) | wp_step))
  obtain ⟨t', u', there⟩ := ne.there
  show wpAny _ _ (getattributeRaised _ _ _ _ _ _ _) _ _ _
  unfold getattributeRaised
  repeat (any_goals (first | wp_step | assumption))
  exact fin g _ e ne.of
theorem keys_miss_tuple {a : Addr} {xs : Array Value} {k : Nat} {sl : Array (Option Value)} {Q : Option Value → Shared → Prop} (hx : s.heap.get? a = some { cls := .type "tuple", dict := none, data := .seq xs k, slots := sl }) (calm : A.handled = none)
    (fin : ∀ g tk, (∀ b o, s.heap.get? b = some o → g.get? b = some o) → Q none { s with heap := g, toks := tk }) : wpAny (model prog w) A (getAttr? (.ref a) "keys") Q E s := by
  unfold getAttr? getAttrBy?
  refine wpAny_bind (wpAny_mkText ?_)
  refine wpAny_bind (wpAny_attempt ?_)
  refine by_miss_tuple (s := { s with toks := s.toks + 1 }) hx lk_tuple_keys (by decide +kernel) calm (by decide +kernel) fun g tk e ne => ?_
  obtain ⟨ob, vs, he, hc, _⟩ := ne.there
  have hT : ({ s with heap := g, toks := tk } : Shared).TypeIs (.ref e) "AttributeError" := ⟨ob, he, hc⟩
  refine wpAny_bind (wpAny_isInstance hT sub_AttributeError ?_)
  exact wpAny_pure (fin g tk ne.keeps)
end
end PySem
namespace PySem
theorem entry_upd_loop : entryFor table "dict.update.loop" = some Builtin.«dict.update.loop» := entryFor_of_tree (by kernel_rfl)
theorem plain_upd_loop : plainId "dict.update.loop" = true := by decide +kernel
section
variable {prog : Program} {w : World} {K : Type} [DecidableEq K] {knd : KeyKind prog w K} {A : Around} {s : Shared}
/-- the pair at q -/
def PairAt (knd : KeyKind prog w K) (h : Heap) (q : Addr) (p : K × Value) : Prop := ∃ key n sl, h.get? q = some { cls := .type "tuple", dict := none, data := .seq #[key, p.2] n, slots := sl } ∧ knd.is p.1 key = true
theorem pairItems_two {E : Value → Shared → Prop} {q : Addr} {x y : Value} {n : Nat} {sl : Array (Option Value)} {Q : List Value → Shared → Prop} (hq : s.heap.get? q = some { cls := .type "tuple", dict := none, data := .seq #[x, y] n, slots := sl })
    (fin : Q [x, y] s) : wpAny (model prog w) A (Builtin.Dict.pairItems (.ref q)) Q E s := by
  have hT : s.TypeIs (.ref q) "tuple" := ⟨_, hq, rfl⟩
  unfold Builtin.Dict.pairItems
  refine wpAny_bind (wpAny_typeOf hT ?_)
  rw [if_pos (by decide)]
  unfold seqItems?
  obtain ⟨hp, gs, dr, tk, os⟩ := s
  repeat (any_goals (first | wp_step | assumption))
theorem pairs_loop {E : Value → Shared → Prop} {d I ax : Addr} {items : Array Value} {rs : List (K × Value)} {R : Result → Shared → Prop} {h0 : Heap} (calm : A.handled = none) (ndI : d ≠ I) (nda : d ≠ ax) (nax : ax ≠ I) (len : rs.length = items.size) (few : rs.length ≤ sizeLine)
    (pairs : ∀ (i : Nat) (p : K × Value), rs[i]? = some p → ∃ q, items[i]? = some (.ref q) ∧ q ≠ d ∧ q ≠ I ∧ PairAt knd h0 q p)
    (fin : ∀ (g : Heap) (tk : Nat), g.DictOf knd d (merged [] rs) → (∀ b o, b ≠ d → b ≠ I → h0.get? b = some o → g.get? b = some o) → R (.ok (.ret .none)) { s with heap := g, toks := tk }) :
    ∀ (m i : Nat) (h : Heap) (tk : Nat) (t : Tok), rs.length - i = m → i ≤ rs.length → h.IsTupleIter I ax i → h.IsTuple ax items → h.DictOf knd d (merged [] (rs.take i)) → (∀ b o, b ≠ d → b ≠ I → h0.get? b = some o → h.get? b = some o) →
      codeAny (model prog w) A (.builtin "dict.update.loop" ⟨[.ref d, .ref I, .int i t, .none], []⟩) R { s with heap := h, toks := tk } := by
  have W := Walks.tuple (prog := prog) (w := w) (A := A.in1) calm I ax nax items
  intro m
  induction m with
  | zero =>
    intro i h tk t em hi it ta dd kp
    have ei : i = rs.length := by omega
    subst ei
    refine codeAny_builtin entry_upd_loop ?_
    rw [Around.under_plainId plain_upd_loop _]
    show wpAny _ A.in1 (pyNext (.ref I) >>= _) _ _ _
    refine wpAny_bind (W.done { s with heap := h, toks := tk } _ _ ⟨by rw [← len]; exact it, ta⟩ fun g tk' kg => ?_)
    show wpAny _ A.in1 (Builtin.Dict.addKeywords d [] >>= fun _ => ret Value.none) _ _ _
    refine wpAny_bind (wpAny_pure ?_)
    refine wpAny_pure (fin g tk' ?_ fun b o n1 n2 e => kg b o (by simpa using n2) (kp b o n1 n2 e))
    rw [List.take_length] at dd
    obtain ⟨ob, es, ep, ho, rest⟩ := dd
    exact ⟨ob, es, ep, kg d ob (by simpa using ndI) ho, rest⟩
  | succ m ih =>
    intro i h tk t em hi it ta dd kp
    have hlt : i < rs.length := by omega
    have hp : rs[i]? = some rs[i] := by simp [hlt]
    generalize rs[i] = p at hp
    obtain ⟨q, hq, nqd, nqI, key, n, sl, hqo, hkey⟩ := pairs i p hp
    refine codeAny_builtin entry_upd_loop ?_
    rw [Around.under_plainId plain_upd_loop _]
    show wpAny _ A.in1 (pyNext (.ref I) >>= _) _ _ _
    refine wpAny_bind (W.item i { s with heap := h, toks := tk } _ _ (by omega) ⟨it, ta⟩ fun v g tk' hv st kg => ?_)
    rw [hq] at hv
    cases hv
    have kp' : ∀ b o, b ≠ d → b ≠ I → h0.get? b = some o → g.get? b = some o := fun b o n1 n2 e => kg b o (by simpa using n2) (kp b o n1 n2 e)
    refine wpAny_bind (wpAny_holding (wpAny_bind (wpAny_tryCatch (pairItems_two (kp' q _ nqd nqI hqo) ?_))))
    have dd' : g.DictOf knd d (merged [] (rs.take i)) := by
      obtain ⟨ob, es, ep, ho, rest⟩ := dd
      exact ⟨ob, es, ep, kg d ob (by simpa using ndI) ho, rest⟩
    refine wpAny_holding (wpAny_dictSet_pairs hkey dd' (fun g2 dd2 same => ?_) ?_)
    · refine wpAny_pure ⟨plainId_quiet plain_upd_loop _, ?_⟩
      rw [← merged_take_succ [] rs i p hp] at dd2
      have k2 : ∀ b o, b ≠ d → g.get? b = some o → g2.get? b = some o := fun b o nb e => (same.2 b nb).trans e
      refine ih (i + 1) g2 _ _ (by omega) hlt ?_ ?_ dd2 fun b o n1 n2 e => k2 b o n1 (kp' b o n1 n2 e)
      · exact st.1.at fun o e => k2 I o ndI.symm e
      · exact st.2.at fun o e => k2 ax o nda.symm e
    · have e := merged_length_le ([] : List (K × Value)) (rs.take i)
      rw [List.length_take] at e
      simp only [List.length_nil] at e
      omega
open PySem.Calls in
/-- dict(t) of a tuple of pairs -/
theorem dict_of_pairs {E : Value → Shared → Prop} {ax : Addr} {items : Array Value} {na : Nat} {sa : Array (Option Value)} {rs : List (K × Value)} {Q : Value → Shared → Prop} (calm : A.handled = none)
    (hx : s.heap.get? ax = some { cls := .type "tuple", dict := none, data := .seq items na, slots := sa }) (len : rs.length = items.size) (few : rs.length ≤ sizeLine)
    (pairs : ∀ (i : Nat) (p : K × Value), rs[i]? = some p → ∃ q, items[i]? = some (.ref q) ∧ PairAt knd s.heap q p)
    (fin : ∀ (g : Heap) (tk : Nat), g.DictOf knd s.heap.objs.size (merged [] rs) → (∀ b o, s.heap.get? b = some o → g.get? b = some o) → Q (.ref s.heap.objs.size) { s with heap := g, toks := tk }) :
    wpAny (model prog w) A (call (.type "dict") [.ref ax]) Q E s := by
  refine callType_codes (Q₁ := fun ob s1 => ob = .ref s.heap.objs.size ∧ s1 = { s with heap := s.heap.push { cls := .type "dict", data := .dict #[] } }) F.kt_called_dict (F.kt_typeCall_dict_1 _) F.entry_dict_init (kt_code_dict_new _ ⟨rfl, rfl⟩) fun ob s1 e1 => ?_
  obtain ⟨rfl, rfl⟩ := e1
  have fresh : (s.heap.push { cls := .type "dict", data := .dict #[] }).DictOf knd s.heap.objs.size [] := Heap.DictOf.new s.heap
  have hx1 := Heap.get?_push_of_some { cls := .type "dict", data := .dict #[] } hx
  refine ⟨fresh.typeIs, F.args_dict_init_2 _ _, ?_⟩
  have hT : ({ s with heap := s.heap.push { cls := .type "dict", data := .dict #[] } } : Shared).TypeIs (.ref ax) "tuple" := ⟨_, hx1, rfl⟩
  unfold Builtin.«dict.__init__»
  refine wpAny_bind ?_
  unfold Builtin.Dict.selfAndRest
  refine wpAny_bind (wpAny_notOrdered_dict fresh.typeIs (wpAny_pure ?_))
  show wpAny _ _ (Builtin.Dict.updateFrom "dict.__init__" s.heap.objs.size (.ref ax) [] .none) _ _ _
  unfold Builtin.Dict.updateFrom
  refine wpAny_bind (wpAny_typeOf hT ?_)
  rw [if_pos (by decide)]
  refine wpAny_bind (keys_miss_tuple hx1 calm fun g tk kg => ?_)
  rw [if_pos (show (none : Option Value).isNone = true from rfl)]
  refine wpAny_bind (wpAny_rule ?_)
  have hxg := kg _ _ hx1
  have hta : g.IsTuple ax items := ⟨_, hxg, rfl, na, rfl⟩
  refine wpAny_bind (wpAny_pyIter_tuple hta ?_)
  have dg : g.DictOf knd s.heap.objs.size [] := by
    obtain ⟨ob, es, ep, ho, rest⟩ := fresh
    exact ⟨ob, es, ep, kg _ _ ho, rest⟩
  have ltd : s.heap.objs.size < g.objs.size := by
    obtain ⟨ob, es, ep, ho, rest⟩ := dg
    exact Heap.lt_size ho
  have lta : ax < g.objs.size := Heap.lt_size hxg
  have ltx : ax < s.heap.objs.size := Heap.lt_size hx
  have kg' : ∀ b o, s.heap.get? b = some o → (g.push { cls := .type "tuple_iterator", data := .fields #[.ref ax, .int 0 0] }).get? b = some o := fun b o e => Heap.get?_push_of_some _ (kg b o (Heap.get?_push_of_some _ e))
  refine wpAny_pure ⟨plainId_quiet plain_upd_loop _, ?_⟩
  refine pairs_loop (E := E) (knd := knd) (s := s) (A := A.in1) (items := items) (rs := rs) (h0 := g.push { cls := .type "tuple_iterator", data := .fields #[.ref ax, .int 0 0] }) calm (Nat.ne_of_lt ltd) (Nat.ne_of_gt ltx) (Nat.ne_of_lt lta) len few (fun i p hp => ?_) (fun g2 tk2 dd2 k2 => ⟨rfl, fin g2 tk2 dd2 fun b o e => k2 b o (Nat.ne_of_lt (Heap.lt_size e)) (Nat.ne_of_lt (Nat.lt_trans (Heap.lt_size e) ltd)) (kg' b o e)⟩) rs.length 0 _ _ _ (Nat.sub_zero _) (Nat.zero_le _) ⟨_, Heap.get?_push_size _ rfl, rfl, rfl⟩ (hta.push _) (dg.push _) fun b o _ _ e => e
  obtain ⟨q, hq, key, n, sl, hqo, hkey⟩ := pairs i p hp
  have hql := Heap.lt_size hqo
  exact ⟨q, hq, Nat.ne_of_lt hql, Nat.ne_of_lt (Nat.lt_trans hql ltd), key, n, sl, kg' q _ hqo, hkey⟩
end
end PySem

set_option Elab.async false
set_option linter.all false
set_option maxRecDepth 100000
namespace L2
open PySem PySem.Spec PyProof.Rows
theorem mk_rs : ∀ (kvs : List (Key × V)) (P : Nat → Key × Value → Prop), (∀ (i : Nat) (k : Key) (v : V), kvs[i]? = some (k, v) → ∃ u, RelV v u ∧ P i (k, u)) → ∃ rs : List (Key × Value), KV kvs rs ∧ ∀ (i : Nat) (p : Key × Value), rs[i]? = some p → P i p
  | [], _, _ => ⟨[], .nil, fun i p h => by simp at h⟩
  | (k, v) :: r, P, h => by
    obtain ⟨u, ru, hu⟩ := h 0 k v rfl
    obtain ⟨rs, kr, hr⟩ := mk_rs r (fun i => P (i + 1)) fun i k' v' e => h (i + 1) k' v' (by simpa using e)
    refine ⟨(k, u) :: rs, .cons ⟨rfl, ru⟩ kr, fun i p e => ?_⟩
    cases i with
    | zero => cases (Option.some.inj e); exact hu
    | succ i => exact hr i p (by simpa using e)
theorem vals_get : ∀ {xs : List V} {us : List Value} {j : Nat} {x : V}, Vals xs us → xs[j]? = some x → ∃ u, us[j]? = some u ∧ RelV x u
  | _, _, _, _, .nil, e => by simp at e
  | _, _, 0, _, .cons r _, e => by
    cases (Option.some.inj e)
    exact ⟨_, rfl, r⟩
  | _, _, j + 1, x, .cons _ t, e => by
    obtain ⟨u, h1, h2⟩ := vals_get (j := j) (x := x) t (by simpa using e)
    exact ⟨u, by simpa using h1, h2⟩
section
variable {X : Cx}
/-- dict(t), t a tuple of pairs -/
theorem call_dict_pairs (hc : X.calm = true) : CallR X (.type "dict") (fun vs H Q => ∃ (a : Addr) (xs : List V) (kvs : List (Key × V)), vs = [.ref a] ∧ H a = some (.tup xs) ∧ xs.length = kvs.length ∧
    (∀ (i : Nat) (k : Key) (v : V), kvs[i]? = some (k, v) → ∃ q, xs[i]? = some (.ref q) ∧ H q = some (.tup [kV k, v])) ∧ (kvs.map (·.1)).Nodup ∧ ∀ d, H d = none → Q (.ref d) (upd H d (.dK kvs))) := by
  intro pins s σ H vs us Q I r h
  obtain ⟨a, xs, kvs, rfl, ha, hl, hp, nd, q⟩ := h
  obtain ⟨u, rfl, ru⟩ := vals1 r
  cases (show u = Value.ref a from ru)
  obtain ⟨hz, its, rv, ⟨c, dct, dat, sl⟩, h1, h2, n, h3, h4⟩ := (show ObjOk X.prog X.w H s.heap a (.tup xs) from I.hok a _ ha)
  dsimp only at h2 h3 h4
  subst h2 h3 h4
  have hil : its.length = kvs.length := by rw [← rv.length]; exact hl
  obtain ⟨rs, rel, prs⟩ := mk_rs kvs (fun i p => ∃ q, its.toArray[i]? = some (.ref q) ∧ PairAt (mixKind X.prog X.w) s.heap q p) fun i k v e => by
    obtain ⟨q, e1, e2⟩ := hp i k v e
    obtain ⟨_, its2, rv2, ⟨c2, dct2, dat2, sl2⟩, g1, g2, n2, g3, g4⟩ := (show ObjOk X.prog X.w H s.heap q (.tup [kV k, v]) from I.hok q _ e2)
    dsimp only at g2 g3 g4
    subst g2 g3 g4
    obtain ⟨key, u2, rfl, rk, ru2⟩ := vals2 rv2
    refine ⟨u2, ru2, q, ?_, key, n2, sl2, g1, kV_is rk⟩
    obtain ⟨w', hw, rw'⟩ := vals_get rv e1
    cases (show w' = Value.ref q from rw')
    simpa using hw
  have hkl : kvs.length ≤ sizeLine := by rw [← hl]; exact hz
  have ndr : (rs.map (·.1)).Nodup := by rw [← rel.keys]; exact nd
  refine dict_of_pairs (knd := mixKind X.prog X.w) (rs := rs) (I.ok.hd hc) h1 (by rw [← rel.length, ← hil]; simp) (by rw [← rel.length]; exact hkl) prs fun g tk dd kg => ?_
  rw [merged_nil_of_nodup rs ndr] at dd
  exact ⟨.ref s.heap.objs.size, _, I.laid (a := s.heap.objs.size) (o := .dK kvs) (t' := tk) kg (Nat.le_refl _) (dk_new hkl (beq_eq_false_iff_ne.mpr (Ne.symm (Nat.ne_of_lt I.big))) rel dd), rfl, q _ (I.hok.fresh (Nat.le_refl _))⟩
end
end L2

set_option Elab.async false
set_option linter.all false
set_option maxRecDepth 100000
namespace L2
open PySem PySem.Spec PyProof.Rows
/-! ### texts in order -/
def leS (a b : Str) : Prop := a.cps.toList ≤ b.cps.toList
theorem leS_trans {a b c : Str} (h : leS a b) (g : leS b c) : leS a c := List.le_trans h g
theorem leS_anti {a b : Str} (h : leS a b) (g : leS b a) : a = b := by
  have e : a.cps.toList = b.cps.toList := List.le_antisymm h g
  have e2 : a.cps = b.cps := by rw [← Array.toArray_toList (xs := a.cps), e, Array.toArray_toList]
  cases a
  cases b
  cases e2
  rfl
theorem rising_pw : ∀ (l : List Str) (p : Str), risingS p l = true → (p :: l).Pairwise leS
  | [], p, _ => by simp
  | x :: r, p, h => by
    have h' : (!ltCps x.cps.toList p.cps.toList && risingS x r) = true := h
    rw [Bool.and_eq_true, Bool.not_eq_true'] at h'
    have h1 : leS p x := by
      have := h'.1
      rw [ltCps_eq] at this
      exact of_decide_eq_false this
    have ih := rising_pw r x h'.2
    refine List.Pairwise.cons (fun y hy => ?_) ih
    rcases List.mem_cons.mp hy with e | hy
    · rw [e]; exact h1
    · exact leS_trans h1 ((List.pairwise_cons.mp ih).1 y hy)
theorem sorted_pw {l : List Str} (h : sortedS l = true) : l.Pairwise leS := by
  cases l with
  | nil => exact List.Pairwise.nil
  | cons x r => exact rising_pw r x h
structure Srt (ss : List Str) : Prop where
  pw : ss.Pairwise leS
  nd : ss.Nodup
theorem Srt.tail {x : Str} {r : List Str} (h : Srt (x :: r)) : Srt r := ⟨(List.pairwise_cons.mp h.pw).2, (List.nodup_cons.mp h.nd).2⟩
theorem Srt.unique : ∀ {l m : List Str}, Srt l → Srt m → (∀ x, x ∈ l ↔ x ∈ m) → l = m
  | [], [], _, _, _ => rfl
  | [], b :: m, _, _, h => absurd ((h b).mpr (List.mem_cons_self ..)) (by simp)
  | a :: l, [], _, _, h => absurd ((h a).mp (List.mem_cons_self ..)) (by simp)
  | a :: l, b :: m, hl, hm, h => by
    have e : a = b := by
      rcases List.mem_cons.mp ((h a).mp (List.mem_cons_self ..)) with e | h1
      · exact e
      · rcases List.mem_cons.mp ((h b).mpr (List.mem_cons_self ..)) with e | h2
        · exact e.symm
        · exact leS_anti ((List.pairwise_cons.mp hl.pw).1 b h2) ((List.pairwise_cons.mp hm.pw).1 a h1)
    subst e
    have na := (List.nodup_cons.mp hl.nd).1
    have nb := (List.nodup_cons.mp hm.nd).1
    rw [Srt.unique hl.tail hm.tail fun x => ⟨fun hx => ?_, fun hx => ?_⟩]
    · rcases List.mem_cons.mp ((h x).mp (List.mem_cons_of_mem _ hx)) with e | h1
      · exact absurd (by rw [← e]; exact hx) na
      · exact h1
    · rcases List.mem_cons.mp ((h x).mpr (List.mem_cons_of_mem _ hx)) with e | h1
      · exact absurd (by rw [← e]; exact hx) nb
      · exact h1
theorem Srt.filter {l : List Str} (h : Srt l) (p : Str → Bool) : Srt (l.filter p) := ⟨h.pw.filter p, h.nd.filter p⟩
/-! ### tables of stretches -/
abbrev Sx := Option Int × Option Int
def allS : Sx := (none, none)
/-- the tuple that stands for ALL in the text -/
structure AllG (K : PySem.W.Frag) (mg : Str → Option Value) (aA : Addr) : Prop where
  mg_ : mg "ALL" = some (.ref aA)
  at_ : ∃ dc n sl, K.lookup aA = some ⟨.type "tuple", dc, .seq #[.none, .none] n, sl⟩
theorem AllG.sq {K : PySem.W.Frag} {mg : Str → Option Value} {aA : Addr} (h : AllG K mg aA) (H : Hp) : SqT K H aA [.non, .non] := by
  obtain ⟨dc, n, sl, e⟩ := h.at_
  exact .inr ⟨_, #[.none, .none], n, e, rfl, rfl, by decide, .cons rfl (.cons rfl .nil)⟩
def SH (H : Hp) (v : V) (s : Sx) : Prop := ∃ q, v = .ref q ∧ H q = some (.tup [vO s.1, vO s.2])
def SV (aA : Addr) (H : Hp) (v : V) (s : Sx) : Prop := SH H v s ∨ (v = .ref aA ∧ s = allS)
def dS (s : Sx) : PyData := .tuple [dO s.1, dO s.2]
theorem SH.rd {H : Hp} {v : V} {s : Sx} (h : SH H v s) : RdD H v (dS s) := by
  obtain ⟨q, rfl, e⟩ := h
  exact .tup e (.cons (rd_o _) (.cons (rd_o _) .nil))
theorem SH.tups {H H' : Hp} {v : V} {s : Sx} (h : SH H v s) (k : ∀ p xs, H p = some (.tup xs) → H' p = some (.tup xs)) : SH H' v s := by
  obtain ⟨q, e, h⟩ := h
  exact ⟨q, e, k _ _ h⟩
theorem SV.tups {aA : Addr} {H H' : Hp} {v : V} {s : Sx} (h : SV aA H v s) (k : ∀ p xs, H p = some (.tup xs) → H' p = some (.tup xs)) : SV aA H' v s := h.elim (fun h => .inl (h.tups k)) .inr
theorem SV.sq {K : PySem.W.Frag} {mg : Str → Option Value} {aA : Addr} {H : Hp} {v : V} {s : Sx} (g : AllG K mg aA) (h : SV aA H v s) : ∃ q, v = .ref q ∧ SqT K H q [vO s.1, vO s.2] := by
  rcases h with ⟨q, e, h⟩ | ⟨e, rfl⟩
  · exact ⟨q, e, SqT.of h⟩
  · exact ⟨aA, e, g.sq H⟩
theorem rdo_inv {H : Hp} {v : V} {o : Option Int} (h : RdD H v (dO o)) : v = vO o := by
  cases o with
  | none => cases h; rfl
  | some i => exact h.int_inv
/-- a dict of stretches: what each name's stretch is by it, all numbers where it has none -/
structure Tb (aA : Addr) (H : Hp) (kvs : List (Key × V)) (ks : List Str) (T : Str → Sx) : Prop where
  keys : kvs.map (·.1) = ks.map Sum.inr
  nd : ks.Nodup
  val : ∀ x : Str, (valV kvs (Sum.inr x) = none ∧ T x = allS ∧ ¬ x ∈ ks) ∨ (∃ v, valV kvs (Sum.inr x) = some v ∧ SV aA H v (T x) ∧ x ∈ ks)
def setT (T : Str → Sx) (x : Str) (s : Sx) : Str → Sx := fun y => if y = x then s else T y
theorem Tb.tups {aA : Addr} {H H' : Hp} {kvs : List (Key × V)} {ks : List Str} {T : Str → Sx} (h : Tb aA H kvs ks T) (k : ∀ p xs, H p = some (.tup xs) → H' p = some (.tup xs)) : Tb aA H' kvs ks T :=
  ⟨h.keys, h.nd, fun x => (h.val x).elim .inl fun ⟨v, e, s, m⟩ => .inr ⟨v, e, s.tups k, m⟩⟩
theorem Tb.put {aA : Addr} {H : Hp} {kvs : List (Key × V)} {ks : List Str} {T : Str → Sx} (h : Tb aA H kvs ks T) {v : V} {s : Sx} (x : Str) (hv : SV aA H v s) :
    ∃ ks', Tb aA H (putK kvs (Sum.inr x) v) ks' (setT T x s) ∧ ks'.length ≤ ks.length + 1 ∧ ∀ y, y ∈ ks' ↔ y ∈ ks ∨ y = x := by
  have vals : ∀ (ks' : List Str), (∀ y, y ∈ ks' ↔ y ∈ ks ∨ y = x) → ∀ y : Str, (valV (putK kvs (Sum.inr x) v) (Sum.inr y) = none ∧ setT T x s y = allS ∧ ¬ y ∈ ks') ∨ (∃ u, valV (putK kvs (Sum.inr x) v) (Sum.inr y) = some u ∧ SV aA H u (setT T x s y) ∧ y ∈ ks') := by
    intro ks' hk y
    rw [valV_put]
    unfold setT
    by_cases e : y = x
    · subst e
      rw [if_pos rfl, if_pos rfl]
      exact .inr ⟨v, rfl, hv, (hk y).mpr (.inr rfl)⟩
    · rw [if_neg (fun z => e (Sum.inr.inj z)), if_neg e]
      rcases h.val y with ⟨a, b, c⟩ | ⟨u, a, b, c⟩
      · exact .inl ⟨a, b, fun z => ((hk y).mp z).elim c e⟩
      · exact .inr ⟨u, a, b, (hk y).mpr (.inl c)⟩
  rcases putK_keys (kvs := kvs) (k := (Sum.inr x : Key)) (v := v) with ⟨e1, hm⟩ | ⟨e1, hn⟩
  · have hx : x ∈ ks := by
      rw [h.keys] at hm
      obtain ⟨y, hy, e⟩ := List.mem_map.mp hm
      cases e
      exact hy
    have hk : ∀ y, y ∈ ks ↔ y ∈ ks ∨ y = x := fun y => ⟨.inl, fun z => z.elim id fun e => by rw [e]; exact hx⟩
    exact ⟨ks, ⟨by rw [e1]; exact h.keys, h.nd, vals ks hk⟩, Nat.le_succ _, hk⟩
  · have hx : ¬ x ∈ ks := fun z => hn (by rw [h.keys]; exact List.mem_map.mpr ⟨x, z, rfl⟩)
    have hk : ∀ y, y ∈ ks ++ [x] ↔ y ∈ ks ∨ y = x := fun y => by simp
    refine ⟨ks ++ [x], ⟨by rw [e1, h.keys, List.map_append]; rfl, ?_, vals _ hk⟩, by simp, hk⟩
    rw [List.nodup_append]
    refine ⟨h.nd, by simp, fun a ha b hb => ?_⟩
    rw [List.mem_singleton] at hb
    subst hb
    exact fun z => hx (by rw [← z]; exact ha)
/-- facts as they lie -/
def dF (T : Str → Sx) (x : Str) : PyData := .tuple [.str x, dS (T x)]
def FV (H : Hp) (v : V) (T : Str → Sx) : Prop := ∃ (p : Addr) (xs : List V) (ss : List Str), v = .ref p ∧ H p = some (.tup xs) ∧ Srt ss ∧ (∀ x, x ∈ ss ↔ T x ≠ allS) ∧ RdDs H xs (ss.map (dF T))
def dFacts (T : Str → Sx) (ss : List Str) : PyData := .tuple (ss.map (dF T))
theorem noL_f (T : Str → Sx) : ∀ ss : List Str, noLists (ss.map (dF T)) = true
  | [] => rfl
  | x :: ss => by
    show (noList (dF T x) && noLists (ss.map (dF T))) = true
    rw [noL_f T ss]
    show ((true && ((noList (dO (T x).1) && (noList (dO (T x).2) && true)) && true)) && true) = true
    cases (T x).1 <;> cases (T x).2 <;> rfl
theorem FV.tups {H H' : Hp} {v : V} {T : Str → Sx} (h : FV H v T) (k : ∀ p xs, H p = some (.tup xs) → H' p = some (.tup xs)) : FV H' v T := by
  obtain ⟨p, xs, ss, e, hp, hs, hm, r⟩ := h
  exact ⟨p, xs, ss, e, k _ _ hp, hs, hm, r.tups k (noL_f T ss)⟩
theorem FV.same {H H' : Hp} {v : V} {T : Str → Sx} (h : FV H v T) (s : Same H H') : FV H' v T := h.tups fun p xs e => s _ _ e
/-- the pairs of facts make a dict -/
theorem FV.tb {H : Hp} {xs : List V} {T : Str → Sx} {ss : List Str} (aA : Addr) (hs : Srt ss) (hm : ∀ x, x ∈ ss ↔ T x ≠ allS) (r : RdDs H xs (ss.map (dF T))) :
    ∃ kvs : List (Key × V), xs.length = kvs.length ∧ (∀ (i : Nat) (k : Key) (v : V), kvs[i]? = some (k, v) → ∃ q, xs[i]? = some (.ref q) ∧ H q = some (.tup [kV k, v])) ∧ (kvs.map (·.1)).Nodup ∧ Tb aA H kvs ss T := by
  have go : ∀ (ss : List Str) (xs : List V), RdDs H xs (ss.map (dF T)) → ∃ kvs : List (Key × V), xs.length = kvs.length ∧ (∀ (i : Nat) (k : Key) (v : V), kvs[i]? = some (k, v) → ∃ q, xs[i]? = some (.ref q) ∧ H q = some (.tup [kV k, v])) ∧
      kvs.map (·.1) = ss.map Sum.inr ∧ ∀ x : Str, (valV kvs (Sum.inr x) = none ∧ ¬ x ∈ ss) ∨ (∃ v, valV kvs (Sum.inr x) = some v ∧ SH H v (T x) ∧ x ∈ ss) := by
    intro ss
    induction ss with
    | nil =>
      intro xs r
      have z := RdDs.nil_inv r
      subst z
      exact ⟨[], rfl, fun i k v e => by simp at e, rfl, fun x => .inl ⟨rfl, by simp⟩⟩
    | cons y ss ih =>
      intro xs r
      obtain ⟨x1, t1, rfl, h1, r⟩ := RdDs.cons_inv r
      obtain ⟨kvs, l1, l2, l3, l4⟩ := ih t1 r
      obtain ⟨q, zs, rfl, hq, rz⟩ := RdD.tup_inv h1
      obtain ⟨z1, t2, rfl, g1, rz⟩ := rz.cons_inv
      obtain ⟨z2, t3, rfl, g2, rz⟩ := rz.cons_inv
      have z := rz.nil_inv
      subst z
      obtain ⟨q2, ws, rfl, hq2, rw2⟩ := RdD.tup_inv g2
      obtain ⟨w1, t4, rfl, f1, rw2⟩ := rw2.cons_inv
      obtain ⟨w2, t5, rfl, f2, rw2⟩ := rw2.cons_inv
      have z := rw2.nil_inv
      subst z
      have e1 : w1 = vO (T y).1 := rdo_inv f1
      have e2 : w2 = vO (T y).2 := rdo_inv f2
      subst e1 e2
      rw [g1.str_inv] at hq
      refine ⟨(Sum.inr y, .ref q2) :: kvs, by simp [l1], fun i k v e => ?_, by simp [l3], fun x => ?_⟩
      · cases i with
        | zero => cases (Option.some.inj e); exact ⟨q, rfl, hq⟩
        | succ i =>
          obtain ⟨q', a, b⟩ := l2 i k v (by simpa using e)
          exact ⟨q', by simpa using a, b⟩
      · by_cases e : x = y
        · subst e
          exact .inr ⟨_, valV_pos rfl, ⟨q2, rfl, hq2⟩, List.mem_cons_self ..⟩
        · rw [valV_neg (fun z => e (Sum.inr.inj z).symm)]
          rcases l4 x with ⟨a, b⟩ | ⟨v, a, b, c⟩
          · exact .inl ⟨a, fun z => (List.mem_cons.mp z).elim e b⟩
          · exact .inr ⟨v, a, b, List.mem_cons_of_mem _ c⟩
  obtain ⟨kvs, l1, l2, l3, l4⟩ := go ss xs r
  refine ⟨kvs, l1, l2, ?_, ⟨l3, hs.nd, fun x => ?_⟩⟩
  · rw [l3]
    exact List.Pairwise.map _ (fun a b n z => n (Sum.inr.inj z)) hs.nd
  · rcases l4 x with ⟨a, b⟩ | ⟨v, a, b, c⟩
    · refine .inl ⟨a, ?_, b⟩
      exact Classical.byContradiction fun z => b ((hm x).mpr z)
    · exact .inr ⟨v, a, .inl b, c⟩
/-! ### comparing with ALL -/
theorem eqv_all (s : Sx) : PyData.eqv (dS s) (.tuple [.none, .none]) = decide (s = allS) := by
  obtain ⟨a, b⟩ := s
  cases a <;> cases b <;> rfl
theorem lay_s (s : Sx) : (dS s).canLay0 = true := by
  obtain ⟨a, b⟩ := s
  cases a <;> cases b <;> rfl
theorem dep_s (s : Sx) : (dS s).depth ≤ 60 := by
  obtain ⟨a, b⟩ := s
  cases a <;> cases b <;> (show (1 : Nat) ≤ 60; decide)
section
variable {X : Cx}
theorem reads_all {pins : List (Addr × Obj)} {σ : St} {H : Hp} {s : Shared} {aA : Addr} (I : Inv X pins σ H s) (g : AllG X.K X.mg aA) : ∃ as, Reads s.heap (.ref aA) (.tuple [.none, .none]) as := by
  obtain ⟨dc, n, sl, e⟩ := g.at_
  exact ⟨_, .tuple (I.kIn aA _ e) rfl rfl (.cons .none (.cons .none .nil))⟩
/-- s != ALL -/
theorem op_neS {aA : Addr} (hu : X.A.units + 64 < cLine) (g : AllG X.K X.mg aA) : OpR X (compareOp .NotEq) (fun x y H Q => ∃ s, SV aA H x s ∧ y = .ref aA ∧ Q (.bl (!decide (s = allS))) H) := by
  intro pins sh σ H x y v u Q I rx ry h
  obtain ⟨s, hs, rfl, q⟩ := h
  cases (show u = Value.ref aA from ry)
  obtain ⟨bs, rb⟩ := reads_all I g
  rcases hs with hs | ⟨rfl, rfl⟩
  · obtain ⟨as, ra⟩ := hs.rd.reads I.hok rx
    refine PySem.SeqAt.neOverData X.prog X.w X.A X.xe sh v _ _ _ as bs _ ra rb (lay_s s) rfl (by have := dep_s s; omega) ⟨.bl _, H, I, ?_, q⟩
    show _ = Value.bool (!decide (s = allS))
    rw [eqv_all]
  · cases (show v = Value.ref aA from rx)
    exact PySem.SeqAt.neOverData X.prog X.w X.A X.xe sh _ _ _ _ bs bs _ rb rb rfl rfl (by show X.A.units + 1 < cLine; omega) ⟨.bl _, H, I, rfl, q⟩
end
/-! ### the promises of facts.py -/
def spFactsOf (aA : Addr) : Sp := fun vs H Q _ => ∃ (d : Addr) (kvs : List (Key × V)) (ks : List Str) (T : Str → Sx), vs = [.ref d] ∧ H d = some (.dK kvs) ∧ Tb aA H kvs ks T ∧ ks.length < 64 ∧ ∀ v H', FV H' v T → Same H H' → Q v H'
def mvO (o : Option Int) (n : Int) : Option Int := o.map (· + n)
def mvS (s : Sx) (n : Int) : Sx := (mvO s.1 n, mvO s.2 n)
/-- the stretch of the deed's name behind it -/
def behS (T : Str → Sx) : Deed → Sx
  | .put _ n => (some n, some n)
  | .copy _ y => T y
  | .add x n => mvS (T x) n
  | .read _ => allS
  | .tell x => T x
def behT (T : Str → Sx) (d : Deed) : Str → Sx := setT T (nameD d) (behS T d)
def behTs (T : Str → Sx) : List Deed → (Str → Sx) := fun ds => ds.foldl behT T
def spMoved (K : PySem.W.Frag) : Sp := fun vs H Q _ => ∃ (q : Addr) (s : Sx) (n : Int), vs = [.ref q, .int n] ∧ SqT K H q [vO s.1, vO s.2] ∧ ∀ v H', SH H' v (mvS s n) → Same H H' → Q v H'
def spStBehind (aA : Addr) : Sp := fun vs H Q _ => ∃ (d q : Addr) (kvs : List (Key × V)) (ks : List Str) (T : Str → Sx) (dd : Deed), vs = [.ref d, .ref q] ∧ H d = some (.dK kvs) ∧ Tb aA H kvs ks T ∧ H q = some (.tup (vDeed dd)) ∧ ∀ v H', SV aA H' v (behS T dd) → Same H H' → Q v H'
def spBehind : Sp := fun vs H Q _ => ∃ (fv : V) (p : Addr) (ws : List V) (ds : List Deed) (T : Str → Sx) (m : Nat), vs = [fv, .ref p] ∧ FV H fv T ∧ H p = some (.tup ws) ∧ RdDs H ws (ds.map dDeed) ∧ (∀ ss : List Str, (∀ x ∈ ss, T x ≠ allS) → ss.Nodup → ss.length ≤ m) ∧ m + ds.length < 64 ∧ ∀ v H', FV H' v (behTs T ds) → Same H H' → Q v H'
/-- the facts hold for worths -/
def holdsB (T : Str → Sx) (w : Str → Int) (ss : List Str) : Bool := ss.all fun x => liesB (w x) (T x).1 (T x).2
def spHolds : Sp := fun vs H Q _ => ∃ (fv : V) (d : Addr) (kvs : List (Key × V)) (w : Str → Int) (T : Str → Sx), vs = [fv, .ref d] ∧ FV H fv T ∧ H d = some (.dK kvs) ∧ DW kvs w ∧ (∀ x, T x ≠ allS → liesB (w x) (T x).1 (T x).2 = true) ∧ (∀ ss : List Str, (∀ x ∈ ss, T x ≠ allS) → ss.Nodup → ss.length ≤ 63) ∧ ∀ H', Same H H' → Q (.bl true) H'
end L2
namespace L2
open PySem PySem.Spec PyProof.Rows
theorem Tb.getD {aA : Addr} {H : Hp} {kvs : List (Key × V)} {ks : List Str} {T : Str → Sx} (h : Tb aA H kvs ks T) (x : Str) : ∃ v, (valV kvs (Sum.inr x)).getD (.ref aA) = v ∧ SV aA H v (T x) := by
  rcases h.val x with ⟨a, b, _⟩ | ⟨v, a, b, _⟩
  · exact ⟨_, by rw [a]; rfl, .inr ⟨rfl, b⟩⟩
  · exact ⟨v, by rw [a]; rfl, b⟩
end L2

set_option Elab.async false
set_option linter.all false
set_option maxRecDepth 100000
namespace L2
open PySem PySem.Spec PyProof.Rows
/-- nothing of the entry stands against another reading of the object at a -/
structure NF (X : Cx) (a : Addr) : Prop where
  none_ : ∀ o, X.s₀.heap.get? a = some o → X.H₀ a = none → a ∉ X.ex → False
  tup : ∀ xs, X.H₀ a ≠ some (.tup xs)
  frz : ∀ o u, X.H₀ a ≠ some (.frz o u)
  tbl : ∀ ps, X.H₀ a ≠ some (.tbl ps)
section
variable {X : Cx} {pins : List (Addr × Obj)} {σ : L2.St} {H : Hp} {s : Shared} {a : Addr}
theorem Inv.nf {kvs : List (Key × V)} (I : Inv X pins σ H s) (e : H a = some (.dK kvs)) : NF X a where
  none_ := fun o h1 h2 h3 => by
    have := I.base.free a o h1 h2 h3
    rw [e] at this
    cases this
  tup := fun xs h => by
    have := I.base.tups a xs h
    rw [e] at this
    cases this
  frz := fun o u h => by
    have := I.base.frzs a o u h
    rw [e] at this
    cases this
  tbl := fun ps h => by
    obtain ⟨more, this⟩ := I.base.tbls a ps h
    rw [e] at this
    cases this
theorem Inv.swap {u u' : HO} (I : Inv X pins σ H s) (nf : NF X a) (e : H a = some u) (no : ∀ y, u ≠ .own y) (nt : ∀ xs, u ≠ .tup xs) (new : ObjOk X.prog X.w (upd H a u') s.heap a u') : Inv X pins σ (upd H a u') s where
  ok := I.ok
  os := I.os
  bare := I.bare
  base := {
    keep := I.base.keep
    slot := I.base.slot
    free := fun b o h1 h2 h3 => by
      by_cases z : b = a
      · subst z; exact absurd (nf.none_ o h1 h2 h3) id
      · rw [upd_ne z]; exact I.base.free b o h1 h2 h3
    there := I.base.there
    tups := fun b xs h => by
      have z : b ≠ a := fun z => by subst z; exact nf.tup xs h
      rw [upd_ne z]; exact I.base.tups b xs h
    frzs := fun b o v h => by
      have z : b ≠ a := fun z => by subst z; exact nf.frz o v h
      rw [upd_ne z]; exact I.base.frzs b o v h
    tbls := fun b ps h => by
      have z : b ≠ a := fun z => by subst z; exact nf.tbl ps h
      rw [upd_ne z]; exact I.base.tbls b ps h }
  loc := I.loc
  cell := I.cell
  free := by rw [upd_ne (fun z => by have := I.free; rw [z, e] at this; cases this)]; exact I.free
  freeC := fun x c h => by rw [upd_ne (fun z => by have := I.freeC x c h; rw [z, e] at this; cases this)]; exact I.freeC x c h
  pin := fun p hp => by
    obtain ⟨h1, h2, h3⟩ := I.pin p hp
    exact ⟨h1, by rw [upd_ne (fun z => by rw [z, e] at h2; cases h2)]; exact h2, h3⟩
  hok := fun b o h => by
    by_cases z : b = a
    · subst z
      rw [upd_same] at h
      cases h
      exact new
    · rw [upd_ne z] at h
      refine (I.hok b o h).stay (fun _ _ _ q => q) (fun c q => ?_) fun c xs q => ?_
      · rw [upd_ne (fun y => by rw [y, e] at q; exact no _ (Option.some.inj q))]; exact q
      · rw [upd_ne (fun y => by rw [y, e] at q; exact nt _ (Option.some.inj q))]; exact q
  len := I.len
end
theorem mix_inv {P : Program} {w : World} {k : Key} {v : Value} (h : (mixKind P w).is k v = true) : RelV (kV k) v := by
  cases k with
  | inr x => exact mix_str_inv h
  | inl i =>
    obtain ⟨t, e⟩ := Value.isInt_shape (show Value.isInt i v = true from h)
    exact ⟨t, e⟩
def Itd (a : Addr) (kvs : List (Key × V)) (ob : Obj) : It :=
  ⟨fun i H => H a = some (.frz ob (.dK kvs)) ∧ i < kvs.length, fun i H x H' => H' = H ∧ ∃ k v, kvs[i]? = some (k, v) ∧ x = kV k, fun i H => H a = some (.frz ob (.dK kvs)) ∧ kvs.length ≤ i⟩
theorem turn_dict {P : Program} {w : World} {K : PySem.W.Frag} {tg : Expr} {kvs : List (Key × V)} {vs : List (Key × Value)} {ob : Obj} {ep : Nat} (a it : Addr) (hat : ∀ h : Heap, h.get? a = some ob → h.DictAt (mixKind P w) a vs ep) (rel : KV kvs vs) :
    Turn P w K tg (Itd a kvs ob) [it] it (fun i h => h.IsKeyIter it a i vs.length ep) where
  mem := by simp
  obj := fun i h st b hb => by
    have e : b = it := by simpa using hb
    subst e
    obtain ⟨o, e, c, d⟩ := st
    exact ⟨o, e, fun v z => by rw [d] at z; cases z⟩
  keep := fun i h h' st k => st.at fun o e => k it (by simp) o e
  item := by
    intro X hP hw hK hc i pins s σ H E I hf st hg
    subst hP hw hK
    obtain ⟨ha, hi⟩ := hg
    obtain ⟨e0, _⟩ := (show ObjOk X.prog X.w H s.heap a (.frz ob (.dK kvs)) from I.hok a _ ha)
    have hvi : i < vs.length := by rw [← rel.length]; exact hi
    have hx : vs[i]? = some vs[i] := by simp [hvi]
    generalize vs[i] = p at hx
    obtain ⟨k, u⟩ := p
    obtain ⟨v, hkv⟩ : ∃ v, kvs[i]? = some (k, v) := by
      have e1 : (vs.map (·.1))[i]? = some k := by rw [List.getElem?_map, hx]; rfl
      rw [← rel.keys, List.getElem?_map] at e1
      cases e2 : kvs[i]? with
      | none => rw [e2] at e1; cases e1
      | some q =>
        rw [e2] at e1
        obtain ⟨k', v⟩ := q
        cases (Option.some.inj e1)
        exact ⟨v, rfl⟩
    obtain ⟨f0, f1, f2, f3, f4, f5⟩ := hf it (by simp)
    refine wpAny_pyNext_dict_item st (hat _ e0) hx fun key h' hkey st' sb => ?_
    have I1 : Inv X pins σ H { s with heap := h' } := I.turned (t' := s.toks) (fun b o hb e => (sb.2 b hb).trans e) f0 f1 f3 f4 f5
    obtain ⟨o, e, c, d⟩ := id st'
    exact ⟨key, rfl, go_of (s := { s with heap := h' }) e c d (by decide) ⟨kV k, H, I1, mix_inv hkey, ⟨rfl, k, v, hkv, rfl⟩, st', fun b hb => (hf b hb).1⟩⟩
  done := by
    intro X hP hw hK hc i pins s σ H E I hf st hg
    subst hP hw hK
    obtain ⟨ha, hi⟩ := hg
    obtain ⟨e0, _⟩ := (show ObjOk X.prog X.w H s.heap a (.frz ob (.dK kvs)) from I.hok a _ ha)
    obtain ⟨f0, f1, f2, f3, f4, f5⟩ := hf it (by simp)
    exact wpAny_pyNext_dict_end (I.ok.hd hc) st (hat _ e0) (List.getElem?_eq_none (by rw [← rel.length]; exact hi)) fun h' eb => ⟨rfl, I.turned (t' := s.toks) (fun b o hb e => eb b o hb e) f0 f1 f3 f4 f5⟩
  self := fun _ _ _ _ _ st h => wpAny_pyIter_keyiter st h
section
variable {X : Cx}
def iDict (i : Nat) (X : Cx) : TI := fun σ H R => ∃ v, σ[i]? = some (some v) ∧ ∃ a kvs, v = .ref a ∧ H a = some (.dK kvs) ∧ ∀ ob, NF X a → R (Itd a kvs ob) (upd H a (.frz ob (.dK kvs)))
theorem pi_dict {tg l : Expr} {i : Nat} (hl : PE X l (tVar i)) : PI X tg l (iDict i X) := by
  intro pins s σ H R I h
  obtain ⟨v0, hv0, a, kvs, rfl, ha, q⟩ := h
  refine thn (hl pins s σ H (fun x H1 => x = .ref a ∧ H1 = H) I ⟨_, hv0, rfl, rfl⟩) fun v s1 ⟨x, H1, I1, r1, e1, e2⟩ => ?_
  subst e1 e2
  cases r1
  have nf := I1.nf ha
  obtain ⟨z, hd, vs, rel, dd⟩ := dk_of I1.hok ha
  obtain ⟨ep, ob, es, ho, rest⟩ := dd.dictAt
  have I2 : Inv X pins σ (upd H1 a (.frz ob (.dK kvs))) s1 := I1.swap nf ha (fun _ h => nomatch h) (fun _ h => nomatch h) ⟨ho, dk_new z hd rel ⟨ob, es, ep, ho, rest⟩⟩
  refine wpAny_pyIter_dict hd ⟨ob, es, ho, rest⟩ ?_
  refine ⟨s1.heap.objs.size, [s1.heap.objs.size], _, _, _, rfl, I2.kept (t' := s1.toks) fun b o e => Heap.get?_push_of_some _ e, turn_dict a _ (fun h e => ⟨ob, es, e, rest⟩) rel, ⟨_, Heap.get?_push_size _ rfl, rfl, rfl⟩, fun b hb => ?_, q ob nf⟩
  have e : b = s1.heap.objs.size := by simpa using hb
  subst e
  exact I2.fpOk (Nat.le_refl _) (I2.hok.fresh (Nat.le_refl _))
/-- for x in d: the dict is held fast meanwhile -/
def tForD (i : Nat) (g : TG) (tb : TS) : TS := fun D σ H => ∃ v, σ[i]? = some (some v) ∧ ∃ a kvs, v = .ref a ∧ H a = some (.dK kvs) ∧ ∀ ob, ∃ Pv : Nat → L2.St → Hp → Prop, Pv 0 σ (upd H a (.frz ob (.dK kvs))) ∧
  (∀ j τ H2, Pv j τ H2 → H2 a = some (.frz ob (.dK kvs))) ∧
  (∀ j k u τ H2, kvs[j]? = some (k, u) → Pv j τ H2 → g (kV k) τ H2 fun τ3 H3 => tb { D with nx := Pv (j + 1), ct := Pv (j + 1), bk := fun τ4 H4 => ∃ ob', H4 a = some (.frz ob' (.dK kvs)) ∧ D.nx τ4 (upd H4 a (.dK kvs)), rt := fun r H4 => ∃ ob', H4 a = some (.frz ob' (.dK kvs)) ∧ D.rt r (upd H4 a (.dK kvs)) } τ3 H3) ∧
  (∀ τ H2, Pv kvs.length τ H2 → D.nx τ (upd H2 a (.dK kvs)))
theorem thaw {pins : List (Addr × Obj)} {σ : L2.St} {H : Hp} {s : Shared} {a : Addr} {ob : Obj} {kvs : List (Key × V)} (I : Inv X pins σ H s) (nf : NF X a) (e : H a = some (.frz ob (.dK kvs))) : Inv X pins σ (upd H a (.dK kvs)) s := by
  obtain ⟨z, hd, vs, rel, dd⟩ := dk_rd I.hok (.inr ⟨ob, e⟩)
  exact I.swap nf e (fun _ h => nomatch h) (fun _ h => nomatch h) (dk_new z hd rel dd)
theorem ps_forD {tg l : Expr} {body : List Stmt} {i : Nat} {g : TG} {tb : TS} {pos : Pos} (hp : PassesOwn (model X.prog X.w) X.A X.env X.xe) (hc : X.calm = true) (hl : PE X l (tVar i)) (hg : PG X tg g) (hb : PSs X body tb)
    (hs : ∀ x, foldedSetIterable l X.env x = pure x := by intro _; rfl) : PS X (.For tg l body [] pos) (tForD i g tb) := by
  intro pins s σ H D I h
  obtain ⟨v, hv, a, kvs, rfl, ha, h⟩ := h
  have nf := I.nf ha
  refine thn (ps_for hp hc (pi_dict hl) hg hb hs pins s σ H { nx := fun τ H2 => ∃ ob, H2 a = some (.frz ob (.dK kvs)) ∧ D.nx τ (upd H2 a (.dK kvs)), rt := fun r H2 => ∃ ob, H2 a = some (.frz ob (.dK kvs)) ∧ D.rt r (upd H2 a (.dK kvs)), bk := D.bk, ct := D.ct } I ?_) fun f s' q => ?_
  · refine ⟨_, hv, a, kvs, rfl, ha, fun ob _ => ?_⟩
    obtain ⟨Pv, p0, pf, ps, pe⟩ := h ob
    refine ⟨fun j m τ H2 => m = kvs.length - j ∧ j ≤ kvs.length ∧ Pv j τ H2, ⟨kvs.length, by simp, Nat.zero_le _, p0⟩, ?_⟩
    rintro j m τ H2 ⟨rfl, hj, p⟩
    by_cases hlt : j < kvs.length
    · refine .inr ⟨⟨pf j τ H2 p, hlt⟩, Pv (j + 1), fun τ' H' p' => ⟨kvs.length - (j + 1), by omega, rfl, hlt, p'⟩, fun x H' y => ?_⟩
      obtain ⟨e1, k, u, e2, e3⟩ := y
      subst e1 e3
      exact ps j k u τ _ e2 p
    · have e : j = kvs.length := by omega
      subst e
      exact .inl ⟨⟨pf _ τ H2 p, Nat.le_refl _⟩, ob, pf _ τ H2 p, pe τ H2 p⟩
  · cases f with
    | next =>
      obtain ⟨τ, H2, I2, ob, e, q⟩ := q
      exact ⟨τ, _, thaw I2 nf e, q⟩
    | brk => exact q
    | cont => exact q
    | ret u =>
      obtain ⟨r, τ, H2, I2, rr, ob, e, q⟩ := q
      exact ⟨r, τ, _, thaw I2 nf e, rr, q⟩
end
end L2

set_option Elab.async false
set_option linter.all false
set_option maxRecDepth 100000
namespace L2
open PySem PySem.Spec PyProof.Rows
/-- a law's table: no name in it without a bound -/
def LT (H : Hp) (d : Addr) (T : Str → Sx) (m : Nat) : Prop := ∃ kvs ks, H d = some (.dK kvs) ∧ Tb 0 H kvs ks T ∧ (∀ x ∈ ks, T x ≠ allS) ∧ ks.length ≤ m
theorem LT.tups {H H' : Hp} {d : Addr} {T : Str → Sx} {m : Nat} (h : LT H d T m) (hd : ∀ o, H d = some o → H' d = some o) (k : ∀ p xs, H p = some (.tup xs) → H' p = some (.tup xs)) : LT H' d T m := by
  obtain ⟨kvs, ks, h1, h2, h3, h4⟩ := h
  exact ⟨kvs, ks, hd _ h1, h2.tups k, h3, h4⟩
theorem LT.same {H H' : Hp} {d : Addr} {T : Str → Sx} {m : Nat} (h : LT H d T m) (s : Same H H') : LT H' d T m := h.tups (fun o e => s _ _ e) fun p xs e => s _ _ e
theorem LT.few {H : Hp} {d : Addr} {T : Str → Sx} {m : Nat} (h : LT H d T m) : ∀ ss : List Str, (∀ x ∈ ss, T x ≠ allS) → ss.Nodup → ss.length ≤ m := fun ss hs nd => by
  obtain ⟨kvs, ks, h1, h2, h3, h4⟩ := h
  refine Nat.le_trans (sub_len nd fun x hx => ?_) h4
  rcases h2.val x with ⟨_, a, _⟩ | ⟨_, _, _, a⟩
  · exact absurd a (hs x hx)
  · exact a
/-- its value for a name, another one where it has none -/
theorem LT.get {H : Hp} {T : Str → Sx} {kvs : List (Key × V)} {ks : List Str} {t : Addr} (tb : Tb 0 H kvs ks T) (cl : ∀ x ∈ ks, T x ≠ allS) (ht : H t = some (.tup [.non, .non])) (x : Str) : ∃ v, (valV kvs (Sum.inr x)).getD (.ref t) = v ∧ SH H v (T x) := by
  rcases tb.val x with ⟨a, b, _⟩ | ⟨v, a, b, c⟩
  · exact ⟨_, by rw [a]; rfl, t, rfl, by rw [b]; exact ht⟩
  · refine ⟨v, by rw [a]; rfl, ?_⟩
    rcases b with b | ⟨_, b⟩
    · exact b
    · exact absurd b (cl x c)
theorem setT_same {T : Str → Sx} {x : Str} (h : T x = allS) : setT T x allS = T := by
  funext y
  unfold setT
  by_cases e : y = x
  · rw [if_pos e, e, h]
  · rw [if_neg e]
theorem setT_setT {T : Str → Sx} {x : Str} {s t : Sx} : setT (setT T x s) x t = setT T x t := by
  funext y
  unfold setT
  by_cases e : y = x
  · rw [if_pos e, if_pos e]
  · rw [if_neg e, if_neg e, if_neg e]
theorem valV_drop (k j : Key) : ∀ kvs : List (Key × V), valV (dropK kvs k) j = if j = k then none else valV kvs j
  | [] => by simp [dropK, valV]
  | p :: r => by
    have ih := valV_drop k j r
    by_cases e : p.1 = k
    · rw [dropK_pos e, ih]
      by_cases z : j = k
      · rw [if_pos z, if_pos z]
      · rw [if_neg z, if_neg z, valV_neg (p := p) (fun w : p.1 = j => z (w.symm.trans e))]
    · rw [dropK_neg e]
      by_cases w : p.1 = j
      · rw [valV_pos w, valV_pos w, if_neg (fun z => e (w.trans z))]
      · rw [valV_neg w, valV_neg w, ih]
theorem Tb.drop {aA : Addr} {H : Hp} {kvs : List (Key × V)} {ks : List Str} {T : Str → Sx} (h : Tb aA H kvs ks T) (x : Str) : Tb aA H (dropK kvs (Sum.inr x)) (ks.filter fun y => decide (y ≠ x)) (setT T x allS) where
  keys := by
    have go : ∀ (kvs : List (Key × V)) (ks : List Str), kvs.map (·.1) = ks.map Sum.inr → (dropK kvs (Sum.inr x)).map (·.1) = (ks.filter fun y => decide (y ≠ x)).map Sum.inr := by
      intro kvs
      induction kvs with
      | nil =>
        intro ks e
        cases ks with
        | nil => rfl
        | cons a b => simp at e
      | cons p r ih =>
        intro ks e
        cases ks with
        | nil => simp at e
        | cons a b =>
          rw [List.map_cons, List.map_cons] at e
          injection e with e1 e2
          by_cases z : a = x
          · rw [dropK_pos (by rw [e1, z]), List.filter_cons_of_neg (by simp [z])]
            exact ih b e2
          · rw [dropK_neg (fun w => z (Sum.inr.inj (e1.symm.trans w))), List.filter_cons_of_pos (by simp [z]), List.map_cons, List.map_cons, ih b e2, e1]
    exact go kvs ks h.keys
  nd := h.nd.filter _
  val := fun y => by
    rw [valV_drop]
    unfold setT
    by_cases e : y = x
    · subst e
      rw [if_pos rfl, if_pos rfl]
      exact .inl ⟨rfl, rfl, by simp⟩
    · rw [if_neg (fun z => e (Sum.inr.inj z)), if_neg e]
      rcases h.val y with ⟨a, b, c⟩ | ⟨v, a, b, c⟩
      · exact .inl ⟨a, b, fun z => c (List.mem_filter.mp z).1⟩
      · exact .inr ⟨v, a, b, List.mem_filter.mpr ⟨c, by simp [e]⟩⟩
theorem putK_take {kvs : List (Key × V)} {k : Key} {v : V} {j : Nat} (nd : (kvs.map (·.1)).Nodup) (h : kvs[j]? = some (k, v)) : putK (kvs.take j) k v = kvs.take (j + 1) := by
  have hj : j < kvs.length := (List.getElem?_eq_some_iff.mp h).1
  have hn : ¬ k ∈ (kvs.take j).map (·.1) := fun hm => by
    have hs : (kvs.take (j + 1)).map (·.1) = (kvs.take j).map (·.1) ++ [k] := by
      rw [List.take_add_one, h, List.map_append]; rfl
    have nd2 : ((kvs.take (j + 1)).map (·.1)).Nodup := by
      rw [List.map_take]
      exact nd.sublist (List.take_sublist _ _)
    rw [hs, List.nodup_append] at nd2
    exact nd2.2.2 k hm k (by simp) rfl
  have hv : valV (kvs.take j) k = none := by
    cases e : valV (kvs.take j) k with
    | none => rfl
    | some u => exact absurd (valV_in e) hn
  rw [putK_new _ hv, List.take_add_one, h]
  rfl
def spToldL : Sp := fun vs H Q _ => ∃ (d : Addr) (T : Str → Sx), vs = [.ref d] ∧ LT H d T 63 ∧ ∀ v H', FV H' v T → Same H H' → Q v H'
def spWithL : Sp := fun vs H Q _ => ∃ (d : Addr) (T : Str → Sx) (m : Nat) (x : Str) (sv : V) (s : Sx), vs = [.ref d, .str x, sv] ∧ LT H d T m ∧ m ≤ 60 ∧ SH H sv s ∧ ∀ d' H', LT H' d' (setT T x s) (m + 1) → Same H H' → Q (.ref d') H'
def spBehL : Sp := fun vs H Q _ => ∃ (d p : Addr) (T : Str → Sx) (m : Nat) (ws : List V) (ds : List Deed), vs = [.ref d, .ref p] ∧ LT H d T m ∧ H p = some (.tup ws) ∧ RdDs H ws (ds.map dDeed) ∧ m + ds.length ≤ 60 ∧ ∀ d' H', LT H' d' (behTs T ds) (m + ds.length) → Same H H' → Q (.ref d') H'
def spSideL : Sp := fun vs H Q _ => ∃ (b : Addr), vs = [.ref b] ∧ Bag H b ∧ ∀ (o : Option Int) H', Bag H' b → Fix b H H' → Q (vO o) H'
def spTableL : Sp := fun vs H Q _ => ∃ (b l : Addr) (xs : List Str), vs = [.ref b, .ref l] ∧ Bag H b ∧ NamesAt H b l xs ∧ xs.length ≤ 4 ∧ ∀ (d : Addr) (T : Str → Sx) (H' : Hp), LT H' d T 4 → (∀ x, T x ≠ allS → x ∈ xs) → (∀ x, LEo (T x).1 (T x).2) → Bag H' b → Fix b H H' → Q (.ref d) H'
def spWithinL : Sp := fun vs H Q _ => ∃ (b q : Addr) (s : Sx), vs = [.ref b, .ref q] ∧ Bag H b ∧ H q = some (.tup [vO s.1, vO s.2]) ∧ LEo s.1 s.2 ∧ ∀ (n : Int) H', liesB n s.1 s.2 = true → Bag H' b → Fix b H H' → Q (.int n) H'
def Sound (T : Str → Sx) (w : Str → Int) : Prop := ∀ x, liesB (w x) (T x).1 (T x).2 = true
def Has (xs : List Str) (kvs : List (Key × V)) : Prop := ∀ x ∈ xs, (valV kvs (Sum.inr x : Key)).isSome = true
def spDoneL : Sp := fun vs H Q _ => ∃ (b d p : Addr) (kvs : List (Key × V)) (w : Str → Int) (T : Str → Sx) (xs : List Str) (ws : List V) (ds : List Deed), vs = [.ref b, .ref d, .ref p] ∧ Bag H b ∧ H d = some (.dK kvs) ∧ DW kvs w ∧ Has xs kvs ∧ kvs.length ≤ 100 ∧ Sound T w ∧ H p = some (.tup ws) ∧ RdDs H ws (ds.map dDeed) ∧ (∀ e ∈ ds, DeedOk xs e) ∧ ds.length ≤ 100 ∧
  ∀ (kvs' : List (Key × V)) (w' : Str → Int) (H' : Hp), H' d = some (.dK kvs') → DW kvs' w' → Sound (behTs T ds) w' → Bag H' b → (∀ c o, H c = some o → c ≠ b → c ≠ d → H' c = some o) → Q (.ref d) H'
theorem Has.put {xs : List Str} {kvs : List (Key × V)} (h : Has xs kvs) (k : Key) (v : V) : Has xs (putK kvs k v) := fun x hx => by
  rw [valV_put]
  split
  · rfl
  · exact h x hx
theorem Has.get {xs : List Str} {kvs : List (Key × V)} {w : Str → Int} (h : Has xs kvs) (dw : DW kvs w) {x : Str} (hx : x ∈ xs) : valV kvs (Sum.inr x) = some (.int (w x)) := by
  have h1 := h x hx
  have h2 := dw x
  cases e : valV kvs (Sum.inr x : Key) with
  | none => rw [e] at h1; cases h1
  | some v => rw [e] at h2; exact congrArg some h2
theorem Sound.step {T : Str → Sx} {w : Str → Int} (h : Sound T w) (x : Str) {n : Int} {s : Sx} (hs : liesB n s.1 s.2 = true) : Sound (setT T x s) (setW w x n) := fun y => by
  unfold setT setW
  by_cases e : y = x
  · rw [if_pos e, if_pos e]; exact hs
  · rw [if_neg e, if_neg e]; exact h y
theorem lay_name {x : Str} (h : NameOk x) : PyData.canLay0 (.str x) = true := by
  show (x.cps.all fun c => decide (c < 0x110000)) = true
  rw [← Array.all_toList, List.all_eq_true]
  intro c hc
  have := h.az c hc
  exact decide_eq_true (by omega)
end L2

set_option Elab.async false
set_option linter.all false
set_option maxRecDepth 100000
namespace L2
open PySem PySem.Spec PyProof.Rows
/-! ### more promises of facts.py -/
def wLow (lo lo2 : Option Int) : Bool := match lo2, lo with
  | none, _ => true
  | some _, none => false
  | some a, some b => decide (a ≤ b)
def wHigh (hi hi2 : Option Int) : Bool := match hi2, hi with
  | none, _ => true
  | some _, none => false
  | some a, some b => decide (b ≤ a)
/-- the second has all numbers of the first -/
def wSx (s t : Sx) : Bool := wLow s.1 t.1 && wHigh s.2 t.2
def FewT (T : Str → Sx) (m : Nat) : Prop := ∀ ss : List Str, (∀ x ∈ ss, T x ≠ allS) → ss.Nodup → ss.length ≤ m
def spKnown (aA : Addr) : Sp := fun vs H Q _ => ∃ (fv : V) (x : Str) (T : Str → Sx), vs = [fv, .str x] ∧ FV H fv T ∧ ∀ v H', SV aA H' v (T x) → Same H H' → Q v H'
def spWithKnown (aA : Addr) : Sp := fun vs H Q _ => ∃ (fv sv : V) (x : Str) (T : Str → Sx) (s : Sx), vs = [fv, .str x, sv] ∧ FV H fv T ∧ SV aA H sv s ∧ FewT T 62 ∧ ∀ v H', FV H' v (setT T x s) → Same H H' → Q v H'
def spWithinK (K : PySem.W.Frag) : Sp := fun vs H Q _ => ∃ (p q : Addr) (s t : Sx), vs = [.ref p, .ref q] ∧ SqT K H p [vO s.1, vO s.2] ∧ SqT K H q [vO t.1, vO t.2] ∧ Q (.bl (wSx s t)) H
def spHoldsB : Sp := fun vs H Q _ => ∃ (fv : V) (d : Addr) (kvs : List (Key × V)) (w : Str → Int) (T : Str → Sx), vs = [fv, .ref d] ∧ FV H fv T ∧ H d = some (.dK kvs) ∧ DW kvs w ∧ FewT T 63 ∧ ∀ b H', (b = true ↔ Sound T w) → Same H H' → Q (.bl b) H'
def spCovers : Sp := fun vs H Q _ => ∃ (fv gv : V) (T U : Str → Sx), vs = [fv, gv] ∧ FV H fv T ∧ FV H gv U ∧ FewT T 63 ∧ ∀ b H', (b = true ↔ ∀ x, wSx (U x) (T x) = true) → Same H H' → Q (.bl b) H'
end L2
namespace L2
open PySem PySem.Spec PyProof.Rows
section
variable {X : Cx}
end
def spEnd7 : Sp := fun vs H Q _ => ∃ (b : Addr), vs = [.ref b] ∧ Bag H b ∧ ∀ (v : Option Int) H', Bag H' b → Fix b H H' → Q (vO v) H'
def spStr7 : Sp := fun vs H Q _ => ∃ (b : Addr), vs = [.ref b] ∧ Bag H b ∧ ∀ (p : Addr) (s : Sx) H', LEo s.1 s.2 → H' p = some (.tup [vO s.1, vO s.2]) → Bag H' b → Fix b H H' → Q (.ref p) H'
def spCoversL : Sp := fun vs H Q _ => ∃ (d e : Addr) (T U : Str → Sx) (m : Nat), vs = [.ref d, .ref e] ∧ d ≠ e ∧ LT H d T m ∧ LT H e U m ∧ ∀ b H', (b = true ↔ ∀ x, wSx (U x) (T x) = true) → Same H H' → Q (.bl b) H'
end L2
namespace L2
open PySem PySem.Spec PyProof.Rows
def spNames7 : Sp := fun vs H Q _ => ∃ (b : Addr), vs = [.ref b] ∧ Bag H b ∧ ∀ (l : Addr) (xs : List Str) (H' : Hp), H' l = some (.lst (xs.map V.str)) → l ≠ b → xs.length = 7 → (∀ x ∈ xs, NameOk x) → Bag H' b → Fix b H H' → Q (.ref l) H'
def spTab7 : Sp := fun vs H Q _ => ∃ (b l : Addr) (xs : List Str), vs = [.ref b, .ref l] ∧ Bag H b ∧ H l = some (.lst (xs.map V.str)) ∧ l ≠ b ∧ xs.length ≤ 7 ∧ ∀ (d : Addr) (T : Str → Sx) (H' : Hp), LT H' d T 7 → (∀ x, T x ≠ allS → x ∈ xs) → Bag H' b → Fix b H H' → H d = none → Q (.ref d) H'
def spBeside7 : Sp := fun vs H Q _ => ∃ (b d : Addr) (T : Str → Sx), vs = [.ref b, .ref d] ∧ Bag H b ∧ LT H d T 7 ∧ ∀ (e : Addr) (U : Str → Sx) (H' : Hp), LT H' e U 7 → (∀ x, U x ≠ allS → T x ≠ allS) → Bag H' b → Fix b H H' → H e = none → Q (.ref e) H'
def spWorths7 : Sp := fun vs H Q _ => ∃ (b d : Addr) (T : Str → Sx), vs = [.ref b, .ref d] ∧ Bag H b ∧ LT H d T 7 ∧ ∀ H', Bag H' b → Fix b H H' → Q (.bl true) H'
end L2
namespace L2
open PySem PySem.Spec PyProof.Rows
theorem LT.ne_b {H : Hp} {d b : Addr} {T : Str → Sx} {m : Nat} (h : LT H d T m) (B : Bag H b) : d ≠ b := by
  obtain ⟨kvs, ks, g1, _⟩ := h
  obtain ⟨x, y, e, _⟩ := B
  exact ne_of g1 e (by intro z; cases z)
theorem LT.fix {H H' : Hp} {d b : Addr} {T : Str → Sx} {m : Nat} (h : LT H d T m) (B : Bag H b) (X : Fix b H H') : LT H' d T m :=
  h.tups (fun o e => X d o e (h.ne_b B)) fun p zs e => X p _ e (B.ne_tup e)
theorem LT.up {H : Hp} {d : Addr} {T : Str → Sx} {m n : Nat} (h : LT H d T m) (le : m ≤ n) : LT H d T n := by
  obtain ⟨kvs, ks, g1, g2, g3, g4⟩ := h
  exact ⟨kvs, ks, g1, g2, g3, Nat.le_trans g4 le⟩
end L2

set_option Elab.async false
set_option linter.all false
set_option maxRecDepth 100000
namespace L2
open PySem PySem.Spec PyProof.Rows
/-! ### zip of two tuples -/
section
variable {prog : Program} {w : World} {A : Around} {E : Value → Shared → Prop} {s : Shared}
theorem nx_tup {j t : Addr} {n : Nat} {its : Array Value} {x : Value} {Q : Value → Shared → Prop} (hj : s.heap.IsTupleIter j t n) (ht : s.heap.IsTuple t its) (hx : its[n]? = some x)
    (hQ : ∀ g, g.IsTupleIter j t (n + 1) → Heap.SameBut j s.heap g → Q x { s with heap := g }) : wpAny (model prog w) A (Builtin.SmallTypes.nextOf (.ref j)) Q E s := by
  obtain ⟨ob, eo, ec, ed⟩ := id hj
  obtain ⟨ot, et, _, k, ek⟩ := ht
  unfold Builtin.SmallTypes.nextOf
  refine wpAny_bind (wpAny_callSpecial?_slot (name := Str.ofString "__next__") hj.typeIs F.slot_tuple_iterator_next (wpAny_call_entry F.slot_tuple_iterator_next hj.typeIs F.entry_tuple_iterator_next ?_ (F.args_tuple_iterator_next_1 _)))
  show wpAny _ _ (field (.ref j) 0 >>= _) _ _ s
  refine wpAny_bind (wpAny_field eo ed (x := .ref t) rfl ?_)
  show wpAny _ _ (if (Value.ref t == Value.none) = true then _ else _) _ _ s
  refine (if_neg (c := (Value.ref t == Value.none) = true) Bool.false_ne_true) ▸ ?_
  show wpAny _ _ (field (.ref j) 1 >>= _) _ _ s
  refine wpAny_bind (wpAny_field eo ed (x := .int n 0) rfl (wpAny_bind (wpAny_seqItems et ek ?_)))
  simp only [hx, Int.toNat_natCast]
  refine wpAny_bind (wpAny_setField eo ed (by simp) (wpAny_pure ⟨x, rfl, wpAny_pure (hQ _ ⟨_, Heap.get?_update_self _ eo (Obj.isFreed_of_fields (Obj.data_mapFields ed _)), (Obj.cls_mapFields ..).trans ec, ?_⟩ (Heap.SameBut.update ..))⟩))
  rw [Obj.data_mapFields ed]; simp [rawInt]
theorem nx_tupE {j t : Addr} {n : Nat} {its : Array Value} {Q : Value → Shared → Prop} (ha : A.handled = none) (hj : s.heap.IsTupleIter j t n) (ht : s.heap.IsTuple t its) (hx : its[n]? = none)
    (hE : ∀ g e, Heap.ExtBut j s.heap g → (∃ o, g.get? e = some o ∧ o.cls = .type "StopIteration") → E (.ref e) { s with heap := g }) : wpAny (model prog w) A (Builtin.SmallTypes.nextOf (.ref j)) Q E s := by
  obtain ⟨ob, eo, ec, ed⟩ := id hj
  obtain ⟨ot, et, _, k, ek⟩ := ht
  unfold Builtin.SmallTypes.nextOf
  refine wpAny_bind (wpAny_callSpecial?_slot (name := Str.ofString "__next__") hj.typeIs F.slot_tuple_iterator_next (wpAny_call_entry F.slot_tuple_iterator_next hj.typeIs F.entry_tuple_iterator_next ?_ (F.args_tuple_iterator_next_1 _)))
  show wpAny _ _ (field (.ref j) 0 >>= _) _ _ s
  refine wpAny_bind (wpAny_field eo ed (x := .ref t) rfl ?_)
  show wpAny _ _ (if (Value.ref t == Value.none) = true then _ else _) _ _ s
  refine (if_neg (c := (Value.ref t == Value.none) = true) Bool.false_ne_true) ▸ ?_
  show wpAny _ _ (field (.ref j) 1 >>= _) _ _ s
  refine wpAny_bind (wpAny_field eo ed (x := .int n 0) rfl (wpAny_bind (wpAny_seqItems et ek ?_)))
  simp only [hx, Int.toNat_natCast]
  refine wpAny_bind (wpAny_rule (wpAny_bind (wpAny_setField eo ed (by simp) ?_)))
  show wpAny _ _ (newExc (.type "StopIteration") [] >>= fun _ => _) _ _ _
  refine wpAny_bind ?_
  simp only [newTuple, newExc]
  refine wpAny_bind (wpAny_newObj_type (wpAny_bind (m := firstArgMember _ _) (wpAny_of_eq (a := Value.none) (by first | rfl | (simp only [firstArgMember]; rfl)) (wpAny_newObj_type ?_ (by size_fits)))) (by size_fits))
  simp only [raiseNew]
  refine wpAny_bind (wpAny_handled (by
    first | rw [show A.in1.handled = none from ha] | rw [ha]
    exact wpAny_bind (wpAny_pure (wpAny_throw (hE _ _ (((Heap.SameBut.update ..).extBut.push _).push _) ⟨_, Heap.get?_push_size _ rfl, rfl⟩)))))
structure ZAp (z p q j k a b : Addr) : Prop where
  pz : p ≠ z
  qz : q ≠ z
  jz : j ≠ z
  kz : k ≠ z
  pq : p ≠ q
  pj : p ≠ j
  pk : p ≠ k
  qj : q ≠ j
  qk : q ≠ k
  jk : j ≠ k
  az : a ≠ z
  aq : a ≠ q
  aj : a ≠ j
  ak : a ≠ k
  bz : b ≠ z
  bq : b ≠ q
  bj : b ≠ j
  bk : b ≠ k
theorem tupleAt {h g : Heap} {a : Addr} {xs : Array Value} (x : h.IsTuple a xs) (k : ∀ o, h.get? a = some o → g.get? a = some o) : g.IsTuple a xs := by
  obtain ⟨o, e, r⟩ := x
  exact ⟨o, k o e, r⟩
theorem zt_item {z p q j k a b : Addr} {m n : Nat} {xs ys : Array Value} {x y u v : Value} {Q : Value → Shared → Prop} (D : ZAp z p q j k a b)
    (gz : IsZip s.heap z p q .none) (gp : IsPair s.heap p (.ref j) (.ref k)) (gq : IsPair s.heap q u v)
    (gj : s.heap.IsTupleIter j a m) (gk : s.heap.IsTupleIter k b n) (ga : s.heap.IsTuple a xs) (gb : s.heap.IsTuple b ys) (hx : xs[m]? = some x) (hy : ys[n]? = some y)
    (hQ : ∀ g, IsZip g z p q (rawInt s.heap.objs.size) → IsPair g q x y → g.IsTupleIter j a (m + 1) → g.IsTupleIter k b (n + 1) → IsPair g s.heap.objs.size x y → g.objs.size = s.heap.objs.size + 1 →
      (∀ c o, c ≠ z → c ≠ q → c ≠ j → c ≠ k → s.heap.get? c = some o → g.get? c = some o) → Q (.ref s.heap.objs.size) { s with heap := g }) :
    wpAny (model prog w) A (Builtin.«zip.__next__» ⟨[.ref z], []⟩) (fun fin s' => ∃ v, fin = .done (.ret v) ∧ Q v s') E s := by
  show wpAny _ _ (field (.ref z) 2 >>= fun _ => _) _ _ _
  refine wpAny_bind (wpAny_field gz rfl (x := .bool false) rfl ?_)
  show wpAny _ _ (field (.ref z) 3 >>= fun _ => _) _ _ _
  refine wpAny_bind (wpAny_field gz rfl (x := .ref p) rfl (wpAny_bind (wpAny_seqItems gp rfl ?_)))
  show wpAny _ _ (Builtin.SmallTypes.ownedTupleIsFree (.ref z) >>= fun _ => _) _ _ _
  refine wpAny_bind ?_
  unfold Builtin.SmallTypes.ownedTupleIsFree
  refine wpAny_bind (wpAny_field gz rfl (x := .none) rfl (wpAny_pure ?_))
  simp only [if_true]
  refine wpAny_bind (wpAny_rule (wpAny_bind (wpAny_field gz rfl (x := .ref q) rfl (wpAny_bind (wpAny_setField_rec gz (by simp) fun g1 gz1 t1 => ?_)))))
  replace gz1 : IsZip g1 z p q .ellipsis := gz1
  refine wpAny_bind ?_
  simp only [List.forIn_cons, List.forIn_nil, List.zipIdx_cons, List.zipIdx_nil]
  refine wpAny_bind (wpAny_bind (wpAny_onRaise ?_))
  show wpAny _ _ (Builtin.SmallTypes.nextOf (.ref j) >>= fun _ => _) _ _ _
  refine wpAny_bind (nx_tup (gj.extBut t1.extBut D.jz) (tupleAt ga fun o e => t1.extBut _ _ D.az e) hx fun g2 gj2 t2 => wpAny_pure ?_)
  have gq2 : IsPair g2 q u v := t2.extBut _ _ D.qj (t1.extBut _ _ D.qz gq)
  refine wpAny_bind (wpAny_seqItems gq2 rfl (wpAny_bind (wpAny_updateSeq_pair gq2 fun g3 gq3 t3 => ?_)))
  replace gq3 : IsPair g3 q x v := gq3
  refine wpAny_bind (wpAny_letGo (wpAny_pure (wpAny_bind (wpAny_bind (wpAny_onRaise ?_)))))
  show wpAny _ _ (Builtin.SmallTypes.nextOf (.ref k) >>= fun _ => _) _ _ _
  refine wpAny_bind (nx_tup (((gk.extBut t1.extBut D.kz).extBut t2.extBut D.jk.symm).extBut t3.extBut D.qk.symm) (tupleAt gb fun o e => t3.extBut _ _ D.bq (t2.extBut _ _ D.bj (t1.extBut _ _ D.bz e))) hy fun g4 gk4 t4 => wpAny_pure ?_)
  have gq4 : IsPair g4 q x v := t4.extBut _ _ D.qk gq3
  refine wpAny_bind (wpAny_seqItems gq4 rfl (wpAny_bind (wpAny_updateSeq_pair gq4 fun g5 gq5 t5 => ?_)))
  replace gq5 : IsPair g5 q x y := gq5
  refine wpAny_bind (wpAny_letGo (wpAny_pure (wpAny_pure (wpAny_bind (wpAny_seqItems gq5 rfl (wpAny_bind (wpAny_newTuple ?_)))))))
  have ez : g5.objs.size = s.heap.objs.size := by rw [t5.1, t4.1, t3.1, t2.1, t1.1]
  have gz5 : IsZip g5 z p q .ellipsis := t5.extBut _ _ D.qz.symm (t4.extBut _ _ D.kz.symm (t3.extBut _ _ D.qz.symm (t2.extBut _ _ D.jz.symm gz1)))
  have k5 : ∀ c o, c ≠ z → c ≠ q → c ≠ j → c ≠ k → s.heap.get? c = some o → g5.get? c = some o := fun c o c1 c2 c3 c4 e => t5.extBut _ _ c2 (t4.extBut _ _ c4 (t3.extBut _ _ c2 (t2.extBut _ _ c3 (t1.extBut _ _ c1 e))))
  have gj5 : g5.IsTupleIter j a (m + 1) := ((gj2.extBut t3.extBut D.qj.symm).extBut t4.extBut D.jk).extBut t5.extBut D.qj.symm
  have gk5 : g5.IsTupleIter k b (n + 1) := gk4.extBut t5.extBut D.qk.symm
  have lz : z < g5.objs.size := Heap.lt_size gz5
  show wpAny _ _ (Builtin.SmallTypes.ownedTupleHandOut (.ref z) (.ref g5.objs.size) >>= fun _ => _) _ _ _
  refine wpAny_bind ?_
  unfold Builtin.SmallTypes.ownedTupleHandOut
  have gz6 : IsZip (g5.push { cls := .type "tuple", data := .seq #[x, y] }) z p q .ellipsis := Heap.get?_push_of_some _ gz5
  refine wpAny_bind (wpAny_setField_rec gz6 (by simp) fun g7 gz7 t7 => ?_)
  replace gz7 : IsZip g7 z p q (rawInt g5.objs.size) := gz7
  refine wpAny_setField_rec gz7 (by simp) fun g8 gz8 t8 => ?_
  replace gz8 : IsZip g8 z p q (rawInt g5.objs.size) := gz8
  have up : ∀ c o, c ≠ z → g5.get? c = some o → g8.get? c = some o := fun c o c1 e => t8.extBut _ _ c1 (t7.extBut _ _ c1 (Heap.get?_push_of_some _ e))
  have gT : IsPair g8 g5.objs.size x y := t8.extBut _ _ (Nat.ne_of_gt lz) (t7.extBut _ _ (Nat.ne_of_gt lz) (Heap.get?_push_size _ rfl))
  have e8 : g8.objs.size = g5.objs.size + 1 := by rw [t8.1, t7.1, Heap.size_push]
  rw [ez] at gz8 gT e8
  refine wpAny_pure ⟨_, rfl, ?_⟩
  show Q (.ref g5.objs.size) _
  rw [ez]
  refine hQ g8 gz8 (up _ _ D.qz gq5) ?_ ?_ gT e8 fun c o c1 c2 c3 c4 e => up c o c1 (k5 c o c1 c2 c3 c4 e)
  · obtain ⟨o, e, r⟩ := gj5
    exact ⟨o, up _ _ D.jz e, r⟩
  · obtain ⟨o, e, r⟩ := gk5
    exact ⟨o, up _ _ D.kz e, r⟩
theorem zt_end {z p q j k a b : Addr} {m n : Nat} {xs ys : Array Value} {u v : Value} {Q : Fin → Shared → Prop} (ha : A.handled = none) (D : ZAp z p q j k a b)
    (gz : IsZip s.heap z p q .none) (gp : IsPair s.heap p (.ref j) (.ref k)) (gq : IsPair s.heap q u v)
    (gj : s.heap.IsTupleIter j a m) (gk : s.heap.IsTupleIter k b n) (ga : s.heap.IsTuple a xs) (gb : s.heap.IsTuple b ys) (hend : xs[m]? = none ∨ ys[n]? = none)
    (hE : ∀ g e, (∀ c o, c ≠ z → c ≠ q → c ≠ j → c ≠ k → s.heap.get? c = some o → g.get? c = some o) → (∃ o, g.get? e = some o ∧ o.cls = .type "StopIteration") → E (.ref e) { s with heap := g }) :
    wpAny (model prog w) A (Builtin.«zip.__next__» ⟨[.ref z], []⟩) Q E s := by
  show wpAny _ _ (field (.ref z) 2 >>= fun _ => _) _ _ _
  refine wpAny_bind (wpAny_field gz rfl (x := .bool false) rfl ?_)
  show wpAny _ _ (field (.ref z) 3 >>= fun _ => _) _ _ _
  refine wpAny_bind (wpAny_field gz rfl (x := .ref p) rfl (wpAny_bind (wpAny_seqItems gp rfl ?_)))
  show wpAny _ _ (Builtin.SmallTypes.ownedTupleIsFree (.ref z) >>= fun _ => _) _ _ _
  refine wpAny_bind ?_
  unfold Builtin.SmallTypes.ownedTupleIsFree
  refine wpAny_bind (wpAny_field gz rfl (x := .none) rfl (wpAny_pure ?_))
  simp only [if_true]
  refine wpAny_bind (wpAny_rule (wpAny_bind (wpAny_field gz rfl (x := .ref q) rfl (wpAny_bind (wpAny_setField_rec gz (by simp) fun g1 gz1 t1 => ?_)))))
  replace gz1 : IsZip g1 z p q .ellipsis := gz1
  refine wpAny_bind ?_
  simp only [List.forIn_cons, List.forIn_nil, List.zipIdx_cons, List.zipIdx_nil]
  refine wpAny_bind (wpAny_bind (wpAny_onRaise ?_))
  show wpAny _ _ (Builtin.SmallTypes.nextOf (.ref j) >>= fun _ => _) _ _ _
  cases hx : xs[m]? with
  | none =>
    refine wpAny_bind (nx_tupE ha (gj.extBut t1.extBut D.jz) (tupleAt ga fun o e => t1.extBut _ _ D.az e) hx fun g2 e t2 he => ?_)
    obtain ⟨oe, eoe, ce⟩ := he
    have gz2 : IsZip g2 z p q .ellipsis := t2 _ _ D.jz.symm gz1
    have ne : e ≠ z := fun x => by subst x; rw [gz2] at eoe; cases eoe; simp at ce
    exact wpAny_setField_rec gz2 (by simp) fun g3 _ t3 => hE g3 e (fun c o c1 _ c3 _ x => t3.extBut _ _ c1 (t2 _ _ c3 (t1.extBut _ _ c1 x))) ⟨oe, t3.extBut _ _ ne eoe, ce⟩
  | some x =>
    have hy : ys[n]? = none := hend.elim (fun h => by rw [hx] at h; cases h) id
    refine wpAny_bind (nx_tup (gj.extBut t1.extBut D.jz) (tupleAt ga fun o e => t1.extBut _ _ D.az e) hx fun g2 gj2 t2 => wpAny_pure ?_)
    have gq2 : IsPair g2 q u v := t2.extBut _ _ D.qj (t1.extBut _ _ D.qz gq)
    refine wpAny_bind (wpAny_seqItems gq2 rfl (wpAny_bind (wpAny_updateSeq_pair gq2 fun g3 gq3 t3 => ?_)))
    refine wpAny_bind (wpAny_letGo (wpAny_pure (wpAny_bind (wpAny_bind (wpAny_onRaise ?_)))))
    show wpAny _ _ (Builtin.SmallTypes.nextOf (.ref k) >>= fun _ => _) _ _ _
    refine wpAny_bind (nx_tupE ha (((gk.extBut t1.extBut D.kz).extBut t2.extBut D.jk.symm).extBut t3.extBut D.qk.symm) (tupleAt gb fun o e => t3.extBut _ _ D.bq (t2.extBut _ _ D.bj (t1.extBut _ _ D.bz e))) hy fun g4 e t4 he => ?_)
    obtain ⟨oe, eoe, ce⟩ := he
    have gz4 : IsZip g4 z p q .ellipsis := t4 _ _ D.kz.symm (t3.extBut _ _ D.qz.symm (t2.extBut _ _ D.jz.symm gz1))
    have ne : e ≠ z := fun x => by subst x; rw [gz4] at eoe; cases eoe; simp at ce
    exact wpAny_setField_rec gz4 (by simp) fun g5 _ t5 => hE g5 e (fun c o c1 c2 c3 c4 x => t5.extBut _ _ c1 (t4 _ _ c4 (t3.extBut _ _ c2 (t2.extBut _ _ c3 (t1.extBut _ _ c1 x))))) ⟨oe, t5.extBut _ _ ne eoe, ce⟩
theorem zt_next {z p q j k a b : Addr} {m n : Nat} {xs ys : Array Value} {x y u v : Value} {Q : Option Value → Shared → Prop} (D : ZAp z p q j k a b)
    (gz : IsZip s.heap z p q .none) (gp : IsPair s.heap p (.ref j) (.ref k)) (gq : IsPair s.heap q u v)
    (gj : s.heap.IsTupleIter j a m) (gk : s.heap.IsTupleIter k b n) (ga : s.heap.IsTuple a xs) (gb : s.heap.IsTuple b ys) (hx : xs[m]? = some x) (hy : ys[n]? = some y)
    (hQ : ∀ g, IsZip g z p q (rawInt s.heap.objs.size) → IsPair g q x y → g.IsTupleIter j a (m + 1) → g.IsTupleIter k b (n + 1) → IsPair g s.heap.objs.size x y → g.objs.size = s.heap.objs.size + 1 →
      (∀ c o, c ≠ z → c ≠ q → c ≠ j → c ≠ k → s.heap.get? c = some o → g.get? c = some o) → Q (some (.ref s.heap.objs.size)) { s with heap := g }) :
    wpAny (model prog w) A (pyNext (.ref z)) Q E s := by
  have ty : s.TypeIs (.ref z) "zip" := ⟨_, gz, rfl⟩
  unfold pyNext
  exact wpAny_bind (wpAny_attempt (wpAny_callSpecial?_slot (name := Str.ofString "__next__") ty F.slot_zip_next (wpAny_call_entry F.slot_zip_next ty F.entry_zip_next
      (zt_item D gz gp gq gj gk ga gb hx hy fun g a1 a2 a3 a4 a5 a6 a7 => wpAny_pure (hQ g a1 a2 a3 a4 a5 a6 a7)) (F.args_zip_next_1 _))))
theorem zt_stop {z p q j k a b : Addr} {m n : Nat} {xs ys : Array Value} {u v : Value} {Q : Option Value → Shared → Prop} (ha : A.handled = none) (D : ZAp z p q j k a b)
    (gz : IsZip s.heap z p q .none) (gp : IsPair s.heap p (.ref j) (.ref k)) (gq : IsPair s.heap q u v)
    (gj : s.heap.IsTupleIter j a m) (gk : s.heap.IsTupleIter k b n) (ga : s.heap.IsTuple a xs) (gb : s.heap.IsTuple b ys) (hend : xs[m]? = none ∨ ys[n]? = none)
    (hQ : ∀ g, (∀ c o, c ≠ z → c ≠ q → c ≠ j → c ≠ k → s.heap.get? c = some o → g.get? c = some o) → Q none { s with heap := g }) : wpAny (model prog w) A (pyNext (.ref z)) Q E s := by
  have ty : s.TypeIs (.ref z) "zip" := ⟨_, gz, rfl⟩
  unfold pyNext
  refine wpAny_bind (wpAny_attempt (wpAny_callSpecial?_slot (name := Str.ofString "__next__") ty F.slot_zip_next (wpAny_call_entry F.slot_zip_next ty F.entry_zip_next
      (zt_end ha D gz gp gq gj gk ga gb hend fun g e hk he => ?_) (F.args_zip_next_1 _))))
  obtain ⟨o, eo, ec⟩ := he
  exact wpAny_bind (wpAny_isInstance (T := "StopIteration") (b := true) ⟨o, eo, ec⟩ isSubtype_stop (wpAny_pure (hQ _ hk)))
abbrev zg1 (h : Heap) (a : Addr) : Heap := h.push { cls := .type "tuple_iterator", data := .fields #[.ref a, .int 0 0] }
abbrev zg2 (h : Heap) (a b : Addr) : Heap := (zg1 h a).push { cls := .type "tuple_iterator", data := .fields #[.ref b, .int 0 0] }
abbrev zg3 (h : Heap) (a b : Addr) : Heap := (zg2 h a b).push { cls := .type "tuple", data := .seq #[.ref h.objs.size, .ref (zg1 h a).objs.size] }
abbrev zg4 (h : Heap) (a b : Addr) : Heap := (zg3 h a b).push { cls := .type "tuple", data := .seq #[.none, .none] }
abbrev zg5 (h : Heap) (a b : Addr) : Heap := (zg4 h a b).push { cls := .type "zip", data := .fields #[.none, .bool false, .bool false, .ref (zg2 h a b).objs.size, .ref (zg3 h a b).objs.size] }
theorem zt_new (a b : Addr) (xs ys : Array Value) : Meets (Builtin.«zip.__new__» ⟨[.type "zip", .ref a, .ref b], []⟩) (fun _ R s => s.heap.IsTuple a xs ∧ s.heap.IsTuple b ys ∧
      R (.ok (.ret (.ref (zg4 s.heap a b).objs.size))) { s with heap := zg5 s.heap a b }) :=
  .of_wp fun P w' A' R' s' hh => by
    obtain ⟨hp, g, d, tk, os⟩ := s'
    obtain ⟨ga, gb, hh⟩ := hh
    have hsub := sub_zip
    have la : Heap.IsTuple (Shared.heap ⟨hp, g, d, tk, os⟩) a xs := ga
    have lb : Heap.IsTuple (Shared.heap ⟨zg1 hp a, g, d, tk, os⟩) b ys := tupleAt gb fun o e => Heap.get?_push_of_some _ e
    wp_walk using wpAny_pyIter_tuple la, wpAny_pyIter_tuple lb
    exact ⟨_, rfl, hh⟩
theorem zt_call {a b : Addr} {xs ys : Array Value} {Q : Value → Shared → Prop} (ga : s.heap.IsTuple a xs) (gb : s.heap.IsTuple b ys)
    (h : ∀ g, IsZip g (s.heap.objs.size + 4) (s.heap.objs.size + 2) (s.heap.objs.size + 3) .none → IsPair g (s.heap.objs.size + 2) (.ref s.heap.objs.size) (.ref (s.heap.objs.size + 1)) →
      IsPair g (s.heap.objs.size + 3) .none .none → g.IsTupleIter s.heap.objs.size a 0 → g.IsTupleIter (s.heap.objs.size + 1) b 0 →
      (∀ c o, s.heap.get? c = some o → g.get? c = some o) → Q (.ref (s.heap.objs.size + 4)) { s with heap := g }) :
    wpAny (model prog w) A (call (.type "zip") [.ref a, .ref b]) Q E s := by
  refine callType_new F.called_zip (by decide) (F.typeCall_zip_2 _ _) (F.newCall_zip_2 _ _) (fun obj => F.args_object_init_3 obj _ _) F.entry_zip_new (zt_new a b xs ys) ⟨ga, gb, ?_⟩
  have z1 : (zg1 s.heap a).objs.size = s.heap.objs.size + 1 := Heap.size_push ..
  have z2 : (zg2 s.heap a b).objs.size = s.heap.objs.size + 2 := by rw [Heap.size_push, z1]
  have z3 : (zg3 s.heap a b).objs.size = s.heap.objs.size + 3 := by rw [Heap.size_push, z2]
  have z4 : (zg4 s.heap a b).objs.size = s.heap.objs.size + 4 := by rw [Heap.size_push, z3]
  have up : ∀ {h : Heap} {c : Addr} {o o' : Obj}, h.get? c = some o → (h.push o').get? c = some o := fun e => Heap.get?_push_of_some _ e
  have q5 : (zg5 s.heap a b).get? (zg4 s.heap a b).objs.size = some _ := Heap.get?_push_size _ rfl
  have q4 : (zg5 s.heap a b).get? (zg3 s.heap a b).objs.size = some _ := up (Heap.get?_push_size _ rfl)
  have q3 : (zg5 s.heap a b).get? (zg2 s.heap a b).objs.size = some _ := up (up (Heap.get?_push_size _ rfl))
  have q2 : (zg5 s.heap a b).get? (zg1 s.heap a).objs.size = some _ := up (up (up (Heap.get?_push_size _ rfl)))
  have q1 : (zg5 s.heap a b).get? s.heap.objs.size = some _ := up (up (up (up (Heap.get?_push_size _ rfl))))
  show _ ∧ _
  rw [z2, z3, z4] at q5
  rw [z1, z2] at q3
  rw [z3] at q4
  rw [z1] at q2
  rw [z4]
  exact ⟨⟨_, q5, rfl⟩, h _ q5 q3 q4 ⟨_, q1, rfl, rfl⟩ ⟨_, q2, rfl, rfl⟩ fun c o x => up (up (up (up (up x))))⟩
end
section
variable {X : Cx} {pins : List (Addr × Obj)} {σ : List (Option V)} {H H' : Hp} {s : Shared} {h' : Heap}
/-- several untracked records of ours have turned -/
theorem Inv.turnedL {t' : Nat} {fp : List Addr} (I : Inv X pins σ H s) (k : ∀ b o, b ∉ fp → s.heap.get? b = some o → h'.get? b = some o) (f : ∀ b ∈ fp, FpOk X pins H b) : Inv X pins σ H { s with heap := h', toks := t' } := by
  have nit : ∀ b u, H b = some u → b ∉ fp := fun b u e z => by rw [(f b z).1] at e; cases e
  refine I.step (g' := s.gens) (d' := s.drawn) (ch := fp) (fun b hb => ?_) (fun b o _ _ hc e _ => k b o hc e) (fun b o _ _ hc e _ => ⟨o.slots, k b o hc e⟩) (fun _ _ _ _ n => n)
    (fun b o hc e => ⟨o, k b o hc e⟩) (fun _ _ e => e) (fun _ _ _ e => e) (fun b ps e => ⟨#[], by rw [e]; simp⟩) (fun m hm => ?_) (fun b u e => ?_) I.bare
  · obtain ⟨f0, f1, f2, f3, f4, f5⟩ := f b hb
    exact ⟨f3, f1, f4, f5⟩
  · obtain ⟨o, es, ep, ho, r⟩ := hm
    exact ⟨o, es, ep, k _ o (fun z => (f _ z).2.1 rfl) ho, r⟩
  · refine (I.hok b u e).stay (fun c v hc q => k c v ?_ q) (fun _ q => q) fun _ _ q => q
    rcases hc with z | z
    · rw [z]; exact nit b u e
    · exact nit c _ z
/-- pairs of two tuples -/
def Itz (K : PySem.W.Frag) (a b : Addr) : It :=
  ⟨fun i H => ∃ xs ys x y, SqT K H a xs ∧ SqT K H b ys ∧ xs[i]? = some x ∧ ys[i]? = some y,
   fun i H v H' => ∃ t x y, v = .ref t ∧ H t = none ∧ H' = upd H t (.tup [x, y]) ∧ ∀ xs ys, SqT K H a xs → SqT K H b ys → xs[i]? = some x ∧ ys[i]? = some y,
   fun i H => ∃ xs ys, SqT K H a xs ∧ SqT K H b ys ∧ (xs.length ≤ i ∨ ys.length ≤ i)⟩
theorem turn_zip {P : Program} {w : World} {K : PySem.W.Frag} {elts : List Expr} {kk : Nat} {pos : Pos} (a b z p q j k : Addr) (D : ZAp z p q j k a b) :
    Turn P w K (.Tuple elts kk pos) (Itz K a b) [z, p, q, j, k] z (fun i h => IsZip h z p q .none ∧ IsPair h p (.ref j) (.ref k) ∧ (∃ u v, IsPair h q u v) ∧ h.IsTupleIter j a i ∧ h.IsTupleIter k b i) where
  mem := by simp
  obj := fun i h st c hc => by
    obtain ⟨gz, gp, ⟨u, v, gq⟩, ⟨oj, ej, cj, dj⟩, ⟨ok, ek, ck, dk⟩⟩ := st
    simp only [List.mem_cons, List.not_mem_nil, or_false] at hc
    rcases hc with rfl | rfl | rfl | rfl | rfl
    · exact ⟨_, gz, fun v e => by cases e⟩
    · exact ⟨_, gp, fun v e => by cases e⟩
    · exact ⟨_, gq, fun v e => by cases e⟩
    · exact ⟨oj, ej, fun v e => by rw [dj] at e; cases e⟩
    · exact ⟨ok, ek, fun v e => by rw [dk] at e; cases e⟩
  keep := fun i h g st kp => by
    obtain ⟨gz, gp, ⟨u, v, gq⟩, ⟨oj, ej, rj⟩, ⟨ok, ek, rk⟩⟩ := st
    exact ⟨kp z (by simp) _ gz, kp p (by simp) _ gp, ⟨u, v, kp q (by simp) _ gq⟩, ⟨oj, kp j (by simp) _ ej, rj⟩, ⟨ok, kp k (by simp) _ ek, rk⟩⟩
  item := by
    intro X hP hw hK hc i pins s σ H E I hf st hg
    subst hP hw hK
    obtain ⟨gz, gp, ⟨u, v, gq⟩, gj, gk⟩ := st
    obtain ⟨xs, ys, x, y, ha, hb, hx, hy⟩ := hg
    obtain ⟨is, ra, pa, _⟩ := I.tuple ha
    obtain ⟨js, rb, pb, _⟩ := I.tuple hb
    obtain ⟨xv, hxv, rx⟩ := ra.get hx
    obtain ⟨yv, hyv, ry⟩ := rb.get hy
    have sz : ∀ c ∈ [z, p, q, j, k], c ≠ s.heap.objs.size := fun c hc e => by
      subst e
      simp only [List.mem_cons, List.not_mem_nil, or_false] at hc
      rcases hc with e | e | e | e | e
      · exact absurd (Heap.lt_size gz) (by rw [← e]; exact Nat.lt_irrefl _)
      · exact absurd (Heap.lt_size gp) (by rw [← e]; exact Nat.lt_irrefl _)
      · exact absurd (Heap.lt_size gq) (by rw [← e]; exact Nat.lt_irrefl _)
      · obtain ⟨oj, ej, _⟩ := gj
        exact absurd (Heap.lt_size ej) (by rw [← e]; exact Nat.lt_irrefl _)
      · obtain ⟨ok, ek, _⟩ := gk
        exact absurd (Heap.lt_size ek) (by rw [← e]; exact Nat.lt_irrefl _)
    refine zt_next D gz gp gq gj gk (show s.heap.IsTuple a is.toArray from pa) (show s.heap.IsTuple b js.toArray from pb) (x := xv) (y := yv) (by simpa using hxv) (by simpa using hyv) fun g a1 a2 a3 a4 a5 a6 hk => ?_
    refine ⟨.ref s.heap.objs.size, rfl, wpAny_letOwnedTupleGo_zip a1 fun g' gz' sb => ?_⟩
    have fr := I.hok.fresh (a := s.heap.objs.size) (Nat.le_refl _)
    have I1 : Inv X pins σ (upd H s.heap.objs.size (.tup [x, y])) { s with heap := s.heap.push { cls := .type "tuple", data := .seq #[xv, yv] }, toks := s.toks } :=
      I.laid (fun _ _ e => Heap.get?_push_of_some _ e) (Nat.le_refl _) ⟨by show 2 ≤ sizeLine; decide, [xv, yv], .cons rx (.cons ry .nil), by first | exact IsTup.new _ _ | exact ⟨_, Heap.get?_push_size _ rfl, rfl, _, rfl, rfl⟩⟩
    have f1 : ∀ c ∈ [z, p, q, j, k], FpOk X pins (upd H s.heap.objs.size (.tup [x, y])) c := fun c hc => by
      obtain ⟨f0, fr'⟩ := hf c hc
      exact ⟨by rw [upd_ne (sz c hc)]; exact f0, fr'⟩
    have I2 : Inv X pins σ (upd H s.heap.objs.size (.tup [x, y])) { s with heap := g', toks := s.toks } := Inv.turnedL (s := { s with heap := s.heap.push { cls := .type "tuple", data := .seq #[xv, yv] }, toks := s.toks }) (fp := [z, p, q, j, k]) (h' := g') (t' := s.toks) I1 (fun c o hc e => by
      simp only [List.mem_cons, List.not_mem_nil, or_false, not_or] at hc
      refine sb.extBut _ _ hc.1 ?_
      rcases Heap.get?_push_cases e with ⟨rfl, rfl⟩ | e
      · exact a5
      · exact hk c o hc.1 hc.2.2.1 hc.2.2.2.1 hc.2.2.2.2 e) f1
    refine ⟨.ref s.heap.objs.size, _, I2, rfl, ⟨_, x, y, rfl, fr, rfl, fun xs' ys' h1 h2 => ?_⟩, ⟨gz', sb.extBut _ _ D.pz (hk _ _ D.pz D.pq D.pj D.pk gp), ⟨xv, yv, sb.extBut _ _ D.qz a2⟩, a3.extBut sb.extBut D.jz, a4.extBut sb.extBut D.kz⟩, fun c hc => (f1 c hc).1⟩
    rw [I.tuple_inj h1 ha, I.tuple_inj h2 hb]
    exact ⟨hx, hy⟩
  done := by
    intro X hP hw hK hc i pins s σ H E I hf st hg
    subst hP hw hK
    obtain ⟨gz, gp, ⟨u, v, gq⟩, gj, gk⟩ := st
    obtain ⟨xs, ys, ha, hb, hl⟩ := hg
    obtain ⟨is, ra, pa, _⟩ := I.tuple ha
    obtain ⟨js, rb, pb, _⟩ := I.tuple hb
    have la := ra.length
    have lb := rb.length
    have he : is.toArray[i]? = none ∨ js.toArray[i]? = none := by
      rcases hl with h | h
      · exact .inl (by simp; omega)
      · exact .inr (by simp; omega)
    exact zt_stop (I.ok.hd hc) D gz gp gq gj gk (show s.heap.IsTuple a is.toArray from pa) (show s.heap.IsTuple b js.toArray from pb) he fun g hk => ⟨rfl, I.turnedL (fp := [z, p, q, j, k]) (t' := s.toks) (fun c o hc e => by
      simp only [List.mem_cons, List.not_mem_nil, or_false, not_or] at hc
      exact hk c o hc.1 hc.2.2.1 hc.2.2.2.1 hc.2.2.2.2 e) hf⟩
  self := fun _ _ _ _ _ st h => wpAny_pyIter_zip st.1 h
theorem zap {N a b : Nat} (ha : a < N) (hb : b < N) : ZAp (N + 4 : Nat) (N + 2 : Nat) (N + 3 : Nat) N (N + 1 : Nat) a b :=
  have ne : ∀ {u v : Nat}, u < v → ¬ (u = v) := fun h e => by omega
  have ne' : ∀ {u v : Nat}, v < u → ¬ (u = v) := fun h e => by omega
  ⟨ne (by omega), ne (by omega), ne (by omega), ne (by omega), ne (by omega), ne' (by omega), ne' (by omega), ne' (by omega), ne' (by omega), ne (by omega), ne (by omega), ne (by omega), ne (by omega), ne (by omega), ne (by omega), ne (by omega), ne (by omega), ne (by omega)⟩
theorem bt_zip : bootBuiltins "zip" = some (.type "zip") := by decide +kernel
def iZip (K : PySem.W.Frag) (ta : TA) : TI := fun σ H R => ta σ H fun vs H1 => ∃ a b, vs = [.ref a, .ref b] ∧ (∃ xs, SqT K H1 a xs) ∧ (∃ ys, SqT K H1 b ys) ∧ R (Itz K a b) H1
theorem pi_zip {a b : Expr} {ta : TA} {p pos tp : Pos} {elts : List Expr} {kk : Nat} (hg : Gl X "zip") (hm : X.mg "zip" = none) (ha : PA X [a, b] ta) (hs : starEach [a, b] X.env = [(false, eval a X.env), (false, eval b X.env)] := by rfl) (hs2 : starEach [b] X.env = [(false, eval b X.env)] := by rfl) :
    PI X (.Tuple elts kk tp) (.Call (.Name "zip" p) [a, b] [] pos) (iZip X.K ta) := by
  intro pins s σ H R I h
  refine Call_ (ld_blt I hg hm bt_zip (PyProof.Rows.callWith_type1 (thn (ha pos pins s σ H _ I h) fun us s1 ⟨vs, H1, I1, r1, q1⟩ => ?_) (by rw [hs, hs2]) (by rw [hs2]; rfl)))
  obtain ⟨x, y, e, ⟨xs, hx⟩, ⟨ys, hy⟩, q⟩ := q1
  subst e
  cases r1 with
  | cons r rr =>
    cases rr with
    | cons r' rr =>
      cases rr
      cases r
      cases r'
      obtain ⟨is, rx, px, _⟩ := I1.tuple hx
      obtain ⟨js, ry, py, _⟩ := I1.tuple hy
      have lx : x < s1.heap.objs.size := px.lt
      have ly : y < s1.heap.objs.size := py.lt
      refine zt_call (show s1.heap.IsTuple x is.toArray from px) (show s1.heap.IsTuple y js.toArray from py) fun g gz gp gq gj gk up => ?_
      refine wpAny_pyIter_zip gz ?_
      have I2 : Inv X pins σ H1 { s1 with heap := g } := I1.kept (t' := s1.toks) up
      refine ⟨_, [s1.heap.objs.size + 4, s1.heap.objs.size + 2, s1.heap.objs.size + 3, s1.heap.objs.size, s1.heap.objs.size + 1], _, Itz X.K x y, H1, rfl, I2, turn_zip x y _ _ _ _ _ ?_, ⟨gz, gp, ⟨_, _, gq⟩, gj, gk⟩, fun c hc => ?_, q⟩
      · exact zap lx ly
      · have le : s1.heap.objs.size ≤ c := by
          simp only [List.mem_cons, List.not_mem_nil, or_false] at hc
          rcases hc with rfl | rfl | rfl | rfl | rfl
          · exact Nat.le_add_right _ _
          · exact Nat.le_add_right _ _
          · exact Nat.le_add_right _ _
          · exact Nat.le_refl _
          · exact Nat.le_add_right _ _
        exact I1.fpOk le (I1.hok.fresh le)
/-- a list of a zip's pairs -/
theorem lc_zip {K : PySem.W.Frag} {a b acc : Addr} {xs ys : List V} {n : Nat} {js : List Nat} {g : TG} {ct : TT} {te : TE} {σ : St} {H1 : Hp} {Q : VK} (Pv : Nat → List V → St → Hp → Prop) (h0 : Pv 0 [] (blk n js σ) (upd H1 acc (.lst [])))
    (hl : ∀ i zs τ H, i ≤ min xs.length ys.length → Pv i zs τ H → SqT K H a xs ∧ SqT K H b ys ∧ H acc = some (.lst zs) ∧ zs.length < sizeLine)
    (hs : ∀ i x y zs τ H t, xs[i]? = some x → ys[i]? = some y → H t = none → Pv i zs τ H → g (.ref t) τ (upd H t (.tup [x, y])) fun τ1 H4 => ct τ1 H4 fun b H5 => if b = true then te τ1 H5 fun v H6 => H6 acc = some (.lst zs) ∧ Pv (i + 1) (zs ++ [v]) τ1 (upd H6 acc (.lst (zs ++ [v]))) else Pv (i + 1) zs τ1 H5)
    (hd : ∀ zs τ H, Pv (min xs.length ys.length) zs τ H → Q (.ref acc) H) :
    LcG (Itz K a b) n js g ct te acc σ H1 Q := by
  refine ⟨fun i m zs τ H => m = min xs.length ys.length - i ∧ i ≤ min xs.length ys.length ∧ Pv i zs τ H, ⟨min xs.length ys.length, by simp, Nat.zero_le _, h0⟩, ?_⟩
  rintro i m zs τ H ⟨rfl, hi, p⟩
  obtain ⟨qa, qb, q2, q3⟩ := hl i zs τ H hi p
  refine ⟨q2, q3, ?_⟩
  by_cases hlt : i < min xs.length ys.length
  · have l1 : i < xs.length := by omega
    have l2 : i < ys.length := by omega
    refine .inr ⟨⟨xs, ys, xs[i], ys[i], qa, qb, by simp [l1], by simp [l2]⟩, Pv (i + 1), fun zs' τ' H' p' => ⟨min xs.length ys.length - (i + 1), by omega, rfl, hlt, p'⟩, fun v H' y => ?_⟩
    obtain ⟨t, x, y, rfl, ht, rfl, h⟩ := y
    obtain ⟨h1, h2⟩ := h xs ys qa qb
    exact hs i x y zs τ H t h1 h2 ht p
  · have e : i = min xs.length ys.length := by omega
    subst e
    refine .inl ⟨⟨xs, ys, qa, qb, ?_⟩, hd zs τ H p⟩
    rcases Nat.le_total xs.length ys.length with h | h
    · exact .inl (by omega)
    · exact .inr (by omega)
end
end L2

set_option Elab.async false
set_option linter.all false
set_option maxRecDepth 100000
namespace L2
open PySem PySem.Spec PyProof.Rows
/-! ### a module's dict from texts to tuples -/
structure TabG (K : PySem.W.Frag) (mg : Str → Option Value) (nm : Str) (a : Addr) (D : List (Str × Addr)) : Prop where
  mg_ : mg nm = some (.ref a)
  lk : ∃ es ep, K.lookup a = some ⟨.type "dict", none, .dict es ep, #[]⟩ ∧ KTD.Rows (fun d v => v = Value.ref d) es.toList D
section
variable {prog : Program} {w : World} {A : Around} {E : Value → Shared → Prop} {s : Shared}
theorem tab_dget {a d : Addr} {o : Obj} {es : Array DictEntry} {ep : Nat} {k : Str} {t : Tok} {D : List (Str × Addr)} {Q : Option Value → Shared → Prop} (ho : s.heap.get? a = some o) (hd : o.data = .dict es ep)
    (hr : KTD.Rows (fun d v => v = Value.ref d) es.toList D) (ha : KTD.datumAt k D = some d) (q : Q (some (.ref d)) { s with toks := s.toks + 1 }) : wpAny (model prog w) A (dictGet a (.str k t)) Q E s := by
  unfold dictGet
  try with_reducible refine wpAny_holding ?_
  refine wpAny_bind (wpAny_pyHash_str (wpAny_bind (KTD.kt_dictFind_strs (s := { s with toks := s.toks + 1 }) ho hd (by have := hr.exact; obtain ⟨l⟩ := es; simpa using this) ?_)))
  have hq : Q (findBy (fun k v => v.isStr k) es k) { s with toks := s.toks + 1 } := by
    obtain ⟨v, hv, rfl⟩ := hr.find_some ha
    have e : findBy (fun k v => v.isStr k) es k = some (.ref d) := by
      rw [← hv]
      obtain ⟨l⟩ := es
      simp [findBy]
    rw [e]
    exact q
  rw [findBy_of_findIdx?] at hq
  cases hi : es.findIdx? fun e => e.key.isStr k with
  | some i => rw [hi] at hq; exact wpAny_bind (wpAny_dictEntries (s := { s with toks := s.toks + 1 }) ho hd (wpAny_pure hq))
  | none => rw [hi] at hq; exact wpAny_pure hq
theorem tab_item {a d : Addr} {o : Obj} {es : Array DictEntry} {ep : Nat} {k : Str} {t : Tok} {D : List (Str × Addr)} {Q : Value → Shared → Prop} (ty : s.TypeIs (.ref a) "dict") (ho : s.heap.get? a = some o) (hd : o.data = .dict es ep)
    (hr : KTD.Rows (fun d v => v = Value.ref d) es.toList D) (ha : KTD.datumAt k D = some d) (q : Q (.ref d) { s with toks := s.toks + 1 }) : wpAny (model prog w) A (getItem (.ref a) (.str k t)) Q E s := by
  unfold getItem
  try with_reducible refine wpAny_holding ?_
  refine wpAny_bind (wpAny_sequenceKey ty (by decide) (wpAny_bind (wpAny_callSpecial?_slot (name := Str.ofString "__getitem__") ty slot_dict_getitem (wpAny_call_entry slot_dict_getitem ty entry_dict_getitem ?_ (args_dict_getitem _ _)))))
  show wpAny _ _ (dictGet a (.str k t) >>= fun _ => _) _ _ s
  exact wpAny_bind (tab_dget ho hd hr ha (wpAny_pure ⟨_, rfl, wpAny_pure q⟩))
end
section
variable {X : Cx}
theorem pe_tget {nm : Str} {a : Addr} {D : List (Str × Addr)} {i : Expr} {p pos : Pos} {ty : TE} (G : TabG X.K X.mg nm a D) (hg : Gl X nm) (hi : PE X i ty) (hs : NoSl i) (hdb : (nm == ("__debug__" : Str)) = false := by decide) :
    PE X (.Subscript (.Name nm p) i pos) (fun σ H Q => ty σ H fun y H1 => ∃ x d, y = .str x ∧ KTD.datumAt x D = some d ∧ Q (.ref d) H1) := by
  intro pins s σ H Q I h
  obtain ⟨es, ep, hk, hr⟩ := G.lk
  refine subD_of PySem.F.slot_dict_getitem.lookup hs (thn (pe_glob (v := .ref a) hg G.mg_ rfl hdb pins s σ H (fun x H1 => x = .ref a ∧ ty σ H1 fun y H1 => ∃ x d, y = .str x ∧ KTD.datumAt x D = some d ∧ Q (.ref d) H1) I ⟨rfl, h⟩) fun u s1 ⟨x, H1, I1, rx, ex, q1⟩ => ?_)
  subst ex
  obtain rfl : u = Value.ref a := rx
  refine thn (hi pins s1 σ H1 _ I1 q1) fun iv s2 ⟨y, H2, I2, ry, k, d, ey, hd, q2⟩ => ?_
  subst ey
  obtain ⟨t, rfl⟩ := (show ∃ t, iv = Value.str k t from ry)
  have ho := I2.kIn a _ hk
  exact ⟨⟨_, ho, rfl⟩, tab_item ⟨_, ho, rfl⟩ ho rfl hr hd ⟨.ref d, H2, I2.tok _, rfl, q2⟩⟩
end
end L2

set_option Elab.async false
set_option linter.all false
set_option maxRecDepth 100000
namespace L2
open PySem PySem.Spec PyProof.Rows
/-! ### parts by their kinds, ways on -/
def pick (w : Str) (xs : List V) (ks : List Str) : List V := ((xs.zip ks).filter fun p => decide (p.2 = w)).map (·.1)
def pickN (w : Str) (xs : List V) (ks : List Str) (i : Nat) : List V := (((xs.zip ks).take i).filter fun p => decide (p.2 = w)).map (·.1)
theorem pickN_succ {w : Str} {xs : List V} {ks : List Str} {i : Nat} {x : V} {k : Str} (hx : xs[i]? = some x) (hk : ks[i]? = some k) : pickN w xs ks (i + 1) = pickN w xs ks i ++ (if k = w then [x] else []) := by
  have hz : (xs.zip ks)[i]? = some (x, k) := by rw [List.getElem?_zip_eq_some]; exact ⟨hx, hk⟩
  unfold pickN
  rw [List.take_add_one, hz, List.filter_append, List.map_append]
  congr 1
  by_cases h : k = w
  · rw [if_pos h]; simp [h]
  · rw [if_neg h]; simp [h]
theorem pickN_all {w : Str} {xs : List V} {ks : List Str} : pickN w xs ks (min xs.length (ks.map V.str).length) = pick w xs ks := by
  unfold pickN pick
  rw [List.length_map, List.take_of_length_le (by rw [List.length_zip]; exact Nat.le_refl _)]
theorem pickN_len {w : Str} {xs : List V} {ks : List Str} {i : Nat} : (pickN w xs ks i).length ≤ i := by
  unfold pickN
  rw [List.length_map]
  exact Nat.le_trans (List.length_filter_le ..) (by rw [List.length_take]; exact Nat.min_le_left ..)
theorem SqT.same {K : PySem.W.Frag} {H H' : Hp} {a : Addr} {xs : List V} (h : SqT K H a xs) (s : Same H H') : SqT K H' a xs := by
  rcases h with h | h
  · rcases h with h | h
    · exact .inl (.inl (s _ _ h))
    · obtain ⟨b, hb⟩ := h
      exact .inl (.inr ⟨b, s _ _ hb⟩)
  · exact .inr h
def spParts (K : PySem.W.Frag) : Sp := fun vs H Q _ => ∃ (t s : Addr) (v0 : V) (xs : List V) (ks : List Str) (w : Str), vs = [.ref t, .ref s, .str w] ∧ H t = some (.tup (v0 :: xs)) ∧ SqT K H s (ks.map V.str) ∧ xs.length ≤ 1000 ∧
  ∀ l H', H' l = some (.lst (pick w xs ks)) → Same H H' → Q (.ref l) H'
def KTup (K : PySem.W.Frag) (a : Addr) (ks : List Str) : Prop := ∃ (o : Obj) (its : Array Value) (n : Nat), K.lookup a = some o ∧ o.cls = .type "tuple" ∧ o.data = .seq its n ∧ its.size ≤ sizeLine ∧ Vals (ks.map V.str) its.toList
structure EndG (K : PySem.W.Frag) (mg : Str → Option Value) (aE s0 s1 s2 s3 : Addr) : Prop where
  tab : TabG K mg "END_PARTS" aE [("stop", s0), ("go", s1), ("less", s2), ("is", s3)]
  q0 : KTup K s0 []
  q1 : KTup K s1 ["piece"]
  q2 : KTup K s2 ["name", "number", "piece", "piece"]
  q3 : KTup K s3 ["name", "number", "piece", "piece"]
def waysE : End → List Nat
  | .stop => []
  | .go p => [p]
  | .tst _ _ _ p q => [p, q]
def kE : End → List Str
  | .stop => []
  | .go _ => ["piece"]
  | .tst .. => ["name", "number", "piece", "piece"]
def wE : End → Str
  | .stop => "stop"
  | .go _ => "go"
  | .tst b .. => wT b
theorem vEnd_cons (e : End) : ∃ xs, vEnd e = .str (wE e) :: xs ∧ xs.length ≤ 1000 ∧ pick "piece" xs (kE e) = (waysE e).map fun k => V.int (k : Nat) := by
  cases e with
  | stop => exact ⟨[], rfl, by decide, rfl⟩
  | go p => exact ⟨_, rfl, by show 1 ≤ 1000; decide, by simp [pick, kE, waysE]⟩
  | tst b x n p q =>
    refine ⟨_, rfl, by show 4 ≤ 1000; decide, ?_⟩
    have h1 : ¬ ("name" : Str) = "piece" := by decide +kernel
    have h2 : ¬ ("number" : Str) = "piece" := by decide +kernel
    simp [pick, kE, waysE, h1, h2]
theorem EndG.at_ {K : PySem.W.Frag} {mg : Str → Option Value} {aE s0 s1 s2 s3 : Addr} (G : EndG K mg aE s0 s1 s2 s3) (e : End) : ∃ s, KTD.datumAt (wE e) [(("stop" : Str), s0), ("go", s1), ("less", s2), ("is", s3)] = some s ∧ KTup K s (kE e) := by
  have hit : ∀ {k : Str} {d : Addr} {D : List (Str × Addr)}, KTD.datumAt k ((k, d) :: D) = some d := fun {k d D} => by
    show (if decide (k = k) = true then some d else KTD.datumAt k D) = some d
    rw [if_pos (decide_eq_true rfl)]
  have miss : ∀ {k x : Str} {d : Addr} {D : List (Str × Addr)} {o : Option Addr}, ¬ k = x → KTD.datumAt k D = o → KTD.datumAt k ((x, d) :: D) = o := fun {k x d D o} h e => by
    show (if decide (k = x) = true then some d else KTD.datumAt k D) = o
    rw [if_neg (by rw [decide_eq_false h]; decide)]
    exact e
  cases e with
  | stop => exact ⟨s0, hit, G.q0⟩
  | go p => exact ⟨s1, miss (show ¬ (("go" : Str) = "stop") by decide +kernel) hit, G.q1⟩
  | tst b x n p q =>
    cases b with
    | true => exact ⟨s2, miss (show ¬ (("less" : Str) = "stop") by decide +kernel) (miss (show ¬ (("less" : Str) = "go") by decide +kernel) hit), G.q2⟩
    | false => exact ⟨s3, miss (show ¬ (("is" : Str) = "stop") by decide +kernel) (miss (show ¬ (("is" : Str) = "go") by decide +kernel) (miss (show ¬ (("is" : Str) = "less") by decide +kernel) hit)), G.q3⟩
def spWays : Sp := fun vs H Q _ => ∃ (ea : Addr) (e : End), vs = [.ref ea] ∧ H ea = some (.tup (vEnd e)) ∧ ∀ t H', H' t = some (.tup ((waysE e).map fun k => V.int (k : Nat))) → Same H H' → Q (.ref t) H'
end L2

set_option Elab.async false
set_option linter.all false
set_option maxRecDepth 100000
namespace LS
open PySem
/-! ### the table of a set: its places rise, where it is plain -/
def Up (xs : Array Nat) : Prop := ∀ (i j : Nat) (a b : Nat), i < j → xs[i]? = some a → xs[j]? = some b → a < b
theorem below_go {xs : Array Nat} {j : Nat} (up : Up xs) : ∀ (fuel lo hi : Nat), hi - lo ≤ fuel → lo ≤ hi → hi ≤ xs.size →
    (∀ i a, i < lo → xs[i]? = some a → a < j) → (∀ i a, hi ≤ i → xs[i]? = some a → j ≤ a) →
    (∀ i a, i < SetTable.below.go xs j fuel lo hi → xs[i]? = some a → a < j) ∧ (∀ i a, SetTable.below.go xs j fuel lo hi ≤ i → xs[i]? = some a → j ≤ a) ∧ SetTable.below.go xs j fuel lo hi ≤ xs.size := by
  intro fuel
  induction fuel with
  | zero =>
    intro lo hi h1 h2 h3 h4 h5
    have e : lo = hi := by omega
    subst e
    unfold SetTable.below.go
    exact ⟨h4, h5, h3⟩
  | succ f ih =>
    intro lo hi h1 h2 h3 h4 h5
    unfold SetTable.below.go
    by_cases hl : lo < hi
    · rw [if_pos hl]
      dsimp only
      have hm : (lo + hi) / 2 < hi := by omega
      have hm2 : lo ≤ (lo + hi) / 2 := by omega
      generalize (lo + hi) / 2 = mid at hm hm2
      have hs : mid < xs.size := by omega
      have hg : xs[mid]? = some xs[mid] := by simp [hs]
      have hd : xs.getD mid j = xs[mid] := by simp [Array.getD, hs]
      rw [hd]
      by_cases hc : xs[mid] < j
      · rw [if_pos hc]
        refine ih (mid + 1) hi (by omega) (by omega) h3 (fun i a hi' he => ?_) h5
        by_cases e : i = mid
        · subst e; rw [hg] at he; cases he; exact hc
        · have := up i mid a _ (by omega) he hg; omega
      · rw [if_neg hc]
        refine ih lo mid (by omega) hm2 (by omega) h4 (fun i a hi' he => ?_)
        by_cases e : i = mid
        · subst e; rw [hg] at he; cases he; omega
        · have := up mid i _ a (by omega) hg he; omega
    · rw [if_neg hl]
      have e : lo = hi := by omega
      subst e
      exact ⟨h4, h5, h3⟩
theorem below_of {xs : Array Nat} {j : Nat} (up : Up xs) :
    (∀ i a, i < SetTable.below xs j → xs[i]? = some a → a < j) ∧ (∀ i a, SetTable.below xs j ≤ i → xs[i]? = some a → j ≤ a) ∧ SetTable.below xs j ≤ xs.size :=
  below_go up xs.size 0 xs.size (by omega) (Nat.zero_le _) (Nat.le_refl _) (fun _ _ h => absurd h (Nat.not_lt_zero _)) (fun i a h e => by
    have : xs[i]? = none := by simp; omega
    rw [this] at e; cases e)
theorem insertAt_get {α : Type} {xs : Array α} {p : Nat} {x : α} (hp : p ≤ xs.size) (i : Nat) :
    (SetTable.insertAt xs p x)[i]? = if i < p then xs[i]? else if i = p then some x else xs[i - 1]? := by
  unfold SetTable.insertAt
  have h1 : (xs.extract 0 p).size = p := by simp; omega
  rw [Array.getElem?_append]
  have h2 : ((xs.extract 0 p).push x).size = p + 1 := by simp; omega
  rw [h2]
  by_cases a : i < p
  · rw [if_pos (by omega), if_pos a, Array.getElem?_push, h1, if_neg (by omega)]
    rw [Array.getElem?_extract]
    simp; omega
  · rw [if_neg a]
    by_cases b : i = p
    · subst b
      rw [if_pos (by omega), if_pos rfl, Array.getElem?_push, h1, if_pos rfl]
    · rw [if_neg (by omega), if_neg b]
      rw [Array.getElem?_extract]
      have : p + (i - (p + 1)) = i - 1 := by omega
      rw [this]
      by_cases c : i - 1 < xs.size
      · simp; omega
      · have : xs[i - 1]? = none := by simp; omega
        rw [this]; simp
theorem Up.insert {xs : Array Nat} {j : Nat} (up : Up xs) (hn : xs[SetTable.below xs j]? ≠ some j) : Up (SetTable.insertAt xs (SetTable.below xs j) j) := by
  obtain ⟨h1, h2, h3⟩ := below_of (j := j) up
  generalize SetTable.below xs j = p at h1 h2 h3 hn
  have h2' : ∀ i a, p ≤ i → xs[i]? = some a → j < a := fun i a hi e => by
    have q := h2 i a hi e
    by_cases z : i = p
    · subst z
      rcases Nat.lt_or_ge j a with c | c
      · exact c
      · have : a = j := by omega
        subst this; exact absurd e hn
    · have hps : p < xs.size := by
        have : i < xs.size := by
          rcases Nat.lt_or_ge i xs.size with c | c
          · exact c
          · have : xs[i]? = none := by simp; omega
            rw [this] at e; cases e
        omega
      have e1 : xs[p]? = some xs[p] := by simp [hps]
      have q1 := h2 p _ (Nat.le_refl _) e1
      have q2 := up p i _ _ (by omega) e1 e
      omega
  intro a b x y hab ha hb
  rw [insertAt_get h3] at ha hb
  by_cases c1 : a < p
  · rw [if_pos c1] at ha
    by_cases d1 : b < p
    · rw [if_pos d1] at hb; exact up a b _ _ hab ha hb
    · rw [if_neg d1] at hb
      by_cases d2 : b = p
      · rw [if_pos d2] at hb; cases hb; exact h1 a _ c1 ha
      · rw [if_neg d2] at hb
        exact Nat.lt_trans (h1 a _ c1 ha) (h2' (b - 1) _ (by omega) hb)
  · rw [if_neg c1] at ha
    by_cases c2 : a = p
    · rw [if_pos c2] at ha; cases ha
      rw [if_neg (by omega), if_neg (by omega)] at hb
      exact h2' (b - 1) _ (by omega) hb
    · rw [if_neg c2] at ha
      rw [if_neg (by omega), if_neg (by omega)] at hb
      exact up (a - 1) (b - 1) _ _ (by omega) ha hb
/-- a plain table's places rise -/
def Rp (t : SetTable) : Prop := t.plain = true → Up t.place
theorem probe_go {t : SetTable} {f : Nat → Int} {h : Int} : ∀ (fuel : Nat) (p : SetTable.Probe) (j : Nat) (d : Option Nat), (∀ x, p.dummy = some x → t.place[SetTable.below t.place x]? ≠ some x) →
    SetTable.probe.go t f h fuel p = some (.empty j d) → t.place[SetTable.below t.place (d.getD j)]? ≠ some (d.getD j) := by
  intro fuel
  induction fuel with
  | zero => intro p j d _ e; unfold SetTable.probe.go at e; cases e
  | succ n ih =>
    intro p j d hd e
    unfold SetTable.probe.go at e
    have adv : ∀ q : SetTable.Probe, (t.advance q).dummy = q.dummy := fun q => by unfold SetTable.advance; split <;> rfl
    cases hs : t.slot p.j with
    | empty =>
      rw [hs] at e
      dsimp only at e
      injection e with e
      injection e with e1 e2
      subst e1; subst e2
      unfold SetTable.slot at hs
      dsimp only at hs
      split at hs
      · cases hs
      · rename_i hne
        cases hdm : p.dummy with
        | none => intro z; exact hne (by rw [show (none : Option Nat).getD p.j = p.j from rfl] at z; simpa using z)
        | some x => exact hd x hdm
    | dummy =>
      rw [hs] at e
      dsimp only at e
      refine ih _ j d (fun x hx => ?_) e
      rw [adv] at hx
      injection hx with hx
      subst hx
      unfold SetTable.slot at hs
      dsimp only at hs
      split at hs
      · cases hs
      · rename_i hne
        intro z; exact hne (by simpa using z)
    | live i =>
      rw [hs] at e
      dsimp only at e
      split at e
      · cases e
      · exact ih _ j d (fun x hx => hd x (by rw [adv] at hx; exact hx)) e
theorem freeSlot_off {t : SetTable} {h : Int} {j : Nat} {b : Bool} (e : t.freeSlot h = some (j, b)) : t.place[SetTable.below t.place j]? ≠ some j := by
  unfold SetTable.freeSlot at e
  split at e
  · rename_i j' d hp
    injection e with e
    injection e with e1 e2
    subst e1
    unfold SetTable.probe at hp
    exact probe_go _ _ _ _ (fun x hx => by cases hx) hp
  · cases e
theorem Rp.standIn (t : SetTable) (n : Nat) : Rp (t.standIn n) := fun h => by cases h
theorem Rp.layNew {t : SetTable} (r : Rp t) (es : Array (Int × Value)) (h : Int) (x : Value) : Rp (layNew t es h x).2.1 ∧ (layNew t es h x).2.1.led = t.led := by
  unfold PySem.layNew
  split
  · rename_i j b e
    dsimp only
    unfold SetTable.orStandIn
    split
    · refine ⟨fun hp => ?_, rfl⟩
      exact (r hp).insert (freeSlot_off e)
    · exact ⟨Rp.standIn _ _, rfl⟩
  · exact ⟨Rp.standIn _ _, rfl⟩
theorem up_range (n : Nat) (f : Nat → Option Nat) : Up (((List.range n).filterMap fun j => (f j).map fun k => (j, k)).map (·.1)).toArray := by
  have hs : List.Pairwise (· < ·) (((List.range n).filterMap fun j => (f j).map fun k => (j, k)).map (·.1)) := by
    have hl : List.Sublist (((List.range n).filterMap fun j => (f j).map fun k => (j, k)).map (·.1)) (List.range n) := by
      generalize List.range n = l
      induction l with
      | nil => exact List.Sublist.refl _
      | cons a l ih =>
        rw [List.filterMap_cons]
        cases e : f a with
        | none => exact ih.cons a
        | some k => exact ih.cons₂ a
    exact List.Pairwise.sublist hl List.pairwise_lt_range
  intro i j a b hij ha hb
  rw [List.getElem?_toArray] at ha hb
  have hi : i < _ := (List.getElem?_eq_some_iff.mp ha).1
  have hj : j < _ := (List.getElem?_eq_some_iff.mp hb).1
  have := List.pairwise_iff_getElem.mp hs i j hi hj hij
  rw [(List.getElem?_eq_some_iff.mp ha).2, (List.getElem?_eq_some_iff.mp hb).2] at this
  exact this
theorem Rp.relayAll (t : SetTable) (es : Array (Int × Value)) (n : Nat) : Rp (relayAll t es n).2.1 ∧ (relayAll t es n).2.1.led = t.led := by
  unfold PySem.relayAll
  split
  · rename_i t' order e
    dsimp only
    split
    · unfold SetTable.relaid SetTable.laid at e
      simp only [bind, Option.bind] at e
      split at e
      · cases e
      · rename_i owner _
        injection e with e
        injection e with e1 _
        subst e1
        exact ⟨fun _ => up_range _ _, rfl⟩
    · exact ⟨Rp.standIn _ _, rfl⟩
  · exact ⟨Rp.standIn _ _, rfl⟩
/-- the place that comes next -/
theorem below_next {xs : Array Nat} (up : Up xs) {i a : Nat} (e : xs[i]? = some a) : SetTable.below xs (a + 1) = i + 1 := by
  obtain ⟨h1, h2, h3⟩ := below_of (j := a + 1) up
  have hi : i < xs.size := (Array.getElem?_eq_some_iff.mp e).1
  rcases Nat.lt_trichotomy (SetTable.below xs (a + 1)) (i + 1) with c | c | c
  · have := h2 i a (by omega) e; omega
  · exact c
  · have hs : i + 1 < xs.size := by omega
    have e' : xs[i + 1]? = some xs[i + 1] := by simp [hs]
    have q1 := h1 (i + 1) _ c e'
    have q2 := up i (i + 1) _ _ (by omega) e e'
    omega
theorem below_zero {xs : Array Nat} (up : Up xs) : SetTable.below xs 0 = 0 := by
  obtain ⟨h1, h2, h3⟩ := below_of (j := 0) up
  rcases Nat.eq_zero_or_pos (SetTable.below xs 0) with c | c
  · exact c
  · have e' : xs[0]? = some xs[0] := by simp
    have := h1 0 _ c e'; omega
theorem Up.few {xs : Array Nat} (h : xs.size ≤ 1) : Up xs := fun i j a b hij ha hb => by
  have := (Array.getElem?_eq_some_iff.mp hb).1; omega
end LS

set_option Elab.async false
set_option linter.all false
set_option maxRecDepth 100000
namespace LS
open PySem PySem.Spec PyProof.Rows
section
variable {prog : Program} {w : World} {K : Type} [DecidableEq K] {knd : KeyKind prog w K}
variable {A : Around} {E : Value → Shared → Prop} {s : Shared}
/-- an entry of the set is that of the key -/
def Ent (knd : KeyKind prog w K) (e : Int × Value) (k : K) : Prop := knd.is k e.2 = true ∧ e.1 = knd.hash k ∧ e.2.scannable = true
/-- a set with these keys, each once, in some order -/
structure SAt (knd : KeyKind prog w K) (h : Heap) (a : Addr) (ks : List K) (o : Obj) (es : Array (Int × Value)) (ep : Nat) (t : SetTable) : Prop where
  at_ : h.get? a = some o
  ex : o.ExactSet
  data : o.data = .set es ep t
  ents : ∃ ls : List K, ls.Perm ks ∧ Paired (Ent knd) es.toList ls
  nd : ks.Nodup
  few : es.size < scanBound
  fits : t.fits es.size = true
  led : t.led = !(w.params.followText "set-order")
  up : Rp t
def SetK (knd : KeyKind prog w K) (h : Heap) (a : Addr) (ks : List K) : Prop := ∃ o es ep t, SAt knd h a ks o es ep t
theorem paired_perm {α β : Type} {F : α → β → Prop} : ∀ {l l' : List α}, l.Perm l' → ∀ {m' : List β}, Paired F l' m' → ∃ m, m.Perm m' ∧ Paired F l m := by
  intro l l' p
  induction p with
  | nil => intro m' h; exact ⟨m', .refl _, h⟩
  | cons x p ih =>
    intro m' h
    cases h with
    | cons r t => obtain ⟨m, q, e⟩ := ih t; exact ⟨_, q.cons _, .cons r e⟩
  | swap x y l =>
    intro m' h
    cases h with
    | cons r t => cases t with
      | cons r' t' => exact ⟨_, .swap _ _ _, .cons r' (.cons r t')⟩
  | trans p q ih1 ih2 =>
    intro m' h
    obtain ⟨m1, a1, b1⟩ := ih2 h
    obtain ⟨m2, a2, b2⟩ := ih1 b1
    exact ⟨m2, a2.trans a1, b2⟩
theorem paired_mem {α β : Type} {F : α → β → Prop} : ∀ {l : List α} {m : List β}, Paired F l m → (∀ x ∈ l, ∃ y ∈ m, F x y) ∧ (∀ y ∈ m, ∃ x ∈ l, F x y)
  | _, _, .nil => ⟨(fun _ h => nomatch h), (fun _ h => nomatch h)⟩
  | _, _, .cons r t => by
    obtain ⟨h1, h2⟩ := paired_mem t
    refine ⟨fun x hx => ?_, fun y hy => ?_⟩
    · rcases List.mem_cons.mp hx with rfl | hx
      · exact ⟨_, List.mem_cons_self .., r⟩
      · obtain ⟨y, hy, f⟩ := h1 x hx; exact ⟨y, List.mem_cons_of_mem _ hy, f⟩
    · rcases List.mem_cons.mp hy with rfl | hy
      · exact ⟨_, List.mem_cons_self .., r⟩
      · obtain ⟨x, hx, f⟩ := h2 y hy; exact ⟨x, List.mem_cons_of_mem _ hx, f⟩
theorem paired_snoc {α β : Type} {F : α → β → Prop} {x : α} {y : β} (f : F x y) : ∀ {l : List α} {m : List β}, Paired F l m → Paired F (l ++ [x]) (m ++ [y])
  | _, _, .nil => .cons f .nil
  | _, _, .cons r t => .cons r (paired_snoc f t)
variable {a : Addr} {ks : List K} {o : Obj} {es : Array (Int × Value)} {ep : Nat} {t : SetTable} {h h' : Heap}
theorem SAt.elems (S : SAt knd h a ks o es ep t) : ElemsOf knd es.toList := fun e he => by
  obtain ⟨ls, _, p⟩ := S.ents
  obtain ⟨k, _, f⟩ := (paired_mem p).1 e he
  exact ⟨⟨k, f.1, f.2.1⟩, f.2.2⟩
theorem SAt.len (S : SAt knd h a ks o es ep t) : es.size = ks.length := by
  obtain ⟨ls, q, p⟩ := S.ents
  rw [← Array.length_toList, p.length, q.length_eq]
theorem SAt.mem (S : SAt knd h a ks o es ep t) (k : K) : k ∈ ks ↔ ∃ e ∈ es.toList, knd.is k e.2 = true := by
  obtain ⟨ls, q, p⟩ := S.ents
  rw [← q.mem_iff]
  constructor
  · intro hk
    obtain ⟨e, he, f⟩ := (paired_mem p).2 k hk
    exact ⟨e, he, f.1⟩
  · rintro ⟨e, he, f⟩
    obtain ⟨k', hk', f'⟩ := (paired_mem p).1 e he
    rw [knd.inj e.2 k k' f f'.1]; exact hk'
theorem SAt.keep (S : SAt knd h a ks o es ep t) (k : ∀ o, h.get? a = some o → h'.get? a = some o) : SAt knd h' a ks o es ep t := { S with at_ := k _ S.at_ }
theorem SetK.keep (S : SetK knd h a ks) (k : ∀ o, h.get? a = some o → h'.get? a = some o) : SetK knd h' a ks := let ⟨o, es, ep, t, S⟩ := S; ⟨o, es, ep, t, S.keep k⟩
theorem put_data {o : Obj} {es es' : Array (Int × Value)} {ep : Nat} {t t' : SetTable} (hd : o.data = .set es ep t) : Obj.putSet es' t' o = { o with data := .set es' (ep + 1) t' } := putSet_of es' t' hd
theorem SAt.store {es' : Array (Int × Value)} {t' : SetTable} {ks' : List K} (S : SAt knd h a ks o es ep t) (he : ∃ ls : List K, ls.Perm ks' ∧ Paired (Ent knd) es'.toList ls) (nd : ks'.Nodup) (few : es'.size < scanBound)
    (fits : t'.fits es'.size = true) (led : t'.led = t.led) (up : Rp t') : SAt knd (h.update a (Obj.putSet es' t')) a ks' { o with data := .set es' (ep + 1) t' } es' (ep + 1) t' where
  at_ := by
    have q := Heap.get?_update_self (Obj.putSet es' t') S.at_ (by rw [put_data S.data]; rfl)
    rw [put_data S.data] at q
    exact q
  ex := S.ex
  data := rfl
  ents := he
  nd := nd
  few := few
  fits := fits
  led := led.trans S.led
  up := up
theorem add_tail {g : Bool → Sem Unit} (hg : ∀ (b : Bool) (s₁ : Shared) (Q' : Unit → Shared → Prop), Q' () s₁ → wpAny (model prog w) A (g b) Q' E s₁) {es1 : Array (Int × Value)} {t2 : SetTable} {ks' : List K}
    (S : SAt knd s.heap a ks o es ep t) (he : ∃ ls : List K, ls.Perm ks' ∧ Paired (Ent knd) es1.toList ls) (nd : ks'.Nodup) (few : es1.size < scanBound) (fits : t2.fits es1.size = true) (led : t2.led = t.led) (up : Rp t2) {wd : Bool}
    {R : Option Bool → Shared → Prop} (q : ∀ h', Heap.SameBut a s.heap h' → SetK knd h' a ks' → R (some true) { s with heap := h' }) :
    wpAny (model prog w) A (storeSet a es1 t2 >>= fun _ => if (!wd && t2.tooFull) = true then g (relayAll t2 es1 (SetTable.grown es1.size)).2.2 >>= fun _ =>
      storeSet a (relayAll t2 es1 (SetTable.grown es1.size)).1 (relayAll t2 es1 (SetTable.grown es1.size)).2.1 >>= fun _ => pure (some true) else pure (some true)) R E s := by
  refine wpAny_bind (wpAny_storeSet_of S.at_ S.data ?_ (fits_of_scanBound few))
  have S1 := S.store he nd few fits led up
  have b1 := Heap.SameBut.update s.heap a (Obj.putSet es1 t2)
  by_cases hc : (!wd && t2.tooFull) = true
  · rw [if_pos hc]
    have p1 := relayAll_perm t2 es1 (SetTable.grown es1.size)
    have p2 := relayAll_fits t2 es1 (SetTable.grown es1.size)
    have p3 := Rp.relayAll t2 es1 (SetTable.grown es1.size)
    generalize relayAll t2 es1 (SetTable.grown es1.size) = R3 at p1 p2 p3
    obtain ⟨es3, t3, gv⟩ := R3
    obtain ⟨ls, l1, l2⟩ := he
    obtain ⟨ls3, l3, l4⟩ := paired_perm p1 l2
    have z : es3.size = es1.size := by rw [← Array.length_toList, p1.length_eq, Array.length_toList]
    have few3 : es3.size < scanBound := by rw [z]; exact few
    refine wpAny_bind (hg _ _ _ ?_)
    refine wpAny_bind (wpAny_storeSet_of S1.at_ S1.data ?_ (fits_of_scanBound few3))
    exact wpAny_pure (q _ (b1.trans (Heap.SameBut.update _ a _)) ⟨_, _, _, _, S1.store ⟨ls3, l3.trans l1, l4⟩ nd few3 p2 p3.2 p3.1⟩)
  · rw [if_neg hc]
    exact wpAny_pure (q _ b1 ⟨_, _, _, _, S1⟩)
theorem add_hashed {k : K} {x : Value} {Q : Bool → Shared → Prop} (hk : knd.is k x = true) (hsc : x.scannable = true) (S : SetK knd s.heap a ks) (room : ks.length + 1 < scanBound)
    (q : ∀ h', Heap.SameBut a s.heap h' → SetK knd h' a (if k ∈ ks then ks else ks ++ [k]) → Q (!decide (k ∈ ks)) { s with heap := h' }) :
    wpAny (model prog w) A (setAddHashed a x (knd.hash k)) Q E s := by
  obtain ⟨o, es, ep, t, S⟩ := S
  have few1 : es.size + 1 < scanBound := by rw [S.len]; exact room
  unfold setAddHashed setAddHashedIn
  refine wpAny_holding (wpAny_bind (wpAny_setState_of S.at_ S.data S.fits ?_))
  dsimp only
  rw [byScan_of hsc S.few S.elems]
  simp only [↓reduceIte]
  unfold setAddByScan
  refine wpAny_bind (wpAny_bind (wpAny_rule ?_))
  refine wpAny_bind (wpAny_setScan_of hk S.at_ S.data S.fits S.elems ?_)
  cases hr : List.findIdx? (fun e => knd.is k e.2) es.toList with
  | some j =>
    obtain ⟨hj, hpj, _⟩ := List.findIdx?_eq_some_iff_getElem.mp hr
    have hin : k ∈ ks := (S.mem k).mpr ⟨es.toList[j], List.getElem_mem hj, hpj⟩
    refine wpAny_pure (wpAny_pure ?_)
    have := q s.heap (Heap.SameBut.refl a s.heap) (by rw [if_pos hin]; exact ⟨o, es, ep, t, S⟩)
    rw [decide_eq_true hin] at this
    exact this
  | none =>
    have hin : ¬ k ∈ ks := fun z => by
      obtain ⟨e, he, hp⟩ := (S.mem k).mp z
      have := List.findIdx?_eq_none_iff.mp hr e he
      rw [hp] at this; exact Bool.noConfusion this
    rw [if_neg hin, decide_eq_false hin] at q
    have p1 := layNew_perm t es (knd.hash k) x
    have p2 := layNew_fits t es (knd.hash k) x
    have p3 := S.up.layNew es (knd.hash k) x
    dsimp only
    generalize layNew t es (knd.hash k) x = L at p1 p2 p3 ⊢
    obtain ⟨es1, t1, wd, gv⟩ := L
    dsimp only at p1 p2 p3 ⊢
    rw [Array.toList_push] at p1
    have hE : ∃ ls : List K, ls.Perm (ks ++ [k]) ∧ Paired (Ent knd) es1.toList ls := by
      obtain ⟨ls, l1, l2⟩ := S.ents
      obtain ⟨m, m1, m2⟩ := paired_perm p1 (paired_snoc (F := Ent knd) (x := (knd.hash k, x)) (y := k) ⟨hk, rfl, hsc⟩ l2)
      exact ⟨m, m1.trans (l1.append_right _), m2⟩
    have nd1 : (ks ++ [k]).Nodup := by
      rw [List.nodup_append]
      exact ⟨S.nd, by simp, fun y hy z hz e => hin (by rw [List.mem_singleton] at hz; rw [← hz, ← e]; exact hy)⟩
    have few2 : es1.size < scanBound := by rw [← Array.length_toList, p1.length_eq, List.length_append, Array.length_toList]; simpa using few1
    have gw : ∀ (b : Bool) (s₁ : Shared) (Q' : Unit → Shared → Prop), Q' () s₁ → wpAny (model prog w) A (match b with | true => rule "set.scan.the-table-gave-way" | false => pure ()) Q' E s₁ := fun b s₁ Q' hq => by
      cases b
      · exact wpAny_pure hq
      · exact wpAny_rule hq
    refine wpAny_bind (gw _ _ _ ?_)
    by_cases hp : t1.plain = true
    · rw [if_pos hp]
      refine wpAny_bind ?_
      rw [hashByValue_scannable 8 hsc]
      refine wpAny_pure ?_
      by_cases hv : plainKind x = true
      · rw [if_pos hv]
        exact add_tail gw S hE nd1 few2 p2 p3.2 p3.1 fun h' b Sk => wpAny_pure (q h' b Sk)
      · rw [if_neg hv]
        exact add_tail gw S hE nd1 few2 (SetTable.fits_plain_off p2) p3.2 (fun z => by cases z) fun h' b Sk => wpAny_pure (q h' b Sk)
    · rw [if_neg hp]
      refine wpAny_bind (wpAny_pure ?_)
      rw [if_pos rfl]
      exact add_tail gw S hE nd1 few2 p2 p3.2 p3.1 fun h' b Sk => wpAny_pure (q h' b Sk)
theorem fresh_set {led : Bool} (hl : led = !(w.params.followText "set-order")) (at_ : h.get? a = some { cls := .type "set", dict := none, data := .set #[] 0 (.fresh 0 0 led) }) : SetK knd h a [] :=
  ⟨_, #[], 0, _, at_, ⟨rfl, rfl, rfl⟩, rfl, ⟨[], .refl _, .nil⟩, List.nodup_nil, by decide, by rfl, hl, fun _ => Up.few (Nat.zero_le _)⟩
end
end LS

set_option Elab.async false
set_option linter.all false
set_option maxRecDepth 100000
namespace LS
open PySem PySem.Spec PyProof.Rows
theorem cons_erase {α : Type} : ∀ (l : List α) (i : Nat) (h : i < l.length), (l[i] :: l.eraseIdx i).Perm l
  | x :: l, 0, _ => .refl _
  | x :: l, i + 1, h => by
    have hi : i < l.length := by simpa using h
    have ih := cons_erase l i hi
    show (l[i] :: x :: l.eraseIdx i).Perm (x :: l)
    exact (List.Perm.swap x _ _).trans (ih.cons x)
theorem pick_perm {α : Type} (f : Nat → Nat) : ∀ (n k : Nat) (l : List α) (out : Array α), l.length = n → (pickOrder.go f n k l out).toList.Perm (out.toList ++ l) := by
  intro n
  induction n with
  | zero =>
    intro k l out hl
    have : l = [] := List.length_eq_zero_iff.mp hl
    subst this
    unfold pickOrder.go
    simp
  | succ n ih =>
    intro k l out hl
    unfold pickOrder.go
    have hlt : f k % l.length < l.length := Nat.mod_lt _ (by omega)
    rw [List.getElem?_eq_getElem hlt]
    dsimp only
    refine (ih _ _ _ (by rw [List.length_eraseIdx_of_lt hlt]; omega)).trans ?_
    rw [Array.toList_push, List.append_assoc]
    refine List.Perm.append_left _ ?_
    exact cons_erase _ _ hlt
theorem pickOrder_perm {α : Type} (f : Nat → Nat) (xs : Array α) : (pickOrder f xs).toList.Perm xs.toList := by
  unfold pickOrder
  have := pick_perm f xs.size 0 xs.toList #[] (by simp)
  simpa using this
section
variable {prog : Program} {w : World} {A : Around} {E : Value → Shared → Prop} {s : Shared}
theorem by_text {Q : Bool → Shared → Prop} (q : Q (w.params.followText "set-order") s) : wpAny (model prog w) A setsByText Q E s := by
  unfold setsByText
  exact wpAny_bind (wpAny_askSetting (wpAny_pure q))
theorem choose_ {src : Source} {n : Nat} {Q : Nat → Shared → Prop} (hn : n ≠ 0) (q : ∀ (i : Nat) (d : _), i < n → Q i { s with drawn := d }) : wpAny (model prog w) A (choose src n) Q E s := by
  intro Γ p hΓ
  show Sem.wp _ _ (.choose src n .pure) _ _ _ _
  rw [Sem.wp_choose]
  exact ⟨hn, q _ _ (Nat.mod_lt _ (Nat.pos_of_ne_zero hn))⟩
theorem draw_ : ∀ (n : Nat) (xs : List Nat) (s : Shared) {Q : List Nat → Shared → Prop}, xs.length = n → (∀ (ys : List Nat) (d : _), ys.Perm xs → Q ys { s with drawn := d }) → wpAny (model prog w) A (drawOrder n xs) Q E s := by
  intro n
  induction n with
  | zero =>
    intro xs s Q hl q
    have : xs = [] := List.length_eq_zero_iff.mp hl
    subst this
    unfold drawOrder
    exact wpAny_pure (q [] s.drawn (.refl _))
  | succ n ih =>
    intro xs s Q hl q
    cases xs with
    | nil => cases hl
    | cons x0 xs =>
      unfold drawOrder
      refine wpAny_bind (choose_ (by simp) fun i d hi => ?_)
      rw [List.getElem?_eq_getElem hi]
      dsimp only
      refine wpAny_bind (ih _ _ (by rw [List.length_eraseIdx_of_lt hi]; omega) fun ys d' hp => ?_)
      refine wpAny_pure (q _ d' ?_)
      exact (hp.cons _).trans (cons_erase _ _ hi)
end
section
variable {prog : Program} {w : World} {K : Type} [DecidableEq K] {knd : KeyKind prog w K}
variable {A : Around} {E : Value → Shared → Prop} {s : Shared} {a : Addr} {ks : List K} {o : Obj} {es : Array (Int × Value)} {ep : Nat} {t : SetTable}
theorem next_T {slot i : Nat} {Q : Option (Value × Nat) → Shared → Prop} (S : SAt knd s.heap a ks o es ep t) (hb : w.params.followText "set-order" = true)
    (q : Q (((pickOrder (w.params.setOrder a ep) es)[i]?).map fun e => (e.2, slot)) s) : wpAny (model prog w) A (setNext a slot i ep) Q E s := by
  unfold setNext
  refine wpAny_bind (wpAny_setState_of S.at_ S.data S.fits ?_)
  dsimp only
  refine wpAny_bind (by_text ?_)
  rw [hb, if_pos rfl]
  rw [if_neg (by simp)]
  unfold setWalk
  refine wpAny_bind (wpAny_bind (wpAny_setState_of S.at_ S.data S.fits ?_))
  dsimp only
  refine wpAny_bind (by_text ?_)
  rw [hb, if_pos rfl]
  exact wpAny_bind (wpAny_askSetting (wpAny_pure (wpAny_pure q)))
theorem next_P {slot i : Nat} {Q : Option (Value × Nat) → Shared → Prop} (S : SAt knd s.heap a ks o es ep t) (hb : w.params.followText "set-order" = false) (hd : t.plain = true ∨ es.size ≤ 1) (hs : SetTable.below t.place slot = i)
    (q : Q (match es[i]?, t.place[i]? with | some (_, x), some j => some (x, j + 1) | _, _ => none) s) : wpAny (model prog w) A (setNext a slot i ep) Q E s := by
  unfold setNext
  refine wpAny_bind (wpAny_setState_of S.at_ S.data S.fits ?_)
  dsimp only
  refine wpAny_bind (by_text ?_)
  rw [hb, if_neg Bool.false_ne_true]
  refine wpAny_ite_split (fun h => absurd (show (!t.plain && decide (es.size > 1)) = true from h) ?_) (fun _ => ?_)
  · rcases hd with h | h
    · rw [h]; simp
    · rw [show decide (es.size > 1) = false by simp; omega]; simp
  have hl : t.led = true := by rw [S.led, hb]; rfl
  refine wpAny_bind ?_
  show wpAny _ _ (if (!t.led && !es.isEmpty) = true then unsupported "set:maker-not-led" else pure ()) _ _ s
  rw [hl, if_neg (by simp)]
  refine wpAny_pure ?_
  rw [hs]
  exact wpAny_pure q
theorem next_D {i : Nat} {e : Int × Value} {Q : Value → Shared → Prop} (S : SAt knd s.heap a ks o es ep t) (he : es[i]? = some e) (q : Q e.2 s) : wpAny (model prog w) A (setNextDrawn a i ep) Q E s := by
  unfold setNextDrawn
  refine wpAny_bind (wpAny_setState_of S.at_ S.data S.fits ?_)
  dsimp only
  rw [if_neg (by simp)]
  rw [he]
  exact wpAny_pure q
/-! ### the iterator -/
theorem slot_next : Slot "set_iterator" "__next__" "set_iterator.__next__" :=
  Slot.of (owner := "set_iterator") (n := "__next__")
    (by rw [typeLookup_type, builtinLookup_eq_fast]
        kernel_rfl)
    (by decide +kernel)
    (by decide +kernel)
    (by decide +kernel)
    (by first
      | exact .inl (by decide +kernel)
      | exact .inr (by decide +kernel))
    (by rw [isSubtype_type]
        kernel_rfl)
theorem entry_next : entryFor table "set_iterator.__next__" = some Builtin.«set_iterator.__next__» :=
  entryFor_of_tree (by kernel_rfl)
theorem owner_sit : Manifest.owners.lookup (String.ofList ['r', 'o', 't', 'a', 'r', 'e', 't', 'i', '_', 't', 'e', 's'].reverse) = some Manifest.sig_set_iterator := by
  kernel_rfl
theorem args_next (v : Value) : argsOk "set_iterator.__next__" ⟨[v], []⟩ := by
  unfold argsOk
  rw [signature?_of (id := "set_iterator.__next__") (n := ['_', '_', 't', 'x', 'e', 'n', '_', '_']) (o := ['r', 'o', 't', 'a', 'r', 'e', 't', 'i', '_', 't', 'e', 's'])
    (by kernel_rfl) owner_sit]
  kernel_rfl
end
end LS

set_option Elab.async false
set_option linter.all false
set_option maxRecDepth 100000
namespace LS
open PySem PySem.Spec PyProof.Rows
def IsSit (h : Heap) (I : Addr) (first : Value) (i : Nat) (a : Addr) (n ep : Nat) : Prop :=
  ∃ oI, h.get? I = some oI ∧ oI.cls = .type "set_iterator" ∧ oI.data = .fields #[first, .int i 0, .ref a, .int n 0, .int ep 0]
theorem IsSit.type {s : Shared} {I : Addr} {first : Value} {i : Nat} {a : Addr} {n ep : Nat} (h : IsSit s.heap I first i a n ep) : s.TypeIs (.ref I) "set_iterator" := let ⟨o, e, c, _⟩ := h; ⟨o, e, c⟩
theorem IsSit.keep {h h' : Heap} {I : Addr} {first : Value} {i : Nat} {a : Addr} {n ep : Nat} (x : IsSit h I first i a n ep) (k : ∀ o, h.get? I = some o → h'.get? I = some o) : IsSit h' I first i a n ep :=
  let ⟨o, e, c⟩ := x; ⟨o, k _ e, c⟩
section
variable {prog : Program} {w : World} {K : Type} [DecidableEq K] {knd : KeyKind prog w K}
variable {A : Around} {E : Value → Shared → Prop} {s : Shared} {a I : Addr} {ks : List K} {o : Obj} {es : Array (Int × Value)} {ep : Nat} {t : SetTable}
theorem step_int {slot nx i : Nat} {x : Value} {Q : Option Value → Shared → Prop} (hit : IsSit s.heap I (.int slot 0) i a es.size ep) (S : SAt knd s.heap a ks o es ep t)
    (hn : ∀ (A : Around) (E : Value → Shared → Prop) (Q : Option (Value × Nat) → Shared → Prop), Q (some (x, nx)) s → wpAny (model prog w) A (setNext a slot i ep) Q E s)
    (q : ∀ h', IsSit h' I (.int nx 0) (i + 1) a es.size ep → Heap.SameBut I s.heap h' → Q (some x) { s with heap := h' }) : wpAny (model prog w) A (pyNext (.ref I)) Q E s := by
  obtain ⟨oI, ho, hc, hd⟩ := id hit
  unfold pyNext
  refine wpAny_bind (wpAny_attempt (wpAny_callSpecial?_slot (name := Str.ofString "__next__") hit.type slot_next (wpAny_call_entry slot_next hit.type entry_next ?_ (args_next _))))
  unfold Builtin.«set_iterator.__next__»
  refine wpAny_bind (wpAny_pure ?_)
  refine wpAny_bind (wpAny_fieldsOf ho hd ?_)
  dsimp only
  refine wpAny_bind (wpAny_setEntries_of S.at_ S.data S.fits ?_)
  rw [if_neg (by simp)]
  simp only [Int.toNat_natCast]
  refine wpAny_bind (hn _ _ _ ?_)
  dsimp only
  refine wpAny_bind (wpAny_setField ho hd (by simp) ?_)
  have d1 : (Obj.mapFields (·.setIfInBounds 0 (rawInt (nx : Int))) oI).data = .fields #[.int nx 0, .int i 0, .ref a, .int es.size 0, .int ep 0] := by rw [Obj.data_mapFields hd]; simp [rawInt]
  have g1 := Heap.get?_update_self (Obj.mapFields (·.setIfInBounds 0 (rawInt (nx : Int)))) ho (Obj.isFreed_of_fields (Obj.data_mapFields hd _))
  refine wpAny_bind (wpAny_setField g1 d1 (by simp) ?_)
  refine wpAny_pure ⟨_, rfl, wpAny_pure (q _ ⟨_, Heap.get?_update_self _ g1 (Obj.isFreed_of_fields (Obj.data_mapFields d1 _)), ?_, ?_⟩ ((Heap.SameBut.update ..).trans (Heap.SameBut.update ..)))⟩
  · exact (Obj.cls_mapFields ..).trans ((Obj.cls_mapFields ..).trans hc)
  · rw [Obj.data_mapFields d1]; simp [rawInt]
theorem stop_raised {Q : Option Value → Shared → Prop} {s0 : Shared} (hh : A.handled = none) (hk : ∀ b o, b ≠ I → s0.heap.get? b = some o → s.heap.get? b = some o)
    (q : ∀ h', (∀ b o, b ≠ I → s0.heap.get? b = some o → h'.get? b = some o) → Q none { s with heap := h' }) :
    wpAny (model prog w) A.in1 (newExc (.type "StopIteration") [] >>= fun e => (raiseNew e : Sem Fin)) (fun _ _ => False)
      (fun e s' => wpAny (model prog w) A (isInstance e (.type "StopIteration") >>= fun b => if b = true then pure none else throw e) Q E s') s := by
  refine wpAny_bind ?_
  simp only [newExc, newTuple]
  refine wpAny_bind (wpAny_newObj_type ?_ (by size_fits))
  refine wpAny_bind (m := firstArgMember _ _) (wpAny_of_eq (a := Value.none) (by first | rfl | (simp only [firstArgMember]; rfl)) ?_)
  refine wpAny_newObj_type ?_ (by size_fits)
  simp only [raiseNew]
  refine wpAny_bind (wpAny_handled ?_)
  rw [show A.in1.handled = none from hh]
  refine wpAny_bind (wpAny_pure (wpAny_throw ?_))
  refine wpAny_bind (wpAny_isInstance (T := "StopIteration") (b := true) ⟨_, Heap.get?_push_size _ rfl, rfl⟩ isSubtype_stop ?_)
  exact wpAny_pure (q _ fun b o hb e => Heap.get?_push_of_some _ (Heap.get?_push_of_some _ (hk b o hb e)))
theorem end_int {slot i : Nat} {Q : Option Value → Shared → Prop} (hh : A.handled = none) (hit : IsSit s.heap I (.int slot 0) i a es.size ep) (S : SAt knd s.heap a ks o es ep t)
    (hn : ∀ (A : Around) (E : Value → Shared → Prop) (Q : Option (Value × Nat) → Shared → Prop), Q none s → wpAny (model prog w) A (setNext a slot i ep) Q E s)
    (q : ∀ h', (∀ b o, b ≠ I → s.heap.get? b = some o → h'.get? b = some o) → Q none { s with heap := h' }) : wpAny (model prog w) A (pyNext (.ref I)) Q E s := by
  obtain ⟨oI, ho, hc, hd⟩ := id hit
  unfold pyNext
  refine wpAny_bind (wpAny_attempt (wpAny_callSpecial?_slot (name := Str.ofString "__next__") hit.type slot_next (wpAny_call_entry slot_next hit.type entry_next ?_ (args_next _))))
  unfold Builtin.«set_iterator.__next__»
  refine wpAny_bind (wpAny_pure ?_)
  refine wpAny_bind (wpAny_fieldsOf ho hd ?_)
  dsimp only
  refine wpAny_bind (wpAny_setEntries_of S.at_ S.data S.fits ?_)
  rw [if_neg (by simp)]
  simp only [Int.toNat_natCast]
  refine wpAny_bind (hn _ _ _ ?_)
  dsimp only
  refine wpAny_bind (wpAny_setField ho hd (by simp) ?_)
  refine wpAny_mono (stop_raised (I := I) (s0 := s) (E := E) (Q := Q) hh (fun b o hb e => (Heap.get?_update_other _ _ (Ne.symm hb)).trans e) fun h' k => q h' k) (fun _ _ z => z.elim) fun e s' z => z
theorem step_ref {T : Addr} {i k : Nat} {oT : Obj} {its : Array Value} {c : Nat} {x : Int × Value} {Q : Option Value → Shared → Prop} (hit : IsSit s.heap I (.ref T) i a es.size ep) (S : SAt knd s.heap a ks o es ep t)
    (hT : s.heap.get? T = some oT) (dT : oT.data = .seq its c) (hk : its[i]? = some (.int k 0)) (hx : es[k]? = some x)
    (q : ∀ h', IsSit h' I (.ref T) (i + 1) a es.size ep → Heap.SameBut I s.heap h' → Q (some x.2) { s with heap := h' }) : wpAny (model prog w) A (pyNext (.ref I)) Q E s := by
  obtain ⟨oI, ho, hc, hd⟩ := id hit
  unfold pyNext
  refine wpAny_bind (wpAny_attempt (wpAny_callSpecial?_slot (name := Str.ofString "__next__") hit.type slot_next (wpAny_call_entry slot_next hit.type entry_next ?_ (args_next _))))
  unfold Builtin.«set_iterator.__next__»
  refine wpAny_bind (wpAny_pure ?_)
  refine wpAny_bind (wpAny_fieldsOf ho hd ?_)
  dsimp only
  refine wpAny_bind (wpAny_setEntries_of S.at_ S.data S.fits ?_)
  rw [if_neg (by simp)]
  refine wpAny_bind (wpAny_seqItems hT dT ?_)
  dsimp only
  simp only [Int.toNat_natCast]
  rw [hk]
  dsimp only
  simp only [Int.toNat_natCast]
  refine wpAny_bind (next_D S hx ?_)
  refine wpAny_bind (wpAny_setField ho hd (by simp) ?_)
  refine wpAny_pure ⟨_, rfl, wpAny_pure (q _ ⟨_, Heap.get?_update_self _ ho (Obj.isFreed_of_fields (Obj.data_mapFields hd _)), ?_, ?_⟩ (Heap.SameBut.update ..))⟩
  · exact (Obj.cls_mapFields ..).trans hc
  · rw [Obj.data_mapFields hd]; simp [rawInt]
theorem end_ref {T : Addr} {i : Nat} {oT : Obj} {its : Array Value} {c : Nat} {Q : Option Value → Shared → Prop} (hh : A.handled = none) (hit : IsSit s.heap I (.ref T) i a es.size ep) (S : SAt knd s.heap a ks o es ep t)
    (hT : s.heap.get? T = some oT) (dT : oT.data = .seq its c) (hk : its[i]? = none)
    (q : ∀ h', (∀ b o, b ≠ I → s.heap.get? b = some o → h'.get? b = some o) → Q none { s with heap := h' }) : wpAny (model prog w) A (pyNext (.ref I)) Q E s := by
  obtain ⟨oI, ho, hc, hd⟩ := id hit
  unfold pyNext
  refine wpAny_bind (wpAny_attempt (wpAny_callSpecial?_slot (name := Str.ofString "__next__") hit.type slot_next (wpAny_call_entry slot_next hit.type entry_next ?_ (args_next _))))
  unfold Builtin.«set_iterator.__next__»
  refine wpAny_bind (wpAny_pure ?_)
  refine wpAny_bind (wpAny_fieldsOf ho hd ?_)
  dsimp only
  refine wpAny_bind (wpAny_setEntries_of S.at_ S.data S.fits ?_)
  rw [if_neg (by simp)]
  refine wpAny_bind (wpAny_seqItems hT dT ?_)
  dsimp only
  simp only [Int.toNat_natCast]
  rw [hk]
  dsimp only
  refine wpAny_bind (wpAny_setField ho hd (by simp) ?_)
  have d1 : (Obj.mapFields (·.setIfInBounds 0 (rawInt 0)) oI).data = .fields #[.int 0 0, .int i 0, .ref a, .int es.size 0, .int ep 0] := by rw [Obj.data_mapFields hd]; simp [rawInt]
  have g1 := Heap.get?_update_self (Obj.mapFields (·.setIfInBounds 0 (rawInt 0))) ho (Obj.isFreed_of_fields (Obj.data_mapFields hd _))
  refine wpAny_bind (wpAny_setField g1 d1 (by simp) ?_)
  refine wpAny_mono (stop_raised (I := I) (s0 := s) (E := E) (Q := Q) hh (fun b o hb e => (Heap.get?_update_other _ _ (Ne.symm hb)).trans ((Heap.get?_update_other _ _ (Ne.symm hb)).trans e)) fun h' k => q h' k) (fun _ _ z => z.elim) fun e s' z => z
theorem slot_iter2 : Slot "set_iterator" "__iter__" "set_iterator.__iter__" :=
  Slot.of (owner := "set_iterator") (n := "__iter__")
    (by rw [typeLookup_type, builtinLookup_eq_fast]
        kernel_rfl)
    (by decide +kernel)
    (by decide +kernel)
    (by decide +kernel)
    (by first
      | exact .inl (by decide +kernel)
      | exact .inr (by decide +kernel))
    (by rw [isSubtype_type]
        kernel_rfl)
theorem entry_iter2 : entryFor table "set_iterator.__iter__" = some Builtin.«dict_keyiterator.__iter__» :=
  entryFor_alias (id' := "dict_keyiterator.__iter__")
    (by kernel_rfl) rfl
    (by decide +kernel)
    (by kernel_rfl)
theorem args_iter2 (v : Value) : argsOk "set_iterator.__iter__" ⟨[v], []⟩ := by
  unfold argsOk
  rw [signature?_of (id := "set_iterator.__iter__") (n := ['_', '_', 'r', 'e', 't', 'i', '_', '_']) (o := ['r', 'o', 't', 'a', 'r', 'e', 't', 'i', '_', 't', 'e', 's'])
    (by kernel_rfl) owner_sit]
  kernel_rfl
theorem iter_self {first : Value} {i : Nat} {Q : Value → Shared → Prop} {n : Nat} (hit : IsSit s.heap I first i a n ep) (q : Q (.ref I) s) : wpAny (model prog w) A (pyIter (.ref I)) Q E s := by
  refine wpAny_pyIter_slot hit.type slot_iter2 (wpAny_call_entry slot_iter2 hit.type entry_iter2 ?_ (args_iter2 _))
  show wpAny _ _ (ret (.ref I)) _ _ s
  exact wpAny_pure ⟨_, rfl, "set_iterator", _, hit.type, slot_next.lookup, q⟩
/-- the values in the order in which they come -/
theorem walk_T (hh : A.handled = none) (hI : a ≠ I) (hb : w.params.followText "set-order" = true) (nd : True) :
    Walks prog w A I [I, a] [I] es.size (fun i v => ∃ e, (pickOrder (w.params.setOrder a ep) es)[i]? = some e ∧ e.2 = v) (fun i h => IsSit h I (.int 0 0) i a es.size ep ∧ SAt knd h a ks o es ep t) where
  sub := fun b hb => by simp at hb; simp [hb]
  frame := fun _ _ _ st k => ⟨st.1.keep fun o e => k I (by simp) o e, st.2.keep fun o e => k a (by simp) o e⟩
  item := fun i s Q E hi st q => by
    have z : (pickOrder (w.params.setOrder a ep) es).size = es.size := by have := (pickOrder_perm (w.params.setOrder a ep) es).length_eq; simpa using this
    have g : (pickOrder (w.params.setOrder a ep) es)[i]? = some ((pickOrder (w.params.setOrder a ep) es)[i]'(by omega)) := by simp
    refine step_int (slot := 0) (nx := 0) st.1 st.2 (fun A E Q h => next_T st.2 hb (by rw [g]; exact h)) fun h' hit' sb => ?_
    exact q _ h' s.toks ⟨_, g, rfl⟩ ⟨hit', st.2.keep fun o e => sb.extBut a o hI e⟩ fun b o hb e => sb.extBut b o (fun z => hb (by simp [z])) e
  done := fun s Q E st q => by
    have z : (pickOrder (w.params.setOrder a ep) es).size = es.size := by have := (pickOrder_perm (w.params.setOrder a ep) es).length_eq; simpa using this
    refine end_int (slot := 0) hh st.1 st.2 (fun A E Q h => next_T st.2 hb (by rw [Array.getElem?_eq_none (by omega)]; exact h)) fun h' k => ?_
    exact q h' s.toks fun b o hb e => k b o (fun z => hb (by simp [z])) e
  self := fun _ _ _ _ st q => iter_self st.1 q
theorem pick_get {α : Type} {es : Array α} : ∀ {ys : List Nat}, (∀ k ∈ ys, k < es.size) → ∀ i : Nat, (ys.filterMap fun k => es[k]?)[i]? = (ys[i]?).bind fun k => es[k]?
  | [], _, i => by simp
  | y :: ys, h, i => by
    have hy : es[y]? = some (es[y]'(h y (List.mem_cons_self ..))) := by simp
    rw [List.filterMap_cons, hy]
    cases i with
    | zero => simp
    | succ i =>
      have := pick_get (ys := ys) (fun k hk => h k (List.mem_cons_of_mem _ hk)) i
      simpa using this
def slotP (t : SetTable) : Nat → Nat
  | 0 => 0
  | i + 1 => t.place.getD i 0 + 1
theorem below_slot {t : SetTable} (up : Up t.place) {i : Nat} (h : i ≤ t.place.size) : SetTable.below t.place (slotP t i) = i := by
  cases i with
  | zero => exact below_zero up
  | succ i =>
    have hi : i < t.place.size := by omega
    have e : t.place[i]? = some (t.place.getD i 0) := by simp [Array.getD, hi]
    exact below_next up e
theorem walk_P (hh : A.handled = none) (hI : a ≠ I) (hb : w.params.followText "set-order" = false) (hd : t.plain = true ∨ es.size ≤ 1) (hf : t.fits es.size = true) (hr : Rp t) :
    Walks prog w A I [I, a] [I] es.size (fun i v => ∃ e, es[i]? = some e ∧ e.2 = v) (fun i h => IsSit h I (.int (slotP t i) 0) i a es.size ep ∧ SAt knd h a ks o es ep t) where
  sub := fun b hb => by simp at hb; simp [hb]
  frame := fun _ _ _ st k => ⟨st.1.keep fun o e => k I (by simp) o e, st.2.keep fun o e => k a (by simp) o e⟩
  item := fun i s Q E hi st q => by
    have z : t.place.size = es.size := by simp only [SetTable.fits, Bool.and_eq_true, beq_iff_eq] at hf; exact hf.1
    have up : Up t.place := by
      rcases hd with c | c
      · exact hr c
      · exact Up.few (by omega)
    have g : es[i]? = some es[i] := by simp [hi]
    have gp : t.place[i]? = some (t.place.getD i 0) := by simp [Array.getD, z, hi]
    refine step_int (slot := slotP t i) (nx := slotP t (i + 1)) (x := es[i].2) st.1 st.2 (fun A E Q h => next_P st.2 hb hd (below_slot up (by omega)) (by rw [g, gp]; exact h)) fun h' hit' sb => ?_
    exact q _ h' s.toks ⟨_, g, rfl⟩ ⟨hit', st.2.keep fun o e => sb.extBut a o hI e⟩ fun b o hb e => sb.extBut b o (fun z => hb (by simp [z])) e
  done := fun s Q E st q => by
    have z : t.place.size = es.size := by simp only [SetTable.fits, Bool.and_eq_true, beq_iff_eq] at hf; exact hf.1
    have up : Up t.place := by
      rcases hd with c | c
      · exact hr c
      · exact Up.few (by omega)
    refine end_int (slot := slotP t es.size) hh st.1 st.2 (fun A E Q h => next_P st.2 hb hd (below_slot up (by omega)) (by rw [Array.getElem?_eq_none (Nat.le_refl _)]; exact h)) fun h' k => ?_
    exact q h' s.toks fun b o hb e => k b o (fun z => hb (by simp [z])) e
  self := fun _ _ _ _ st q => iter_self st.1 q
theorem walk_D {T : Addr} {oT : Obj} {ys : List Nat} (hh : A.handled = none) (hI : a ≠ I) (hT : T ≠ I) (dT : oT.data = .seq (ys.map fun (i : Nat) => rawInt i).toArray 0) (hp : ys.Perm (List.range es.size)) :
    Walks prog w A I [I, a, T] [I] es.size (fun i v => ∃ e, ((ys.filterMap fun k => es[k]?))[i]? = some e ∧ e.2 = v) (fun i h => IsSit h I (.ref T) i a es.size ep ∧ SAt knd h a ks o es ep t ∧ h.get? T = some oT) where
  sub := fun b hb => by simp at hb; simp [hb]
  frame := fun _ _ _ st k => ⟨st.1.keep fun o e => k I (by simp) o e, st.2.1.keep fun o e => k a (by simp) o e, k T (by simp) _ st.2.2⟩
  item := fun i s Q E hi st q => by
    have hl : ys.length = es.size := by rw [hp.length_eq, List.length_range]
    have hin : ∀ k ∈ ys, k < es.size := fun k hk => List.mem_range.mp (hp.mem_iff.mp hk)
    have h1 : ys[i]? = some (ys[i]'(by omega)) := by simp
    have hk : ys[i]'(by omega) < es.size := hin _ (List.getElem_mem _)
    generalize ys[i]'(by omega) = k at h1 hk
    have hx : es[k]? = some es[k] := by simp [hk]
    have hv : (ys.filterMap fun k => es[k]?)[i]? = some es[k] := by
      rw [pick_get hin, h1]
      exact hx
    refine step_ref (k := k) (x := es[k]) st.1 st.2.1 st.2.2 dT (by simp [h1, rawInt]) hx fun h' hit' sb => ?_
    exact q _ h' s.toks ⟨_, hv, rfl⟩ ⟨hit', st.2.1.keep fun o e => sb.extBut a o hI e, sb.extBut T _ hT st.2.2⟩ fun b o hb e => sb.extBut b o (fun z => hb (by simp [z])) e
  done := fun s Q E st q => by
    have hl : ys.length = es.size := by rw [hp.length_eq, List.length_range]
    refine end_ref hh st.1 st.2.1 st.2.2 dT (by simp [hl]) fun h' k => ?_
    exact q h' s.toks fun b o hb e => k b o (fun z => hb (by simp [z])) e
  self := fun _ _ _ _ st q => iter_self st.1 q
theorem mem2 {b x y : Addr} (h : b ∈ [x, y]) : b = x ∨ b = y := by simpa using h
theorem mem3 {b x y z : Addr} (h : b ∈ [x, y, z]) : b = x ∨ b = y ∨ b = z := by simpa using h
/-! ### the set itself is walked -/
theorem entry_iter : entryFor table "set.__iter__" = some Builtin.«frozenset.__iter__» :=
  entryFor_alias (id' := "frozenset.__iter__")
    (by kernel_rfl) rfl
    (by decide +kernel)
    (by kernel_rfl)
theorem SAt.typeIs (S : SAt knd s.heap a ks o es ep t) : s.TypeIs (.ref a) "set" := ⟨o, S.at_, S.ex.1⟩
theorem drawn_asked {Q : Bool → Shared → Prop} (S : SAt knd s.heap a ks o es ep t) (q : Q (!(w.params.followText "set-order") && (!t.plain && decide (es.size > 1))) s) : wpAny (model prog w) A (setDrawn a) Q E s := by
  unfold setDrawn
  refine wpAny_bind (wpAny_setState_of S.at_ S.data S.fits ?_)
  dsimp only
  exact wpAny_bind (by_text (wpAny_pure q))
/-- what a walk gives: the values of the entries, in some order -/
def Comes (es : Array (Int × Value)) (P : Nat → Value → Prop) : Prop := ∃ l : List (Int × Value), l.Perm es.toList ∧ P = fun i v => ∃ e, l[i]? = some e ∧ e.2 = v
theorem iter_set {Q : Value → Shared → Prop} (hh : A.handled = none) (S : SAt knd s.heap a ks o es ep t)
    (q : ∀ (I : Addr) (h' : Heap) (d : _) (fp : List Addr) (P : Nat → Value → Prop) (St : Nat → Heap → Prop), (∀ b o, s.heap.get? b = some o → h'.get? b = some o) → s.heap.objs.size ≤ I → (∀ b ∈ fp, b < h'.objs.size) → (∀ b, h'.objs.size ≤ b → b ∉ fp) →
      (∀ b ∈ fp, b = a ∨ s.heap.objs.size ≤ b) → Comes es P → (∀ A : Around, A.handled = none → Walks prog w A I fp [I] es.size P St) → St 0 h' → Q (.ref I) { s with heap := h', drawn := d }) :
    wpAny (model prog w) A (pyIter (.ref a)) Q E s := by
  have la : a < s.heap.objs.size := Heap.lt_size S.at_
  refine wpAny_pyIter_slot S.typeIs PySem.F.slot_set_iter (wpAny_call_entry PySem.F.slot_set_iter S.typeIs entry_iter ?_ (PySem.F.args_set_iter_1 _))
  unfold Builtin.«frozenset.__iter__»
  refine wpAny_bind ?_
  unfold Builtin.Frozenset.slot0
  refine wpAny_bind (wpAny_pure ?_)
  refine wpAny_pure ?_
  refine wpAny_bind ?_
  unfold Builtin.Frozenset.sizeOf
  refine wpAny_bind (wpAny_setEntries_of S.at_ S.data S.fits (wpAny_pure ?_))
  refine wpAny_bind (drawn_asked S ?_)
  cases hb : w.params.followText "set-order" with
  | true =>
    rw [Bool.not_true, Bool.false_and, if_neg Bool.false_ne_true]
    refine wpAny_bind (wpAny_pure ?_)
    refine wpAny_bind (wpAny_setEpoch_of S.at_ S.data S.fits ?_)
    refine wpAny_bind ?_
    simp only [newFields]
    refine wpAny_newObj_type (wpAny_pure ⟨_, rfl, "set_iterator", _, ⟨_, Heap.get?_push_size _ rfl, rfl⟩, slot_next.lookup, ?_⟩) (by size_fits)
    refine q _ _ s.drawn [s.heap.objs.size, a] _ _ (fun b o e => Heap.get?_push_of_some _ e) (Nat.le_refl _) (fun b hb => ?_) (fun b hb hm => ?_) (fun b hb => ?_) ⟨_, pickOrder_perm (w.params.setOrder a ep) es, ?_⟩ (fun A hh => walk_T (knd := knd) (ks := ks) (o := o) (t := t) hh (Nat.ne_of_lt la) hb trivial) ⟨⟨_, Heap.get?_push_size _ rfl, rfl, rfl⟩, S.keep fun o e => Heap.get?_push_of_some _ e⟩
    · rw [Heap.size_push]
      rcases mem2 hb with e | e
      · rw [e]; exact Nat.lt_succ_self _
      · rw [e]; exact Nat.lt_succ_of_lt la
    · rw [Heap.size_push] at hb
      rcases mem2 hm with e | e
      · rw [e] at hb; exact Nat.not_succ_le_self _ hb
      · rw [e] at hb; exact Nat.lt_irrefl _ (Nat.lt_of_lt_of_le la (Nat.le_of_succ_le hb))
    · rcases mem2 hb with e | e
      · exact .inr (by rw [e]; exact Nat.le_refl _)
      · exact .inl e
    · funext i v; simp
  | false =>
    rw [Bool.not_false, Bool.true_and]
    by_cases hd : (!t.plain && decide (es.size > 1)) = true
    · rw [hd, if_pos rfl]
      refine wpAny_bind (draw_ es.size (List.range es.size) s (by simp) fun ys d hp => ?_)
      have hz : (ys.map fun (i : Nat) => rawInt i).length ≤ sizeLine := by rw [List.length_map, hp.length_eq, List.length_range]; exact fits_of_scanBound S.few
      refine wpAny_bind (wpAny_newTuple ?_ hz)
      have S1 : SAt knd (s.heap.push { cls := .type "tuple", data := .seq (ys.map fun (i : Nat) => rawInt i).toArray }) a ks o es ep t := S.keep fun o e => Heap.get?_push_of_some _ e
      refine wpAny_bind (wpAny_setEpoch_of S1.at_ S1.data S1.fits ?_)
      refine wpAny_bind ?_
      simp only [newFields]
      refine wpAny_newObj_type (wpAny_pure ⟨_, rfl, "set_iterator", _, ⟨_, Heap.get?_push_size _ rfl, rfl⟩, slot_next.lookup, ?_⟩) (by size_fits)
      refine q _ _ d [(s.heap.push { cls := .type "tuple", data := .seq (ys.map fun (i : Nat) => rawInt i).toArray }).objs.size, a, s.heap.objs.size] _ _ (fun b o e => Heap.get?_push_of_some _ (Heap.get?_push_of_some _ e)) (by rw [Heap.size_push]; exact Nat.le_succ _) (fun b hb => ?_) (fun b hb hm => ?_) (fun b hb => ?_) ⟨ys.filterMap fun k => es[k]?, ?_, rfl⟩
        (fun A hh => walk_D (knd := knd) (ks := ks) (o := o) (t := t) (oT := { cls := .type "tuple", data := .seq (ys.map fun (i : Nat) => rawInt i).toArray }) hh (by rw [Heap.size_push]; exact Nat.ne_of_lt (Nat.lt_succ_of_lt la)) (by rw [Heap.size_push]; exact Nat.ne_of_lt (Nat.lt_succ_self _)) rfl hp) ⟨⟨_, Heap.get?_push_size _ rfl, rfl, rfl⟩, S1.keep fun o e => Heap.get?_push_of_some _ e, Heap.get?_push_of_some _ (Heap.get?_push_size _ rfl)⟩
      · rw [Heap.size_push, Heap.size_push]
        rcases mem3 hb with e | e | e
        · rw [e, Heap.size_push]; exact Nat.lt_succ_self _
        · rw [e]; exact Nat.lt_succ_of_lt (Nat.lt_succ_of_lt la)
        · rw [e]; exact Nat.lt_succ_of_lt (Nat.lt_succ_self _)
      · rw [Heap.size_push, Heap.size_push] at hb
        rcases mem3 hm with e | e | e
        · rw [e, Heap.size_push] at hb; exact Nat.not_succ_le_self _ hb
        · rw [e] at hb; exact Nat.lt_irrefl _ (Nat.lt_of_lt_of_le la (Nat.le_of_succ_le (Nat.le_of_succ_le hb)))
        · rw [e] at hb; exact Nat.not_succ_le_self _ (Nat.le_of_succ_le hb)
      · rcases mem3 hb with e | e | e
        · exact .inr (by rw [e, Heap.size_push]; exact Nat.le_succ _)
        · exact .inl e
        · exact .inr (by rw [e]; exact Nat.le_refl _)
      · refine (hp.filterMap _).trans ?_
        have : ((List.range es.size).filterMap fun k => es[k]?) = es.toList := by
          refine List.ext_getElem? fun i => ?_
          rw [pick_get (fun k hk => List.mem_range.mp hk)]
          by_cases hi : i < es.size
          · rw [List.getElem?_range hi]; simp
          · rw [List.getElem?_eq_none (by simp; omega), List.getElem?_eq_none (by simp; omega)]; rfl
        rw [this]
    · rw [if_neg hd]
      refine wpAny_bind (wpAny_pure ?_)
      refine wpAny_bind (wpAny_setEpoch_of S.at_ S.data S.fits ?_)
      refine wpAny_bind ?_
      simp only [newFields]
      refine wpAny_newObj_type (wpAny_pure ⟨_, rfl, "set_iterator", _, ⟨_, Heap.get?_push_size _ rfl, rfl⟩, slot_next.lookup, ?_⟩) (by size_fits)
      have hd' : t.plain = true ∨ es.size ≤ 1 := by
        cases hp : t.plain with
        | true => exact .inl rfl
        | false => right; rw [hp] at hd; simp at hd; exact hd
      refine q _ _ s.drawn [s.heap.objs.size, a] _ _ (fun b o e => Heap.get?_push_of_some _ e) (Nat.le_refl _) (fun b hb => ?_) (fun b hb hm => ?_) (fun b hb => ?_) ⟨es.toList, .refl _, ?_⟩ (fun A hh => walk_P (knd := knd) (ks := ks) (o := o) (t := t) hh (Nat.ne_of_lt la) hb hd' S.fits S.up) ⟨⟨_, Heap.get?_push_size _ rfl, rfl, rfl⟩, S.keep fun o e => Heap.get?_push_of_some _ e⟩
      · rw [Heap.size_push]
        rcases mem2 hb with e | e
        · rw [e]; exact Nat.lt_succ_self _
        · rw [e]; exact Nat.lt_succ_of_lt la
      · rw [Heap.size_push] at hb
        rcases mem2 hm with e | e
        · rw [e] at hb; exact Nat.not_succ_le_self _ hb
        · rw [e] at hb; exact Nat.lt_irrefl _ (Nat.lt_of_lt_of_le la (Nat.le_of_succ_le hb))
      · rcases mem2 hb with e | e
        · exact .inr (by rw [e]; exact Nat.le_refl _)
        · exact .inl e
      · funext i v; simp
theorem hint_set {Q : Bool → Shared → Prop} (hT : s.TypeIs (.ref a) "set") (q : Q false s) : wpAny (model prog w) A (Builtin.List.listLengthHint (.ref a)) Q E s := by
  unfold Builtin.List.listLengthHint
  refine wpAny_bind (wpAny_specialOf hT PySem.F.slot_set_len.lookup ?_)
  generalize hid : ("set.__len__" : String) = id0
  wp_delta
  rw [show splitId id0 = some ("set", "__len__") from by subst hid; decide +kernel]
  subst hid
  refine wpAny_bind (wpAny_isInstance (T := "set") (b := true) hT sub_set_self ?_)
  refine wpAny_ite_split (fun hab => absurd hab (by decide)) (fun _ => ?_)
  refine wpAny_ite_split (fun _ => ?_) (fun hab => absurd (by decide +kernel) hab)
  refine wpAny_bind (wpAny_typeOf hT ?_)
  exact wpAny_pure q
end
end LS

set_option Elab.async false
set_option linter.all false
set_option maxRecDepth 100000
namespace LS
open PySem PySem.Spec PyProof.Rows PySem.Calls PySem.W
section
variable {prog : Program} {w : World} {K : Type} [DecidableEq K] {knd : KeyKind prog w K}
variable {A : Around} {E : Value → Shared → Prop} {s : Shared} {a : Addr} {ks : List K} {o : Obj} {es : Array (Int × Value)} {ep : Nat} {t : SetTable}
theorem comes_items {P : Nat → Value → Prop} {got : Array Value} (hc : Comes es P) (hi : ItemsOf P got es.size) : ∃ l : List (Int × Value), l.Perm es.toList ∧ got.toList = l.map (·.2) := by
  obtain ⟨l, hp, rfl⟩ := hc
  refine ⟨l, hp, ?_⟩
  have hl : l.length = es.size := by rw [hp.length_eq, Array.length_toList]
  refine List.ext_getElem? fun i => ?_
  rw [List.getElem?_map]
  by_cases h : i < es.size
  · have e1 : got.toList[i]? = some (got[i]'(by rw [hi.1]; exact h)) := by simp [hi.1, h]
    obtain ⟨e, he, hv⟩ := hi.2 i _ (by rw [← Array.getElem?_toList]; exact e1)
    rw [e1, he, ← hv]; rfl
  · rw [List.getElem?_eq_none (by rw [Array.length_toList, hi.1]; omega), List.getElem?_eq_none (by omega)]; rfl
theorem extend_set {R : Result → Shared → Prop} (hh : A.handled = none) (S : SAt knd s.heap a ks o es ep t) (L : Addr) (hLa : L ≠ a) (hL : s.heap.get? L = some { cls := .type "list", data := .seq #[] 0 }) (res : Value)
    (fin : ∀ (g : Heap) (tk : Nat) (d : _) (got : Array Value) (c : Nat), (∀ b o, b ≠ L → s.heap.get? b = some o → g.get? b = some o) → g.get? L = some { cls := .type "list", dict := none, data := .seq got c, slots := #[] } →
      (∃ l : List (Int × Value), l.Perm es.toList ∧ got.toList = l.map (·.2)) → R (.ok (.ret res)) { s with heap := g, toks := tk, drawn := d }) :
    wpAny (model prog w) A.in1 (Builtin.List.listExtendWith (.ref L) (.ref a) res)
      (fun fin s' => match fin with | .done f => R (.ok f) s' | .again c' => c'.quiet = true ∧ codeAny (model prog w) A c' R s') (fun e s' => R (.error e) s') s := by
  have hz : es.size ≤ sizeLine := fits_of_scanBound S.few
  unfold Builtin.List.listExtendWith
  refine wpAny_bind (wpAny_typeOf S.typeIs ?_)
  have h1 : Builtin.List.listSameRef (.ref L) (.ref a) = false := by simp [Builtin.List.listSameRef, hLa]
  rw [h1]
  have h2 : (Value.type "set" == Value.type "list") = false := by decide
  have h3 : (Value.type "set" == Value.type "tuple") = false := by decide
  rw [h2, h3]
  rw [if_neg (by decide)]
  refine wpAny_bind (iter_set (A := A.in1) hh S fun I h1 d fp P St keep hI hfp hnew hof hc W st => ?_)
  have hLlt : L < s.heap.objs.size := Heap.lt_size hL
  have hLf : L ∉ fp := fun hm => by
    rcases hof L hm with e | e
    · exact hLa e
    · exact Nat.lt_irrefl _ (Nat.lt_of_lt_of_le hLlt e)
  have hLI : L ≠ I := fun e => Nat.lt_irrefl _ (Nat.lt_of_lt_of_le hLlt (e ▸ hI))
  have Wk := W A.in1 hh
  have loop : ∀ (g : Heap) (c tk : Nat), St 0 g → (∀ b o, b ≠ L → s.heap.get? b = some o → g.get? b = some o) → g.get? L = some { cls := .type "list", data := .seq #[] c } →
      codeAny (model prog w) A (.builtin "list.extend.loop" ⟨[.ref L, .ref I, res], []⟩) R { s with heap := g, toks := tk, drawn := d } := by
    intro g c tk st' kp gL
    refine codeAny_extend_loopS Wk.toS hz L hLf res es.size 0 _ #[] c rfl (Nat.zero_le _) st' gL (ItemsOf.nil _) fun s' got c' mv gL' its => ?_
    have e := Moved.eq_with mv
    rw [e]
    refine fin s'.heap s'.toks d got c' (fun b o hb e => mv.heap b o (fun hm => ?_) (kp b o hb e)) gL' (comes_items hc its)
    rcases List.mem_cons.mp hm with e' | hm
    · exact hb e'
    · rw [List.mem_singleton] at hm
      subst hm
      exact Nat.lt_irrefl _ (Nat.lt_of_lt_of_le (Heap.lt_size e) hI)
  have gL1 := keep _ _ hL
  refine wpAny_bind (wpAny_holding (hint_set ⟨o, keep _ _ S.at_, S.ex.1⟩ ?_))
  refine wpAny_ite_split (fun _ => ?_) (fun _ => wpAny_pure ⟨plainId_quiet PySem.F.plain_extend_loop _, loop _ 0 _ st (fun b o _ e => keep b o e) gL1⟩)
  refine wpAny_bind (wpAny_rule ?_)
  refine wpAny_bind ?_
  show wpAny _ _ (updateSeq L (·.push .none) >>= fun _ => updateSeq L (·.pop)) _ _ _
  refine wpAny_bind (wpAny_updateSeq gL1 rfl ?_)
  have gL2 := Heap.get?_update_self (Obj.mapSeq (·.push Value.none)) gL1 rfl
  refine wpAny_updateSeq (hz := by seq_fits) gL2 rfl ?_
  have gL3 := Heap.get?_update_self (Obj.mapSeq (·.pop)) gL2 rfl
  refine wpAny_pure ⟨plainId_quiet PySem.F.plain_extend_loop _, loop _ _ _ ?_ (fun b o hb e => ?_) gL3⟩
  · refine Wk.frame 0 _ _ st fun b hb o e => ?_
    have hbL : b ≠ L := fun h => hLf (h ▸ hb)
    exact (Heap.get?_update_other _ _ (Ne.symm hbL)).trans ((Heap.get?_update_other _ _ (Ne.symm hbL)).trans e)
  · exact (Heap.get?_update_other _ _ (Ne.symm hb)).trans ((Heap.get?_update_other _ _ (Ne.symm hb)).trans (keep b o e))
theorem gather_set {G : List Value → Shared → Prop} (calm : A.handled = none) (S : SAt knd s.heap a ks o es ep t)
    (fin : ∀ (g : Heap) (tk : Nat) (d : _) (got : Array Value), (∀ b o, s.heap.get? b = some o → g.get? b = some o) → (∃ l : List (Int × Value), l.Perm es.toList ∧ got.toList = l.map (·.2)) → s.heap.objs.size ≤ g.objs.size → G got.toList { s with heap := g, toks := tk, drawn := d }) :
    wpAny (model prog w) A (collect (.ref a)) G E s := by
  have la : a < s.heap.objs.size := Heap.lt_size S.at_
  unfold collect
  refine wpAny_bind (wpAny_runValue (codeAny_builtin entry_proto_collect' ?_))
  rw [Around.under_plainId PySem.F.plain_proto_collect _]
  show wpAny _ A.in1 (newList [] >>= fun z => again (.builtin "list.__iadd__" ⟨[z, .ref a], []⟩)) _ _ s
  refine wpAny_bind (wpAny_newObj_type (wpAny_pure ⟨plainId_quiet PySem.F.plain_list_iadd _, codeAny_builtin entry_list_iadd' ?_⟩))
  rw [Around.under_plainId PySem.F.plain_list_iadd _]
  show wpAny _ A.in1 (Builtin.List.listExtendWith (.ref s.heap.objs.size) (.ref a) (.ref s.heap.objs.size)) _ _ _
  have made : (s.heap.push { cls := .type "list", data := .seq ([] : List Value).toArray }).get? s.heap.objs.size = some { cls := .type "list", data := .seq #[] 0 } := Heap.get?_push_size _ rfl
  have run := extend_set (A := A) (s := { s with heap := s.heap.push { cls := .type "list", data := .seq ([] : List Value).toArray } })
    (R := fun (z : Result) (t : Shared) => ∃ (g : Heap) (tk : Nat) (d : _) (got : Array Value) (c : Nat), z = .ok (.ret (.ref s.heap.objs.size)) ∧ t = { s with heap := g, toks := tk, drawn := d } ∧
      (∀ b o, s.heap.get? b = some o → g.get? b = some o) ∧ g.get? s.heap.objs.size = some { cls := .type "list", dict := none, data := .seq got c, slots := #[] } ∧ ∃ l : List (Int × Value), l.Perm es.toList ∧ got.toList = l.map (·.2))
    calm (S.keep fun o e => Heap.get?_push_of_some _ e) s.heap.objs.size (Nat.ne_of_gt la) made (.ref s.heap.objs.size)
    (fun g tk d got c kept at_ its => ⟨g, tk, d, got, c, rfl, rfl, fun b o e => kept b o (Nat.ne_of_lt (Heap.lt_size e)) (Heap.get?_push_of_some _ e), at_, its⟩)
  refine wpAny_mono run (fun z t x => ?_) fun z t ⟨_, _, _, _, _, bad, _⟩ => by cases bad
  cases z with
  | done f =>
    obtain ⟨g, tk, d, got, c, e, rfl, kept, at_, its⟩ := x
    cases e
    show wpAny _ A (load s.heap.objs.size >>= _) _ _ _
    exact wpAny_bind (wpAny_load at_ (wpAny_pure (fin g tk d got kept its (Nat.le_of_lt (Heap.lt_size at_)))))
  | again more =>
    refine ⟨x.1, codeAny_mono x.2 fun z' t' ⟨g, tk, d, got, c, e1, e2, kept, at_, its⟩ => ?_⟩
    subst e1 e2
    show wpAny _ A (load s.heap.objs.size >>= _) _ _ _
    exact wpAny_bind (wpAny_load at_ (wpAny_pure (fin g tk d got kept its (Nat.le_of_lt (Heap.lt_size at_)))))
end
end LS

set_option Elab.async false
set_option linter.all false
set_option maxRecDepth 100000
namespace L2
open PySem PySem.Spec PyProof.Rows LS
def strsK (m : List Key) : List Str := m.filterMap fun k => match k with | .inr x => some x | .inl _ => none
def intsK (m : List Key) : List Int := m.filterMap fun k => match k with | .inl x => some x | .inr _ => none
theorem strsK_map (ss : List Str) : strsK (ss.map Sum.inr) = ss := by
  induction ss with
  | nil => rfl
  | cons x ss ih => show x :: strsK (ss.map Sum.inr) = x :: ss; rw [ih]
theorem strsK_of {m : List Key} {ss : List Str} (p : m.Perm (ss.map Sum.inr)) : m = (strsK m).map Sum.inr ∧ (strsK m).Perm ss := by
  refine ⟨?_, by have := p.filterMap (fun k : Key => match k with | .inr x => some x | .inl _ => none); rw [show List.filterMap _ (ss.map Sum.inr) = ss from strsK_map ss] at this; exact this⟩
  have hall : ∀ k ∈ m, ∃ x, k = Sum.inr x := fun k hk => by
    obtain ⟨x, _, rfl⟩ := List.mem_map.mp (p.mem_iff.mp hk)
    exact ⟨x, rfl⟩
  clear p
  induction m with
  | nil => rfl
  | cons k m ih =>
    obtain ⟨x, rfl⟩ := hall k (List.mem_cons_self ..)
    have := ih fun k hk => hall k (List.mem_cons_of_mem _ hk)
    show Sum.inr x :: m = Sum.inr x :: (strsK m).map Sum.inr
    rw [← this]
section
variable {prog : Program} {w : World} {A : Around} {E : Value → Shared → Prop} {s : Shared} {a : Addr} {ks : List Key} {o : Obj} {es : Array (Int × Value)} {ep : Nat} {t : SetTable}
theorem got_keys {got : List Value} (S : LS.SAt (mixKind prog w) s.heap a ks o es ep t) (h : ∃ l : List (Int × Value), l.Perm es.toList ∧ got = l.map (·.2)) : ∃ m : List Key, m.Perm ks ∧ Paired (fun v k => (mixKind prog w).is k v = true) got m := by
  obtain ⟨l, hp, rfl⟩ := h
  obtain ⟨ls, q1, q2⟩ := S.ents
  obtain ⟨m, m1, m2⟩ := paired_perm hp q2
  refine ⟨m, m1.trans q1, ?_⟩
  clear hp q2 m1
  induction m2 with
  | nil => exact .nil
  | cons r _ ih => exact .cons r.1 ih
theorem strs_of_keys : ∀ {got : List Value} {ss : List Str}, Paired (fun v k => (mixKind prog w).is k v = true) got (ss.map Sum.inr) → StrsAre got ss
  | _, [], .nil => .nil
  | _, x :: ss, .cons r t => by
    obtain ⟨t', rfl⟩ := mix_str_inv r
    exact .cons x t' (strs_of_keys t)
theorem sorted_setS {ss : List Str} {Q : Value → Shared → Prop} (hh : A.handled = none) (S : LS.SAt (mixKind prog w) s.heap a (ss.map Sum.inr) o es ep t) (h64 : ss.length < 64)
    (q : ∀ (h' : Heap) (tk : Nat) (d : _) (D : Addr) (out : Array Value) (ss' : List Str) (e : Nat), (∀ b o, s.heap.get? b = some o → h'.get? b = some o) → s.heap.objs.size ≤ D → h'.get? D = some { cls := .type "list", data := .seq out e } →
      StrsAre out.toList ss' → ss'.Perm ss → sortedS ss' = true → Q (.ref D) { s with heap := h', toks := tk, drawn := d }) :
    wpAny (model prog w) A (call (.builtin "sorted") [.ref a]) Q E s := by
  refine Calls.call_function_entry kind_sorted plain_sorted entry_sorted (args_sorted1 _) ?_
  unfold Builtin.«sorted»
  refine wpAny_bind (m := checkCount "sorted" 1 1 _) (wpAny_pure ?_)
  refine wpAny_bind (gather_set (A := A.in1) hh S fun h' tk d acc hkeep hacc hsz => ?_)
  obtain ⟨m, m1, m2⟩ := got_keys S hacc
  obtain ⟨e1, p1⟩ := strsK_of m1
  rw [e1] at m2
  have hS := strs_of_keys m2
  have hl : acc.toList.length < 64 := by rw [m2.length, List.length_map, p1.length_eq]; exact h64
  refine wpAny_bind (wpAny_newList ?_ (Nat.le_trans (Nat.le_of_lt hl) (by decide)))
  have hoL : (h'.push (seqObj "list" acc.toList.toArray 0)).get? h'.objs.size = some (seqObj "list" acc.toList.toArray 0) := Heap.get?_push_size _ rfl
  refine wpAny_bind (wpAny_holding (wpAny_call_entry slot_list_sort ⟨_, hoL, rfl⟩ entry_list_sort (list_sort_treeK strKind_oneLt hoL hS.keysOf (fun v₁ v₂ rest e => keyKind_strs (by rw [← e]; exact hS)) hl fun st' a1 a2 => ⟨_, rfl, ?_⟩) (args_list_sort _)))
  obtain ⟨ss', b1, b2, b3⟩ := sorted_out_str hS a1 a2
  obtain ⟨e, he⟩ := sortedHeap_at (out := (arrOf st').map (·.2)) hoL
  refine wpAny_pure ⟨_, rfl, q _ tk d _ _ ss' e (fun b o ho => ?_) hsz he b1 (b2.trans p1) b3⟩
  have h1 := hkeep b o ho
  have hlt := Heap.lt_size h1
  rw [sortedHeap_old (Nat.ne_of_lt hlt) (by rw [size_push']; exact Nat.lt_succ_of_lt hlt)]
  exact Heap.get?_push_of_some _ h1
end
/-! ### the set as it is tracked -/
def setO (P : Program) (w : World) (a : Addr) (ks : List Key) : HO := .ext fun h => SetK (mixKind P w) h a ks
theorem setO_ok {P : Program} {w : World} {H : Hp} {h : Heap} {a : Addr} {ks : List Key} (S : SetK (mixKind P w) h a ks) : ObjOk P w H h a (setO P w a ks) :=
  ⟨S, let ⟨o, _, _, _, S⟩ := S; ⟨o, S.at_⟩, fun h1 h2 S k => S.keep k⟩
section
variable {X : Cx} {pins : List (Addr × Obj)} {σ : List (Option V)} {H : Hp} {s : Shared}
theorem Inv.setK {a : Addr} {ks : List Key} (I : Inv X pins σ H s) (h : H a = some (setO X.prog X.w a ks)) : SetK (mixKind X.prog X.w) s.heap a ks := (I.hok a _ h).1
theorem Inv.redrawn {d : _} (I : Inv X pins σ H s) : Inv X pins σ H { s with drawn := d } := ⟨I.ok, I.os, I.bare, I.base, I.loc, I.cell, I.free, I.freeC, I.pin, I.hok, I.len⟩
/-- sorted(s), texts -/
theorem call_sortedST (hc : X.calm = true) : CallR X (.builtin "sorted") (fun vs H Q => ∃ (a : Addr) (ss : List Str), vs = [.ref a] ∧ H a = some (setO X.prog X.w a (ss.map Sum.inr)) ∧ ss.length < 64 ∧
    ∀ (l : Addr) (ss' : List Str), ss'.Perm ss → sortedS ss' = true → H l = none → Q (.ref l) (upd H l (.lst (ss'.map V.str)))) := by
  intro pins s σ H xs us Q I r h
  obtain ⟨a, ss, rfl, ha, h64, q⟩ := h
  obtain ⟨u, rfl, ru⟩ := vals1 r
  cases (show u = Value.ref a from ru)
  obtain ⟨o, es, ep, t, S⟩ := I.setK ha
  refine sorted_setS (I.ok.hd hc) S h64 fun h' tk d D out ss' e hkeep hD he hS hp hs => ?_
  have hv : Vals (ss'.map V.str) out.toList := valsStr hS
  refine ⟨.ref D, _, (I.redrawn (d := d)).laid (t' := tk) (o := .lst (ss'.map V.str)) hkeep hD (show ObjOk X.prog X.w _ h' _ (.lst (ss'.map V.str)) from ⟨?_, out.toList, e, hv, by simpa using he⟩), rfl, q D ss' hp hs (I.hok.fresh hD)⟩
  rw [List.length_map, hp.length_eq]
  exact Nat.le_trans (Nat.le_of_lt h64) (by decide)
end
end L2

set_option Elab.async false
set_option linter.all false
set_option maxRecDepth 100000
namespace LS
open PySem PySem.Spec PyProof.Rows L2
/-! each once, as they come -/
section
variable {K : Type} [DecidableEq K]
def putIn (acc : List K) (k : K) : List K := if k ∈ acc then acc else acc ++ [k]
def onceK (ms : List K) : List K := ms.foldl putIn []
theorem putIn_mem {acc : List K} {k x : K} : x ∈ putIn acc k ↔ x ∈ acc ∨ x = k := by
  unfold putIn
  split
  · rename_i h
    exact ⟨.inl, fun z => z.elim id (fun e => e ▸ h)⟩
  · simp
theorem putIn_len (acc : List K) (k : K) : (putIn acc k).length ≤ acc.length + 1 := by unfold putIn; split <;> simp
theorem fold_mem : ∀ (ms acc : List K) (x : K), x ∈ ms.foldl putIn acc ↔ x ∈ acc ∨ x ∈ ms
  | [], acc, x => by simp
  | k :: ms, acc, x => by
    rw [List.foldl_cons, fold_mem ms, putIn_mem]
    simp [or_assoc]
theorem onceK_mem {ms : List K} {x : K} : x ∈ onceK ms ↔ x ∈ ms := by unfold onceK; rw [fold_mem]; simp
theorem fold_len : ∀ (ms acc : List K), (ms.foldl putIn acc).length ≤ acc.length + ms.length
  | [], acc => by simp
  | k :: ms, acc => by
    rw [List.foldl_cons]
    have := fold_len ms (putIn acc k)
    have := putIn_len acc k
    simp only [List.length_cons]; omega
theorem fold_nd : ∀ (ms acc : List K), acc.Nodup → (ms.foldl putIn acc).Nodup
  | [], acc, h => h
  | k :: ms, acc, h => by
    rw [List.foldl_cons]
    refine fold_nd ms _ ?_
    unfold putIn
    split
    · exact h
    · rename_i hn
      rw [List.nodup_append]
      exact ⟨h, by simp, fun a ha b hb e => hn (by rw [List.mem_singleton] at hb; rw [← hb, ← e]; exact ha)⟩
theorem onceK_nd (ms : List K) : (onceK ms).Nodup := fold_nd ms [] List.nodup_nil
end
section
variable {prog : Program} {w : World} {A : Around} {E : Value → Shared → Prop} {s : Shared}
theorem key_scan {k : Key} {v : Value} (h : (mixKind prog w).is k v = true) : v.scannable = true := by
  rcases keyIs_shape (show keyIs k v = true from h) with ⟨j, t, _, rfl⟩ | ⟨x, t, _, rfl⟩ <;> rfl
theorem add_key {a : Addr} {ks : List Key} {k : Key} {v : Value} {Q : Bool → Shared → Prop} (hk : (mixKind prog w).is k v = true) (S : SetK (mixKind prog w) s.heap a ks) (room : ks.length + 1 < scanBound)
    (q : ∀ h', Heap.SameBut a s.heap h' → SetK (mixKind prog w) h' a (putIn ks k) → ∀ c : Bool, Q c { s with heap := h', toks := s.toks + 1 }) : wpAny (model prog w) A (setAdd a v) Q E s := by
  unfold setAdd
  refine wpAny_holding ?_
  refine wpAny_bind ((mixKind prog w).pyHash hk ?_)
  exact add_hashed (s := { s with toks := s.toks + 1 }) hk (key_scan hk) S room fun h' b S' => q h' b S' _
theorem fill_loop {I L : Addr} {fp wr : List Addr} {G : Array GenState → Array GenState → Prop} {n : Nat} {P : Nat → Value → Prop} {St : Nat → Shared → Prop} {R : Result → Shared → Prop} (W : WalksS prog w A.in1 I fp wr G n P St) (hLf : L ∉ fp)
    (ms : List Key) (hl : ms.length = n) (hm : ∀ i v, P i v → ∃ k, ms[i]? = some k ∧ (mixKind prog w).is k v = true) (hb : n + 1 < scanBound) :
    ∀ (k i : Nat) (s : Shared), n - i = k → i ≤ n → St i s → SetK (mixKind prog w) s.heap L (onceK (ms.take i)) →
      (∀ s', Moved (L :: wr) G s s' → SetK (mixKind prog w) s'.heap L (onceK ms) → R (.ok (.ret .none)) s') →
      codeAny (model prog w) A (.builtin "set.update.loop" ⟨[.ref L, .ref I], []⟩) R s := by
  have hLw : L ∉ wr := fun h => hLf (W.sub _ h)
  intro k
  induction k with
  | zero =>
    intro i s hk hi st S q
    have e : i = n := by omega
    subst e
    refine codeAny_builtin PyProof.Rows.F.entry_set_update_loop ?_
    rw [Around.under_plainId PyProof.Rows.F.plain_set_update_loop _]
    show wpAny _ A.in1 (pyNext (.ref I) >>= _) _ _ s
    refine wpAny_bind (W.done s _ _ st fun s' mv => ?_)
    refine wpAny_pure (q s' (mv.mono fun b hb => List.mem_cons_of_mem _ hb) ?_)
    rw [List.take_of_length_le (by omega)] at S
    exact S.keep fun o e => mv.heap L _ hLw e
  | succ k ih =>
    intro i s hk hi st S q
    have hlt : i < n := by omega
    refine codeAny_builtin PyProof.Rows.F.entry_set_update_loop ?_
    rw [Around.under_plainId PyProof.Rows.F.plain_set_update_loop _]
    show wpAny _ A.in1 (pyNext (.ref I) >>= _) _ _ s
    refine wpAny_bind (W.item i s _ _ hlt st fun v s' hP st' mv => ?_)
    obtain ⟨key, hkey, his⟩ := hm i v hP
    have S' : SetK (mixKind prog w) s'.heap L (onceK (ms.take i)) := S.keep fun o e => mv.heap L _ hLw e
    refine wpAny_bind (wpAny_holding (add_key his S' ?_ fun h' sb S2 _ => ?_))
    · have h1 := fold_len (ms.take i) []
      have h2 : (ms.take i).length ≤ i := by rw [List.length_take]; omega
      have h3 : (onceK (ms.take i)).length ≤ 0 + (ms.take i).length := h1
      omega
    · have e1 : putIn (onceK (ms.take i)) key = onceK (ms.take (i + 1)) := by
        unfold onceK
        rw [List.take_add_one, hkey, List.foldl_append]; rfl
      rw [e1] at S2
      refine wpAny_pure ⟨plainId_quiet PyProof.Rows.F.plain_set_update_loop _, ih (i + 1) _ (by omega) hlt (W.frame _ s' _ _ st' (Nat.le_succ _) fun b hb o e => ?_) S2 fun s'' mv2 S3 => ?_⟩
      · rw [sb.2 b (fun h : b = L => hLf (by rw [← h]; exact hb))]; exact e
      · refine q s'' (Moved.trans W.gtrans ((mv.mono fun b hb => List.mem_cons_of_mem _ hb).then_heap (Nat.le_succ _) fun b o hb e => ?_) mv2) S3
        rw [sb.2 b (fun h : b = L => hb (by rw [h]; exact List.mem_cons_self))]; exact e
end
end LS

set_option Elab.async false
set_option linter.all false
set_option maxRecDepth 100000
namespace LS
open PySem PySem.Spec PyProof.Rows L2
theorem paired_get {α β : Type} {F : α → β → Prop} : ∀ {l : List α} {m : List β}, Paired F l m → ∀ {i : Nat} {x : α}, l[i]? = some x → ∃ y, m[i]? = some y ∧ F x y
  | _, _, .nil, i, x, e => by simp at e
  | _, _, .cons r _, 0, x, e => by simp at e; subst e; exact ⟨_, rfl, r⟩
  | _, _, .cons _ t, i + 1, x, e => by simpa using paired_get t (i := i) (x := x) (by simpa using e)
/-- an empty set, as this world makes it -/
def freshO (w : World) : Obj := { cls := .type "set", dict := none, data := .set #[] 0 (.fresh 0 0 (!(w.params.followText "set-order"))) }
section
variable {prog : Program} {w : World} {A : Around} {E : Value → Shared → Prop} {s : Shared}
theorem new_exact (rest : List Value) (hc : checkBuiltinCall "set.__new__" ⟨.type "set" :: rest, []⟩ = pure ()) {Q : Value → Shared → Prop} (q : Q (.ref s.heap.objs.size) { s with heap := s.heap.push (freshO w) }) :
    codeAny (model prog w) A (.call (.builtin "set.__new__") ⟨.type "set" :: rest, []⟩) (wants Q E) s := by
  refine codeAny_of_tree ?_
  show wpAny _ A.in1 (checkBuiltinCall "set.__new__" ⟨.type "set" :: rest, []⟩ >>= fun _ => again (.builtin "set.__new__" ⟨.type "set" :: rest, []⟩)) _ _ s
  refine wpAny_bind (wpAny_of_eq hc (wpAny_pure ⟨plainId_quiet PySem.F.plain_set_new _, codeAny_builtin PySem.F.entry_set_new ?_⟩))
  rw [Around.under_plainId PySem.F.plain_set_new _]
  unfold Builtin.«set.__new__» Builtin.Frozenset.newClass
  have hsub := sub_set_self
  obtain ⟨hp, g, d, tk, os⟩ := s
  dsimp only
  wp_walk
  refine wpAny_askSetting (wpAny_pure ?_)
  dsimp only
  simp only [newObj]
  refine wpAny_bind (wpAny_alloc (wpAny_pure ?_))
  exact wpAny_pure q
/-- set(..): the new object, then what __init__ makes of it -/
theorem call_any {rest : List Value} {Q : Value → Shared → Prop} (hct : checkTypeCall "set" ⟨rest, []⟩ = pure ()) (hcn : checkBuiltinCall "set.__new__" ⟨.type "set" :: rest, []⟩ = pure ())
    (hci : ∀ (M : Model) (A : Around) (E : Value → Shared → Prop) (s' : Shared) (Q' : Unit → Shared → Prop), s'.TypeIs (.ref s.heap.objs.size) "set" → Q' () s' → wpAny M A (checkBuiltinCall "set.__init__" ⟨.ref s.heap.objs.size :: rest, []⟩) Q' E s')
    (init : ∀ (R : Result → Shared → Prop), (∀ h' tk, (∀ b o, s.heap.get? b = some o → h'.get? b = some o) → Q (.ref s.heap.objs.size) { s with heap := h', toks := tk } → R (.ok (.ret .none)) { s with heap := h', toks := tk }) →
      wpAny (model prog w) A.in1.in1 (Builtin.«set.__init__» ⟨.ref s.heap.objs.size :: rest, []⟩) (fun fin s' => match fin with | .done f => R (.ok f) s' | .again c' => c'.quiet = true ∧ codeAny (model prog w) A.in1 c' R s') (fun e s' => R (.error e) s')
        { s with heap := s.heap.push (freshO w) }) :
    wpAny (model prog w) A (call (.type "set") rest) Q E s := by
  obtain ⟨c, tl, hmro⟩ := PySem.F.called_set.mro
  have hmade := PySem.F.called_set.made
  have hsub := PySem.F.called_set.sub
  refine wpAny_call (codeAny_of_tree ?_)
  show wpAny _ _ (callAny (.type "set") _) _ _ _
  refine wpAny_pure ⟨Code.quiet_builtin _ (by decide +kernel), codeAny_builtin PySem.F.entry_type_call ?_⟩
  rw [Around.under_plain (weight_type_call_type "set" rest []) rfl]
  have h1 := PySem.F.called_set.notType
  have h2 := PySem.F.called_set.canCreate
  repeat (any_goals (first | assumption | wp_step))
  refine codeAny_mono (new_exact (w := w) rest hcn (E := E) (Q := fun obj s₁ => obj = .ref s.heap.objs.size ∧ s₁ = { s with heap := s.heap.push (freshO w) }) ⟨rfl, rfl⟩) fun r s₁ hr => ?_
  cases r with
  | error e => exact hr
  | ok fl =>
    cases fl with
    | ret obj =>
      obtain ⟨rfl, rfl⟩ := hr
      have hS : (s.heap.push (freshO w)).get? s.heap.objs.size = some (freshO w) := Heap.get?_push_size _ rfl
      have hT : Shared.TypeIs { s with heap := s.heap.push (freshO w) } (.ref s.heap.objs.size) "set" := ⟨_, hS, rfl⟩
      have hli := PySem.F.called_set.init.lookup
      have hbi := PySem.F.called_set.init.bind (.ref s.heap.objs.size)
      repeat (any_goals (first | assumption | wp_step))
      refine codeAny_mono (codeAny_call_builtin (R := wants (fun r s₂ => r = .none ∧ Q (.ref s.heap.objs.size) s₂) E) PySem.F.called_set.init.plain PySem.F.entry_set_init (hci _ _ _ _ _ hT (init _ fun h' tk _ q => ⟨rfl, q⟩))) fun r₂ s₂ hr₂ => ?_
      cases r₂ with
      | error e => exact hr₂
      | ok fl₂ =>
        cases fl₂ with
        | ret r =>
          obtain ⟨rfl, hq⟩ := hr₂
          repeat (any_goals (first | assumption | wp_step))
        | _ => exact hr₂.elim
    | _ => exact hr.elim
theorem set_list {l : Addr} {items : Array Value} {ms : List Key} {Q : Value → Shared → Prop} (hh : A.handled = none) (hl : s.heap.IsList l items) (hm : Paired (fun v k => (mixKind prog w).is k v = true) items.toList ms) (hb : items.size + 1 < scanBound)
    (q : ∀ h' tk, SetK (mixKind prog w) h' s.heap.objs.size (onceK ms) → (∀ b o, s.heap.get? b = some o → h'.get? b = some o) → Q (.ref s.heap.objs.size) { s with heap := h', toks := tk }) : wpAny (model prog w) A (call (.type "set") [.ref l]) Q E s := by
  refine call_any (PySem.F.typeCall_set_1 _) (PySem.F.newCall_set_1 _) (fun M A E s' Q' hT q' => check_set_init_1 hT q') fun R fin => ?_
  have hS : (s.heap.push (freshO w)).get? s.heap.objs.size = some (freshO w) := Heap.get?_push_size _ rfl
  have hT : Shared.TypeIs { s with heap := s.heap.push (freshO w) } (.ref s.heap.objs.size) "set" := ⟨_, hS, rfl⟩
  have hz : (s.heap.push (freshO w)).objs.size = s.heap.objs.size + 1 := Heap.size_push _ _
  obtain ⟨ol, hol, hcl, nl, hdl⟩ := id hl
  obtain ⟨ocls, odict, odata, oslots⟩ := ol
  simp only at hcl hdl
  subst hcl
  subst hdl
  have hol' : (s.heap.push (freshO w)).get? l = some { cls := .type "list", dict := odict, data := .seq items nl, slots := oslots } := Heap.get?_push_of_some _ hol
  have hsls := PySem.F.sub_list_set
  have hslf := PySem.F.sub_list_frozenset
  have hne : (Value.type "list" == Value.type "dict") = false := by decide
  have hl1 : (s.heap.push (freshO w)).IsList l items := ⟨_, hol', rfl, nl, rfl⟩
  have hlS : l < s.heap.objs.size := Heap.lt_size hol
  unfold freshO at hS hT hz hol' hl1 ⊢
  unfold Builtin.«set.__init__» noKeywords Builtin.Frozenset.updateFrom
  generalize hPI : pyIter = PI
  wp_walk
  subst hPI
  refine wpAny_pyIter_list hl1 ?_
  refine wpAny_bind (wpAny_runValue ?_)
  have hh3 : A.in1.in1.in1.handled = none := by simp [hh]
  refine fill_loop (L := s.heap.objs.size) ((Walks.list hh3 _ l ?_ items).toS) ?_ ms ?_ (fun i v hv => ?_) hb (items.size - 0) 0 _ (by omega) (Nat.zero_le _) ⟨⟨_, Heap.get?_push_size _ rfl, rfl, rfl⟩, (hl1.push _)⟩ ?_ fun s' mv S' => ?_
  · rw [hz]; exact Nat.ne_of_lt (Nat.lt_succ_of_lt hlS)
  · rw [hz]
    intro hmem
    rcases mem2 hmem with e | e
    · exact absurd e (Nat.ne_of_lt (Nat.lt_succ_self _))
    · exact absurd e (Nat.ne_of_gt hlS)
  · rw [← hm.length, Array.length_toList]
  · have hv' : items.toList[i]? = some v := by rw [Array.getElem?_toList]; exact hv
    exact paired_get hm hv'
  · exact fresh_set rfl (Heap.get?_push_of_some _ hS)
  · obtain ⟨h', g', d', tk', os'⟩ := s'
    have eg : g' = s.gens := mv.gens
    have ed : d' = s.drawn := mv.drawn
    have eo : os' = s.os := mv.os
    subst eg; subst ed; subst eo
    have kp : ∀ b o, s.heap.get? b = some o → h'.get? b = some o := fun b o e => mv.heap b o (fun hm => by
      rcases mem2 hm with e' | e'
      · exact absurd e' (Nat.ne_of_lt (Heap.lt_size e))
      · rw [hz] at e'; exact absurd e' (Nat.ne_of_lt (Nat.lt_succ_of_lt (Heap.lt_size e)))) (Heap.get?_push_of_some _ (Heap.get?_push_of_some _ e))
    show wpAny _ _ _ _ _ _
    refine wpAny_pure ?_
    exact wpAny_pure (fin h' tk' kp (q h' tk' S' kp))
end
end LS

set_option Elab.async false
set_option linter.all false
set_option maxRecDepth 100000
namespace L2
open PySem PySem.Spec PyProof.Rows LS
theorem bt_set : bootBuiltins "set" = some (.type "set") := by decide +kernel
theorem rel_key {P : Program} {w : World} {k : Key} {v : Value} (r : RelV (kV k) v) : (mixKind P w).is k v = true := by
  cases k with
  | inl i => obtain ⟨t, rfl⟩ := r; exact mixKind_int P w i t
  | inr x => obtain ⟨t, rfl⟩ := r; exact mixKind_str P w x t
theorem keys_paired {P : Program} {w : World} : ∀ {ks : List Key} {us : List Value}, Vals (ks.map kV) us → Paired (fun v k => (mixKind P w).is k v = true) us ks
  | [], _, .nil => .nil
  | k :: ks, _, .cons r t => .cons (rel_key r) (keys_paired t)
section
variable {X : Cx}
/-- set(xs), a list of numbers and texts -/
theorem call_setL (hc : X.calm = true) : CallR X (.type "set") (fun vs H Q => ∃ (p : Addr) (ks : List Key), vs = [.ref p] ∧ SqL X.K H p (ks.map kV) ∧ ks.length + 1 < scanBound ∧ ∀ l, H l = none → Q (.ref l) (upd H l (setO X.prog X.w l (onceK ks)))) := by
  intro pins s σ H xs us Q I r h
  obtain ⟨p, ks, rfl, hp, hz, q⟩ := h
  obtain ⟨u, rfl, ru⟩ := vals1 r
  cases (show u = Value.ref p from ru)
  obtain ⟨its, hv, pl, _⟩ := I.list hp
  have hm := keys_paired (P := X.prog) (w := X.w) hv
  refine LS.set_list (I.ok.hd hc) pl.isList (by simpa using hm) (by have := hm.length; simp at this ⊢; omega) fun h' tk S kp => ?_
  exact ⟨.ref s.heap.objs.size, _, I.laid (t' := tk) kp (Nat.le_refl _) (setO_ok S), rfl, q _ I.fresh⟩
def rInS (P : Program) (w : World) (neg : Bool) : R2 := fun x y H Q => ∃ a ks k, y = .ref a ∧ H a = some (setO P w a ks) ∧ x = kV k ∧ ∀ b : Bool, (b = true ↔ k ∈ ks) → Q (.bl (if neg then !b else b)) H
def tBMS (P : Program) (w : World) (r : V → List V → Hp → VK → Prop) (to : TE) (t : TA) : TE := fun σ H Q => to σ H fun x H1 => (∃ a ks, x = .ref a ∧ H1 a = some (setO P w a ks)) ∧ t σ H1 fun xs H2 => r x xs H2 Q
variable {o e : Expr} {es : List Expr} {to : TE} {t : TA} {name : Str} {apos cpos : Pos} {id : String} {r : V → List V → Hp → VK → Prop}
def rAddS (P : Program) (w : World) : V → List V → Hp → VK → Prop := fun x vs H Q => ∃ a ks k, x = .ref a ∧ vs = [kV k] ∧ H a = some (setO P w a ks) ∧ ks.length + 1 < scanBound ∧ Q .non (upd H a (setO P w a (putIn ks k)))
end
end L2

set_option Elab.async false
set_option linter.all false
set_option maxRecDepth 100000
namespace L2
open PySem PySem.Spec PyProof.Rows LS
/-! ### the names in a plan -/
structure DeedG (K : PySem.W.Frag) (mg : Str → Option Value) (aD d0 d1 d2 d3 d4 : Addr) : Prop where
  tab : TabG K mg "DEED_PARTS" aD [("put", d0), ("copy", d1), ("add", d2), ("read", d3), ("tell", d4)]
  q0 : KTup K d0 ["name", "number"]
  q1 : KTup K d1 ["name", "name"]
  q2 : KTup K d2 ["name", "number"]
  q3 : KTup K d3 ["name"]
  q4 : KTup K d4 ["name"]
def dNames : Deed → List Str
  | .put x _ => [x]
  | .copy x y => [x, y]
  | .add x _ => [x]
  | .read x => [x]
  | .tell x => [x]
def eNames : End → List Str
  | .tst _ x _ _ _ => [x]
  | _ => []
def pNames (p : Piece) : List Str := p.1.flatMap dNames ++ eNames p.2
def allNames (ps : List Piece) : List Str := ps.flatMap pNames
def kD : Deed → List Str
  | .put .. => ["name", "number"]
  | .copy .. => ["name", "name"]
  | .add .. => ["name", "number"]
  | .read .. => ["name"]
  | .tell .. => ["name"]
def wD : Deed → Str
  | .put .. => "put"
  | .copy .. => "copy"
  | .add .. => "add"
  | .read .. => "read"
  | .tell .. => "tell"
theorem vDeed_cons (d : Deed) : ∃ xs, vDeed d = .str (wD d) :: xs ∧ xs.length ≤ 1000 ∧ pick "name" xs (kD d) = (dNames d).map V.str := by
  have h2 : ¬ ("number" : Str) = "name" := by decide +kernel
  cases d with
  | put x n => exact ⟨_, rfl, by show 2 ≤ 1000; decide, by simp [pick, kD, dNames, h2]⟩
  | copy x y => exact ⟨_, rfl, by show 2 ≤ 1000; decide, by simp [pick, kD, dNames]⟩
  | add x n => exact ⟨_, rfl, by show 2 ≤ 1000; decide, by simp [pick, kD, dNames, h2]⟩
  | read x => exact ⟨_, rfl, by show 1 ≤ 1000; decide, by simp [pick, kD, dNames]⟩
  | tell x => exact ⟨_, rfl, by show 1 ≤ 1000; decide, by simp [pick, kD, dNames]⟩
theorem vEnd_consN (e : End) : ∃ xs, vEnd e = .str (wE e) :: xs ∧ xs.length ≤ 1000 ∧ pick "name" xs (kE e) = (eNames e).map V.str := by
  have h1 : ¬ ("piece" : Str) = "name" := by decide +kernel
  have h2 : ¬ ("number" : Str) = "name" := by decide +kernel
  cases e with
  | stop => exact ⟨[], rfl, by decide, rfl⟩
  | go p => exact ⟨_, rfl, by show 1 ≤ 1000; decide, by simp [pick, kE, eNames, h1]⟩
  | tst b x n p q => exact ⟨_, rfl, by show 4 ≤ 1000; decide, by simp [pick, kE, eNames, h1, h2]⟩
theorem tab_hit {k : Str} {d : Addr} {D : List (Str × Addr)} : KTD.datumAt k ((k, d) :: D) = some d := by
  show (if decide (k = k) = true then some d else KTD.datumAt k D) = some d
  rw [if_pos (decide_eq_true rfl)]
theorem tab_miss {k x : Str} {d : Addr} {D : List (Str × Addr)} {o : Option Addr} (h : ¬ k = x) (e : KTD.datumAt k D = o) : KTD.datumAt k ((x, d) :: D) = o := by
  show (if decide (k = x) = true then some d else KTD.datumAt k D) = o
  rw [if_neg (by rw [decide_eq_false h]; decide)]
  exact e
theorem DeedG.at_ {K : PySem.W.Frag} {mg : Str → Option Value} {aD d0 d1 d2 d3 d4 : Addr} (G : DeedG K mg aD d0 d1 d2 d3 d4) (d : Deed) :
    ∃ s, KTD.datumAt (wD d) [(("put" : Str), d0), ("copy", d1), ("add", d2), ("read", d3), ("tell", d4)] = some s ∧ KTup K s (kD d) := by
  cases d with
  | put x n => exact ⟨d0, tab_hit, G.q0⟩
  | copy x y => exact ⟨d1, tab_miss (show ¬ (("copy" : Str) = "put") by decide +kernel) tab_hit, G.q1⟩
  | add x n => exact ⟨d2, tab_miss (show ¬ (("add" : Str) = "put") by decide +kernel) (tab_miss (show ¬ (("add" : Str) = "copy") by decide +kernel) tab_hit), G.q2⟩
  | read x => exact ⟨d3, tab_miss (show ¬ (("read" : Str) = "put") by decide +kernel) (tab_miss (show ¬ (("read" : Str) = "copy") by decide +kernel) (tab_miss (show ¬ (("read" : Str) = "add") by decide +kernel) tab_hit)), G.q3⟩
  | tell x => exact ⟨d4, tab_miss (show ¬ (("tell" : Str) = "put") by decide +kernel) (tab_miss (show ¬ (("tell" : Str) = "copy") by decide +kernel) (tab_miss (show ¬ (("tell" : Str) = "add") by decide +kernel) (tab_miss (show ¬ (("tell" : Str) = "read") by decide +kernel) tab_hit))), G.q4⟩
theorem once_map (acc ys : List Str) : (ys.map (Sum.inr : Str → Key)).foldl LS.putIn (acc.map Sum.inr) = (ys.foldl LS.putIn acc).map Sum.inr := by
  induction ys generalizing acc with
  | nil => rfl
  | cons y ys ih =>
    rw [List.map_cons, List.foldl_cons, List.foldl_cons, ← ih]
    congr 1
    unfold LS.putIn
    by_cases h : y ∈ acc
    · rw [if_pos h, if_pos (List.mem_map.mpr ⟨y, h, rfl⟩)]
    · rw [if_neg h, if_neg (fun z => by obtain ⟨x, hx, e⟩ := List.mem_map.mp z; cases e; exact h hx), List.map_append]; rfl
theorem onceK_strs (ys : List Str) : onceK (ys.map (Sum.inr : Str → Key)) = (onceK ys).map Sum.inr := once_map [] ys
theorem strs_kV (ys : List Str) : (ys.map (Sum.inr : Str → Key)).map kV = ys.map V.str := by rw [List.map_map]; rfl
theorem pNames_in {xs : List Str} {m : Nat} {ps : List Piece} (ok : PlanOk xs m ps) : ∀ x ∈ allNames ps, x ∈ xs := fun x hx => by
  obtain ⟨p, hp, hx⟩ := List.mem_flatMap.mp hx
  rcases List.mem_append.mp hx with h | h
  · obtain ⟨d, hd, h⟩ := List.mem_flatMap.mp h
    have dk := (ok.deeds p hp).2 d hd
    cases d with
    | put a n => rw [List.mem_singleton.mp h]; exact dk.1
    | copy a b =>
      rcases List.mem_cons.mp h with rfl | h
      · exact dk.1
      · rw [List.mem_singleton.mp h]; exact dk.2
    | add a n => rw [List.mem_singleton.mp h]; exact dk.1
    | read a => rw [List.mem_singleton.mp h]; exact dk
    | tell a => rw [List.mem_singleton.mp h]; exact dk
  · have ek := ok.ends p hp
    obtain ⟨ds, e⟩ := p
    cases e with
    | stop => cases h
    | go q => cases h
    | tst b a n q r => rw [List.mem_singleton.mp h]; exact ek.1
theorem flat_take {α β : Type} {l : List α} {f : α → List β} {i : Nat} {x : α} (h : l[i]? = some x) : (l.take (i + 1)).flatMap f = (l.take i).flatMap f ++ f x := by
  rw [List.take_add_one, h, List.flatMap_append]; simp
theorem flat_take_len {α β : Type} {l : List α} {f : α → List β} (i : Nat) : ((l.take i).flatMap f).length ≤ (l.flatMap f).length := by
  conv => rhs; rw [← List.take_append_drop i l, List.flatMap_append, List.length_append]
  exact Nat.le_add_right _ _
def spNamesOf : Sp := fun vs H Q _ => ∃ (plv : V) (ps : List Piece) (xs : List Str) (m : Nat), vs = [plv] ∧ RdD H plv (dPlan ps) ∧ PlanOk xs m ps ∧ xs.length < 64 ∧ (allNames ps).length ≤ 4000 ∧
  ∀ (t : Addr) (ss : List Str) (H' : Hp), H' t = some (.tup (ss.map V.str)) → ss.Perm (onceK (allNames ps)) → sortedS ss = true → ss.length < 64 → Same H H' → Q (.ref t) H'
theorem once_few {xs : List Str} {m : Nat} {ps : List Piece} (ok : PlanOk xs m ps) : (onceK (allNames ps)).length ≤ xs.length :=
  sub_len (onceK_nd _) fun x hx => pNames_in ok x (onceK_mem.mp hx)
end L2

set_option Elab.async false
set_option linter.all false
set_option maxRecDepth 100000
namespace L2
open PySem PySem.Spec PyProof.Rows LS
/-! ### parts of a stretch that may be the module's own -/
def spLiesK (K : PySem.W.Frag) : Sp := fun vs H Q _ => ∃ (n : Int) (q : Addr) (lo hi : Option Int), vs = [.int n, .ref q] ∧ SqT K H q [vO lo, vO hi] ∧ Q (.bl (liesB n lo hi)) H
def spPK (K : PySem.W.Frag) (F : Option Int → Option Int → Int → Rs) : Sp := fun vs H Q _ => ∃ (p : Addr) (n : Int) (lo hi : Option Int), vs = [.ref p, .int n] ∧ SqT K H p [vO lo, vO hi] ∧ ∀ v H', RV H' v (F lo hi n) → Same H H' → Q v H'
def spPartK (K : PySem.W.Frag) : Sp := fun vs H Q _ => ∃ (p : Addr) (w : Str) (n : Int) (side : Bool) (lo hi : Option Int), vs = [.ref p, .str w, .int n, .bl side] ∧ SqT K H p [vO lo, vO hi] ∧ ∀ v H', RV H' v (partF w lo hi n side) → Same H H' → Q v H'
/-! ### beyond an end -/
def prt (T : Str → Sx) (b : Bool) (x : Str) (n : Int) (side : Bool) : Rs := partF (wT b) (T x).1 (T x).2 n side
def beyF (T : Str → Sx) : End → List (Option (Str → Sx))
  | .stop => []
  | .go _ => [some T]
  | .tst b x n _ _ => [(prt T b x n true).map (setT T x), (prt T b x n false).map (setT T x)]
def BV (H : Hp) (u : V) : Option (Str → Sx) → Prop
  | none => u = .non
  | some T => FV H u T
theorem BV.same {H H' : Hp} {u : V} {o : Option (Str → Sx)} (h : BV H u o) (s : Same H H') : BV H' u o := by
  cases o with
  | none => exact h
  | some T => exact FV.same h s
theorem BV.tups {H H' : Hp} {u : V} {o : Option (Str → Sx)} (h : BV H u o) (k : ∀ p xs, H p = some (.tup xs) → H' p = some (.tup xs)) : BV H' u o := by
  cases o with
  | none => exact h
  | some T => exact FV.tups h k
def BVs (H : Hp) (us : List V) (os : List (Option (Str → Sx))) : Prop := Paired (BV H) us os
def leadF (T : Str → Sx) (e : End) : List (Nat × (Str → Sx)) := ((waysE e).zip (beyF T e)).filterMap fun p => p.2.map fun U => (p.1, U)
def FewE (T : Str → Sx) (m : Nat) : Prop := FewT T m
def spBeyond (aA : Addr) : Sp := fun vs H Q _ => ∃ (fv : V) (ea : Addr) (T : Str → Sx) (e : End), vs = [fv, .ref ea] ∧ FV H fv T ∧ H ea = some (.tup (vEnd e)) ∧ FewT T 62 ∧
  ∀ (t : Addr) (us : List V) (H' : Hp), H' t = some (.tup us) → BVs H' us (beyF T e) → Same H H' → Q (.ref t) H'
/-- a pair of a piece and facts -/
def PV (H : Hp) (v : V) (p : Nat × (Str → Sx)) : Prop := ∃ q u, v = .ref q ∧ H q = some (.tup [.int p.1, u]) ∧ FV H u p.2
theorem PV.tups {H H' : Hp} {v : V} {p : Nat × (Str → Sx)} (h : PV H v p) (k : ∀ p xs, H p = some (.tup xs) → H' p = some (.tup xs)) : PV H' v p := by
  obtain ⟨q, u, e, h1, h2⟩ := h
  exact ⟨q, u, e, k _ _ h1, h2.tups k⟩
def PVs (H : Hp) (vs : List V) (ps : List (Nat × (Str → Sx))) : Prop := Paired (PV H) vs ps
theorem PVs.tups {H H' : Hp} (k : ∀ p xs, H p = some (.tup xs) → H' p = some (.tup xs)) : ∀ {vs : List V} {ps : List (Nat × (Str → Sx))}, PVs H vs ps → PVs H' vs ps
  | _, _, .nil => .nil
  | _, _, .cons h t => .cons (h.tups k) (PVs.tups k t)
theorem BVs.tups {H H' : Hp} (k : ∀ p xs, H p = some (.tup xs) → H' p = some (.tup xs)) : ∀ {vs : List V} {ps : List (Option (Str → Sx))}, BVs H vs ps → BVs H' vs ps
  | _, _, .nil => .nil
  | _, _, .cons h t => .cons (h.tups k) (BVs.tups k t)
theorem PVs.same {H H' : Hp} {vs : List V} {ps : List (Nat × (Str → Sx))} (h : PVs H vs ps) (s : Same H H') : PVs H' vs ps := h.tups fun p xs e => s _ _ e
theorem BVs.same {H H' : Hp} {vs : List V} {ps : List (Option (Str → Sx))} (h : BVs H vs ps) (s : Same H H') : BVs H' vs ps := h.tups fun p xs e => s _ _ e
def spLeads (aA : Addr) : Sp := fun vs H Q _ => ∃ (fv : V) (ea : Addr) (T : Str → Sx) (e : End), vs = [fv, .ref ea] ∧ FV H fv T ∧ H ea = some (.tup (vEnd e)) ∧ FewT T 62 ∧
  ∀ (t : Addr) (vs : List V) (H' : Hp), H' t = some (.tup vs) → PVs H' vs (leadF T e) → Same H H' → Q (.ref t) H'
/-! ### the same facts are the same data -/
theorem FV.rd2 {H : Hp} {u v : V} {T : Str → Sx} (hu : FV H u T) (hv : FV H v T) : ∃ ss : List Str, RdD H u (dFacts T ss) ∧ RdD H v (dFacts T ss) ∧ ∀ x ∈ ss, T x ≠ allS := by
  obtain ⟨p, xs, ss, rfl, hp, srt, hm, r⟩ := hu
  obtain ⟨p', xs', ss', rfl, hp', srt', hm', r'⟩ := hv
  have e : ss' = ss := srt'.unique srt fun x => by rw [hm, hm']
  subst e
  exact ⟨ss', .tup hp r, .tup hp' r', fun x hx => (hm x).mp hx⟩
def LayT (T : Str → Sx) : Prop := ∀ x, T x ≠ allS → PyData.canLay0 (.str x) = true
theorem lay_fT {T : Str → Sx} (h : LayT T) : ∀ ss : List Str, (∀ x ∈ ss, T x ≠ allS) → (dFacts T ss).canLay0 = true
  | [], _ => rfl
  | x :: ss, hs => by
    have ih := lay_fT h ss fun y hy => hs y (List.mem_cons_of_mem _ hy)
    show ((PyData.canLay0 (.str x) && ((dS (T x)).canLay0 && true)) && (dFacts T ss).canLay0) = true
    rw [h x (hs x (List.mem_cons_self ..)), lay_s, ih]
    rfl
theorem dep_f3 (T : Str → Sx) (ss : List Str) : (dFacts T ss).depth ≤ 3 := by
  have go : ∀ ss : List Str, PyData.depthAll (ss.map (dF T)) ≤ 2 := by
    intro ss
    induction ss with
    | nil => exact Nat.zero_le _
    | cons x ss ih =>
      show max (max 0 (max ((dS (T x)).depth) 0) + 1) (PyData.depthAll (ss.map (dF T))) ≤ 2
      have hd : (dS (T x)).depth ≤ 1 := by
        obtain ⟨a, b⟩ := T x
        cases a <;> cases b <;> (show (1 : Nat) ≤ 1; decide)
      omega
  show PyData.depthAll (ss.map (dF T)) + 1 ≤ 3
  have := go ss
  omega
theorem PVs.rd2 {H : Hp} : ∀ {us vs : List V} {ps : List (Nat × (Str → Sx))}, PVs H us ps → PVs H vs ps → (∀ p ∈ ps, LayT p.2) → ∃ ds : List PyData, RdDs H us ds ∧ RdDs H vs ds ∧ (PyData.tuple ds).canLay0 = true ∧ PyData.depthAll ds ≤ 4
  | _, _, _, .nil, .nil, _ => ⟨[], .nil, .nil, rfl, Nat.zero_le _⟩
  | _, _, _, .cons (b := p) h t, .cons h' t', hl => by
    obtain ⟨ds, r1, r2, l, dd⟩ := PVs.rd2 t t' fun p hp => hl p (List.mem_cons_of_mem _ hp)
    obtain ⟨q, u, rfl, h1, h2⟩ := h
    obtain ⟨q', u', rfl, h1', h2'⟩ := h'
    obtain ⟨ss, a1, a2, a3⟩ := h2.rd2 h2'
    refine ⟨.tuple [.int p.1, dFacts p.2 ss] :: ds, .cons (.tup h1 (.cons (.int _) (.cons a1 .nil))) r1, .cons (.tup h1' (.cons (.int _) (.cons a2 .nil))) r2, ?_, ?_⟩
    · show ((true && ((dFacts p.2 ss).canLay0 && true)) && (PyData.tuple ds).canLay0) = true
      rw [lay_fT (hl p (List.mem_cons_self ..)) ss a3, l]
      rfl
    · show max (max 0 (max (dFacts p.2 ss).depth 0) + 1) (PyData.depthAll ds) ≤ 4
      have := dep_f3 p.2 ss
      omega
theorem setT_supp {T : Str → Sx} {x : Str} {s : Sx} (h : LayT T) (hx : PyData.canLay0 (.str x) = true) : LayT (setT T x s) := fun y hy => by
  unfold setT at hy
  by_cases e : y = x
  · rw [e]; exact hx
  · rw [if_neg e] at hy; exact h y hy
theorem lead_lay {T : Str → Sx} {e : End} (h : LayT T) (hx : ∀ b x n p q, e = .tst b x n p q → PyData.canLay0 (.str x) = true) : ∀ p ∈ leadF T e, LayT p.2 := fun p hp => by
  unfold leadF at hp
  obtain ⟨⟨k, o⟩, ho, hm⟩ := List.mem_filterMap.mp hp
  have hb := (List.of_mem_zip ho).2
  cases e with
  | stop => cases hb
  | go q =>
    rw [List.mem_singleton.mp hb] at hm
    cases hm
    exact h
  | tst b x n q r =>
    have hl := hx b x n q r rfl
    rcases List.mem_cons.mp hb with e | hb
    · dsimp only at hm
      rw [e] at hm
      cases z : prt T b x n true with
      | none => rw [z] at hm; cases hm
      | some s => rw [z] at hm; cases hm; exact setT_supp h hl
    · rw [List.mem_singleton] at hb
      dsimp only at hm
      rw [hb] at hm
      cases z : prt T b x n false with
      | none => rw [z] at hm; cases hm
      | some s => rw [z] at hm; cases hm; exact setT_supp h hl
end L2
namespace L2
open PySem PySem.Spec PyProof.Rows LS
theorem bey_few {T : Str → Sx} {e : End} (h : (waysE e).length < 2) : beyF T e = (waysE e).map fun _ => some T := by
  cases e with
  | stop => rfl
  | go p => rfl
  | tst b x n p q => exact absurd h (by show ¬ 2 < 2; omega)
theorem bvs_rep {H : Hp} {fv : V} {T : Str → Sx} (h : FV H fv T) : ∀ l : List Nat, BVs H (List.replicate l.length fv) (l.map fun _ => some T)
  | [] => .nil
  | _ :: l => .cons h (bvs_rep h l)
def RVs (H : Hp) (vs : List V) (rs : List Rs) : Prop := Paired (RV H) vs rs
theorem RVs.same {H H' : Hp} (s : Same H H') : ∀ {vs : List V} {rs : List Rs}, RVs H vs rs → RVs H' vs rs
  | _, _, .nil => .nil
  | _, _, .cons h t => .cons (h.same s) (RVs.same s t)
theorem RVs.put {H : Hp} {l : Addr} {xs : List V} {o : HO} (hl : H l = some (.lst xs)) : ∀ {vs : List V} {rs : List Rs}, RVs H vs rs → RVs (upd H l o) vs rs
  | _, _, .nil => .nil
  | _, _, .cons h t => .cons (h.put hl) (RVs.put hl t)
theorem RV.sv {aA : Addr} {H : Hp} {v : V} {s : Sx} (h : RV H v (some s)) : SV aA H v s := by
  obtain ⟨a, b⟩ := s
  obtain ⟨p, e, h⟩ := h
  exact .inl ⟨p, e, h⟩
def dStart (ss : List Str) : PyData := .tuple (ss.map fun x => .tuple [.str x, .tuple [.int 0, .int 0]])
def spStart : Sp := fun vs H Q _ => ∃ (plv : V) (ps : List Piece) (xs : List Str) (m : Nat), vs = [plv] ∧ RdD H plv (dPlan ps) ∧ PlanOk xs m ps ∧ xs.length < 64 ∧ (allNames ps).length ≤ 4000 ∧
  ∀ (v : V) (ss : List Str) (H' : Hp), RdD H' v (dStart ss) → ss.Perm (onceK (allNames ps)) → sortedS ss = true → Same H H' → Q v H'
theorem noL_start : ∀ ss : List Str, noLists (ss.map fun x => PyData.tuple [.str x, .tuple [.int 0, .int 0]]) = true
  | [] => rfl
  | x :: ss => by
    show (true && noLists (ss.map fun x => PyData.tuple [.str x, .tuple [.int 0, .int 0]])) = true
    rw [noL_start ss]; rfl
theorem lead_take {T : Str → Sx} {e : End} {i k : Nat} {o : Option (Str → Sx)} (h1 : (waysE e)[i]? = some k) (h2 : (beyF T e)[i]? = some o) :
    (((waysE e).zip (beyF T e)).take (i + 1)).filterMap (fun p => p.2.map fun U => (p.1, U)) = (((waysE e).zip (beyF T e)).take i).filterMap (fun p => p.2.map fun U => (p.1, U)) ++ (o.map fun U => (k, U)).toList := by
  have hz : ((waysE e).zip (beyF T e))[i]? = some (k, o) := by rw [List.getElem?_zip_eq_some]; exact ⟨h1, h2⟩
  rw [List.take_add_one, hz, List.filterMap_append]
  cases o <;> rfl
theorem paired_at {α β : Type} {F : α → β → Prop} {l : List α} {m : List β} (h : Paired F l m) {i : Nat} {x : α} (e : l[i]? = some x) : ∃ y, m[i]? = some y ∧ F x y := LS.paired_get h e
theorem paired_app {α β : Type} {F : α → β → Prop} : ∀ {l l' : List α} {m m' : List β}, Paired F l m → Paired F l' m' → Paired F (l ++ l') (m ++ m')
  | _, _, _, _, .nil, h => h
  | _, _, _, _, .cons r t, h => .cons r (paired_app t h)
end L2

set_option Elab.async false
set_option linter.all false
set_option maxRecDepth 100000
namespace L2
open PySem PySem.Spec PyProof.Rows LS
/-! ### sorted(xs), a list of numbers -/
section
variable {prog : Program} {w : World} {A : Around} {E : Value → Shared → Prop} {s : Shared}
theorem sorted_listI {l : Addr} {vs : List Value} {ns : List Int} {Q : Value → Shared → Prop} (hl : s.heap.IsList l vs.toArray) (hI : IntsAre vs ns) (h64 : vs.length < 64)
    (q : ∀ (h' : Heap) (D : Addr) (out : Array Value) (ns' : List Int) (e : Nat), (∀ b o, s.heap.get? b = some o → h'.get? b = some o) → s.heap.objs.size ≤ D → h'.get? D = some { cls := .type "list", data := .seq out e } →
      IntsAre out.toList ns' → ns'.Perm ns → ns'.Pairwise (· ≤ ·) → Q (.ref D) { s with heap := h' }) : wpAny (model prog w) A (call (.builtin "sorted") [.ref l]) Q E s := by
  refine sorted_ints hl hI h64 fun out ns' a1 a2 a3 => ?_
  unfold sortedAll
  generalize hg : ((s.heap.push (seqObj "list" #[] 0)).update s.heap.objs.size (Obj.mapSeq (· ++ vs.toArray))) = g
  have hz : g.objs.size = s.heap.objs.size + 1 := by rw [← hg, Heap.size_update, size_push']
  have kp : ∀ b o, s.heap.get? b = some o → g.get? b = some o := fun b o e => by
    rw [← hg]
    exact (Heap.get?_update_other _ _ (Nat.ne_of_gt (Heap.lt_size e))).trans (Heap.get?_push_of_some _ e)
  have hoL : (g.push (seqObj "list" vs.toArray 0)).get? (s.heap.objs.size + 1) = some (seqObj "list" vs.toArray 0) := by rw [← hz]; exact Heap.get?_push_size _ rfl
  obtain ⟨e, he⟩ := sortedHeap_at (out := out) hoL
  refine q _ _ out ns' e (fun b o ho => ?_) (Nat.le_succ _) he a1 a2 a3
  have h1 := kp b o ho
  have hlt := Heap.lt_size ho
  rw [sortedHeap_old (Nat.ne_of_lt (Nat.lt_succ_of_lt hlt)) (by rw [size_push', hz]; exact Nat.lt_succ_of_lt (Nat.lt_succ_of_lt hlt))]
  exact Heap.get?_push_of_some _ h1
end
section
variable {X : Cx}
theorem call_sortedLI : CallR X (.builtin "sorted") (fun vs H Q => ∃ (p : Addr) (ns : List Int), vs = [.ref p] ∧ SqL X.K H p (ns.map V.int) ∧ ns.length < 64 ∧
    ∀ (l : Addr) (ns' : List Int), ns'.Perm ns → ns'.Pairwise (· ≤ ·) → H l = none → Q (.ref l) (upd H l (.lst (ns'.map V.int)))) := by
  intro pins s σ H xs us Q I r h
  obtain ⟨p, ns, rfl, hp, h64, q⟩ := h
  obtain ⟨u, rfl, ru⟩ := vals1 r
  cases (show u = Value.ref p from ru)
  obtain ⟨its, hv, pl, _⟩ := I.list hp
  have hi := intsAre_of hv
  refine sorted_listI pl.isList hi (by have := hv.length; rw [List.length_map] at this; omega) fun h' D out ns' e hkeep hD he hS hp' hs => ?_
  have hv' : Vals (ns'.map V.int) out.toList := vals_ints hS
  refine ⟨.ref D, _, I.laid (t' := s.toks) (o := .lst (ns'.map V.int)) hkeep hD (show ObjOk X.prog X.w _ h' _ (.lst (ns'.map V.int)) from ⟨?_, out.toList, e, hv', by simpa using he⟩), rfl, q D ns' hp' hs (I.hok.fresh hD)⟩
  rw [List.length_map, hp'.length_eq]
  exact Nat.le_trans (Nat.le_of_lt h64) (by decide)
end
/-! ### the law's part -/
def chkF (lo hi : Option Int) : Rs := match lo, hi with
  | some a, some b => if b < a then none else some (some a, some b)
  | lo, hi => some (lo, hi)
theorem chk_below (lo hi : Option Int) (n : Int) : chkF lo (some (topF hi n)) = belowF lo hi n := by
  cases lo <;> rfl
theorem chk_from (lo hi : Option Int) (n : Int) : chkF (some (botF lo n)) hi = fromF lo hi n := by
  cases hi <;> rfl
theorem chk_bes {lo hi : Option Int} {n : Int} (le : LEo lo hi) : chkF (if lo = some n then some (n + 1) else lo) (if hi = some n then some (n - 1) else hi) = besF lo hi n := by
  unfold besF
  by_cases h1 : lo = some n
  · rw [if_pos h1, if_pos h1]
    by_cases h2 : hi = some n
    · rw [if_pos h2, if_pos h2]
      show (if n - 1 < n + 1 then none else _) = none
      rw [if_pos (by omega)]
    · rw [if_neg h2, if_neg h2]
      subst h1
      cases hi with
      | none => rfl
      | some h =>
        have : n ≤ h := le
        have : ¬ h = n := fun z => h2 (by rw [z])
        show (if h < n + 1 then none else _) = _
        rw [if_neg (by omega)]
  · rw [if_neg h1, if_neg h1]
    by_cases h2 : hi = some n
    · rw [if_pos h2, if_pos h2]
      subst h2
      cases lo with
      | none => rfl
      | some a =>
        have : a ≤ n := le
        have : ¬ a = n := fun z => h1 (by rw [z])
        show (if n - 1 < a then none else _) = _
        rw [if_neg (by omega)]
    · rw [if_neg h2, if_neg h2]
      cases lo with
      | none => rfl
      | some a =>
        cases hi with
        | none => rfl
        | some h =>
          have : a ≤ h := le
          show (if h < a then none else _) = _
          rw [if_neg (by omega)]
def spPartL : Sp := fun vs H Q _ => ∃ (p : Addr) (b : Bool) (n : Int) (side : Bool) (lo hi : Option Int), vs = [.ref p, .str (wT b), .int n, .bl side] ∧ H p = some (.tup [vO lo, vO hi]) ∧ LEo lo hi ∧ ∀ v H', RV H' v (partF (wT b) lo hi n side) → Same H H' → Q v H'
/-! ### the law's leads -/
def TV (m : Nat) (H : Hp) (v : V) (p : Nat × (Str → Sx)) : Prop := ∃ q sv d, v = .ref q ∧ H q = some (.tup [sv, .int p.1, .ref d]) ∧ LT H d p.2 m
def TVs (m : Nat) (H : Hp) (vs : List V) (ps : List (Nat × (Str → Sx))) : Prop := Paired (TV m H) vs ps
theorem LT.put {H : Hp} {d l : Addr} {T : Str → Sx} {m : Nat} {xs : List V} {o : HO} (h : LT H d T m) (hl : H l = some (.lst xs)) : LT (upd H l o) d T m := by
  refine h.tups (fun u e => ?_) fun p zs e => by rw [upd_ne (ne_of e hl (by intro z; cases z))]; exact e
  obtain ⟨kvs, ks, g, _⟩ := h
  rw [upd_ne (ne_of g hl (by intro z; cases z))]
  exact e
theorem TVs.same {m : Nat} {H H' : Hp} (s : Same H H') : ∀ {vs : List V} {ps : List (Nat × (Str → Sx))}, TVs m H vs ps → TVs m H' vs ps
  | _, _, .nil => .nil
  | _, _, .cons ⟨q, sv, d, e, h1, h2⟩ t => .cons ⟨q, sv, d, e, s _ _ h1, h2.same s⟩ (TVs.same s t)
theorem TVs.put {m : Nat} {H : Hp} {l : Addr} {xs : List V} {o : HO} (hl : H l = some (.lst xs)) : ∀ {vs : List V} {ps : List (Nat × (Str → Sx))}, TVs m H vs ps → TVs m (upd H l o) vs ps
  | _, _, .nil => .nil
  | _, _, .cons ⟨q, sv, d, e, h1, h2⟩ t => .cons ⟨q, sv, d, e, by rw [upd_ne (ne_of h1 hl (by intro z; cases z))]; exact h1, h2.put hl⟩ (TVs.put hl t)
def spLeadsL : Sp := fun vs H Q _ => ∃ (d ea : Addr) (T : Str → Sx) (e : End) (m : Nat), vs = [.ref d, .ref ea] ∧ LT H d T m ∧ m ≤ 50 ∧ (∀ x, LEo (T x).1 (T x).2) ∧ H ea = some (.tup (vEnd e)) ∧
  ∀ (l : Addr) (vs : List V) (H' : Hp), H' l = some (.lst vs) → TVs (m + 1) H' vs (leadF T e) → Same H H' → Q (.ref l) H'
def spTestL : Sp := fun vs H Q _ => ∃ (b d l : Addr) (xs : List Str) (T : Str → Sx), vs = [.ref b, .ref d, .ref l] ∧ Bag H b ∧ LT H d T 4 ∧ NamesAt H b l xs ∧
  ∀ (ea : Addr) (less : Bool) (x : Str) (n : Int) (p q : Nat) (H' : Hp), H' ea = some (.tup (vEnd (.tst less x n p q))) → (x ∈ xs ∨ x = "other") → Bag H' b → Fix b H H' → Q (.ref ea) H'
def spAllL : Sp := fun vs H Q _ => ∃ (plv : V) (ps : List Piece) (xs : List Str) (m : Nat), vs = [plv] ∧ RdD H plv (dPlan ps) ∧ PlanOk xs m ps ∧ xs.length < 64 ∧
  ∀ (l : Addr) (ss : List Str) (H' : Hp), H' l = some (.lst (ss.map V.str)) → ss.Perm (onceK (allNames ps)) → sortedS ss = true → ss.length < 64 → Same H H' → Q (.ref l) H'
/-- the keys of a dict, as names come -/
def KeysAre (kvs : List (Key × V)) (ns : List Str) : Prop := kvs.map (·.1) = (onceK ns).map Sum.inr
theorem onceK_snoc (ns : List Str) (x : Str) : onceK (ns ++ [x]) = LS.putIn (onceK ns) x := by unfold onceK; rw [List.foldl_append]; rfl
theorem KeysAre.put {kvs : List (Key × V)} {ns : List Str} (h : KeysAre kvs ns) (x : Str) (v : V) : KeysAre (putK kvs (Sum.inr x) v) (ns ++ [x]) := by
  unfold KeysAre at h ⊢
  rw [onceK_snoc]
  unfold LS.putIn
  rcases putK_keys (kvs := kvs) (k := (Sum.inr x : Key)) (v := v) with ⟨e1, hm⟩ | ⟨e1, hn⟩
  · rw [h] at hm
    obtain ⟨y, hy, e⟩ := List.mem_map.mp hm
    cases e
    rw [if_pos hy, e1, h]
  · rw [if_neg (fun z => hn (by rw [h]; exact List.mem_map.mpr ⟨x, z, rfl⟩)), e1, h, List.map_append]; rfl
theorem KeysAre.len {kvs : List (Key × V)} {ns : List Str} (h : KeysAre kvs ns) : kvs.length = (onceK ns).length := by have := congrArg List.length h; simpa using this
theorem once_sub {ns xs : List Str} (h : ∀ x ∈ ns, x ∈ xs) : (onceK ns).length ≤ xs.length := sub_len (onceK_nd _) fun x hx => h x (onceK_mem.mp hx)
theorem inV_none {a b : Option Int} : inV .non [vO a, vO b] = (decide (a = none) || decide (b = none)) := by
  cases a <;> cases b <;> rfl
theorem all_one {l m n : List Str} (p : l.Perm (LS.onceK n)) (q : m.Perm (LS.onceK n)) (hl : sortedS l = true) (hm : sortedS m = true) : l = m :=
  Srt.unique ⟨sorted_pw hl, p.nodup_iff.mpr (LS.onceK_nd _)⟩ ⟨sorted_pw hm, q.nodup_iff.mpr (LS.onceK_nd _)⟩ fun _ => (p.trans q.symm).mem_iff
theorem lay_start : ∀ ss : List Str, (∀ x ∈ ss, PyData.canLay0 (.str x) = true) → (dStart ss).canLay0 = true
  | [], _ => rfl
  | x :: ss, hs => by
    have ih := lay_start ss fun y hy => hs y (List.mem_cons_of_mem _ hy)
    show ((PyData.canLay0 (.str x) && true) && (dStart ss).canLay0) = true
    rw [hs x (List.mem_cons_self ..), ih]
    rfl
theorem dep_start (ss : List Str) : (dStart ss).depth ≤ 60 := by
  have go : ∀ ss : List Str, PyData.depthAll (ss.map fun x => PyData.tuple [.str x, .tuple [.int 0, .int 0]]) ≤ 2 := by
    intro ss
    induction ss with
    | nil => exact Nat.zero_le _
    | cons x ss ih =>
      show max 2 (PyData.depthAll (ss.map fun x => PyData.tuple [.str x, .tuple [.int 0, .int 0]])) ≤ 2
      omega
  show PyData.depthAll (ss.map fun x => PyData.tuple [.str x, .tuple [.int 0, .int 0]]) + 1 ≤ 60
  have := go ss
  omega
def LayE (e : End) : Prop := ∀ b x n p q, e = .tst b x n p q → PyData.canLay0 (.str x) = true
theorem all_len {xs : List Str} {m : Nat} {ps : List Piece} (ok : PlanOk xs m ps) : (allNames ps).length ≤ ps.length * (2 * m + 1) := by
  unfold allNames
  have h : ∀ p ∈ ps, (pNames p).length ≤ 2 * m + 1 := fun p hp => by
    have h1 := (ok.deeds p hp).1
    unfold pNames
    rw [List.length_append]
    have h2 : (p.1.flatMap dNames).length ≤ 2 * p.1.length := by
      induction p.1 with
      | nil => simp
      | cons d ds ih =>
        rw [List.flatMap_cons, List.length_append, List.length_cons]
        have : (dNames d).length ≤ 2 := by cases d <;> simp [dNames]
        omega
    have h3 : (eNames p.2).length ≤ 1 := by cases p.2 <;> simp [eNames]
    omega
  clear ok
  induction ps with
  | nil => simp
  | cons p ps ih =>
    rw [List.flatMap_cons, List.length_append, List.length_cons]
    have h1 := h p (List.mem_cons_self ..)
    have h2 := ih fun q hq => h q (List.mem_cons_of_mem _ hq)
    rw [Nat.add_mul]
    omega
end L2

set_option Elab.async false
set_option linter.all false
set_option maxRecDepth 100000
namespace My
open PySem PySem.Spec PyProof.Rows L2
def top (i : Nat) : Stmt := PySem.Challenge.pw_ledpast_k09_leads.main.body.getD i (.Pass ⟨0, 0, 0, 0⟩)
structure Bl (mg : Str → Option Value) : Prop where
  len : mg "len" = none
  zip : mg "zip" = none
  tuple : mg "tuple" = none
  sorted : mg "sorted" = none
  set : mg "set" = none
  dict : mg "dict" = none
  min : mg "min" = none
  max : mg "max" = none
  range : mg "range" = none
  list : mg "list" = none
  int : mg "int" = none
abbrev s_parts_of_kind : Stmt := top 3
theorem sc_parts_of_kind : FnScope ["thing", "kinds", "wanted"] ["thing", "kinds", "wanted"] (defScope s_parts_of_kind) := ⟨rfl, rfl, rfl, by decide +kernel, rfl, by decide +kernel, by decide +kernel⟩
abbrev s_names_of : Stmt := top 4
theorem sc_names_of : FnScope ["plan", "names", "deeds", "end", "deed"] ["plan"] (defScope s_names_of) := ⟨rfl, rfl, rfl, by decide +kernel, rfl, by decide +kernel, by decide +kernel⟩
abbrev s_ways_on : Stmt := top 5
theorem sc_ways_on : FnScope ["end"] ["end"] (defScope s_ways_on) := ⟨rfl, rfl, rfl, by decide +kernel, rfl, by decide +kernel, by decide +kernel⟩
abbrev s_lies_in : Stmt := top 7
theorem sc_lies_in : FnScope ["number", "stretch", "low", "high"] ["number", "stretch"] (defScope s_lies_in) := ⟨rfl, rfl, rfl, by decide +kernel, rfl, by decide +kernel, by decide +kernel⟩
abbrev s_part_below : Stmt := top 8
theorem sc_part_below : FnScope ["stretch", "number", "low", "high", "top"] ["stretch", "number"] (defScope s_part_below) := ⟨rfl, rfl, rfl, by decide +kernel, rfl, by decide +kernel, by decide +kernel⟩
abbrev s_part_from : Stmt := top 9
theorem sc_part_from : FnScope ["stretch", "number", "low", "high", "bottom"] ["stretch", "number"] (defScope s_part_from) := ⟨rfl, rfl, rfl, by decide +kernel, rfl, by decide +kernel, by decide +kernel⟩
abbrev s_part_at : Stmt := top 10
theorem sc_part_at : FnScope ["stretch", "number"] ["stretch", "number"] (defScope s_part_at) := ⟨rfl, rfl, rfl, by decide +kernel, rfl, by decide +kernel, by decide +kernel⟩
abbrev s_part_beside : Stmt := top 11
theorem sc_part_beside : FnScope ["stretch", "number", "low", "high"] ["stretch", "number"] (defScope s_part_beside) := ⟨rfl, rfl, rfl, by decide +kernel, rfl, by decide +kernel, by decide +kernel⟩
abbrev s_part_of : Stmt := top 12
theorem sc_part_of : FnScope ["stretch", "word", "number", "side"] ["stretch", "word", "number", "side"] (defScope s_part_of) := ⟨rfl, rfl, rfl, by decide +kernel, rfl, by decide +kernel, by decide +kernel⟩
abbrev s_facts_of : Stmt := top 15
theorem sc_facts_of : FnScope ["stretches"] ["stretches"] (defScope s_facts_of) := ⟨rfl, rfl, rfl, by decide +kernel, rfl, by decide +kernel, by decide +kernel⟩
abbrev s_known : Stmt := top 16
theorem sc_known : FnScope ["facts", "name"] ["facts", "name"] (defScope s_known) := ⟨rfl, rfl, rfl, by decide +kernel, rfl, by decide +kernel, by decide +kernel⟩
abbrev s_with_known : Stmt := top 17
theorem sc_with_known : FnScope ["facts", "name", "stretch", "stretches"] ["facts", "name", "stretch"] (defScope s_with_known) := ⟨rfl, rfl, rfl, by decide +kernel, rfl, by decide +kernel, by decide +kernel⟩
abbrev s_known_beyond : Stmt := top 18
theorem sc_known_beyond : FnScope ["facts", "end", "ways", "word", "name", "number", "stretch", "parts"] ["facts", "end"] (defScope s_known_beyond) := ⟨rfl, rfl, rfl, by decide +kernel, rfl, by decide +kernel, by decide +kernel⟩
abbrev s_leads : Stmt := top 19
theorem sc_leads : FnScope ["facts", "end", "beyond"] ["facts", "end"] (defScope s_leads) := ⟨rfl, rfl, rfl, by decide +kernel, rfl, by decide +kernel, by decide +kernel⟩
abbrev s_start : Stmt := top 20
theorem sc_start : FnScope ["plan"] ["plan"] (defScope s_start) := ⟨rfl, rfl, rfl, by decide +kernel, rfl, by decide +kernel, by decide +kernel⟩
abbrev s_law_bag : Stmt := top 22
theorem sc_law_bag : FnScope ["script", "k", "cell"] ["script", "k"] (defScope s_law_bag) := ⟨rfl, rfl, rfl, by decide +kernel, rfl, by decide +kernel, by decide +kernel⟩
abbrev s_law_take : Stmt := top 23
theorem sc_law_take : FnScope ["bag", "many", "found"] ["bag", "many"] (defScope s_law_take) := ⟨rfl, rfl, rfl, by decide +kernel, rfl, by decide +kernel, by decide +kernel⟩
abbrev s_law_names : Stmt := top 24
theorem sc_law_names : FnScope ["bag", "letters", "many", "base", "at", "names", "k", "name"] ["bag"] (defScope s_law_names) := ⟨rfl, rfl, rfl, by decide +kernel, rfl, by decide +kernel, by decide +kernel⟩
abbrev s_law_number : Stmt := top 25
theorem sc_law_number : FnScope ["bag"] ["bag"] (defScope s_law_number) := ⟨rfl, rfl, rfl, by decide +kernel, rfl, by decide +kernel, by decide +kernel⟩
abbrev s_law_deed : Stmt := top 26
theorem sc_law_deed : FnScope ["bag", "names", "word", "name"] ["bag", "names"] (defScope s_law_deed) := ⟨rfl, rfl, rfl, by decide +kernel, rfl, by decide +kernel, by decide +kernel⟩
abbrev s_law_end : Stmt := top 27
theorem sc_law_end : FnScope ["bag", "names", "count", "way", "word", "name"] ["bag", "names", "count"] (defScope s_law_end) := ⟨rfl, rfl, rfl, by decide +kernel, rfl, by decide +kernel, by decide +kernel⟩
abbrev s_law_plan : Stmt := top 28
theorem sc_law_plan : FnScope ["bag", "count", "most", "names", "pieces", "k", "many", "end"] ["bag", "count", "most"] (defScope s_law_plan) := ⟨rfl, rfl, rfl, by decide +kernel, rfl, by decide +kernel, by decide +kernel⟩
abbrev s_law_all_names : Stmt := top 29
theorem sc_law_all_names : FnScope ["plan", "names", "deeds", "end", "deed"] ["plan"] (defScope s_law_all_names) := ⟨rfl, rfl, rfl, by decide +kernel, rfl, by decide +kernel, by decide +kernel⟩
abbrev s_law_part : Stmt := top 30
theorem sc_law_part : FnScope ["stretch", "word", "number", "side", "low", "high"] ["stretch", "word", "number", "side"] (defScope s_law_part) := ⟨rfl, rfl, rfl, by decide +kernel, rfl, by decide +kernel, by decide +kernel⟩
abbrev s_law_with : Stmt := top 31
theorem sc_law_with : FnScope ["facts", "name", "stretch", "more", "other"] ["facts", "name", "stretch"] (defScope s_law_with) := ⟨rfl, rfl, rfl, by decide +kernel, rfl, by decide +kernel, by decide +kernel⟩
abbrev s_law_leads : Stmt := top 32
theorem sc_law_leads : FnScope ["facts", "end", "found", "side", "part"] ["facts", "end"] (defScope s_law_leads) := ⟨rfl, rfl, rfl, by decide +kernel, rfl, by decide +kernel, by decide +kernel⟩
abbrev s_law_told : Stmt := top 33
theorem sc_law_told : FnScope ["facts"] ["facts"] (defScope s_law_told) := ⟨rfl, rfl, rfl, by decide +kernel, rfl, by decide +kernel, by decide +kernel⟩
abbrev s_law_table : Stmt := top 34
theorem sc_law_table : FnScope ["bag", "names", "table", "name", "ends", "k"] ["bag", "names"] (defScope s_law_table) := ⟨rfl, rfl, rfl, by decide +kernel, rfl, by decide +kernel, by decide +kernel⟩
abbrev s_law_test : Stmt := top 35
theorem sc_law_test : FnScope ["bag", "table", "names", "name", "ends", "number"] ["bag", "table", "names"] (defScope s_law_test) := ⟨rfl, rfl, rfl, by decide +kernel, rfl, by decide +kernel, by decide +kernel⟩
abbrev s_law : Stmt := top 36
theorem sc_law : FnScope ["script", "k", "bag", "way", "names", "table", "end", "due", "plan"] ["script"] (defScope s_law) := ⟨rfl, rfl, rfl, by decide +kernel, rfl, by decide +kernel, by decide +kernel⟩

end My

set_option Elab.async false
set_option linter.all false
set_option maxRecDepth 100000
namespace My
open PySem PySem.Spec PyProof.Rows L2
section
variable {P : Program} {w : World} {K : PySem.W.Frag} {mg : Str → Option Value} {base : Heap}
set_option maxHeartbeats 4000000 in
theorem ok_parts_of_kind {f : Addr} {fd : FuncData} (F : Fun K "parts_of_kind" "parts_of_kind" s_parts_of_kind f fd) (Z : Bl mg)  : FnOk P w K mg base CX0 1 f fd ["thing", "kinds", "wanted"] (spParts K) := by
  refine F.ok (k := 0) sc_parts_of_kind (fun vs H Q E h => ?_) (fun cdv A outer s H vs Q E hr h => ?_)
  · obtain ⟨t, s, v0, xs, ks, w, rfl, _⟩ := h
    rfl
  · obtain ⟨t, s, v0, xs, ks, w, rfl, ht, hs, hl, q⟩ := h
    refine ⟨_, (pss_one (ps_ret (pe_lcomp ["part", "kind"] ["wanted"] [2] rfl (pi_zip rfl Z.zip (pa_cons (pe_slice sl_tupA (pv 0) (po_some pe_int) po_none) (pa_cons (pv 1) pa_nil))) rfl (by decide +kernel) (by decide +kernel) (by decide +kernel) ⟨⟨rfl, .inl rfl, rfl⟩, True.intro⟩ (fun _ _ _ _ => (pg_tupK (K := K) (n := 2) rfl (pg_tup (n := 2) rfl (pgs_cons (pg_name (i := 0) (show ((["part", "kind"] : List Str) ++ (["wanted"] : List Str)).Nodup by decide +kernel) rfl (Or.inl rfl) (hf := Or.inr rfl)) (pgs_cons (pg_name (i := 1) (show ((["part", "kind"] : List Str) ++ (["wanted"] : List Str)).Nodup by decide +kernel) rfl (Or.inl rfl) (hf := Or.inr rfl)) pgs_nil))))) (fun _ _ _ _ => (pts_one (pt_cmpR op_eq (pv 1) (pv 2) (nomark _)))) (fun _ _ _ _ => (pv 0))))), ?_⟩

    refine ⟨_, rfl, _, rfl, t, _, rfl, SqT.of ht, fun hw => ?_, fun _ p np => ?_⟩
    · exfalso
      obtain ⟨h1, _⟩ := hw
      simp [HT.sIx] at h1
    · have ec : cutV (v0 :: xs) (some 1) none = xs := by simp [cutV, HT.sIx]
      rw [ec]
      have sp := Same.new (o := .tup xs) np
      refine ⟨_, rfl, p, s, rfl, ⟨_, SqT.of upd_same⟩, ⟨_, hs.same sp⟩, fun acc na => ?_⟩
      refine lc_zip (K := K) (a := p) (b := s) (xs := xs) (ys := ks.map V.str) (fun i zs τ H' => ∃ (c1 c2 : Option V), τ = [c1, c2, some (.str w)] ∧ zs = pickN w xs ks i ∧ H' acc = some (.lst zs) ∧ H' p = some (.tup xs) ∧ Same H H') ?_ ?_ ?_ ?_
      · exact ⟨none, none, rfl, rfl, upd_same, Same.new na _ _ upd_same, sp.trans (Same.new na)⟩
      · rintro i zs τ H4 hi ⟨c1, c2, rfl, rfl, ha, hp4, s4⟩
        exact ⟨SqT.of hp4, hs.same s4, ha, small1000' (by have := pickN_len (w := w) (xs := xs) (ks := ks) (i := i); omega)⟩
      · rintro i x y zs τ H4 u hx hy hu ⟨c1, c2, rfl, rfl, ha, hp4, s4⟩
        obtain ⟨k, rfl, hk⟩ : ∃ k, y = V.str k ∧ ks[i]? = some k := by
          rw [List.getElem?_map] at hy
          cases e : ks[i]? with
          | none => rw [e] at hy; cases hy
          | some k => rw [e] at hy; exact ⟨k, (Option.some.inj hy).symm, rfl⟩
        have su := Same.new (o := .tup [x, .str k]) hu
        refine ⟨u, _, rfl, SqT.of upd_same, rfl, _, _, rfl, _, _, rfl, rfl, ?_⟩
        refine ⟨_, rfl, _, rfl, rfl, _, rfl, ?_⟩
        have hn := pickN_succ (w := w) hx hk
        by_cases hkw : k = w
        · rw [if_pos hkw] at hn
          refine iteTb (decide_eq_true (congrArg V.str hkw)) ?_
          refine ⟨_, rfl, su _ _ ha, _, _, rfl, hn.symm, upd_same, ?_, ?_⟩
          · rw [upd_ne (ne_of hp4 ha (by intro z; cases z))]
            exact su _ _ hp4
          · exact (s4.trans su).put (sp.free na)
        · rw [if_neg hkw, List.append_nil] at hn
          refine iteFb (decide_eq_false fun z => hkw (V.str.inj z)) ?_
          exact ⟨_, _, rfl, hn.symm, su _ _ ha, su _ _ hp4, s4.trans su⟩
      · rintro zs τ H4 ⟨c1, c2, rfl, rfl, ha, hp4, s4⟩
        rw [pickN_all] at ha
        exact q acc H4 ha s4
end
end My

set_option Elab.async false
set_option linter.all false
set_option maxRecDepth 100000
namespace My
open PySem PySem.Spec PyProof.Rows L2
section
variable {P : Program} {w : World} {K : PySem.W.Frag} {mg : Str → Option Value} {base : Heap}
set_option maxHeartbeats 4000000 in
theorem ok_names_of {f : Addr} {fd : FuncData} (F : Fun K "names_of" "names_of" s_names_of f fd) (Z : Bl mg) {aD d0 d1 d2 d3 d4 : Addr} (GD : DeedG K mg aD d0 d1 d2 d3 d4) {aE s0 s1 s2 s3 : Addr} (GE : EndG K mg aE s0 s1 s2 s3) (O_parts_of_kind : Own P w K mg base "parts_of_kind" 1 ["thing", "kinds", "wanted"] (spParts K)) : FnOk P w K mg base CX0 3 f fd ["plan"] spNamesOf := by
  refine F.ok (k := 2) sc_names_of (fun vs H Q E h => ?_) (fun cdv A outer s H vs Q E hr h => ?_)
  · obtain ⟨plv, ps, xs, m, rfl, _⟩ := h
    rfl
  · obtain ⟨plv, ps, xs, m, rfl, hp, pok, hx64, hal, q⟩ := h
    refine ⟨_, (pss_cons (ps_set (i := 1) sc_names_of.nd rfl (Or.inl rfl) (pe_lst pa_nil))
      (pss_cons (ps_for PassesOwn.never rfl (pi_tup (pv 0)) (pg_tup rfl (pgs_cons (pg_name (i := 2) sc_names_of.nd rfl (Or.inl rfl)) (pgs_cons (pg_name (i := 3) sc_names_of.nd rfl (Or.inl rfl)) pgs_nil)))
      (pss_cons (ps_for PassesOwn.never rfl (pi_tup (pv 2)) (pg_name (i := 4) sc_names_of.nd rfl (Or.inl rfl))
      (pss_one (ps_expr (pe_bm PySem.F.plainAttrs_list PySem.F.slot_list_extend PySem.F.type_list_extend mt_extend (pv 1) (pa_cons (pe_own O_parts_of_kind (hr.mono (by decide)) rfl (pa_cons (pv 4) (pa_cons (pe_tget GD.tab rfl (pe_ix ix_tup (pv 4) pe_int (fun _ _ => rfl)) (fun _ _ => rfl)) (pa_cons pe_str pa_nil)))) pa_nil)))))
      (pss_one (ps_expr (pe_bm PySem.F.plainAttrs_list PySem.F.slot_list_extend PySem.F.type_list_extend mt_extend (pv 1) (pa_cons (pe_own O_parts_of_kind (hr.mono (by decide)) rfl (pa_cons (pv 3) (pa_cons (pe_tget GE.tab rfl (pe_ix ix_tup (pv 3) pe_int (fun _ _ => rfl)) (fun _ _ => rfl)) (pa_cons pe_str pa_nil)))) pa_nil))))))
      (pss_one (ps_ret (pe_callTy call_tuple_of rfl Z.tuple bt_tuple (pa_cons (pe_callB (call_sortedST rfl) rfl Z.sorted bt_sorted (pa_cons (pe_callTy (call_setL rfl) rfl Z.set bt_set (pa_cons (pv 1) pa_nil)) pa_nil)) pa_nil)))))), ?_⟩

    obtain ⟨pp, vs, rfl, e1, r⟩ := RdD.tup_inv hp
    have hl := r.len
    refine ⟨(by show 0 ≤ sizeLine; decide), fun nm nn => ?_⟩
    have s0 := Same.new (o := .lst []) nn
    have big : ∀ (i : Nat) (ys : List Str), ys.length ≤ 4000 → (ys.map V.str).length ≤ sizeLine := fun i ys h => by rw [List.length_map]; exact Nat.le_trans h (by decide)
    refine ⟨_, rfl, pp, rfl, ⟨_, SqT.of (s0 _ _ e1)⟩, for_tup (K := K) (a := pp) (xs := vs) (fun i σ H' => ∃ (u1 u2 u3 : Option V), σ = [some (.ref pp), some (.ref nm), u1, u2, u3] ∧ H' nm = some (.lst ((allNames (ps.take i)).map V.str)) ∧ Same H H') ?_ ?_ ?_ ?_⟩
    · exact ⟨_, _, _, rfl, upd_same, s0⟩
    · rintro i σ H1 hi ⟨u1, u2, u3, rfl, h1, s1⟩
      exact SqT.of (s1 _ _ e1)
    · rintro i x σ H1 hi ⟨u1, u2, u3, rfl, h1, s1⟩
      have hlt : i < ps.length := by
        have := (List.getElem?_eq_some_iff.mp hi).1
        rw [hl, List.length_map] at this
        exact this
      have hpi : ps[i]? = some ps[i] := by simp [hlt]
      generalize ps[i] = pe at hpi
      obtain ⟨ds, e⟩ := pe
      have hnext := flat_take (f := pNames) hpi
      have hsz : (allNames (ps.take (i + 1))).length ≤ 4000 := Nat.le_trans (flat_take_len (f := pNames) (i + 1)) hal
      have hsz' : (allNames (ps.take i)).length + ((ds.flatMap dNames).length + (eNames e).length) ≤ 4000 := by
        have z := congrArg List.length hnext
        unfold allNames at hsz ⊢
        rw [z] at hsz
        simp only [List.length_append, pNames] at hsz
        omega
      obtain ⟨p', xs', pc, da, ea, ws, ep, e1', el', hx', e2, e3, r3, e4⟩ := rd_piece hp hpi
      cases ep
      rw [e1] at e1'
      cases e1'
      rw [hi] at hx'
      cases hx'
      refine ⟨pc, _, rfl, SqT.of (s1 _ _ e2), rfl, _, _, rfl, _, _, rfl, rfl, ?_⟩
      refine ⟨_, rfl, da, rfl, ⟨_, SqT.of (s1 _ _ e3)⟩, for_tup (K := K) (a := da) (xs := ws) (fun j σ H' => ∃ (u3 : Option V), σ = [some (.ref pp), some (.ref nm), some (.ref da), some (.ref ea), u3] ∧ H' nm = some (.lst ((allNames (ps.take i) ++ (ds.take j).flatMap dNames).map V.str)) ∧ Same H H') ?_ ?_ ?_ ?_⟩
      · exact ⟨_, rfl, by simpa using h1, s1⟩
      · rintro j σ H2 hj ⟨u3', rfl, h2, s2⟩
        exact SqT.of (s2 _ _ e3)
      · rintro j y σ H2 hj ⟨u3', rfl, h2, s2⟩
        have hjl : j < ds.length := by
          have := (List.getElem?_eq_some_iff.mp hj).1
          rw [r3.len, List.length_map] at this
          exact this
        have hdj : ds[j]? = some ds[j] := by simp [hjl]
        generalize ds[j] = dd at hdj
        obtain ⟨v, hv, rd⟩ := r3.get (i := j) (d := dDeed dd) (by rw [List.getElem?_map, hdj]; rfl)
        rw [hj] at hv
        cases hv
        obtain ⟨dp, rfl, hdp⟩ := rd_deed rd
        have hdp2 := s2 _ _ hdp
        obtain ⟨zs, ez, hzl, hpk⟩ := vDeed_cons dd
        rw [ez] at hdp2
        obtain ⟨s, hs, ks⟩ := GD.at_ dd
        have hnj := flat_take (f := dNames) hdj
        have hsj : ((ds.take (j + 1)).flatMap dNames).length ≤ (ds.flatMap dNames).length := flat_take_len (f := dNames) (j + 1)
        refine gname_ ?_
        refine ⟨_, rfl, .inl ⟨rfl, _, SqL.of h2⟩, _, rfl, _, rfl, dp, _, 0, _, rfl, rfl, SqT.of hdp2, at0, _, s, rfl, hs, dp, s, _, zs, kD dd, "name", rfl, hdp2, .inr ks, hzl, fun l H3 hl3 s3 => ?_⟩
        rw [hpk] at hl3
        have h3 := s3 _ _ h2
        refine ⟨nm, l, _, _, rfl, rfl, h3, hl3, ?_, ?_⟩
        · rw [List.length_map, List.length_map, List.length_append]
          rw [hnj, List.length_append] at hsj
          exact Nat.le_trans (show _ ≤ 4000 by omega) (by decide)
        · refine ⟨_, rfl, ?_, (s2.trans s3).put nn⟩
          rw [upd_same, hnj, ← List.append_assoc]; simp only [List.map_append]
      · rintro σ H2 ⟨u3', rfl, h2, s2⟩
        rw [show ws.length = ds.length by rw [r3.len, List.length_map], List.take_length] at h2
        have e42 := s2 _ _ e4
        obtain ⟨zs, ez, hzl, hpk⟩ := vEnd_consN e
        rw [ez] at e42
        obtain ⟨s, hs, ks⟩ := GE.at_ e
        refine ⟨_, rfl, .inl ⟨rfl, _, SqL.of h2⟩, _, rfl, _, rfl, ea, _, 0, _, rfl, rfl, SqT.of e42, at0, _, s, rfl, hs, ea, s, _, zs, kE e, "name", rfl, e42, .inr ks, hzl, fun l H3 hl3 s3 => ?_⟩
        rw [hpk] at hl3
        have h3 := s3 _ _ h2
        refine ⟨nm, l, _, _, rfl, rfl, h3, hl3, ?_, ?_⟩
        · rw [List.length_map, List.length_map, List.length_append]
          exact Nat.le_trans (show _ ≤ 4000 by omega) (by decide)
        · refine ⟨_, _, _, rfl, ?_, (s2.trans s3).put nn⟩
          rw [upd_same, ← List.map_append]
          unfold allNames at hnext ⊢
          rw [hnext]
          simp only [pNames, List.append_assoc]
    · rintro σ H1 ⟨u1, u2, u3, rfl, h1, s1⟩
      rw [show vs.length = ps.length by rw [hl, List.length_map], List.take_length] at h1
      have hk : SqL K H1 nm (((allNames ps).map (Sum.inr : Str → Key)).map kV) := by rw [strs_kV]; exact SqL.of h1
      refine ⟨_, rfl, nm, (allNames ps).map Sum.inr, rfl, hk, (by rw [List.length_map]; show _ + 1 < 4096; omega), fun sa hsa => ?_⟩
      have hf := once_few pok
      refine ⟨sa, LS.onceK (allNames ps), rfl, (by rw [upd_same, onceK_strs]), (by omega), fun l ss hperm hsort hn => ?_⟩
      have s2 := Same.new (o := setO P w sa (LS.onceK ((allNames ps).map (Sum.inr : Str → Key)))) hsa
      refine ⟨l, _, rfl, .inl ⟨SqL.of upd_same, fun t ht => ?_⟩⟩
      exact q t ss _ upd_same hperm hsort (by rw [hperm.length_eq]; omega) (((s1.trans s2).trans (Same.new hn)).trans (Same.new ht))
end
end My

set_option Elab.async false
set_option linter.all false
set_option maxRecDepth 100000
namespace My
open PySem PySem.Spec PyProof.Rows L2
section
variable {P : Program} {w : World} {K : PySem.W.Frag} {mg : Str → Option Value} {base : Heap}
set_option maxHeartbeats 4000000 in
theorem ok_ways_on {f : Addr} {fd : FuncData} (F : Fun K "ways_on" "ways_on" s_ways_on f fd) (Z : Bl mg) {aE s0 s1 s2 s3 : Addr} (GE : EndG K mg aE s0 s1 s2 s3) (O_parts_of_kind : Own P w K mg base "parts_of_kind" 1 ["thing", "kinds", "wanted"] (spParts K)) : FnOk P w K mg base CX0 3 f fd ["end"] spWays := by
  refine F.ok (k := 2) sc_ways_on (fun vs H Q E h => ?_) (fun cdv A outer s H vs Q E hr h => ?_)
  · obtain ⟨ea, e, rfl, _⟩ := h
    rfl
  · obtain ⟨ea, e, rfl, he, q⟩ := h
    refine ⟨_, (pss_one (ps_ret (pe_callTy call_tuple_of rfl Z.tuple bt_tuple (pa_cons (pe_own O_parts_of_kind (hr.mono (by decide)) rfl (pa_cons (pv 0) (pa_cons (pe_tget GE.tab rfl (pe_ix ix_tup (pv 0) pe_int (fun _ _ => rfl)) (fun _ _ => rfl)) (pa_cons pe_str pa_nil)))) pa_nil)))), ?_⟩

    obtain ⟨xs, ev, hl, hp⟩ := vEnd_cons e
    rw [ev] at he
    obtain ⟨s, hs, ks⟩ := GE.at_ e
    refine ⟨_, rfl, _, rfl, ea, _, 0, _, rfl, rfl, SqT.of he, at0, _, s, rfl, hs, ea, s, _, xs, kE e, "piece", rfl, he, .inr ks, hl, fun l H1 hl1 s1 => ?_⟩
    rw [hp] at hl1
    exact ⟨l, _, rfl, .inl ⟨SqL.of hl1, fun t ht => q t _ upd_same (s1.trans (Same.new ht))⟩⟩
end
end My

set_option Elab.async false
set_option linter.all false
set_option maxRecDepth 100000
namespace My
open PySem PySem.Spec PyProof.Rows L2
section
variable {P : Program} {w : World} {K : PySem.W.Frag} {mg : Str → Option Value} {base : Heap}
set_option maxHeartbeats 4000000 in
theorem ok_lies_in {f : Addr} {fd : FuncData} (F : Fun K "lies_in" "lies_in" s_lies_in f fd) (Z : Bl mg)  : FnOk P w K mg base CX0 1 f fd ["number", "stretch"] (spLiesK K) := by
  refine F.ok (k := 0) sc_lies_in (fun vs H Q E h => ?_) (fun cdv A outer s H vs Q E hr h => ?_)
  · obtain ⟨n, q, lo, hi, rfl, _⟩ := h
    rfl
  · obtain ⟨n, q, lo, hi, rfl, hq, k⟩ := h
    refine ⟨_, (pss_cons (ps_asg (pv 1) (pg_tup rfl (pgs_cons (pg_name (i := 2) sc_lies_in.nd rfl (Or.inl rfl)) (pgs_cons (pg_name (i := 3) sc_lies_in.nd rfl (Or.inl rfl)) pgs_nil))))
      (pss_one (ps_ret (pe_and (pe_or (pe_cmp (pc_isN (pv 2))) (pe_one (pe_cmpR op_le (pv 2) (pv 0) (nomark _)))) (pe_one (pe_or (pe_cmp (pc_isN (pv 3))) (pe_one (pe_cmpR op_le (pv 0) (pv 3) (nomark _))))))))), ?_⟩

    refine ⟨_, rfl, q, _, rfl, hq, rfl, _, _, rfl, _, _, rfl, rfl, ?_⟩
    cases lo with
    | none =>
      refine ⟨_, rfl, _, rfl, iteT ⟨_, rfl, iteT ?_⟩⟩
      cases hi with
      | none => exact ⟨_, rfl, _, rfl, iteT k⟩
      | some b =>
        refine ⟨_, rfl, _, rfl, iteF ⟨_, rfl, _, rfl, _, _, rfl, rfl, ?_⟩⟩
        simpa only [liesB, Bool.true_and] using k
    | some a =>
      refine ⟨_, rfl, _, rfl, iteF ⟨_, rfl, _, rfl, _, _, rfl, rfl, _, rfl, ?_⟩⟩
      cases hx : decide (a ≤ n) with
      | false => exact iteF (by have k' := k; simp only [liesB, hx, Bool.false_and] at k'; exact k')
      | true =>
        refine iteT ?_
        cases hi with
        | none => exact ⟨_, rfl, _, rfl, iteT (by have k' := k; simp only [liesB, hx, Bool.true_and] at k'; exact k')⟩
        | some b =>
          refine ⟨_, rfl, _, rfl, iteF ⟨_, rfl, _, rfl, _, _, rfl, rfl, ?_⟩⟩
          have k' := k
          simp only [liesB, hx, Bool.true_and] at k'
          exact k'
end
end My

set_option Elab.async false
set_option linter.all false
set_option maxRecDepth 100000
namespace My
open PySem PySem.Spec PyProof.Rows L2
section
variable {P : Program} {w : World} {K : PySem.W.Frag} {mg : Str → Option Value} {base : Heap}
set_option maxHeartbeats 4000000 in
theorem ok_part_below {f : Addr} {fd : FuncData} (F : Fun K "part_below" "part_below" s_part_below f fd) (Z : Bl mg)  : FnOk P w K mg base CX0 1 f fd ["stretch", "number"] (spPK K belowF) := by
  refine F.ok (k := 0) sc_part_below (fun vs H Q E h => ?_) (fun cdv A outer s H vs Q E hr h => ?_)
  · obtain ⟨p, n, lo, hi, rfl, _⟩ := h
    rfl
  · obtain ⟨p, n, lo, hi, rfl, hp, q⟩ := h
    refine ⟨_, (pss_cons (ps_asg (pv 0) (pg_tup rfl (pgs_cons (pg_name (i := 2) sc_part_below.nd rfl (Or.inl rfl)) (pgs_cons (pg_name (i := 3) sc_part_below.nd rfl (Or.inl rfl)) pgs_nil))))
      (pss_cons (ps_set (i := 4) sc_part_below.nd rfl (Or.inl rfl) (pe_ifExp (pt_cmp (pc_isN (pv 3))) (pe_op op_sub (pv 1) pe_int) (pe_callB (call_min2 rfl) rfl Z.min bt_min (pa_cons (pv 3) (pa_cons (pe_op op_sub (pv 1) pe_int) pa_nil)))))
      (pss_cons (ps_if (PW.pt (pw_and (pt_cmp (pc_notN (pv 2))) (pw_and1 (pt_cmpR op_gt (pv 2) (pv 4) (nomark _)))))
      (pss_one (ps_ret pe_non))
      pss_nil)
      (pss_one (ps_ret (pe_tup (pa_cons (pv 2) (pa_cons (pv 4) pa_nil)))))))), ?_⟩
    refine ⟨_, rfl, p, _, rfl, hp, rfl, _, _, rfl, _, _, rfl, rfl, ?_⟩
    cases hi with
    | none =>
      refine ⟨_, rfl, _, rfl, iteT ⟨_, rfl, _, _, rfl, rfl, ?_⟩⟩
      cases lo with
      | none =>
        refine ⟨_, rfl, _, rfl, iteF (iteF ⟨_, rfl, _, rfl, ln2, fun l hl => ?_⟩)⟩
        exact q _ _ ⟨l, rfl, upd_same⟩ (Same.new hl)
      | some i =>
        refine ⟨_, rfl, _, rfl, iteT ⟨_, rfl, _, rfl, _, _, rfl, rfl, _, rfl, ?_⟩⟩
        refine ite2 (fun hc => ?_) (fun hc => ?_)
        · have hlt : topF none n < i := of_decide_eq_true hc
          exact q _ _ (by simp only [belowF]; rw [if_pos hlt]; rfl) (Same.refl H)
        · have hlt : ¬ topF none n < i := fun z => hc (decide_eq_true z)
          refine ⟨_, rfl, _, rfl, ln2, fun l hl => ?_⟩
          exact q _ _ (by simp only [belowF]; rw [if_neg hlt]; exact ⟨l, rfl, upd_same⟩) (Same.new hl)
    | some j =>
      refine ⟨_, rfl, _, rfl, iteF ⟨_, rfl, _, rfl, _, _, rfl, rfl, _, _, rfl, ?_⟩⟩
      cases lo with
      | none =>
        refine ⟨_, rfl, _, rfl, iteF (iteF ⟨_, rfl, _, rfl, ln2, fun l hl => ?_⟩)⟩
        exact q _ _ ⟨l, rfl, upd_same⟩ (Same.new hl)
      | some i =>
        refine ⟨_, rfl, _, rfl, iteT ⟨_, rfl, _, rfl, _, _, rfl, rfl, _, rfl, ?_⟩⟩
        refine ite2 (fun hc => ?_) (fun hc => ?_)
        · have hlt : topF (some j) n < i := of_decide_eq_true hc
          exact q _ _ (by simp only [belowF]; rw [if_pos hlt]; rfl) (Same.refl H)
        · have hlt : ¬ topF (some j) n < i := fun z => hc (decide_eq_true z)
          refine ⟨_, rfl, _, rfl, ln2, fun l hl => ?_⟩
          exact q _ _ (by simp only [belowF]; rw [if_neg hlt]; exact ⟨l, rfl, upd_same⟩) (Same.new hl)
end
end My

set_option Elab.async false
set_option linter.all false
set_option maxRecDepth 100000
namespace My
open PySem PySem.Spec PyProof.Rows L2
section
variable {P : Program} {w : World} {K : PySem.W.Frag} {mg : Str → Option Value} {base : Heap}
set_option maxHeartbeats 4000000 in
theorem ok_part_from {f : Addr} {fd : FuncData} (F : Fun K "part_from" "part_from" s_part_from f fd) (Z : Bl mg)  : FnOk P w K mg base CX0 1 f fd ["stretch", "number"] (spPK K fromF) := by
  refine F.ok (k := 0) sc_part_from (fun vs H Q E h => ?_) (fun cdv A outer s H vs Q E hr h => ?_)
  · obtain ⟨p, n, lo, hi, rfl, _⟩ := h
    rfl
  · obtain ⟨p, n, lo, hi, rfl, hp, q⟩ := h
    refine ⟨_, (pss_cons (ps_asg (pv 0) (pg_tup rfl (pgs_cons (pg_name (i := 2) sc_part_from.nd rfl (Or.inl rfl)) (pgs_cons (pg_name (i := 3) sc_part_from.nd rfl (Or.inl rfl)) pgs_nil))))
      (pss_cons (ps_set (i := 4) sc_part_from.nd rfl (Or.inl rfl) (pe_ifExp (pt_cmp (pc_isN (pv 2))) (pv 1) (pe_callB (call_max2 rfl) rfl Z.max bt_max (pa_cons (pv 2) (pa_cons (pv 1) pa_nil)))))
      (pss_cons (ps_if (PW.pt (pw_and (pt_cmp (pc_notN (pv 3))) (pw_and1 (pt_cmpR op_gt (pv 4) (pv 3) (nomark _)))))
      (pss_one (ps_ret pe_non))
      pss_nil)
      (pss_one (ps_ret (pe_tup (pa_cons (pv 4) (pa_cons (pv 3) pa_nil)))))))), ?_⟩
    refine ⟨_, rfl, p, _, rfl, hp, rfl, _, _, rfl, _, _, rfl, rfl, ?_⟩
    cases lo with
    | none =>
      refine ⟨_, rfl, _, rfl, iteT ⟨_, rfl, ?_⟩⟩
      cases hi with
      | none =>
        refine ⟨_, rfl, _, rfl, iteF (iteF ⟨_, rfl, _, rfl, ln2, fun l hl => ?_⟩)⟩
        exact q _ _ ⟨l, rfl, upd_same⟩ (Same.new hl)
      | some j =>
        refine ⟨_, rfl, _, rfl, iteT ⟨_, rfl, _, rfl, _, _, rfl, rfl, _, rfl, ?_⟩⟩
        refine ite2 (fun hc => ?_) (fun hc => ?_)
        · have hlt : j < botF none n := of_decide_eq_true hc
          exact q _ _ (by simp only [fromF]; rw [if_pos hlt]; rfl) (Same.refl H)
        · have hlt : ¬ j < botF none n := fun z => hc (decide_eq_true z)
          refine ⟨_, rfl, _, rfl, ln2, fun l hl => ?_⟩
          exact q _ _ (by simp only [fromF]; rw [if_neg hlt]; exact ⟨l, rfl, upd_same⟩) (Same.new hl)
    | some i =>
      refine ⟨_, rfl, _, rfl, iteF ⟨_, rfl, _, rfl, _, _, rfl, ?_⟩⟩
      cases hi with
      | none =>
        refine ⟨_, rfl, _, rfl, iteF (iteF ⟨_, rfl, _, rfl, ln2, fun l hl => ?_⟩)⟩
        exact q _ _ ⟨l, rfl, upd_same⟩ (Same.new hl)
      | some j =>
        refine ⟨_, rfl, _, rfl, iteT ⟨_, rfl, _, rfl, _, _, rfl, rfl, _, rfl, ?_⟩⟩
        refine ite2 (fun hc => ?_) (fun hc => ?_)
        · have hlt : j < botF (some i) n := of_decide_eq_true hc
          exact q _ _ (by simp only [fromF]; rw [if_pos hlt]; rfl) (Same.refl H)
        · have hlt : ¬ j < botF (some i) n := fun z => hc (decide_eq_true z)
          refine ⟨_, rfl, _, rfl, ln2, fun l hl => ?_⟩
          exact q _ _ (by simp only [fromF]; rw [if_neg hlt]; exact ⟨l, rfl, upd_same⟩) (Same.new hl)
end
end My

set_option Elab.async false
set_option linter.all false
set_option maxRecDepth 100000
namespace My
open PySem PySem.Spec PyProof.Rows L2
section
variable {P : Program} {w : World} {K : PySem.W.Frag} {mg : Str → Option Value} {base : Heap}
set_option maxHeartbeats 4000000 in
theorem ok_part_at {f : Addr} {fd : FuncData} (F : Fun K "part_at" "part_at" s_part_at f fd) (Z : Bl mg) (O_lies_in : Own P w K mg base "lies_in" 1 ["number", "stretch"] (spLiesK K)) : FnOk P w K mg base CX0 2 f fd ["stretch", "number"] (spPK K atF) := by
  refine F.ok (k := 1) sc_part_at (fun vs H Q E h => ?_) (fun cdv A outer s H vs Q E hr h => ?_)
  · obtain ⟨p, n, lo, hi, rfl, _⟩ := h
    rfl
  · obtain ⟨p, n, lo, hi, rfl, hp, q⟩ := h
    refine ⟨_, (pss_cons (ps_if (pt_val (pe_own O_lies_in (hr.mono (by decide)) rfl (pa_cons (pv 1) (pa_cons (pv 0) pa_nil))))
      (pss_one (ps_ret (pe_tup (pa_cons (pv 1) (pa_cons (pv 1) pa_nil)))))
      pss_nil)
      (pss_one (ps_ret pe_non))), ?_⟩

    refine ⟨_, rfl, _, rfl, n, p, lo, hi, rfl, hp, _, rfl, ?_⟩
    refine ite2 (fun hc => ?_) (fun hc => ?_)
    · refine ⟨_, rfl, _, rfl, ln2, fun l hl => ?_⟩
      exact q _ _ (by simp only [atF, if_pos hc]; exact ⟨l, rfl, upd_same⟩) (Same.new hl)
    · exact q _ _ (by simp only [atF, if_neg hc]; rfl) (Same.refl H)
end
end My

set_option Elab.async false
set_option linter.all false
set_option maxRecDepth 100000
namespace My
open PySem PySem.Spec PyProof.Rows L2
section
variable {P : Program} {w : World} {K : PySem.W.Frag} {mg : Str → Option Value} {base : Heap}
set_option maxHeartbeats 4000000 in
theorem ok_part_beside {f : Addr} {fd : FuncData} (F : Fun K "part_beside" "part_beside" s_part_beside f fd) (Z : Bl mg)  : FnOk P w K mg base CX0 1 f fd ["stretch", "number"] (spPK K besF) := by
  refine F.ok (k := 0) sc_part_beside (fun vs H Q E h => ?_) (fun cdv A outer s H vs Q E hr h => ?_)
  · obtain ⟨p, n, lo, hi, rfl, _⟩ := h
    rfl
  · obtain ⟨p, n, lo, hi, rfl, hp, q⟩ := h
    refine ⟨_, (pss_cons (ps_asg (pv 0) (pg_tup rfl (pgs_cons (pg_name (i := 2) sc_part_beside.nd rfl (Or.inl rfl)) (pgs_cons (pg_name (i := 3) sc_part_beside.nd rfl (Or.inl rfl)) pgs_nil))))
      (pss_cons (ps_if (PW.pt (pw_and (pt_cmpR op_eq (pv 2) (pv 1) (nomark _)) (pw_and1 (pt_cmpR op_eq (pv 3) (pv 1) (nomark _)))))
      (pss_one (ps_ret pe_non))
      pss_nil)
      (pss_cons (ps_if (pt_cmpR op_eq (pv 2) (pv 1) (nomark _))
      (pss_one (ps_ret (pe_tup (pa_cons (pe_op op_add (pv 1) pe_int) (pa_cons (pv 3) pa_nil)))))
      pss_nil)
      (pss_cons (ps_if (pt_cmpR op_eq (pv 3) (pv 1) (nomark _))
      (pss_one (ps_ret (pe_tup (pa_cons (pv 2) (pa_cons (pe_op op_sub (pv 1) pe_int) pa_nil)))))
      pss_nil)
      (pss_one (ps_ret (pe_tup (pa_cons (pv 2) (pa_cons (pv 3) pa_nil))))))))), ?_⟩
    refine ⟨_, rfl, p, _, rfl, hp, rfl, _, _, rfl, _, _, rfl, rfl, ?_⟩
    refine ⟨_, rfl, _, rfl, scal_o, _, rfl, ?_⟩
    rw [dec_o]
    refine ite2 (fun hc => ?_) (fun hc => ?_)
    · have h1 : lo = some n := of_decide_eq_true hc
      refine ⟨_, rfl, _, rfl, scal_o, _, rfl, ?_⟩
      rw [dec_o]
      refine ite2 (fun hd => ?_) (fun hd => ?_)
      · have h2 : hi = some n := of_decide_eq_true hd
        exact q _ _ (by simp only [besF, if_pos h1, if_pos h2]; rfl) (Same.refl H)
      · have h2 : ¬ hi = some n := fun z => hd (decide_eq_true z)
        refine ⟨_, rfl, _, rfl, scal_o, _, rfl, ?_⟩
        rw [dec_o, hc]
        refine iteT ⟨_, rfl, _, _, rfl, rfl, _, rfl, ln2, fun l hl => ?_⟩
        exact q _ _ (by simp only [besF, if_pos h1, if_neg h2]; exact ⟨l, rfl, upd_same⟩) (Same.new hl)
    · have h1 : ¬ lo = some n := fun z => hc (decide_eq_true z)
      refine iteF ?_
      refine ⟨_, rfl, _, rfl, scal_o, _, rfl, ?_⟩
      rw [dec_o, show decide (lo = some n) = false from decide_eq_false h1]
      refine iteF ?_
      refine ⟨_, rfl, _, rfl, scal_o, _, rfl, ?_⟩
      rw [dec_o]
      refine ite2 (fun hd => ?_) (fun hd => ?_)
      · have h2 : hi = some n := of_decide_eq_true hd
        refine ⟨_, rfl, _, rfl, _, _, rfl, rfl, ln2, fun l hl => ?_⟩
        exact q _ _ (by simp only [besF, if_neg h1, if_pos h2]; exact ⟨l, rfl, upd_same⟩) (Same.new hl)
      · have h2 : ¬ hi = some n := fun z => hd (decide_eq_true z)
        refine ⟨_, rfl, _, rfl, ln2, fun l hl => ?_⟩
        exact q _ _ (by simp only [besF, if_neg h1, if_neg h2]; exact ⟨l, rfl, upd_same⟩) (Same.new hl)
end
end My

set_option Elab.async false
set_option linter.all false
set_option maxRecDepth 100000
namespace My
open PySem PySem.Spec PyProof.Rows L2
section
variable {P : Program} {w : World} {K : PySem.W.Frag} {mg : Str → Option Value} {base : Heap}
set_option maxHeartbeats 4000000 in
theorem ok_part_of {f : Addr} {fd : FuncData} (F : Fun K "part_of" "part_of" s_part_of f fd) (Z : Bl mg) (O_part_below : Own P w K mg base "part_below" 1 ["stretch", "number"] (spPK K belowF)) (O_part_from : Own P w K mg base "part_from" 1 ["stretch", "number"] (spPK K fromF)) (O_part_at : Own P w K mg base "part_at" 2 ["stretch", "number"] (spPK K atF)) (O_part_beside : Own P w K mg base "part_beside" 1 ["stretch", "number"] (spPK K besF)) : FnOk P w K mg base CX0 3 f fd ["stretch", "word", "number", "side"] (spPartK K) := by
  refine F.ok (k := 2) sc_part_of (fun vs H Q E h => ?_) (fun cdv A outer s H vs Q E hr h => ?_)
  · obtain ⟨p, w, n, side, lo, hi, rfl, _⟩ := h
    rfl
  · obtain ⟨p, w, n, side, lo, hi, rfl, hp, q⟩ := h
    refine ⟨_, (pss_cons (ps_if (pt_cmpR op_eq (pv 1) pe_str (nomark _))
      (pss_one (ps_ret (pe_ifExp (pt_val (pv 3)) (pe_own O_part_below (hr.mono (by decide)) rfl (pa_cons (pv 0) (pa_cons (pv 2) pa_nil))) (pe_own O_part_from (hr.mono (by decide)) rfl (pa_cons (pv 0) (pa_cons (pv 2) pa_nil))))))
      pss_nil)
      (pss_one (ps_ret (pe_ifExp (pt_val (pv 3)) (pe_own O_part_at (hr.mono (by decide)) rfl (pa_cons (pv 0) (pa_cons (pv 2) pa_nil))) (pe_own O_part_beside (hr.mono (by decide)) rfl (pa_cons (pv 0) (pa_cons (pv 2) pa_nil))))))), ?_⟩

    refine ⟨_, rfl, rfl, _, rfl, ?_⟩
    by_cases hw : w = "less"
    · subst hw
      rw [less_less]
      refine iteT ⟨_, rfl, _, rfl, ?_⟩
      cases side with
      | true => exact iteT ⟨_, rfl, _, rfl, p, n, lo, hi, rfl, hp, fun v H1 r s1 => q v H1 (by simp only [partF, lessF, if_true]; exact r) s1⟩
      | false => exact iteF ⟨_, rfl, _, rfl, p, n, lo, hi, rfl, hp, fun v H1 r s1 => q v H1 (by simp only [partF, lessF, if_true, Bool.false_eq_true, if_false]; exact r) s1⟩
    · have e : decide (V.str w = V.str "less") = false := decide_eq_false fun z => hw (V.str.inj z)
      rw [e]
      refine iteF ⟨_, rfl, _, rfl, ?_⟩
      cases side with
      | true => exact iteT ⟨_, rfl, _, rfl, p, n, lo, hi, rfl, hp, fun v H1 r s1 => q v H1 (by simp only [partF, isF, if_neg hw, if_true]; exact r) s1⟩
      | false => exact iteF ⟨_, rfl, _, rfl, p, n, lo, hi, rfl, hp, fun v H1 r s1 => q v H1 (by simp only [partF, isF, if_neg hw, Bool.false_eq_true, if_false]; exact r) s1⟩
end
end My

set_option Elab.async false
set_option linter.all false
set_option maxRecDepth 100000
namespace My
open PySem PySem.Spec PyProof.Rows L2
section
variable {P : Program} {w : World} {K : PySem.W.Frag} {mg : Str → Option Value} {base : Heap}
set_option maxHeartbeats 4000000 in
theorem ok_facts_of {f : Addr} {fd : FuncData} (F : Fun K "facts_of" "facts_of" s_facts_of f fd) (Z : Bl mg) {aA : Addr} (GA : AllG K mg aA)  : FnOk P w K mg base CX0 1 f fd ["stretches"] (spFactsOf aA) := by
  refine F.ok (k := 0) sc_facts_of (fun vs H Q E h => ?_) (fun cdv A outer s H vs Q E hr h => ?_)
  · obtain ⟨d, kvs, ks, T, rfl, _⟩ := h
    rfl
  · obtain ⟨d, kvs, ks, T, rfl, hd, tb, hl, q⟩ := h
    refine ⟨_, (pss_one (ps_ret (pe_callTy call_tuple_of rfl Z.tuple bt_tuple (pa_cons (pe_lcomp ["name"] ["stretches"] [0] rfl (pi_list (pe_callB (call_sortedD rfl) rfl Z.sorted bt_sorted (pa_cons (pv 0) pa_nil))) rfl (by decide +kernel) (by decide +kernel) (by decide +kernel) ⟨⟨rfl, .inl rfl, rfl⟩, True.intro⟩ (fun _ _ _ _ => (pg_name (i := 0) (show ((["name"] : List Str) ++ (["stretches"] : List Str)).Nodup by decide +kernel) rfl (Or.inl rfl) (hf := Or.inr rfl))) (fun _ _ _ _ => (pts_one (pt_cmpR (op_neS (aA := aA) hr.units GA) (pe_dget (hu_of hr) (pv 1) (pv 0) (fun _ _ => rfl)) (pe_glob (v := .ref aA) rfl GA.mg_ rfl) (nomark _)))) (fun _ _ _ _ => (pe_tup (pa_cons (pv 0) (pa_cons (pe_dget (hu_of hr) (pv 1) (pv 0) (fun _ _ => rfl)) pa_nil))))) pa_nil)))), ?_⟩

    refine ⟨_, rfl, d, kvs, ks, rfl, hd, tb.keys, hl, fun l ss hp hs hn => ?_⟩
    have srt : Srt ss := ⟨sorted_pw hs, hp.nodup_iff.mpr tb.nd⟩
    have hl1 : (upd H l (.lst (ss.map V.str))) l = some (.lst (ss.map V.str)) := upd_same
    have s1 : Same H (upd H l (.lst (ss.map V.str))) := Same.new hn
    have hssl : ss.length < 64 := by rw [hp.length_eq]; exact hl
    generalize (upd H l (.lst (ss.map V.str))) = H1 at hl1 s1
    refine ⟨l, rfl, ⟨_, SqL.of hl1⟩, fun acc na => ?_⟩
    refine lc_list (K := K) (a := l) (xs := ss.map V.str) (fun i ys τ H' => ∃ c : Option V, τ = [c, some (.ref d)] ∧ RdDs H' ys (((ss.take i).filter fun x => !decide (T x = allS)).map (dF T)) ∧ H' acc = some (.lst ys) ∧ Same H1 H') ?_ ?_ ?_ ?_
    · exact ⟨none, rfl, .nil, upd_same, Same.new na⟩
    · rintro i ys τ H2 hi ⟨c, rfl, r, ha, s2⟩
      refine ⟨SqL.of (s2 _ _ hl1), ha, ?_⟩
      have h1 := r.len
      rw [List.length_map] at h1
      have h2 := List.length_filter_le (fun x => !decide (T x = allS)) (ss.take i)
      have h3 := List.length_take_le i ss
      have h4 : (ss.take i).length ≤ ss.length := by rw [List.length_take]; omega
      exact small1000 (by omega)
    · rintro i x ys τ H2 hi ⟨c, rfl, r, ha, s2⟩
      obtain ⟨y, hy, rfl⟩ : ∃ y, ss[i]? = some y ∧ x = V.str y := by
        rw [List.getElem?_map] at hi
        cases e : ss[i]? with
        | none => rw [e] at hi; cases hi
        | some k => rw [e] at hi; exact ⟨k, rfl, (Option.some.inj hi).symm⟩
      have hym : y ∈ ks := hp.mem_iff.mp (List.mem_of_getElem? hy)
      have tk : ss.take (i + 1) = ss.take i ++ [y] := by rw [List.take_add_one, hy]; rfl
      obtain ⟨v, ev, sv, _⟩ : ∃ v, valV kvs (Sum.inr y) = some v ∧ SV aA H v (T y) ∧ y ∈ ks := by
        rcases tb.val y with ⟨_, _, c⟩ | h
        · exact absurd hym c
        · exact h
      have sv2 : SV aA H2 v (T y) := sv.tups fun p xs e => s2 _ _ (s1 _ _ e)
      have hd2 : H2 d = some (.dK kvs) := s2 _ _ (s1 _ _ hd)
      have dg : DGet H2 d (.str y) (some v) := by
        have := DGet.k (k := Sum.inr y) hd2
        rw [ev] at this
        exact this
      refine gname_ ?_
      refine ⟨_, rfl, _, rfl, d, v, rfl, dg, T y, sv2, rfl, _, rfl, ?_⟩
      by_cases hT : T y = allS
      · refine iteFb (by rw [decide_eq_true hT]; rfl) ?_
        refine ⟨_, rfl, ?_, ha, s2⟩
        rw [tk, List.filter_append, List.filter_cons_of_neg (by rw [decide_eq_true hT]; decide), List.filter_nil, List.append_nil]
        exact r
      · refine iteTb (by rw [decide_eq_false hT]; rfl) ?_
        refine ⟨_, rfl, _, rfl, _, rfl, d, v, rfl, dg, ln2, fun t nt => ?_⟩
        have s3 := Same.new (o := .tup [.str y, v]) nt
        have ht : (upd H2 t (.tup [.str y, v])) t = some (.tup [.str y, v]) := upd_same
        generalize (upd H2 t (.tup [.str y, v])) = H3 at s3 ht
        have sh : SH H3 v (T y) := by
          rcases sv2 with h | ⟨_, h⟩
          · exact h.tups fun p xs e => s3 _ _ e
          · exact absurd h hT
        have ha3 := s3 _ _ ha
        refine ⟨ha3, _, rfl, ?_, upd_same, (s2.trans s3).put na⟩
        rw [tk, List.filter_append, List.filter_cons_of_pos (by rw [decide_eq_false hT]; rfl), List.filter_nil, List.map_append]
        refine RdDs.app ((r.same s3 (noL_f T _)).put ha3 (noL_f T _)) ?_
        refine RdD.tups (H := H3) (fun p zs e => by rw [upd_ne (ne_of e ha3 (by intro z; cases z))]; exact e) (.tup ht (.cons (.str y) (.cons sh.rd .nil))) ?_
        have := noL_f T [y]
        simpa [noLists] using this
    · rintro ys τ H2 ⟨c, rfl, r, ha, s2⟩
      rw [List.length_map, List.take_length] at r
      refine ⟨acc, ys, rfl, .inl ⟨SqL.of ha, fun t nt => ?_⟩⟩
      refine q _ _ ⟨t, ys, _, rfl, upd_same, srt.filter _, fun x => ?_, r.same (Same.new nt) (noL_f T _)⟩ ((s1.trans s2).trans (Same.new nt))
      rw [List.mem_filter]
      constructor
      · rintro ⟨_, h⟩ e
        rw [decide_eq_true e] at h
        cases h
      · intro h
        refine ⟨?_, by rw [decide_eq_false h]; rfl⟩
        rcases tb.val x with ⟨_, a, _⟩ | ⟨_, _, _, a⟩
        · exact absurd a h
        · exact hp.mem_iff.mpr a
end
end My

set_option Elab.async false
set_option linter.all false
set_option maxRecDepth 100000
namespace My
open PySem PySem.Spec PyProof.Rows L2
section
variable {P : Program} {w : World} {K : PySem.W.Frag} {mg : Str → Option Value} {base : Heap}
set_option maxHeartbeats 4000000 in
theorem ok_known {f : Addr} {fd : FuncData} (F : Fun K "known" "known" s_known f fd) (Z : Bl mg) {aA : Addr} (GA : AllG K mg aA)  : FnOk P w K mg base CX0 1 f fd ["facts", "name"] (spKnown aA) := by
  refine F.ok (k := 0) sc_known (fun vs H Q E h => ?_) (fun cdv A outer s H vs Q E hr h => ?_)
  · obtain ⟨fv, x, T, rfl, _⟩ := h
    rfl
  · obtain ⟨fv, x, T, rfl, hf, q⟩ := h
    refine ⟨_, (pss_one (ps_ret (pe_dget2v (hu_of hr) (pe_callTy (call_dict_pairs rfl) rfl Z.dict bt_dict (pa_cons (pv 0) pa_nil)) (pv 1) (pe_glob (v := .ref aA) rfl GA.mg_ rfl) ⟨rfl, rfl, rfl, rfl⟩))), ?_⟩

    obtain ⟨fp, xs, ss, rfl, hfp, srt, hmem, rf⟩ := hf
    obtain ⟨kvs, l1, l2, l3, tb⟩ := FV.tb aA srt hmem rf
    refine ⟨_, rfl, fp, xs, kvs, rfl, hfp, l1, l2, l3, fun d nd => ?_⟩
    obtain ⟨v, ev, sv⟩ := tb.getD x
    exact ⟨d, rfl, .inl ⟨kvs, .inl upd_same⟩, _, rfl, _, v, DGet.k (k := Sum.inr x) upd_same, ev, q v _ (sv.tups fun p zs e => Same.new nd _ _ e) (Same.new nd)⟩
end
end My

set_option Elab.async false
set_option linter.all false
set_option maxRecDepth 100000
namespace My
open PySem PySem.Spec PyProof.Rows L2
section
variable {P : Program} {w : World} {K : PySem.W.Frag} {mg : Str → Option Value} {base : Heap}
set_option maxHeartbeats 4000000 in
theorem ok_with_known {f : Addr} {fd : FuncData} (F : Fun K "with_known" "with_known" s_with_known f fd) (Z : Bl mg) {aA : Addr} (GA : AllG K mg aA) (O_facts_of : Own P w K mg base "facts_of" 1 ["stretches"] (spFactsOf aA)) : FnOk P w K mg base CX0 2 f fd ["facts", "name", "stretch"] (spWithKnown aA) := by
  refine F.ok (k := 1) sc_with_known (fun vs H Q E h => ?_) (fun cdv A outer s H vs Q E hr h => ?_)
  · obtain ⟨fv, sv, x, T, s, rfl, _⟩ := h
    rfl
  · obtain ⟨fv, sv, x, T, s, rfl, hf, hs, few, q⟩ := h
    refine ⟨_, (pss_cons (ps_set (i := 3) sc_with_known.nd rfl (Or.inl rfl) (pe_callTy (call_dict_pairs rfl) rfl Z.dict bt_dict (pa_cons (pv 0) pa_nil)))
      (pss_cons (ps_dput (hu_of hr) (pv 3) (pv 1) (pv 2) rfl)
      (pss_one (ps_ret (pe_own O_facts_of (hr.mono (by decide)) rfl (pa_cons (pv 3) pa_nil)))))), ?_⟩

    obtain ⟨fp, xs, ss, rfl, hfp, srt, hmem, rf⟩ := hf
    obtain ⟨kvs, l1, l2, l3, tb⟩ := FV.tb aA srt hmem rf
    have hssl : ss.length ≤ 62 := few ss (fun x hx => (hmem x).mp hx) srt.nd
    have kl : kvs.length = ss.length := by have := congrArg List.length tb.keys; simpa using this
    refine ⟨_, rfl, fp, xs, kvs, rfl, hfp, l1, l2, l3, fun d nd => ?_⟩
    have k1 : ∀ p zs, H p = some (.tup zs) → (upd H d (.dK kvs)) p = some (.tup zs) := fun p zs e => Same.new nd _ _ e
    refine ⟨_, rfl, _, rfl, _, rfl, d, _, rfl, DPut.k (k := Sum.inr x) upd_same (small1000 (by omega)), ?_⟩
    obtain ⟨ks2, t2, k2, m2⟩ := (tb.tups k1).put x (hs.tups k1)
    have hd1 : (upd H d (.dK kvs)) d = some (.dK kvs) := upd_same
    refine ⟨_, rfl, d, _, ks2, _, rfl, upd_same, t2.tups (fun p zs e => by rw [upd_ne (ne_of e hd1 (by intro z; cases z))]; exact e), (by omega), fun v H2 f2 s2 => q v H2 f2 (((Same.new nd).put nd).trans s2)⟩
end
end My

set_option Elab.async false
set_option linter.all false
set_option maxRecDepth 100000
namespace My
open PySem PySem.Spec PyProof.Rows L2
section
variable {P : Program} {w : World} {K : PySem.W.Frag} {mg : Str → Option Value} {base : Heap}
set_option maxHeartbeats 4000000 in
theorem ok_known_beyond {f : Addr} {fd : FuncData} (F : Fun K "known_beyond" "known_beyond" s_known_beyond f fd) (Z : Bl mg) {aA : Addr} (GA : AllG K mg aA) (O_ways_on : Own P w K mg base "ways_on" 3 ["end"] spWays) (O_known : Own P w K mg base "known" 1 ["facts", "name"] (spKnown aA)) (O_part_of : Own P w K mg base "part_of" 3 ["stretch", "word", "number", "side"] (spPartK K)) (O_with_known : Own P w K mg base "with_known" 2 ["facts", "name", "stretch"] (spWithKnown aA)) : FnOk P w K mg base CX0 4 f fd ["facts", "end"] (spBeyond aA) := by
  refine F.ok (k := 3) sc_known_beyond (fun vs H Q E h => ?_) (fun cdv A outer s H vs Q E hr h => ?_)
  · obtain ⟨fv, ea, T, e, rfl, _⟩ := h
    rfl
  · obtain ⟨fv, ea, T, e, rfl, hf, he, few, q⟩ := h
    refine ⟨_, (pss_cons (ps_set (i := 2) sc_known_beyond.nd rfl (Or.inl rfl) (pe_own O_ways_on (hr.mono (by decide)) rfl (pa_cons (pv 1) pa_nil)))
      (pss_cons (ps_if (pt_cmpR op_lt (pe_callB call_len_seq rfl Z.len bt_len (pa_cons (pv 2) pa_nil)) pe_int (nomark _))
      (pss_one (ps_ret (pe_callTy call_tuple_of rfl Z.tuple bt_tuple (pa_cons (pe_lcomp ["way"] ["facts"] [0] rfl (pi_tup (pv 2)) rfl (by decide +kernel) (by decide +kernel) (by decide +kernel) ⟨⟨rfl, .inl rfl, rfl⟩, True.intro⟩ (fun _ _ _ _ => (pg_name (i := 0) (show ((["way"] : List Str) ++ (["facts"] : List Str)).Nodup by decide +kernel) rfl (Or.inl rfl) (hf := Or.inr rfl))) (fun _ _ _ _ => pts_nil) (fun _ _ _ _ => (pv 1))) pa_nil))))
      pss_nil)
      (pss_cons (ps_cut (ps_asg (pe_tup (pa_cons (pe_ix ix_tup (pv 1) pe_int (fun _ _ => rfl)) (pa_cons (pe_ix ix_tup (pv 1) pe_int (fun _ _ => rfl)) (pa_cons (pe_ix ix_tup (pv 1) pe_int (fun _ _ => rfl)) pa_nil)))) (pg_tup rfl (pgs_cons (pg_name (i := 3) sc_known_beyond.nd rfl (Or.inr rfl)) (pgs_cons (pg_name (i := 4) sc_known_beyond.nd rfl (Or.inr rfl)) (pgs_cons (pg_name (i := 5) sc_known_beyond.nd rfl (Or.inr rfl)) pgs_nil))))))
      (pss_cons (ps_set (i := 6) sc_known_beyond.nd rfl (Or.inr rfl) (pe_own O_known (hr.mono (by decide)) rfl (pa_cons (pv 0) (pa_cons (pv 4) pa_nil))))
      (pss_cons (ps_setLC (i := 7) ["side"] ["stretch", "word", "number"] [6, 3, 5] rfl sc_known_beyond.nd rfl rfl rfl (pi_tup (pe_tup (pa_cons pe_bl (pa_cons pe_bl pa_nil)))) rfl (by decide +kernel) (by decide +kernel) (by decide +kernel) ⟨⟨rfl, .inl rfl, rfl⟩, ⟨⟨rfl, .inl rfl, rfl⟩, ⟨⟨rfl, .inl rfl, rfl⟩, True.intro⟩⟩⟩ (fun _ _ _ _ => (pg_name (i := 0) (show ((["side"] : List Str) ++ (["stretch", "word", "number"] : List Str)).Nodup by decide +kernel) rfl (Or.inl rfl) (hf := Or.inr rfl))) (fun _ _ _ _ => pts_nil) (fun _ _ _ _ => (pe_own O_part_of (hr.mono (by decide)) rfl (pa_cons (pv 1) (pa_cons (pv 2) (pa_cons (pv 3) (pa_cons (pv 0) pa_nil)))))))
      (pss_one (ps_ret (pe_callTy call_tuple_of rfl Z.tuple bt_tuple (pa_cons (pe_lcomp ["part"] ["facts", "name"] [0, 4] rfl (pi_list (pv 7)) rfl (by decide +kernel) (by decide +kernel) (by decide +kernel) ⟨⟨rfl, .inl rfl, rfl⟩, ⟨⟨rfl, .inl rfl, rfl⟩, True.intro⟩⟩ (fun _ _ _ _ => (pg_name (i := 0) (show ((["part"] : List Str) ++ (["facts", "name"] : List Str)).Nodup by decide +kernel) rfl (Or.inl rfl) (hf := Or.inr rfl))) (fun _ _ _ _ => pts_nil) (fun _ _ _ _ => (pe_ifExp (pt_cmp (pc_isN (pv 0))) pe_non (pe_own O_with_known (hr.mono (by decide)) rfl (pa_cons (pv 1) (pa_cons (pv 2) (pa_cons (pv 0) pa_nil))))))) pa_nil))))))))), ?_⟩

    refine ⟨_, rfl, ea, e, rfl, he, fun wt H1 hw s1 => ?_⟩
    have he1 := s1 _ _ he
    have hf1 := hf.same s1
    refine ⟨_, rfl, wt, _, rfl, .inr (SqT.of hw), _, _, rfl, rfl, _, rfl, ?_⟩
    by_cases hl : (waysE e).length < 2
    · refine iteTb (decide_eq_true (by rw [List.length_map]; omega)) ?_
      refine ⟨_, rfl, wt, rfl, ⟨_, SqT.of hw⟩, fun acc na => ?_⟩
      refine lc_tup (K := K) (a := wt) (xs := (waysE e).map fun k => V.int (k : Nat)) (fun i zs τ H' => ∃ c : Option V, τ = [c, some fv] ∧ zs = List.replicate i fv ∧ H' acc = some (.lst zs) ∧ Same H1 H') ?_ ?_ ?_ ?_
      · exact ⟨none, rfl, rfl, upd_same, Same.new na⟩
      · rintro i zs τ H2 hi ⟨c, rfl, rfl, ha, s2⟩
        refine ⟨SqT.of (s2 _ _ hw), ha, ?_⟩
        rw [List.length_replicate]
        rw [List.length_map] at hi
        exact small1000 (by omega)
      · rintro i x zs τ H2 hi ⟨c, rfl, rfl, ha, s2⟩
        refine gname_ ?_
        refine yes_ ?_
        refine iteT ?_
        refine ⟨_, rfl, ha, _, rfl, ?_, upd_same, s2.put na⟩
        rw [← List.replicate_succ']
      · rintro zs τ H2 ⟨c, rfl, rfl, ha, s2⟩
        rw [List.length_map] at ha
        refine ⟨acc, _, rfl, .inl ⟨SqL.of ha, fun t nt => ?_⟩⟩
        refine q t _ _ upd_same ?_ ((s1.trans s2).trans (Same.new nt))
        rw [bey_few hl]
        exact bvs_rep (hf1.same (s2.trans (Same.new nt))) _
    · refine iteFb (decide_eq_false (by rw [List.length_map]; omega)) ?_
      cases e with
      | stop => exact absurd (by show 0 < 2; omega) hl
      | go p => exact absurd (by show 1 < 2; omega) hl
      | tst b x n p r =>
        refine ⟨fun σ' H' => σ' = [some fv, some (.ref ea), some (.ref wt), some (.str (wT b)), some (.str x), some (.int n), none, none] ∧ Same H1 H', ?_, ?_⟩
        · refine ⟨_, rfl, ea, _, 0, _, rfl, rfl, SqT.of he1, at0, _, rfl, ea, _, 1, _, rfl, rfl, SqT.of he1, at1, _, rfl, ea, _, 2, _, rfl, rfl, SqT.of he1, at2, ln3, fun tt htt => ?_⟩
          exact ⟨tt, _, rfl, SqT.of upd_same, rfl, _, _, rfl, _, _, rfl, _, _, rfl, rfl, rfl, Same.new htt⟩
        rintro σ' H2 ⟨rfl, s2⟩
        refine ⟨_, rfl, _, rfl, fv, x, T, rfl, hf1.same s2, fun sv H3 hsv s3 => ?_⟩
        obtain ⟨sp, rfl, hsp⟩ := hsv.sq GA
        have s13 := s2.trans s3
        refine ⟨ln2, fun st hst => ⟨st, rfl, ⟨_, SqT.of upd_same⟩, fun acc na => ?_⟩⟩
        have s4 := Same.new (o := .tup [.bl true, .bl false]) hst
        have hst4 : (upd H3 st (.tup [.bl true, .bl false])) st = some (.tup [.bl true, .bl false]) := upd_same
        generalize (upd H3 st (.tup [.bl true, .bl false])) = H4 at s4 hst4 na
        refine lc_tup (K := K) (a := st) (xs := [.bl true, .bl false]) (fun i zs τ H' => ∃ c : Option V, τ = [c, some (.ref sp), some (.str (wT b)), some (.int n)] ∧ RVs H' zs ([prt T b x n true, prt T b x n false].take i) ∧ H' acc = some (.lst zs) ∧ Same H4 H') ?_ ?_ ?_ ?_
        · exact ⟨none, rfl, .nil, upd_same, Same.new na⟩
        · rintro i zs τ H5 hi ⟨c, rfl, rv, ha, s5⟩
          refine ⟨SqT.of (s5 _ _ hst4), ha, ?_⟩
          have h1 := Paired.length rv
          rw [List.length_take] at h1
          exact small1000 (by rw [h1]; exact Nat.le_trans (Nat.min_le_right _ _) (by show 2 ≤ 1000; decide))
        · rintro i y zs τ H5 hi ⟨c, rfl, rv, ha, s5⟩
          obtain ⟨side, rfl, hsd⟩ : ∃ side : Bool, y = .bl side ∧ [prt T b x n true, prt T b x n false][i]? = some (prt T b x n side) := by
            match i, hi with
            | 0, hi => cases hi; exact ⟨true, rfl, rfl⟩
            | 1, hi => cases hi; exact ⟨false, rfl, rfl⟩
            | i + 2, hi => simp at hi
          refine gname_ ?_
          refine yes_ ?_
          refine iteT ?_
          refine ⟨_, rfl, _, rfl, _, rfl, _, rfl, sp, wT b, n, side, _, _, rfl, hsp.same (s4.trans s5), fun v H6 r6 s6 => ?_⟩
          have ha6 := s6 _ _ ha
          refine ⟨ha6, _, rfl, ?_, upd_same, (s5.trans s6).put na⟩
          rw [List.take_add_one, hsd]
          exact paired_app ((rv.same s6).put ha6) (.cons (RV.put r6 ha6) .nil)
        · rintro zs τ H5 ⟨c, rfl, rv, ha, s5⟩
          have s15 := s13.trans (s4.trans s5)
          have rv : RVs H5 zs [prt T b x n true, prt T b x n false] := rv
          have rvl : zs.length = 2 := Paired.length rv
          refine ⟨_, rfl, acc, rfl, ⟨_, SqL.of ha⟩, fun ac2 na2 => ?_⟩
          refine lc_list (K := K) (a := acc) (xs := zs) (fun i us τ H' => ∃ c : Option V, τ = [c, some fv, some (.str x)] ∧ BVs H' us ((beyF T (.tst b x n p r)).take i) ∧ H' ac2 = some (.lst us) ∧ Same H5 H') ?_ ?_ ?_ ?_
          · exact ⟨none, rfl, .nil, upd_same, Same.new na2⟩
          · rintro i us τ H6 hi ⟨c, rfl, bv, ha2, s6⟩
            refine ⟨SqL.of (s6 _ _ ha), ha2, ?_⟩
            have h1 := Paired.length bv
            rw [List.length_take] at h1
            exact small1000 (by rw [h1]; exact Nat.le_trans (Nat.min_le_right _ _) (by show 2 ≤ 1000; decide))
          · rintro i y us τ H6 hi ⟨c, rfl, bv, ha2, s6⟩
            obtain ⟨rs, hrs, hry⟩ := paired_at rv hi
            have hb : (beyF T (.tst b x n p r))[i]? = some (rs.map (setT T x)) := by
              show ([prt T b x n true, prt T b x n false].map fun z : Rs => Option.map (setT T x) z)[i]? = _
              rw [List.getElem?_map, hrs]; rfl
            refine gname_ ?_
            refine yes_ ?_
            refine iteT ?_
            cases rs with
            | none =>
              cases (show y = V.non from hry)
              refine ⟨_, rfl, _, rfl, iteT ?_⟩
              refine ⟨ha2, _, rfl, ?_, upd_same, s6.put na2⟩
              rw [List.take_add_one, hb]
              refine paired_app (bv.tups fun p zs e => ?_) (.cons rfl .nil)
              rw [upd_ne (ne_of e ha2 (by intro z; cases z))]; exact e
            | some s =>
              have hsv6 : SV aA H6 y s := RV.sv (hry.same s6)
              obtain ⟨yp, rfl, hyp⟩ : ∃ yp, y = .ref yp ∧ True := by
                obtain ⟨a1, b1⟩ := s
                obtain ⟨yp, e, _⟩ := hry
                exact ⟨yp, e, trivial⟩
              refine ⟨_, rfl, _, rfl, iteF ?_⟩
              refine ⟨_, rfl, _, rfl, _, rfl, fv, .ref yp, x, T, s, rfl, hf1.same (s13.trans (s4.trans (s5.trans s6))), hsv6, few, fun v H7 f7 s7 => ?_⟩
              have ha7 := s7 _ _ ha2
              refine ⟨ha7, _, rfl, ?_, upd_same, (s6.trans s7).put na2⟩
              rw [List.take_add_one, hb]
              have kt : ∀ p zs, H7 p = some (.tup zs) → (upd H7 ac2 (.lst (us ++ [v]))) p = some (.tup zs) := fun p zs e => by rw [upd_ne (ne_of e ha7 (by intro z; cases z))]; exact e
              exact paired_app ((bv.same s7).tups kt) (.cons (FV.tups f7 kt) .nil)
          · rintro us τ H6 ⟨c, rfl, bv, ha2, s6⟩
            rw [rvl] at bv
            refine ⟨ac2, _, rfl, .inl ⟨SqL.of ha2, fun t nt => ?_⟩⟩
            exact q t _ _ upd_same (BVs.same (show BVs H6 us (beyF T (.tst b x n p r)) from bv) (Same.new nt)) ((s1.trans (s15.trans s6)).trans (Same.new nt))
end
end My

set_option Elab.async false
set_option linter.all false
set_option maxRecDepth 100000
namespace My
open PySem PySem.Spec PyProof.Rows L2
section
variable {P : Program} {w : World} {K : PySem.W.Frag} {mg : Str → Option Value} {base : Heap}
set_option maxHeartbeats 4000000 in
theorem ok_leads {f : Addr} {fd : FuncData} (F : Fun K "leads" "leads" s_leads f fd) (Z : Bl mg) (O_known_beyond : Own P w K mg base "known_beyond" 4 ["facts", "end"] (spBeyond aA)) (O_ways_on : Own P w K mg base "ways_on" 3 ["end"] spWays) : FnOk P w K mg base CX0 5 f fd ["facts", "end"] (spLeads aA) := by
  refine F.ok (k := 4) sc_leads (fun vs H Q E h => ?_) (fun cdv A outer s H vs Q E hr h => ?_)
  · obtain ⟨fv, ea, T, e, rfl, _⟩ := h
    rfl
  · obtain ⟨fv, ea, T, e, rfl, hf, he, few, q⟩ := h
    refine ⟨_, (pss_cons (ps_set (i := 2) sc_leads.nd rfl (Or.inl rfl) (pe_own O_known_beyond (hr.mono (by decide)) rfl (pa_cons (pv 0) (pa_cons (pv 1) pa_nil))))
      (pss_one (ps_ret (pe_callTy call_tuple_of rfl Z.tuple bt_tuple (pa_cons (pe_lcomp ["way", "there"] [] [] rfl (pi_zip rfl Z.zip (pa_cons (pe_own O_ways_on (hr.mono (by decide)) rfl (pa_cons (pv 1) pa_nil)) (pa_cons (pv 2) pa_nil))) rfl (by decide +kernel) (by decide +kernel) (by decide +kernel) True.intro (fun _ _ _ _ => (pg_tupK (K := K) (n := 2) rfl (pg_tup (n := 2) rfl (pgs_cons (pg_name (i := 0) (show ((["way", "there"] : List Str) ++ ([] : List Str)).Nodup by decide +kernel) rfl (Or.inl rfl) (hf := Or.inr rfl)) (pgs_cons (pg_name (i := 1) (show ((["way", "there"] : List Str) ++ ([] : List Str)).Nodup by decide +kernel) rfl (Or.inl rfl) (hf := Or.inr rfl)) pgs_nil))))) (fun _ _ _ _ => (pts_one (pt_cmp (pc_notN (pv 1))))) (fun _ _ _ _ => (pe_tup (pa_cons (pv 0) (pa_cons (pv 1) pa_nil))))) pa_nil))))), ?_⟩

    refine ⟨_, rfl, _, rfl, fv, ea, T, e, rfl, hf, he, few, fun bt us H1 hb bv s1 => ?_⟩
    refine ⟨_, rfl, ea, e, rfl, s1 _ _ he, fun wt H2 hw s2 => ?_⟩
    have hb2 := s2 _ _ hb
    have bv2 := bv.same s2
    refine ⟨_, rfl, wt, bt, rfl, ⟨_, SqT.of hw⟩, ⟨_, SqT.of hb2⟩, fun acc na => ?_⟩
    refine lc_zip (K := K) (a := wt) (b := bt) (xs := (waysE e).map fun k => V.int (k : Nat)) (ys := us) (fun i zs τ H' => ∃ (c1 c2 : Option V), τ = [c1, c2] ∧ PVs H' zs ((((waysE e).zip (beyF T e)).take i).filterMap fun p => p.2.map fun U => (p.1, U)) ∧ zs.length ≤ i ∧ H' acc = some (.lst zs) ∧ Same H2 H') ?_ ?_ ?_ ?_
    · exact ⟨none, none, rfl, .nil, Nat.le_refl _, upd_same, Same.new na⟩
    · rintro i zs τ H3 hi ⟨c1, c2, rfl, pv, hz, ha, s3⟩
      refine ⟨SqT.of (s3 _ _ hw), SqT.of (s3 _ _ hb2), ha, ?_⟩
      have h1 : i ≤ (waysE e).length := by rw [List.length_map] at hi; omega
      have h2 : (waysE e).length ≤ 2 := by cases e <;> (show _ ≤ 2) <;> simp [waysE]
      exact small1000 (by omega)
    · rintro i x y zs τ H3 u hx hy hu ⟨c1, c2, rfl, pv, hz, ha, s3⟩
      obtain ⟨k, hk, rfl⟩ : ∃ k, (waysE e)[i]? = some k ∧ x = V.int (k : Nat) := by
        rw [List.getElem?_map] at hx
        cases z : (waysE e)[i]? with
        | none => rw [z] at hx; cases hx
        | some k => rw [z] at hx; exact ⟨k, rfl, (Option.some.inj hx).symm⟩
      obtain ⟨o, ho, hyo⟩ := paired_at bv2 hy
      have hnext := lead_take (T := T) hk ho
      have su := Same.new (o := .tup [.int (k : Nat), y]) hu
      have hu4 : (upd H3 u (.tup [.int (k : Nat), y])) u = some (.tup [.int (k : Nat), y]) := upd_same
      generalize (upd H3 u (.tup [.int (k : Nat), y])) = H4 at su hu4
      refine ⟨u, _, rfl, SqT.of hu4, rfl, _, _, rfl, _, _, rfl, rfl, ?_⟩
      refine ⟨_, rfl, _, rfl, ?_⟩
      cases o with
      | none =>
        cases (show y = V.non from hyo)
        refine iteF ?_
        refine ⟨_, _, rfl, ?_, Nat.le_succ_of_le hz, su _ _ ha, s3.trans su⟩
        rw [hnext]
        simpa using pv.same su
      | some U =>
        obtain ⟨yp, zsy, ssy, rfl, _⟩ := id hyo
        refine iteT ?_
        refine ⟨_, rfl, _, rfl, ln2, fun t nt => ?_⟩
        have s5 := Same.new (o := .tup [.int (k : Nat), .ref yp]) nt
        have ht : (upd H4 t (.tup [.int (k : Nat), .ref yp])) t = some (.tup [.int (k : Nat), .ref yp]) := upd_same
        generalize (upd H4 t (.tup [.int (k : Nat), .ref yp])) = H5 at s5 ht
        have ha5 := s5 _ _ (su _ _ ha)
        have kt : ∀ p ws, H5 p = some (.tup ws) → (upd H5 acc (.lst (zs ++ [V.ref t]))) p = some (.tup ws) := fun p ws e => by rw [upd_ne (ne_of e ha5 (by intro z; cases z))]; exact e
        refine ⟨ha5, _, _, rfl, ?_, (by rw [List.length_append]; show _ + 1 ≤ _; omega), upd_same, (s3.trans (su.trans s5)).put na⟩
        rw [hnext]
        exact paired_app ((pv.same (su.trans s5)).tups kt) (.cons ⟨t, .ref yp, rfl, kt _ _ ht, FV.tups (FV.same hyo (s3.trans (su.trans s5))) kt⟩ .nil)
    · rintro zs τ H3 ⟨c1, c2, rfl, pv, hz, ha, s3⟩
      have hm : min ((waysE e).map fun k => V.int (k : Nat)).length us.length = ((waysE e).zip (beyF T e)).length := by
        rw [List.length_zip, List.length_map, Paired.length bv2]
      rw [hm, List.take_length] at pv
      refine ⟨acc, _, rfl, .inl ⟨SqL.of ha, fun t nt => ?_⟩⟩
      exact q t zs _ upd_same (PVs.same (show PVs H3 zs (leadF T e) from pv) (Same.new nt)) (((s1.trans s2).trans s3).trans (Same.new nt))
end
end My

set_option Elab.async false
set_option linter.all false
set_option maxRecDepth 100000
namespace My
open PySem PySem.Spec PyProof.Rows L2
section
variable {P : Program} {w : World} {K : PySem.W.Frag} {mg : Str → Option Value} {base : Heap}
set_option maxHeartbeats 4000000 in
theorem ok_start {f : Addr} {fd : FuncData} (F : Fun K "start" "start" s_start f fd) (Z : Bl mg) (O_names_of : Own P w K mg base "names_of" 3 ["plan"] spNamesOf) : FnOk P w K mg base CX0 4 f fd ["plan"] spStart := by
  refine F.ok (k := 3) sc_start (fun vs H Q E h => ?_) (fun cdv A outer s H vs Q E hr h => ?_)
  · obtain ⟨plv, ps, xs, m, rfl, _⟩ := h
    rfl
  · obtain ⟨plv, ps, xs, m, rfl, hp, pok, hx, hal, q⟩ := h
    refine ⟨_, (pss_one (ps_ret (pe_callTy call_tuple_of rfl Z.tuple bt_tuple (pa_cons (pe_lcomp ["name"] [] [] rfl (pi_tup (pe_own O_names_of (hr.mono (by decide)) rfl (pa_cons (pv 0) pa_nil))) rfl (by decide +kernel) (by decide +kernel) (by decide +kernel) True.intro (fun _ _ _ _ => (pg_name (i := 0) (show ((["name"] : List Str) ++ ([] : List Str)).Nodup by decide +kernel) rfl (Or.inl rfl) (hf := Or.inr rfl))) (fun _ _ _ _ => pts_nil) (fun _ _ _ _ => (pe_tup (pa_cons (pv 0) (pa_cons (pe_tup (pa_cons pe_int (pa_cons pe_int pa_nil))) pa_nil))))) pa_nil)))), ?_⟩

    refine ⟨_, rfl, plv, ps, xs, m, rfl, hp, pok, hx, hal, fun nt ss H1 hnt hperm hsort hsl s1 => ?_⟩
    refine ⟨nt, rfl, ⟨_, SqT.of hnt⟩, fun acc na => ?_⟩
    refine lc_tup (K := K) (a := nt) (xs := ss.map V.str) (fun i zs τ H' => ∃ c : Option V, τ = [c] ∧ RdDs H' zs ((ss.take i).map fun x => .tuple [.str x, .tuple [.int 0, .int 0]]) ∧ H' acc = some (.lst zs) ∧ Same H1 H') ?_ ?_ ?_ ?_
    · exact ⟨none, rfl, .nil, upd_same, Same.new na⟩
    · rintro i zs τ H2 hi ⟨c, rfl, r, ha, s2⟩
      refine ⟨SqT.of (s2 _ _ hnt), ha, ?_⟩
      have h1 := r.len
      rw [List.length_map, List.length_take] at h1
      exact small1000 (by omega)
    · rintro i x zs τ H2 hi ⟨c, rfl, r, ha, s2⟩
      obtain ⟨y, hy, rfl⟩ : ∃ y, ss[i]? = some y ∧ x = V.str y := by
        rw [List.getElem?_map] at hi
        cases e : ss[i]? with
        | none => rw [e] at hi; cases hi
        | some k => rw [e] at hi; exact ⟨k, rfl, (Option.some.inj hi).symm⟩
      refine gname_ ?_
      refine yes_ ?_
      refine iteT ?_
      refine ⟨_, rfl, ln2, fun t1 n1 => ⟨ln2, fun t2 n2 => ?_⟩⟩
      have q1 := Same.new (o := .tup [.int 0, .int 0]) n1
      have q2 := Same.new (o := .tup [.str y, .ref t1]) n2
      have ha3 := q2 _ _ (q1 _ _ ha)
      have kt : ∀ p ws, (upd (upd H2 t1 (.tup [.int 0, .int 0])) t2 (.tup [.str y, .ref t1])) p = some (.tup ws) → (upd (upd (upd H2 t1 (.tup [.int 0, .int 0])) t2 (.tup [.str y, .ref t1])) acc (.lst (zs ++ [V.ref t2]))) p = some (.tup ws) := fun p ws e => by rw [upd_ne (ne_of e ha3 (by intro z; cases z))]; exact e
      refine ⟨ha3, _, rfl, ?_, upd_same, ((s2.trans q1).trans q2).put na⟩
      rw [List.take_add_one, hy, List.map_append]
      exact (((r.same q1 (noL_start _)).same q2 (noL_start _)).tups kt (noL_start _)).app (.tup (kt _ _ upd_same) (.cons (.str _) (.cons (.tup (kt _ _ (q2 _ _ upd_same)) (.cons (.int _) (.cons (.int _) .nil))) .nil)))
    · rintro zs τ H2 ⟨c, rfl, r, ha, s2⟩
      rw [List.length_map, List.take_length] at r
      refine ⟨acc, _, rfl, .inl ⟨SqL.of ha, fun t ht => ?_⟩⟩
      exact q (.ref t) ss _ (.tup upd_same (r.same (Same.new ht) (noL_start _))) hperm hsort ((s1.trans s2).trans (Same.new ht))
end
end My

set_option Elab.async false
set_option linter.all false
set_option maxRecDepth 100000
namespace My
open PySem PySem.Spec PyProof.Rows L2
section
variable {P : Program} {w : World} {K : PySem.W.Frag} {mg : Str → Option Value} {base : Heap}
set_option maxHeartbeats 4000000 in
theorem ok_law_bag {f : Addr} {fd : FuncData} (F : Fun K "_law_bag" "_law_bag" s_law_bag f fd) (Z : Bl mg)  : FnOk P w K mg base CX0 1 f fd ["script", "k"] (spBag K) := by
  refine F.ok (k := 0) sc_law_bag (fun vs H Q E h => ?_) (fun cdv A outer s H vs Q E hr h => ?_)
  · obtain ⟨a, ns, k, rfl, _⟩ := h
    rfl
  · obtain ⟨a, ns, k, rfl, hS, hk, q⟩ := h
    refine ⟨_, (pss_cons (ps_set (i := 2) sc_law_bag.nd rfl (Or.inl rfl) pe_int)
      (pss_cons (ps_if (pt_cmpR op_lt (pv 1) (pe_callB call_len_seq rfl Z.len bt_len (pa_cons (pv 0) pa_nil)) (nomark _))
      (pss_one (ps_set (i := 2) sc_law_bag.nd rfl (Or.inl rfl) (pe_op op_mod (pe_ix ix_list (pv 0) (pv 1) (fun _ _ => rfl)) (pe_op op_mulB (pe_op op_pow pe_int pe_int) (pe_op op_pow pe_int pe_int)))))
      pss_nil)
      (pss_cons (ps_if (pt_cmpR op_lt (pv 2) (pe_op op_pow pe_int pe_int) (nomark _))
      (pss_one (ps_ret (pe_lst (pa_cons pe_int (pa_cons (pe_op op_add pe_int (pe_op op_mod (pe_op op_add (pe_op op_mul (pv 2) pe_int) (pe_op op_mul pe_int (pv 1))) pe_int)) pa_nil)))))
      pss_nil)
      (pss_one (ps_ret (pe_lst (pa_cons (pv 2) (pa_cons (pe_op op_add pe_int (pe_op op_mod (pe_op op_add (pv 2) (pv 1)) pe_int)) pa_nil)))))))), ?_⟩

    refine ⟨_, rfl, _, rfl, _, _, rfl, .inl hS, _, _, rfl, rfl, _, rfl, ?_⟩
    refine ite2 (fun hc => ?_) (fun hc => ?_)
    · have hl : k < ((ns.map V.int).length : Nat) := of_decide_eq_true hc
      obtain ⟨v, hv, hm⟩ := at_in hk hl
      obtain ⟨z, _, rfl⟩ := List.mem_map.mp hm
      refine ⟨_, rfl, _, rfl, _, _, _, _, rfl, rfl, hS, hv, 10, 60, rfl, rfl, ⟨by decide, by decide, by decide⟩, 10, 60, rfl, rfl, ⟨by decide, by decide, by decide⟩, _, _, rfl, rfl, (by unfold IntMulOk; decide +kernel), _, _, rfl, rfl, (show (0 : Int) < 10 ^ (60 : Int).toNat * 10 ^ (60 : Int).toNat by decide +kernel), ?_⟩
      refine ⟨_, rfl, 10, 18, rfl, rfl, ⟨by decide, by decide, by decide⟩, _, _, rfl, rfl, _, rfl, ?_⟩
      refine ite2 (fun hd => ?_) (fun hd => ?_)
      · refine ⟨_, rfl, _, _, rfl, rfl, .inr ⟨by decide, by decide⟩, _, rfl, _, _, rfl, rfl, .inl ⟨by decide, by decide⟩, _, _, rfl, rfl, _, _, rfl, rfl, (show (0 : Int) < 2147483646 by decide), _, _, rfl, rfl, ln2, fun p hp => ?_⟩
        exact q p _ hp ⟨_, _, upd_same, by omega, by omega⟩ (Same.new hp)
      · refine ⟨_, rfl, _, rfl, _, rfl, _, _, rfl, rfl, _, _, rfl, rfl, (show (0 : Int) < 2147483646 by decide), _, _, rfl, rfl, ln2, fun p hp => ?_⟩
        exact q p _ hp ⟨_, _, upd_same, by omega, by omega⟩ (Same.new hp)
    · refine ⟨_, rfl, 10, 18, rfl, rfl, ⟨by decide, by decide, by decide⟩, _, _, rfl, rfl, _, rfl, ?_⟩
      refine ite2 (fun hd => ?_) (fun hd => ?_)
      · refine ⟨_, rfl, _, _, rfl, rfl, .inr ⟨by decide, by decide⟩, _, rfl, _, _, rfl, rfl, .inl ⟨by decide, by decide⟩, _, _, rfl, rfl, _, _, rfl, rfl, (show (0 : Int) < 2147483646 by decide), _, _, rfl, rfl, ln2, fun p hp => ?_⟩
        exact q p _ hp ⟨_, _, upd_same, by omega, by omega⟩ (Same.new hp)
      · refine ⟨_, rfl, _, rfl, _, rfl, _, _, rfl, rfl, _, _, rfl, rfl, (show (0 : Int) < 2147483646 by decide), _, _, rfl, rfl, ln2, fun p hp => ?_⟩
        exact q p _ hp ⟨_, _, upd_same, by omega, by omega⟩ (Same.new hp)
end
end My

set_option Elab.async false
set_option linter.all false
set_option maxRecDepth 100000
namespace My
open PySem PySem.Spec PyProof.Rows L2
section
variable {P : Program} {w : World} {K : PySem.W.Frag} {mg : Str → Option Value} {base : Heap}
set_option maxHeartbeats 4000000 in
theorem ok_law_take {f : Addr} {fd : FuncData} (F : Fun K "_law_take" "_law_take" s_law_take f fd) (Z : Bl mg)  : FnOk P w K mg base CX0 1 f fd ["bag", "many"] spTake := by
  refine F.ok (k := 0) sc_law_take (fun vs H Q E h => ?_) (fun cdv A outer s H vs Q E hr h => ?_)
  · obtain ⟨b, m, rfl, _⟩ := h
    rfl
  · obtain ⟨b, m, rfl, ⟨x, y, hb, h0, h1⟩, hm, q⟩ := h
    refine ⟨_, (pss_cons (ps_if (pt_cmpR op_gt (pe_ix ix_list (pv 0) pe_int (fun _ _ => rfl)) pe_int (nomark _))
      (pss_cons (ps_set (i := 2) sc_law_take.nd rfl (Or.inl rfl) (pe_op op_mod (pe_ix ix_list (pv 0) pe_int (fun _ _ => rfl)) (pv 1)))
      (pss_cons (ps_asg (pe_op op_fdivB (pe_ix ix_list (pv 0) pe_int (fun _ _ => rfl)) (pv 1)) (pg_sub (pv 0) pe_int set_list))
      (pss_one (ps_ret (pv 2)))))
      pss_nil)
      (pss_cons (ps_asg (pe_op op_mod (pe_op op_mul (pe_ix ix_list (pv 0) pe_int (fun _ _ => rfl)) pe_int) pe_int) (pg_sub (pv 0) pe_int set_list))
      (pss_one (ps_ret (pe_op op_mod (pe_op op_fdiv (pe_op op_mod (pe_op op_mul (pe_ix ix_list (pv 0) pe_int (fun _ _ => rfl)) (pe_ix ix_list (pv 0) pe_int (fun _ _ => rfl))) pe_int) pe_int) (pv 1)))))), ?_⟩

    refine ⟨_, rfl, b, _, 0, _, rfl, rfl, SqL.of hb, at0, _, _, rfl, rfl, _, rfl, ?_⟩
    refine ite2 (fun hc => ?_) (fun hc => ?_)
    · refine ⟨_, rfl, b, _, 0, _, rfl, rfl, SqL.of hb, at0, _, rfl, _, _, rfl, rfl, hm.1, ?_⟩
      refine ⟨_, rfl, b, _, 0, _, rfl, rfl, SqL.of hb, at0, _, rfl, _, _, rfl, rfl, hm, _, rfl, b, _, 0, 0, rfl, rfl, hb, rfl, ?_⟩
      refine ⟨_, rfl, ?_⟩
      exact q _ _ (Int.emod_nonneg _ (by have := hm.1; omega)) (Int.emod_lt_of_pos _ hm.1) ⟨_, _, upd_same, h0, h1⟩ Fix.upd_b
    · refine ⟨_, rfl, b, _, 1, _, rfl, rfl, SqL.of hb, at1, _, _, rfl, rfl, .inr ⟨by decide, by decide⟩, _, _, rfl, rfl, (show (0 : Int) < 2147483647 by decide), _, rfl, b, _, 1, 1, rfl, rfl, hb, rfl, ?_⟩
      refine ⟨_, rfl, b, _, 1, _, rfl, rfl, SqL.of upd_same, at1, _, rfl, b, _, 1, _, rfl, rfl, SqL.of upd_same, at1, _, _, rfl, rfl, .inl ⟨by omega, by omega⟩, _, _, rfl, rfl, (show (0 : Int) < 2147483629 by decide), _, _, rfl, rfl, ⟨by decide, by decide⟩, _, rfl, _, _, rfl, rfl, hm.1, ?_⟩
      exact q _ _ (Int.emod_nonneg _ (by have := hm.1; omega)) (Int.emod_lt_of_pos _ hm.1) ⟨_, _, upd_same, by omega, by omega⟩ Fix.upd_b
end
end My

set_option Elab.async false
set_option linter.all false
set_option maxRecDepth 100000
namespace My
open PySem PySem.Spec PyProof.Rows L2
section
variable {P : Program} {w : World} {K : PySem.W.Frag} {mg : Str → Option Value} {base : Heap}
set_option maxHeartbeats 4000000 in
theorem ok_law_names {f : Addr} {fd : FuncData} (F : Fun K "_law_names" "_law_names" s_law_names f fd) (Z : Bl mg) (O_law_take : Own P w K mg base "_law_take" 1 ["bag", "many"] spTake) : FnOk P w K mg base CX0 2 f fd ["bag"] spNames := by
  refine F.ok (k := 1) sc_law_names (fun vs H Q E h => ?_) (fun cdv A outer s H vs Q E hr h => ?_)
  · obtain ⟨b, rfl, _⟩ := h
    rfl
  · obtain ⟨b, rfl, hB, q⟩ := h
    refine ⟨_, (pss_cons (ps_set (i := 1) sc_law_names.nd rfl (Or.inr rfl) pe_str)
      (pss_cons (ps_set (i := 2) sc_law_names.nd rfl (Or.inl rfl) (pe_op op_add pe_int (pe_own O_law_take (hr.mono (by decide)) rfl (pa_cons (pv 0) (pa_cons pe_int pa_nil)))))
      (pss_cons (ps_setLC (i := 3) ["k"] ["letters", "bag"] [1, 0] rfl sc_law_names.nd rfl rfl rfl (pi_range1 rfl Z.range (pa_cons (pe_op op_add pe_int (pe_own O_law_take (hr.mono (by decide)) rfl (pa_cons (pv 0) (pa_cons pe_int pa_nil)))) pa_nil)) rfl (by decide +kernel) (by decide +kernel) (by decide +kernel) ⟨⟨rfl, .inl rfl, rfl⟩, ⟨⟨rfl, .inl rfl, rfl⟩, True.intro⟩⟩ (fun _ _ _ _ => (pg_name (i := 0) (show ((["k"] : List Str) ++ (["letters", "bag"] : List Str)).Nodup by decide +kernel) rfl (Or.inl rfl) (hf := Or.inr rfl))) (fun _ _ _ _ => pts_nil) (fun _ _ _ _ => (pe_ix ix_str (pv 1) (pe_own O_law_take (hr.mono (by decide)) rfl (pa_cons (pv 2) (pa_cons pe_int pa_nil))) (fun _ _ => rfl))))
      (pss_cons (ps_set (i := 4) sc_law_names.nd rfl (Or.inl rfl) (pe_own O_law_take (hr.mono (by decide)) rfl (pa_cons (pv 0) (pa_cons (pe_callB call_len_seq rfl Z.len bt_len (pa_cons (pv 3) pa_nil)) pa_nil))))
      (pss_cons (ps_set (i := 5) sc_law_names.nd rfl (Or.inl rfl) (pe_lst pa_nil))
      (pss_cons (ps_for PassesOwn.never rfl (pi_range1 rfl Z.range (pa_cons (pv 2) pa_nil)) (pg_name (i := 6) sc_law_names.nd rfl (Or.inl rfl))
      (pss_cons (ps_set (i := 7) sc_law_names.nd rfl (Or.inl rfl) (pe_callTy call_list_of rfl Z.list bt_list (pa_cons (pv 3) pa_nil)))
      (pss_cons (ps_asg (pe_ix ix_str (pv 1) (pe_own O_law_take (hr.mono (by decide)) rfl (pa_cons (pv 0) (pa_cons pe_int pa_nil))) (fun _ _ => rfl)) (pg_sub (pv 7) (pv 4) set_list))
      (pss_one (ps_if (pt_cmpR op_notIn_seq (pe_bm PySem.F.plainAttrs_str PySem.F.slot_str_join PySem.F.type_str_join mt_join pe_str (pa_cons (pv 7) pa_nil)) (pv 5) (by with_unfolding_all rfl))
      (pss_one (ps_expr (pe_bm PySem.F.plainAttrs_list PySem.F.slot_list_append PySem.F.type_list_append mt_append (pv 5) (pa_cons (pe_bm PySem.F.plainAttrs_str PySem.F.slot_str_join PySem.F.type_str_join mt_join pe_str (pa_cons (pv 7) pa_nil)) pa_nil))))
      pss_nil)))))
      (pss_one (ps_ret (pv 5))))))))), ?_⟩

    refine ⟨_, rfl, b, 4, rfl, hB, ⟨by decide, by decide +kernel⟩, fun m H1 m0 m1 B1 X1 => ⟨_, _, rfl, rfl, ?_⟩⟩
    -- base
    refine ⟨_, rfl, b, 8, rfl, B1, ⟨by decide, by decide +kernel⟩, fun k H2 k0 k1 B2 X2 => ⟨_, _, rfl, rfl, _, rfl, (by omega), (by omega), fun acc na => ?_⟩⟩
    refine lc_range (lo := 0) (fun i ys τ H' => ∃ (v : Option V) (cs : List Nat), τ = [v, some (.str abc), some (.ref b)] ∧ ys = (cs.map one).map V.str ∧ cs.length = i ∧ (∀ c ∈ cs, 97 ≤ c ∧ c ≤ 122) ∧ H' acc = some (.lst ys) ∧ Bag H' b ∧ Fix b H2 H') ?_ ?_ ?_ ?_
    · exact ⟨none, [], rfl, rfl, rfl, (fun _ h => nomatch h), upd_same, B2.new na, Fix.new na⟩
    · rintro i ys τ H' hi ⟨v, cs, rfl, rfl, hl, _, ha, _⟩
      refine ⟨ha, ?_⟩
      rw [List.length_map, List.length_map]
      exact small1000 (by omega)
    · rintro i ys τ H' hi ⟨v, cs, rfl, rfl, hl, hc, ha, B', X'⟩
      refine gname_ ?_
      refine yes_ ?_
      refine iteT ?_
      refine ⟨_, rfl, _, rfl, b, 26, rfl, B', ⟨by decide, by decide +kernel⟩, fun r H3 r0 r1 B3 X3 => ?_⟩
      obtain ⟨c, hat, c0, c1⟩ := abc_at r0 r1
      have hab : acc ≠ b := B2.ne_new na
      have ha3 := X3 acc _ ha hab
      refine ⟨abc, r, c, rfl, rfl, abc_len, hat, ha3, _, cs ++ [c], rfl, ?_, ?_, ?_, upd_same, ?_, ?_⟩
      · rw [List.map_append, List.map_append]; rfl
      · rw [List.length_append, hl]; rfl
      · intro d hd
        rcases List.mem_append.mp hd with hd | hd
        · exact hc d hd
        · rw [List.mem_singleton.mp hd]; exact ⟨c0, c1⟩
      · obtain ⟨x, y, e, z⟩ := B3
        exact ⟨x, y, by rw [upd_ne hab.symm]; exact e, z⟩
      · intro d o hd nd
        rw [upd_ne (ne_of_none hd na)]
        exact (X'.trans X3) d o hd nd
    · rintro ys τ H3 ⟨v, cs, rfl, rfl, hl, hc, ha, B3, X3⟩
      have hab : acc ≠ b := B2.ne_new na
      have hl1 : 1 ≤ cs.length := by omega
      have hl8 : cs.length ≤ 8 := by omega
      have F3 : Fix b H H3 := (X1.trans X2).trans X3
      have el : (((cs.map one).map V.str).length : Int) = cs.length := by simp
      -- at
      refine ⟨_, rfl, _, rfl, acc, _, rfl, .inl (SqL.of ha), b, _, rfl, B3, ⟨by omega, smallM (by omega) (by omega)⟩, fun at_ H4 t0 t1 B4 X4 => ?_⟩
      -- names = []
      refine ⟨(by show 0 ≤ sizeLine; decide), fun nl nn => ?_⟩
      have hnb : nl ≠ b := B4.ne_new nn
      have ha4 : H4 acc = some (.lst ((cs.map one).map V.str)) := X4 acc _ ha hab
      have hna : nl ≠ acc := fun z => by rw [z, ha4] at nn; cases nn
      have F4 : Fix b H H4 := F3.trans X4
      refine ⟨_, rfl, _, rfl, (by omega), (by omega), for_range (lo := 0) (fun i σ H' => ∃ (u1 u2 : Option V) (xs : List Str), σ = [some (.ref b), some (.str abc), some (.int (1 + m)), some (.ref acc), some (.int at_), some (.ref nl), u1, u2] ∧
        H' nl = some (.lst (xs.map V.str)) ∧ xs.length ≤ i ∧ (0 < i → xs ≠ []) ∧ (∀ x ∈ xs, NameOk x) ∧ H' acc = some (.lst ((cs.map one).map V.str)) ∧ Bag H' b ∧ Fix b H H') ?_ ?_ ?_⟩
      · exact ⟨_, _, [], rfl, upd_same, Nat.le_refl _, (fun h => absurd h (Nat.lt_irrefl _)), (fun _ h => nomatch h), (by rw [upd_ne hna.symm]; exact ha4), B4.new nn, F4.trans (Fix.new nn)⟩
      · rintro i σ H' hi ⟨u1, u2, xs, rfl, hn, hx, hx0, hok, ha', B', X'⟩
        -- name = list(base)
        refine ⟨_, rfl, acc, _, rfl, .inl (SqL.of ha'), fun nm mm => ?_⟩
        have nmb : nm ≠ b := B'.ne_new mm
        have nma : nm ≠ acc := fun z => by rw [z, ha'] at mm; cases mm
        have nmn : nm ≠ nl := fun z => by rw [z, hn] at mm; cases mm
        -- name[at] = letters[..]
        refine ⟨_, rfl, _, rfl, b, 26, rfl, B'.new mm, ⟨by decide, by decide +kernel⟩, fun r H5 r0 r1 B5 X5 => ?_⟩
        obtain ⟨c, hat, c0, c1⟩ := abc_at r0 r1
        have h5 : H5 nm = some (.lst ((cs.map one).map V.str)) := X5 nm _ upd_same nmb
        have hn5 : H5 nl = some (.lst (xs.map V.str)) := X5 nl _ (by rw [upd_ne nmn.symm]; exact hn) hnb
        have ha5 : H5 acc = some (.lst ((cs.map one).map V.str)) := X5 acc _ (by rw [upd_ne nma.symm]; exact ha') hab
        obtain ⟨j, rfl⟩ : ∃ j : Nat, at_ = j := ⟨at_.toNat, by omega⟩
        have hj : j < cs.length := by omega
        have hix : ixN ((cs.map one).map V.str).length (j : Int) = some j := by
          unfold ixN
          rw [if_pos (by omega), if_pos (by rw [el]; omega)]
          simp
        refine ⟨abc, r, c, rfl, rfl, abc_len, hat, _, rfl, _, rfl, nm, _, (j : Int), j, rfl, rfl, h5, hix, ?_⟩
        have eset : ((cs.map one).map V.str).set j (.str ⟨#[c]⟩) = ((cs.set j c).map one).map V.str := by
          rw [List.map_set, List.map_set]; rfl
        rw [eset]
        have hc' : ∀ d ∈ cs.set j c, 97 ≤ d ∧ d ≤ 122 := fun d hd => by
          rcases List.mem_or_eq_of_mem_set hd with hd | hd
          · exact hc d hd
          · rw [hd]; exact ⟨c0, c1⟩
        have hjl : (((cs.set j c).map one).map (·.length)).sum + ((cs.set j c).map one).length * (Str.ofString "").length ≤ 16777216 := by
          have e1 : (Str.ofString "").length = 0 := by decide +kernel
          have e2 : ∀ l : List Nat, ((l.map one).map (·.length)).sum = l.length := by
            intro l
            induction l with
            | nil => rfl
            | cons a l ih => simp only [List.map_cons, List.sum_cons, ih, List.length_cons]; show 1 + l.length = _; omega
          rw [e1, e2, List.length_set]
          omega
        have nk : NameOk (Txt.join (Str.ofString "") ((cs.set j c).map one)) := by
          rw [empty_is]
          have ej := L2.join_ones (cs.set j c)
          have eL : (Txt.join Str.empty ((cs.set j c).map one)).length = (cs.set j c).length := by
            have := congrArg List.length ej
            rw [Array.length_toList] at this
            exact this
          refine ⟨?_, ?_, ?_⟩
          · rw [eL, List.length_set]; exact hl1
          · rw [eL, List.length_set]; exact hl8
          · rw [ej]; exact hc'
        have n6 : upd H5 nm (.lst (((cs.set j c).map one).map V.str)) nl = some (.lst (xs.map V.str)) := by rw [upd_ne nmn.symm]; exact hn5
        have a6 : upd H5 nm (.lst (((cs.set j c).map one).map V.str)) acc = some (.lst ((cs.map one).map V.str)) := by rw [upd_ne nma.symm]; exact ha5
        have B6 : Bag (upd H5 nm (.lst (((cs.set j c).map one).map V.str))) b := by
          obtain ⟨x, y, e, z⟩ := B5
          exact ⟨x, y, by rw [upd_ne nmb.symm]; exact e, z⟩
        have F6 : Fix b H (upd H5 nm (.lst (((cs.set j c).map one).map V.str))) := fun d o hd nd => by
          have h1 := X' d o hd nd
          have nd' : d ≠ nm := fun z => by rw [z, mm] at h1; cases h1
          rw [upd_ne nd']
          exact X5 d o (by rw [upd_ne nd']; exact h1) nd
        have flat : (xs.map V.str).all flatV = true := by
          rw [List.all_eq_true]
          intro v hv
          obtain ⟨x, _, rfl⟩ := List.mem_map.mp hv
          rfl
        refine ⟨rfl, _, rfl, _, nm, _, rfl, rfl, SqL.of upd_same, hjl, _, rfl, nl, _, rfl, .inl (SqL.of n6), rfl, flat, _, rfl, ?_⟩
        refine ite2 (fun hin => ?_) (fun hin => ?_)
        · refine ⟨_, rfl, .inl ⟨rfl, _, SqL.of n6⟩, rfl, _, rfl, _, nm, _, rfl, rfl, SqL.of upd_same, hjl, nl, _, _, rfl, rfl, n6, ?_, ?_⟩
          · rw [List.length_map]
            have : i < 4 := by omega
            exact small1000 (by omega)
          · refine ⟨_, _, xs ++ [_], rfl, (by rw [upd_same, List.map_append]; rfl), (by rw [List.length_append]; exact Nat.succ_le_succ hx), (fun _ => by simp), ?_, (by rw [upd_ne hna.symm]; exact a6), ?_, ?_⟩
            · intro x hxm
              rcases List.mem_append.mp hxm with hxm | hxm
              · exact hok x hxm
              · rw [List.mem_singleton.mp hxm]; exact nk
            · obtain ⟨x, y, e, z⟩ := B6
              exact ⟨x, y, by rw [upd_ne hnb.symm]; exact e, z⟩
            · intro d o hd nd
              have h1 := F6 d o hd nd
              have nd' : d ≠ nl := fun z => by
                have h2 := F4 d o hd nd
                rw [z, nn] at h2
                cases h2
              rw [upd_ne nd']
              exact h1
        · have hx' : xs ≠ [] := by
            intro e
            subst e
            exact hin rfl
          exact ⟨_, _, xs, rfl, n6, Nat.le_succ_of_le hx, fun _ => hx', hok, a6, B6, F6⟩
      · rintro σ H' ⟨u1, u2, xs, rfl, hn, hx, hx0, hok, ha', B', X'⟩
        refine ⟨_, rfl, ?_⟩
        have hm : (1 + m).toNat ≤ 4 := by omega
        have hm0 : 0 < (1 + m).toNat := by omega
        exact q nl xs H' ⟨hn, hnb, hx0 hm0, by omega, hok⟩ (Nat.le_trans hx hm) B' X'
end
end My

set_option Elab.async false
set_option linter.all false
set_option maxRecDepth 100000
namespace My
open PySem PySem.Spec PyProof.Rows L2
section
variable {P : Program} {w : World} {K : PySem.W.Frag} {mg : Str → Option Value} {base : Heap}
set_option maxHeartbeats 4000000 in
theorem ok_law_number {f : Addr} {fd : FuncData} (F : Fun K "_law_number" "_law_number" s_law_number f fd) (Z : Bl mg) (O_law_take : Own P w K mg base "_law_take" 1 ["bag", "many"] spTake) : FnOk P w K mg base CX0 2 f fd ["bag"] spNumber := by
  refine F.ok (k := 1) sc_law_number (fun vs H Q E h => ?_) (fun cdv A outer s H vs Q E hr h => ?_)
  · obtain ⟨b, rfl, _⟩ := h
    rfl
  · obtain ⟨b, rfl, hB, q⟩ := h
    refine ⟨_, (pss_cons (ps_if (pt_cmpR op_eq (pe_own O_law_take (hr.mono (by decide)) rfl (pa_cons (pv 0) (pa_cons pe_int pa_nil))) pe_int (nomark _))
      (pss_one (ps_ret (pe_op op_mul (pe_op op_sub (pe_op op_sub (pe_op op_pow pe_int pe_int) pe_int) (pe_own O_law_take (hr.mono (by decide)) rfl (pa_cons (pv 0) (pa_cons pe_int pa_nil)))) (pe_op op_sub pe_int (pe_op op_mul pe_int (pe_own O_law_take (hr.mono (by decide)) rfl (pa_cons (pv 0) (pa_cons pe_int pa_nil))))))))
      pss_nil)
      (pss_one (ps_ret (pe_op op_sub (pe_own O_law_take (hr.mono (by decide)) rfl (pa_cons (pv 0) (pa_cons pe_int pa_nil))) pe_int)))), ?_⟩

    refine ⟨_, rfl, b, 8, rfl, hB, ⟨by decide, by decide +kernel⟩, fun r H1 r0 r1 B1 X1 => ⟨rfl, _, rfl, ?_⟩⟩
    refine ite2 (fun hc => ?_) (fun hc => ?_)
    · refine ⟨10, 40, rfl, rfl, ⟨by decide, by decide, by decide⟩, _, _, rfl, rfl, ?_⟩
      refine ⟨_, rfl, b, 3, rfl, B1, ⟨by decide, by decide +kernel⟩, fun r2 H2 r20 r21 B2 X2 => ⟨_, _, rfl, rfl, ?_⟩⟩
      refine ⟨_, rfl, b, 2, rfl, B2, ⟨by decide, by decide +kernel⟩, fun r3 H3 r30 r31 B3 X3 => ?_⟩
      refine ⟨_, _, rfl, rfl, .inl ⟨by decide, by decide⟩, _, _, rfl, rfl, _, _, rfl, rfl, .inr ⟨by omega, by omega⟩, ?_⟩
      refine q _ H3 ?_ B3 ((X1.trans X2).trans X3)
      have e : (10 : Int) ^ (40 : Int).toNat = 10 ^ 40 := by decide +kernel
      rw [e]
      obtain rfl | rfl : r3 = 0 ∨ r3 = 1 := by omega
      · rw [show (1 : Int) - 2 * 0 = 1 by decide, Int.mul_one]; unfold NumOk; omega
      · rw [show (1 : Int) - 2 * 1 = -1 by decide, Int.mul_neg, Int.mul_one]; unfold NumOk; omega
    · refine ⟨_, rfl, b, 8, rfl, B1, ⟨by decide, by decide +kernel⟩, fun r2 H2 r20 r21 B2 X2 => ⟨_, _, rfl, rfl, ?_⟩⟩
      exact q _ H2 (by unfold NumOk; omega) B2 (X1.trans X2)
end
end My

set_option Elab.async false
set_option linter.all false
set_option maxRecDepth 100000
namespace My
open PySem PySem.Spec PyProof.Rows L2
section
variable {P : Program} {w : World} {K : PySem.W.Frag} {mg : Str → Option Value} {base : Heap}
set_option maxHeartbeats 4000000 in
theorem ok_law_deed {f : Addr} {fd : FuncData} (F : Fun K "_law_deed" "_law_deed" s_law_deed f fd) (Z : Bl mg) (O_law_take : Own P w K mg base "_law_take" 1 ["bag", "many"] spTake) (O_law_number : Own P w K mg base "_law_number" 2 ["bag"] spNumber) : FnOk P w K mg base CX0 3 f fd ["bag", "names"] spDeed := by
  refine F.ok (k := 2) sc_law_deed (fun vs H Q E h => ?_) (fun cdv A outer s H vs Q E hr h => ?_)
  · obtain ⟨b, l, xs, rfl, _⟩ := h
    rfl
  · obtain ⟨b, l, xs, rfl, hB, hN, q⟩ := h
    refine ⟨_, (pss_cons (ps_set (i := 2) sc_law_deed.nd rfl (Or.inl rfl) (pe_ix ix_list (pe_lst (pa_cons pe_str (pa_cons pe_str (pa_cons pe_str (pa_cons pe_str (pa_cons pe_str (pa_cons pe_str (pa_cons pe_str pa_nil)))))))) (pe_own O_law_take (hr.mono (by decide)) rfl (pa_cons (pv 0) (pa_cons pe_int pa_nil))) (fun _ _ => rfl)))
      (pss_cons (ps_set (i := 3) sc_law_deed.nd rfl (Or.inl rfl) (pe_ix ix_list (pv 1) (pe_own O_law_take (hr.mono (by decide)) rfl (pa_cons (pv 0) (pa_cons (pe_callB call_len_seq rfl Z.len bt_len (pa_cons (pv 1) pa_nil)) pa_nil))) (fun _ _ => rfl)))
      (pss_cons (ps_if (pt_cmpR op_eq (pv 2) pe_str (nomark _))
      (pss_one (ps_ret (pe_tup (pa_cons (pv 2) (pa_cons (pv 3) (pa_cons (pe_ix ix_list (pv 1) (pe_own O_law_take (hr.mono (by decide)) rfl (pa_cons (pv 0) (pa_cons (pe_callB call_len_seq rfl Z.len bt_len (pa_cons (pv 1) pa_nil)) pa_nil))) (fun _ _ => rfl)) pa_nil))))))
      pss_nil)
      (pss_cons (ps_if (PW.pt (pw_or (pt_cmpR op_eq (pv 2) pe_str (nomark _)) (pw_or1 (pt_cmpR op_eq (pv 2) pe_str (nomark _)))))
      (pss_one (ps_ret (pe_tup (pa_cons (pv 2) (pa_cons (pv 3) (pa_cons (pe_own O_law_number (hr.mono (by decide)) rfl (pa_cons (pv 0) pa_nil)) pa_nil))))))
      pss_nil)
      (pss_one (ps_ret (pe_tup (pa_cons (pv 2) (pa_cons (pv 3) pa_nil))))))))), ?_⟩

    refine ⟨ln7, fun l0 m0 => ?_⟩
    refine ⟨_, rfl, b, 7, rfl, hB.new m0, ⟨by decide, by decide +kernel⟩, fun r H1 r0 r1 B1 X1 => ?_⟩
    have h0 : H1 l0 = some (.lst [.str "put", .str "copy", .str "add", .str "read", .str "tell", .str "tell", .str "add"]) := X1 l0 _ upd_same (hB.ne_new m0)
    have F1 : Fix b H H1 := (Fix.new m0).trans X1
    have N1 := hN.fix F1
    have hw : ∃ w : Str, (w = "put" ∨ w = "copy" ∨ w = "add" ∨ w = "read" ∨ w = "tell") ∧ atI [V.str "put", .str "copy", .str "add", .str "read", .str "tell", .str "tell", .str "add"] r = some (V.str w) := by
      obtain rfl | rfl | rfl | rfl | rfl | rfl | rfl : r = 0 ∨ r = 1 ∨ r = 2 ∨ r = 3 ∨ r = 4 ∨ r = 5 ∨ r = 6 := by omega
      · exact ⟨_, .inl rfl, atI_nat (j := 0) rfl⟩
      · exact ⟨_, .inr (.inl rfl), atI_nat (j := 1) rfl⟩
      · exact ⟨_, .inr (.inr (.inl rfl)), atI_nat (j := 2) rfl⟩
      · exact ⟨_, .inr (.inr (.inr (.inl rfl))), atI_nat (j := 3) rfl⟩
      · exact ⟨_, .inr (.inr (.inr (.inr rfl))), atI_nat (j := 4) rfl⟩
      · exact ⟨_, .inr (.inr (.inr (.inr rfl))), atI_nat (j := 5) rfl⟩
      · exact ⟨_, .inr (.inr (.inl rfl)), atI_nat (j := 6) rfl⟩
    obtain ⟨w, hw, hat⟩ := hw
    refine ⟨l0, _, r, _, rfl, rfl, SqL.of h0, hat, ?_⟩
    -- name
    obtain ⟨p0, p1⟩ := N1.pos
    refine ⟨_, rfl, _, rfl, _, rfl, l, _, rfl, .inl (SqL.of N1.at_), b, _, rfl, B1, ⟨p0, smallM p0 p1⟩, fun r2 H2 r20 r21 B2 X2 => ?_⟩
    have N2 := N1.fix X2
    obtain ⟨x, hx, hxm⟩ := names_at r20 r21
    refine ⟨l, _, r2, _, rfl, rfl, SqL.of N2.at_, hx, ?_⟩
    refine ⟨_, rfl, rfl, _, rfl, ?_⟩
    rcases hw with rfl | rfl | rfl | rfl | rfl
    · -- put
      rw [show decide (V.str "put" = V.str "copy") = false by decide +kernel]
      refine iteF ⟨_, rfl, rfl, _, rfl, ?_⟩
      rw [show decide (V.str "put" = V.str "put") = true by decide +kernel]
      refine iteT (iteT ⟨_, rfl, _, rfl, _, rfl, b, rfl, B2, fun n H3 nk B3 X3 => ⟨ln3, fun t mt => ?_⟩⟩)
      exact q _ (.put x n) _ (.tup upd_same (.cons (.str _) (.cons (.str _) (.cons (.int _) .nil)))) ⟨hxm, nk⟩ (B3.new mt) (((F1.trans X2).trans X3).trans (Fix.new mt))
    · -- copy
      rw [show decide (V.str "copy" = V.str "copy") = true by decide +kernel]
      obtain ⟨p0, p1⟩ := N2.pos
      refine iteT ⟨_, rfl, _, rfl, _, rfl, _, rfl, _, rfl, l, _, rfl, .inl (SqL.of N2.at_), b, _, rfl, B2, ⟨p0, smallM p0 p1⟩, fun r3 H3 r30 r31 B3 X3 => ?_⟩
      have N3 := N2.fix X3
      obtain ⟨y, hy, hym⟩ := names_at r30 r31
      refine ⟨l, _, r3, _, rfl, rfl, SqL.of N3.at_, hy, ln3, fun t mt => ?_⟩
      exact q _ (.copy x y) _ (.tup upd_same (.cons (.str _) (.cons (.str _) (.cons (.str _) .nil)))) ⟨hxm, hym⟩ (B3.new mt) (((F1.trans X2).trans X3).trans (Fix.new mt))
    · -- add
      rw [show decide (V.str "add" = V.str "copy") = false by decide +kernel]
      refine iteF ⟨_, rfl, rfl, _, rfl, ?_⟩
      rw [show decide (V.str "add" = V.str "put") = false by decide +kernel]
      refine iteF ⟨_, rfl, rfl, _, rfl, ?_⟩
      rw [show decide (V.str "add" = V.str "add") = true by decide +kernel]
      refine iteT ⟨_, rfl, _, rfl, _, rfl, b, rfl, B2, fun n H3 nk B3 X3 => ⟨ln3, fun t mt => ?_⟩⟩
      exact q _ (.add x n) _ (.tup upd_same (.cons (.str _) (.cons (.str _) (.cons (.int _) .nil)))) ⟨hxm, nk⟩ (B3.new mt) (((F1.trans X2).trans X3).trans (Fix.new mt))
    · -- read
      rw [show decide (V.str "read" = V.str "copy") = false by decide +kernel]
      refine iteF ⟨_, rfl, rfl, _, rfl, ?_⟩
      rw [show decide (V.str "read" = V.str "put") = false by decide +kernel]
      refine iteF ⟨_, rfl, rfl, _, rfl, ?_⟩
      rw [show decide (V.str "read" = V.str "add") = false by decide +kernel]
      refine iteF ⟨_, rfl, _, rfl, ln2, fun t mt => ?_⟩
      exact q _ (.read x) _ (.tup upd_same (.cons (.str _) (.cons (.str _) .nil))) hxm (B2.new mt) ((F1.trans X2).trans (Fix.new mt))
    · -- tell
      rw [show decide (V.str "tell" = V.str "copy") = false by decide +kernel]
      refine iteF ⟨_, rfl, rfl, _, rfl, ?_⟩
      rw [show decide (V.str "tell" = V.str "put") = false by decide +kernel]
      refine iteF ⟨_, rfl, rfl, _, rfl, ?_⟩
      rw [show decide (V.str "tell" = V.str "add") = false by decide +kernel]
      refine iteF ⟨_, rfl, _, rfl, ln2, fun t mt => ?_⟩
      exact q _ (.tell x) _ (.tup upd_same (.cons (.str _) (.cons (.str _) .nil))) hxm (B2.new mt) ((F1.trans X2).trans (Fix.new mt))
end
end My

set_option Elab.async false
set_option linter.all false
set_option maxRecDepth 100000
namespace My
open PySem PySem.Spec PyProof.Rows L2
section
variable {P : Program} {w : World} {K : PySem.W.Frag} {mg : Str → Option Value} {base : Heap}
set_option maxHeartbeats 4000000 in
theorem ok_law_end {f : Addr} {fd : FuncData} (F : Fun K "_law_end" "_law_end" s_law_end f fd) (Z : Bl mg) (O_law_take : Own P w K mg base "_law_take" 1 ["bag", "many"] spTake) (O_law_number : Own P w K mg base "_law_number" 2 ["bag"] spNumber) : FnOk P w K mg base CX0 3 f fd ["bag", "names", "count"] spEndP := by
  refine F.ok (k := 2) sc_law_end (fun vs H Q E h => ?_) (fun cdv A outer s H vs Q E hr h => ?_)
  · obtain ⟨b, l, xs, c, rfl, _⟩ := h
    rfl
  · obtain ⟨b, l, xs, c, rfl, hB, hN, c0, c1, q⟩ := h
    refine ⟨_, (pss_cons (ps_set (i := 3) sc_law_end.nd rfl (Or.inl rfl) (pe_own O_law_take (hr.mono (by decide)) rfl (pa_cons (pv 0) (pa_cons pe_int pa_nil))))
      (pss_cons (ps_if (pt_cmpR op_eq (pv 3) pe_int (nomark _))
      (pss_one (ps_ret (pe_tup (pa_cons pe_str pa_nil))))
      pss_nil)
      (pss_cons (ps_if (pt_cmpR op_lt (pv 3) pe_int (nomark _))
      (pss_one (ps_ret (pe_tup (pa_cons pe_str (pa_cons (pe_own O_law_take (hr.mono (by decide)) rfl (pa_cons (pv 0) (pa_cons (pv 2) pa_nil))) pa_nil)))))
      pss_nil)
      (pss_cons (ps_set (i := 4) sc_law_end.nd rfl (Or.inl rfl) (pe_ix ix_list (pe_lst (pa_cons pe_str (pa_cons pe_str pa_nil))) (pe_op op_fdiv (pe_own O_law_take (hr.mono (by decide)) rfl (pa_cons (pv 0) (pa_cons pe_int pa_nil))) pe_int) (fun _ _ => rfl)))
      (pss_cons (ps_set (i := 5) sc_law_end.nd rfl (Or.inl rfl) (pe_ix ix_list (pv 1) (pe_own O_law_take (hr.mono (by decide)) rfl (pa_cons (pv 0) (pa_cons (pe_callB call_len_seq rfl Z.len bt_len (pa_cons (pv 1) pa_nil)) pa_nil))) (fun _ _ => rfl)))
      (pss_one (ps_ret (pe_tup (pa_cons (pv 4) (pa_cons (pv 5) (pa_cons (pe_own O_law_number (hr.mono (by decide)) rfl (pa_cons (pv 0) pa_nil)) (pa_cons (pe_own O_law_take (hr.mono (by decide)) rfl (pa_cons (pv 0) (pa_cons (pv 2) pa_nil))) (pa_cons (pe_own O_law_take (hr.mono (by decide)) rfl (pa_cons (pv 0) (pa_cons (pv 2) pa_nil))) pa_nil))))))))))))), ?_⟩

    have ck : (0 : Int) < (c : Int) ∧ (c : Int).natAbs.log2 < 9000 := ⟨by omega, smallM (by omega) (by omega)⟩
    refine ⟨_, rfl, b, 9, rfl, hB, ⟨by decide, by decide +kernel⟩, fun r H1 r0 r1 B1 X1 => ?_⟩
    refine ⟨_, rfl, rfl, _, rfl, ?_⟩
    refine ite2 (fun hc => ?_) (fun hc => ?_)
    · refine ⟨ln1, fun t mt => ?_⟩
      exact q _ .stop _ (.tup upd_same (.cons (.str _) .nil)) True.intro (B1.new mt) (X1.trans (Fix.new mt))
    refine ⟨_, rfl, _, _, rfl, rfl, _, rfl, ?_⟩
    refine ite2 (fun hd => ?_) (fun hd => ?_)
    · refine ⟨_, rfl, _, rfl, b, _, rfl, B1, ck, fun p H2 p0 p1 B2 X2 => ⟨ln2, fun t mt => ?_⟩⟩
      obtain ⟨k, rfl⟩ : ∃ k : Nat, p = k := ⟨p.toNat, by omega⟩
      exact q _ (.go k) _ (.tup upd_same (.cons (.str _) (.cons (.int _) .nil))) (show k < c by omega) (B2.new mt) ((X1.trans X2).trans (Fix.new mt))
    · refine ⟨ln2, fun l0 m0 => ?_⟩
      refine ⟨_, rfl, b, 3, rfl, B1.new m0, ⟨by decide, by decide +kernel⟩, fun z H2 z0 z1 B2 X2 => ⟨_, _, rfl, rfl, ⟨by decide, by decide⟩, ?_⟩⟩
      have h0 : H2 l0 = some (.lst [.str "less", .str "is"]) := X2 l0 _ upd_same (B1.ne_new m0)
      have hw : ∃ w : Bool, atI [V.str "less", V.str "is"] (z / 2) = some (V.str (wT w)) := by
        obtain h | h : z / 2 = 0 ∨ z / 2 = 1 := by omega
        · rw [h]; exact ⟨true, at0⟩
        · rw [h]; exact ⟨false, at1⟩
      obtain ⟨w, hat⟩ := hw
      refine ⟨l0, _, _, _, rfl, rfl, SqL.of h0, hat, ?_⟩
      have F2 : Fix b H H2 := (X1.trans (Fix.new m0)).trans X2
      have N2 := hN.fix F2
      obtain ⟨p0, p1⟩ := N2.pos
      refine ⟨_, rfl, _, rfl, _, rfl, l, _, rfl, .inl (SqL.of N2.at_), b, _, rfl, B2, ⟨p0, smallM p0 p1⟩, fun r3 H3 r30 r31 B3 X3 => ?_⟩
      have N3 := N2.fix X3
      obtain ⟨x, hx, hxm⟩ := names_at r30 r31
      refine ⟨l, _, r3, _, rfl, rfl, SqL.of N3.at_, hx, ?_⟩
      refine ⟨_, rfl, _, rfl, _, rfl, b, rfl, B3, fun n H4 nk B4 X4 => ?_⟩
      refine ⟨_, rfl, _, rfl, b, _, rfl, B4, ck, fun p H5 p0 p1 B5 X5 => ?_⟩
      refine ⟨_, rfl, _, rfl, b, _, rfl, B5, ck, fun p' H6 p0' p1' B6 X6 => ⟨ln5, fun t mt => ?_⟩⟩
      obtain ⟨k, rfl⟩ : ∃ k : Nat, p = k := ⟨p.toNat, by omega⟩
      obtain ⟨k', rfl⟩ : ∃ k : Nat, p' = k := ⟨p'.toNat, by omega⟩
      exact q _ (.tst w x n k k') _ (.tup upd_same (.cons (.str _) (.cons (.str _) (.cons (.int _) (.cons (.int _) (.cons (.int _) .nil)))))) ⟨hxm, nk, by omega, by omega⟩ (B6.new mt) ((((F2.trans X3).trans X4).trans (X5.trans X6)).trans (Fix.new mt))
end
end My

set_option Elab.async false
set_option linter.all false
set_option maxRecDepth 100000
namespace My
open PySem PySem.Spec PyProof.Rows L2
section
variable {P : Program} {w : World} {K : PySem.W.Frag} {mg : Str → Option Value} {base : Heap}
set_option maxHeartbeats 4000000 in
theorem ok_law_plan {f : Addr} {fd : FuncData} (F : Fun K "_law_plan" "_law_plan" s_law_plan f fd) (Z : Bl mg) (O_law_take : Own P w K mg base "_law_take" 1 ["bag", "many"] spTake) (O_law_names : Own P w K mg base "_law_names" 2 ["bag"] spNames) (O_law_deed : Own P w K mg base "_law_deed" 3 ["bag", "names"] spDeed) (O_law_end : Own P w K mg base "_law_end" 3 ["bag", "names", "count"] spEndP) : FnOk P w K mg base CX0 4 f fd ["bag", "count", "most"] spPlan := by
  refine F.ok (k := 3) sc_law_plan (fun vs H Q E h => ?_) (fun cdv A outer s H vs Q E hr h => ?_)
  · obtain ⟨b, c, m, rfl, _⟩ := h
    rfl
  · obtain ⟨b, c, m, rfl, hB, c0, c1, hm, q⟩ := h
    refine ⟨_, (pss_cons (ps_set (i := 3) sc_law_plan.nd rfl (Or.inr rfl) (pe_own O_law_names (hr.mono (by decide)) rfl (pa_cons (pv 0) pa_nil)))
      (pss_cons (ps_set (i := 4) sc_law_plan.nd rfl (Or.inl rfl) (pe_lst pa_nil))
      (pss_cons (ps_for PassesOwn.never rfl (pi_range1 rfl Z.range (pa_cons (pv 1) pa_nil)) (pg_name (i := 5) sc_law_plan.nd rfl (Or.inl rfl))
      (pss_cons (ps_set (i := 6) sc_law_plan.nd rfl (Or.inl rfl) (pe_own O_law_take (hr.mono (by decide)) rfl (pa_cons (pv 0) (pa_cons (pe_op op_add (pv 2) pe_int) pa_nil))))
      (pss_cons (ps_set (i := 7) sc_law_plan.nd rfl (Or.inl rfl) (pe_own O_law_end (hr.mono (by decide)) rfl (pa_cons (pv 0) (pa_cons (pv 3) (pa_cons (pv 1) pa_nil)))))
      (pss_one (ps_expr (pe_bm PySem.F.plainAttrs_list PySem.F.slot_list_append PySem.F.type_list_append mt_append (pv 4) (pa_cons (pe_tup (pa_cons (pe_callTy call_tuple_of rfl Z.tuple bt_tuple (pa_cons (pe_lcomp ["j"] ["bag", "names"] [0, 3] rfl (pi_range1 rfl Z.range (pa_cons (pv 6) pa_nil)) rfl (by decide +kernel) (by decide +kernel) (by decide +kernel) ⟨⟨rfl, .inl rfl, rfl⟩, ⟨⟨rfl, .inl rfl, rfl⟩, True.intro⟩⟩ (fun _ _ _ _ => (pg_name (i := 0) (show ((["j"] : List Str) ++ (["bag", "names"] : List Str)).Nodup by decide +kernel) rfl (Or.inl rfl) (hf := Or.inr rfl))) (fun _ _ _ _ => pts_nil) (fun _ _ _ _ => (pe_own O_law_deed (hr.mono (by decide)) rfl (pa_cons (pv 1) (pa_cons (pv 2) pa_nil))))) pa_nil)) (pa_cons (pv 7) pa_nil))) pa_nil)))))))
      (pss_one (ps_ret (pe_callTy call_tuple_of rfl Z.tuple bt_tuple (pa_cons (pv 4) pa_nil))))))), ?_⟩

    refine ⟨_, rfl, b, rfl, hB, fun l xs H1 N1 x4 B1 X1 => ?_⟩
    refine ⟨(by show 0 ≤ sizeLine; decide), fun pl pn => ?_⟩
    have hpb : pl ≠ b := B1.ne_new pn
    refine ⟨_, rfl, _, rfl, (by omega), (by omega), for_range (lo := 0) (fun i σ H' => ∃ (u1 u2 u3 : Option V) (ps : List Piece) (vs : List V), σ = [some (.ref b), some (.int c), some (.int m), some (.ref l), some (.ref pl), u1, u2, u3] ∧
      H' pl = some (.lst vs) ∧ RdDs H' vs (ps.map dPiece) ∧ ps.length = i ∧ (∀ p ∈ ps, (p.1.length ≤ m ∧ ∀ d ∈ p.1, DeedOk xs d) ∧ EndOk xs c p.2) ∧ NamesAt H' b l xs ∧ Bag H' b ∧ Fix b H H' ∧ (∀ d o, H1 d = some o → d ≠ b → H' d = some o)) ?_ ?_ ?_⟩
    · exact ⟨_, _, _, [], [], rfl, upd_same, .nil, rfl, (fun _ h => nomatch h), N1.fix (Fix.new pn), B1.new pn, X1.trans (Fix.new pn), Fix.new pn⟩
    · rintro i σ H' hi ⟨u1, u2, u3, ps, vs, rfl, hp, hr, hl, hok, N', B', X', Y'⟩
      refine ⟨_, rfl, _, rfl, _, _, rfl, rfl, b, _, rfl, B', ⟨by omega, smallM (by omega) (by omega)⟩, fun k H2 k0 k1 B2 X2 => ?_⟩
      have N2 := N'.fix X2
      refine ⟨_, rfl, _, rfl, _, rfl, b, l, xs, c, rfl, B2, N2, c0, (by omega), fun ev e H3 re ek B3 X3 => ?_⟩
      have N3 := N2.fix X3
      have hp3 : H3 pl = some (.lst vs) := (X2.trans X3) pl _ hp hpb
      have hr3 : RdDs H3 vs (ps.map dPiece) := hr.fix B' (X2.trans X3) (noLists_pieces ps)
      -- pieces.append((tuple([..]), end))
      refine ⟨_, rfl, .inl ⟨rfl, _, SqL.of hp3⟩, _, rfl, _, rfl, (by omega), (by omega), fun acc na => ?_⟩
      have hab : acc ≠ b := B3.ne_new na
      refine lc_range (lo := 0) (fun i ys τ H' => ∃ (v : Option V) (ds : List Deed), τ = [v, some (.ref b), some (.ref l)] ∧ RdDs H' ys (ds.map dDeed) ∧ ds.length = i ∧ (∀ d ∈ ds, DeedOk xs d) ∧ H' acc = some (.lst ys) ∧ Bag H' b ∧ Fix b H3 H') ?_ ?_ ?_ ?_
      · exact ⟨none, [], rfl, .nil, rfl, (fun _ h => nomatch h), upd_same, B3.new na, Fix.new na⟩
      · rintro i' ys τ H4 hi' ⟨v, ds, rfl, rds, hl', _, ha, _⟩
        refine ⟨ha, ?_⟩
        rw [rds.len, List.length_map]
        exact small1000 (by omega)
      · rintro i' ys τ H4 hi' ⟨v, ds, rfl, rds, hl', hdk, ha, B4, X4⟩
        refine gname_ ?_
        refine yes_ ?_
        refine iteT ?_
        refine ⟨_, rfl, _, rfl, b, l, xs, rfl, B4, N3.fix X4, fun dv d H5 rd dk B5 X5 => ?_⟩
        have ha5 := X5 acc _ ha hab
        refine ⟨ha5, _, ds ++ [d], rfl, ?_, (by rw [List.length_append, hl']; rfl), ?_, upd_same, ?_, ?_⟩
        · rw [List.map_append]
          refine RdDs.app ((rds.fix B4 X5 (noLists_deeds ds)).put ha5 (noLists_deeds ds)) ?_
          exact rd.tups (fun p zs e => by rw [upd_ne (ne_of e ha5 (by intro z; cases z))]; exact e) (noList_deed d)
        · intro d' hd
          rcases List.mem_append.mp hd with hd | hd
          · exact hdk d' hd
          · rw [List.mem_singleton.mp hd]; exact dk
        · obtain ⟨x, y, e, z⟩ := B5
          exact ⟨x, y, by rw [upd_ne hab.symm]; exact e, z⟩
        · intro d' o hd nd
          rw [upd_ne (ne_of_none hd na)]
          exact (X4.trans X5) d' o hd nd
      · rintro ys τ H4 ⟨v, ds, rfl, rds, hl', hdk, ha, B4, X4⟩
        refine ⟨acc, ys, rfl, .inl ⟨SqL.of ha, fun tp tn => ?_⟩⟩
        refine ⟨_, rfl, ln2, fun pc pcn => ?_⟩
        have S6 : Same H4 (upd (upd H4 tp (.tup ys)) pc (.tup [.ref tp, ev])) := (Same.new tn).trans (Same.new pcn)
        have hp6 : (upd (upd H4 tp (.tup ys)) pc (.tup [.ref tp, ev])) pl = some (.lst vs) := S6 _ _ (X4 pl _ hp3 hpb)
        refine ⟨pl, _, _, rfl, rfl, hp6, ?_, ?_⟩
        · rw [hr.len, List.length_map, hl]
          exact small1000 (by omega)
        have hpiece : RdD (upd (upd H4 tp (.tup ys)) pc (.tup [.ref tp, ev])) (.ref pc) (dPiece (ds, e)) := by
          refine .tup upd_same (.cons (.tup (Same.new pcn _ _ upd_same) (rds.same S6 (noLists_deeds ds))) (.cons ?_ .nil))
          exact (re.fix B3 X4 (noList_end e)).same S6 (noList_end e)
        have F6 : Fix b H (upd (upd H4 tp (.tup ys)) pc (.tup [.ref tp, ev])) := ((X'.trans (X2.trans X3)).trans X4).trans (Fix.of_same S6)
        have plH : ∀ d o, H1 d = some o → d ≠ b → d ≠ pl := fun d o hd nd z => by rw [z, pn] at hd; cases hd
        refine ⟨_, _, _, ps ++ [(ds, e)], vs ++ [.ref pc], rfl, upd_same, ?_, (by rw [List.length_append, hl]; rfl), ?_, ?_, ?_, ?_, ?_⟩
        · rw [List.map_append]
          refine RdDs.app (((hr3.fix B3 X4 (noLists_pieces ps)).same S6 (noLists_pieces ps)).put hp6 (noLists_pieces ps)) ?_
          exact hpiece.tups (fun p zs e => by rw [upd_ne (ne_of e hp6 (by intro z; cases z))]; exact e) (noList_piece (ds, e))
        · intro p hpm
          rcases List.mem_append.mp hpm with hpm | hpm
          · exact hok p hpm
          · rw [List.mem_singleton.mp hpm]
            exact ⟨⟨by show ds.length ≤ m; omega, hdk⟩, ek⟩
        · have hll : l ≠ pl := fun z => by
            have := N1.at_
            rw [z, pn] at this
            cases this
          have N6 := (N3.fix X4).fix (Fix.of_same (b := b) S6)
          exact ⟨by rw [upd_ne hll]; exact N6.at_, N6.ne, N6.some_, N6.few, N6.ok⟩
        · obtain ⟨x, y, e', z⟩ := B4.same S6
          exact ⟨x, y, by rw [upd_ne hpb.symm]; exact e', z⟩
        · intro d o hd nd
          have h1 := X1 d o hd nd
          rw [upd_ne (plH d o h1 nd)]
          exact F6 d o hd nd
        · intro d o hd nd
          rw [upd_ne (plH d o hd nd)]
          exact S6 d o (X4 d o ((X2.trans X3) d o (Y' d o hd nd) nd) nd)
    · rintro σ H' ⟨u1, u2, u3, ps, vs, rfl, hp, hr, hl, hok, N', B', X', Y'⟩
      have hl' : ps.length = c := by rw [hl]; omega
      refine ⟨_, rfl, pl, _, rfl, .inl ⟨SqL.of hp, fun tp tn => ?_⟩⟩
      refine q (.ref tp) xs ps _ (.tup upd_same (hr.same (Same.new tn) (noLists_pieces ps))) hl' ⟨fun p hpm => (hok p hpm).1, fun p hpm => ?_⟩ ⟨N'.ok, x4⟩ (B'.new tn) (X'.trans (Fix.new tn))
      rw [hl']
      exact (hok p hpm).2
end
end My

set_option Elab.async false
set_option linter.all false
set_option maxRecDepth 100000
namespace My
open PySem PySem.Spec PyProof.Rows L2
section
variable {P : Program} {w : World} {K : PySem.W.Frag} {mg : Str → Option Value} {base : Heap}
set_option maxHeartbeats 4000000 in
theorem ok_law_all_names {f : Addr} {fd : FuncData} (F : Fun K "_law_all_names" "_law_all_names" s_law_all_names f fd) (Z : Bl mg)  : FnOk P w K mg base CX0 1 f fd ["plan"] spAllL := by
  refine F.ok (k := 0) sc_law_all_names (fun vs H Q E h => ?_) (fun cdv A outer s H vs Q E hr h => ?_)
  · obtain ⟨plv, ps, xs, m, rfl, _⟩ := h
    rfl
  · obtain ⟨plv, ps, xs, m, rfl, hp, pok, hx64, q⟩ := h
    refine ⟨_, (pss_cons (ps_set (i := 1) sc_law_all_names.nd rfl (Or.inl rfl) pe_dnewK)
      (pss_cons (ps_for PassesOwn.never rfl (pi_tup (pv 0)) (pg_tup rfl (pgs_cons (pg_name (i := 2) sc_law_all_names.nd rfl (Or.inl rfl)) (pgs_cons (pg_name (i := 3) sc_law_all_names.nd rfl (Or.inl rfl)) pgs_nil)))
      (pss_cons (ps_for PassesOwn.never rfl (pi_tup (pv 2)) (pg_name (i := 4) sc_law_all_names.nd rfl (Or.inl rfl))
      (pss_cons (ps_dput (hu_of hr) (pv 1) (pe_ix ix_tup (pv 4) pe_int (fun _ _ => rfl)) pe_bl rfl)
      (pss_one (ps_if (pt_cmpR op_eq (pe_ix ix_tup (pv 4) pe_int (fun _ _ => rfl)) pe_str (nomark _))
      (pss_one (ps_dput (hu_of hr) (pv 1) (pe_ix ix_tup (pv 4) pe_int (fun _ _ => rfl)) pe_bl rfl))
      pss_nil))))
      (pss_one (ps_if (pt_cmpR op_eq (pe_callB call_len_seq rfl Z.len bt_len (pa_cons (pv 3) pa_nil)) pe_int (nomark _))
      (pss_one (ps_dput (hu_of hr) (pv 1) (pe_ix ix_tup (pv 3) pe_int (fun _ _ => rfl)) pe_bl rfl))
      pss_nil))))
      (pss_one (ps_ret (pe_callB (call_sortedD rfl) rfl Z.sorted bt_sorted (pa_cons (pv 1) pa_nil)))))), ?_⟩

    obtain ⟨pp, vs, rfl, e1, r⟩ := RdD.tup_inv hp
    have hl := r.len
    refine fun nm nn => ?_
    have s0 := Same.new (o := .dK []) nn
    have kl : ∀ (i : Nat) (ds : List Deed) (kvs : List (Key × V)) (ns : List Str), (∀ x ∈ ns, x ∈ xs) → KeysAre kvs ns → kvs.length < sizeLine := fun i ds kvs ns hn h => by
      have := once_sub hn
      rw [h.len]
      exact small1000 (by omega)
    refine ⟨_, rfl, pp, rfl, ⟨_, SqT.of (s0 _ _ e1)⟩, for_tup (K := K) (a := pp) (xs := vs) (fun i σ H' => ∃ (kvs : List (Key × V)) (u1 u2 u3 : Option V), σ = [some (.ref pp), some (.ref nm), u1, u2, u3] ∧ H' nm = some (.dK kvs) ∧ KeysAre kvs (allNames (ps.take i)) ∧ Same H H') ?_ ?_ ?_ ?_⟩
    · exact ⟨[], _, _, _, rfl, upd_same, rfl, s0⟩
    · rintro i σ H1 hi ⟨kvs, u1, u2, u3, rfl, h1, k1, s1⟩
      exact SqT.of (s1 _ _ e1)
    · rintro i x σ H1 hi ⟨kvs, u1, u2, u3, rfl, h1, k1, s1⟩
      have hlt : i < ps.length := by
        have := (List.getElem?_eq_some_iff.mp hi).1
        rw [hl, List.length_map] at this
        exact this
      have hpi : ps[i]? = some ps[i] := by simp [hlt]
      generalize ps[i] = pe at hpi
      obtain ⟨ds, e⟩ := pe
      have hnext := flat_take (f := pNames) hpi
      have hin : ∀ x ∈ allNames (ps.take (i + 1)), x ∈ xs := fun x hx => by
        refine pNames_in pok x ?_
        obtain ⟨p, hp', hx'⟩ := List.mem_flatMap.mp hx
        exact List.mem_flatMap.mpr ⟨p, List.mem_of_mem_take hp', hx'⟩
      have hin' : ∀ y, y ∈ allNames (ps.take i) ∨ y ∈ ds.flatMap dNames ∨ y ∈ eNames e → y ∈ xs := fun y hy => by
        refine hin y ?_
        unfold allNames at hy ⊢
        rw [hnext, List.mem_append]
        unfold pNames at hy ⊢
        rcases hy with h | h
        · exact .inl h
        · exact .inr (List.mem_append.mpr h)
      obtain ⟨p', xs', pc, da, ea, ws, ep, e1', el', hx', e2, e3, r3, e4⟩ := rd_piece hp hpi
      cases ep
      rw [e1] at e1'
      cases e1'
      rw [hi] at hx'
      cases hx'
      refine ⟨pc, _, rfl, SqT.of (s1 _ _ e2), rfl, _, _, rfl, _, _, rfl, rfl, ?_⟩
      refine ⟨_, rfl, da, rfl, ⟨_, SqT.of (s1 _ _ e3)⟩, for_tup (K := K) (a := da) (xs := ws) (fun j σ H' => ∃ (kvs : List (Key × V)) (u3 : Option V), σ = [some (.ref pp), some (.ref nm), some (.ref da), some (.ref ea), u3] ∧ H' nm = some (.dK kvs) ∧ KeysAre kvs (allNames (ps.take i) ++ (ds.take j).flatMap dNames) ∧ Same H H') ?_ ?_ ?_ ?_⟩
      · exact ⟨kvs, _, rfl, h1, by simpa using k1, s1⟩
      · rintro j σ H2 hj ⟨kvs2, u3', rfl, h2, k2, s2⟩
        exact SqT.of (s2 _ _ e3)
      · rintro j y σ H2 hj ⟨kvs2, u3', rfl, h2, k2, s2⟩
        have hjl : j < ds.length := by
          have := (List.getElem?_eq_some_iff.mp hj).1
          rw [r3.len, List.length_map] at this
          exact this
        have hdj : ds[j]? = some ds[j] := by simp [hjl]
        generalize ds[j] = dd at hdj
        obtain ⟨v, hv, rd⟩ := r3.get (i := j) (d := dDeed dd) (by rw [List.getElem?_map, hdj]; rfl)
        rw [hj] at hv
        cases hv
        obtain ⟨dp, rfl, hdp⟩ := rd_deed rd
        have hdp2 := s2 _ _ hdp
        have ndp : dp ≠ nm := ne_of hdp2 h2 (by intro z; cases z)
        have hnj := flat_take (f := dNames) hdj
        have hinj : ∀ y ∈ allNames (ps.take i) ++ (ds.take j).flatMap dNames, y ∈ xs := fun y hy => by
          rcases List.mem_append.mp hy with h | h
          · exact hin' y (.inl h)
          · obtain ⟨d', hd', h'⟩ := List.mem_flatMap.mp h
            exact hin' y (.inr (.inl (List.mem_flatMap.mpr ⟨d', List.mem_of_mem_take hd', h'⟩)))
        have hmd : ∀ y ∈ dNames dd, y ∈ xs := fun y hy => hin' y (.inr (.inl (List.mem_flatMap.mpr ⟨dd, List.mem_of_getElem? hdj, hy⟩)))
        have e1d : ∃ tl, dNames dd = nameD dd :: tl := by cases dd <;> exact ⟨_, rfl⟩
        refine gname_ ?_
        refine ⟨_, rfl, _, rfl, dp, _, 1, _, rfl, rfl, SqT.of hdp2, at_nameD dd, nm, _, rfl, DPut.k (k := Sum.inr (nameD dd)) h2 (kl i ds _ _ hinj k2), ?_⟩
        have k3 := k2.put (nameD dd) (.bl true)
        have h3 : (upd H2 nm (.dK (putK kvs2 (Sum.inr (nameD dd)) (.bl true)))) nm = some (.dK (putK kvs2 (Sum.inr (nameD dd)) (.bl true))) := upd_same
        have hdp3 : (upd H2 nm (.dK (putK kvs2 (Sum.inr (nameD dd)) (.bl true)))) dp = some (.tup (vDeed dd)) := by rw [upd_ne ndp]; exact hdp2
        have s3 : Same H (upd H2 nm (.dK (putK kvs2 (Sum.inr (nameD dd)) (.bl true)))) := s2.put nn
        generalize (upd H2 nm (.dK (putK kvs2 (Sum.inr (nameD dd)) (.bl true)))) = H3 at h3 hdp3 s3
        refine ⟨_, rfl, dp, _, 0, _, rfl, rfl, SqT.of hdp3, (by cases dd <;> exact at0 : atI (vDeed dd) 0 = some (V.str (wD dd))), rfl, _, rfl, ?_⟩
        have one : dNames dd = [nameD dd] → KeysAre (putK kvs2 (Sum.inr (nameD dd)) (.bl true)) (allNames (ps.take i) ++ (ds.take (j + 1)).flatMap dNames) := fun e => by
          rw [hnj, e, ← List.append_assoc]; exact k3
        cases dd with
        | put a n => exact iteFb (show decide (V.str "put" = V.str "copy") = false by decide +kernel) ⟨_, _, rfl, h3, one rfl, s3⟩
        | add a n => exact iteFb (show decide (V.str "add" = V.str "copy") = false by decide +kernel) ⟨_, _, rfl, h3, one rfl, s3⟩
        | read a => exact iteFb (show decide (V.str "read" = V.str "copy") = false by decide +kernel) ⟨_, _, rfl, h3, one rfl, s3⟩
        | tell a => exact iteFb (show decide (V.str "tell" = V.str "copy") = false by decide +kernel) ⟨_, _, rfl, h3, one rfl, s3⟩
        | copy a c =>
          refine iteTb (show decide (V.str "copy" = V.str "copy") = true by decide +kernel) ?_
          have hin3 : ∀ y ∈ (allNames (ps.take i) ++ (ds.take j).flatMap dNames) ++ [a], y ∈ xs := fun y hy => by
            rcases List.mem_append.mp hy with h | h
            · exact hinj y h
            · rw [List.mem_singleton.mp h]; exact hmd a (List.mem_cons_self ..)
          refine ⟨_, rfl, _, rfl, dp, _, 2, _, rfl, rfl, SqT.of hdp3, at2, nm, _, rfl, DPut.k (k := Sum.inr c) h3 (kl i ds _ _ hin3 k3), ?_⟩
          refine ⟨_, _, rfl, upd_same, ?_, s3.put nn⟩
          rw [hnj, show dNames (.copy a c) = [a] ++ [c] from rfl, ← List.append_assoc, ← List.append_assoc]
          exact k3.put c (.bl true)
      · rintro σ H2 ⟨kvs2, u3', rfl, h2, k2, s2⟩
        rw [show ws.length = ds.length by rw [r3.len, List.length_map], List.take_length] at k2
        have e42 := s2 _ _ e4
        refine ⟨_, rfl, ea, _, rfl, .inr (SqT.of e42), rfl, _, rfl, ?_⟩
        have none_ : eNames e = [] → KeysAre kvs2 (allNames (ps.take (i + 1))) := fun z => by
          unfold allNames at k2 ⊢
          rw [hnext]
          simp only [pNames, z, List.append_nil]
          exact k2
        cases e with
        | stop =>
          refine iteFb (show decide (V.int ((1 : Nat) : Int) = V.int 5) = false by decide +kernel) ?_
          exact ⟨kvs2, _, _, _, rfl, h2, none_ rfl, s2⟩
        | go q1 =>
          refine iteFb (show decide (V.int ((2 : Nat) : Int) = V.int 5) = false by decide +kernel) ?_
          exact ⟨kvs2, _, _, _, rfl, h2, none_ rfl, s2⟩
        | tst b x n q1 q2 =>
          refine iteTb (show decide (V.int ((5 : Nat) : Int) = V.int 5) = true by decide +kernel) ?_
          have hine : ∀ y ∈ allNames (ps.take i) ++ ds.flatMap dNames, y ∈ xs := fun y hy => by
            rcases List.mem_append.mp hy with h | h
            · exact hin' y (.inl h)
            · exact hin' y (.inr (.inl h))
          refine ⟨_, rfl, _, rfl, ea, _, 1, _, rfl, rfl, SqT.of e42, at1, nm, _, rfl, DPut.k (k := Sum.inr x) h2 (kl i ds _ _ hine k2), ?_⟩
          refine ⟨_, _, _, _, rfl, upd_same, ?_, s2.put nn⟩
          have k3 := k2.put x (.bl true)
          unfold allNames at k3 ⊢
          rw [hnext]
          simp only [pNames, eNames]
          rw [← List.append_assoc]
          exact k3
    · rintro σ H1 ⟨kvs, u1, u2, u3, rfl, h1, k1, s1⟩
      rw [show vs.length = ps.length by rw [hl, List.length_map], List.take_length] at k1
      have hf := once_few pok
      refine ⟨_, rfl, nm, kvs, LS.onceK (allNames ps), rfl, h1, k1, (by omega), fun l ss hperm hs hn => ?_⟩
      exact q l ss _ upd_same hperm hs (by rw [hperm.length_eq]; omega) (s1.trans (Same.new hn))
end
end My

set_option Elab.async false
set_option linter.all false
set_option maxRecDepth 100000
namespace My
open PySem PySem.Spec PyProof.Rows L2
section
variable {P : Program} {w : World} {K : PySem.W.Frag} {mg : Str → Option Value} {base : Heap}
set_option maxHeartbeats 4000000 in
theorem ok_law_part {f : Addr} {fd : FuncData} (F : Fun K "_law_part" "_law_part" s_law_part f fd) (Z : Bl mg)  : FnOk P w K mg base CX0 1 f fd ["stretch", "word", "number", "side"] spPartL := by
  refine F.ok (k := 0) sc_law_part (fun vs H Q E h => ?_) (fun cdv A outer s H vs Q E hr h => ?_)
  · obtain ⟨p, b, n, side, lo, hi, rfl, _⟩ := h
    rfl
  · obtain ⟨p, b, n, side, lo, hi, rfl, hp, le, q⟩ := h
    refine ⟨_, (pss_cons (ps_asg (pv 0) (pg_tup rfl (pgs_cons (pg_name (i := 4) sc_law_part.nd rfl (Or.inl rfl)) (pgs_cons (pg_name (i := 5) sc_law_part.nd rfl (Or.inl rfl)) pgs_nil))))
      (pss_cons (ps_cut (ps_if (pt_cmpR op_eq (pv 1) pe_str (nomark _))
      (pss_one (ps_if (pt_val (pv 3))
      (pss_one (ps_set (i := 5) sc_law_part.nd rfl (Or.inl rfl) (pe_ix ix_list (pe_lst (pa_cons (pv 5) (pa_cons (pe_op op_sub (pv 2) pe_int) pa_nil))) (pe_callTy call_int1 rfl Z.int bt_int (pa_cons (pe_or (pe_cmp (pc_isN (pv 5))) (pe_one (pe_cmpR op_ge (pv 5) (pv 2) (nomark _)))) pa_nil)) (fun _ _ => rfl))))
      (pss_one (ps_set (i := 4) sc_law_part.nd rfl (Or.inl rfl) (pe_ix ix_list (pe_lst (pa_cons (pv 4) (pa_cons (pv 2) pa_nil))) (pe_callTy call_int1 rfl Z.int bt_int (pa_cons (pe_or (pe_cmp (pc_isN (pv 4))) (pe_one (pe_cmpR op_lt (pv 4) (pv 2) (nomark _)))) pa_nil)) (fun _ _ => rfl))))))
      (pss_one (ps_if (pt_val (pv 3))
      (pss_cons (ps_if (PW.pt (pw_or (PW.pt (pw_and (pt_cmp (pc_notN (pv 4))) (pw_and1 (pt_cmpR op_lt (pv 2) (pv 4) (nomark _))))) (pw_or1 (PW.pt (pw_and (pt_cmp (pc_notN (pv 5))) (pw_and1 (pt_cmpR op_gt (pv 2) (pv 5) (nomark _))))))))
      (pss_one (ps_ret pe_non))
      pss_nil)
      (pss_one (ps_ret (pe_tup (pa_cons (pv 2) (pa_cons (pv 2) pa_nil))))))
      (pss_cons (ps_if (pt_cmpR op_eq (pv 4) (pv 2) (nomark _))
      (pss_one (ps_set (i := 4) sc_law_part.nd rfl (Or.inl rfl) (pe_op op_add (pv 2) pe_int)))
      pss_nil)
      (pss_one (ps_if (pt_cmpR op_eq (pv 5) (pv 2) (nomark _))
      (pss_one (ps_set (i := 5) sc_law_part.nd rfl (Or.inl rfl) (pe_op op_sub (pv 2) pe_int)))
      pss_nil)))))))
      (pss_cons (ps_if (PW.pt (pw_and (pt_cmp (pc_notN (pv 4))) (pw_and (pt_cmp (pc_notN (pv 5))) (pw_and1 (pt_cmpR op_gt (pv 4) (pv 5) (nomark _))))))
      (pss_one (ps_ret pe_non))
      pss_nil)
      (pss_one (ps_ret (pe_tup (pa_cons (pv 4) (pa_cons (pv 5) pa_nil)))))))), ?_⟩

    refine ⟨_, rfl, p, _, rfl, SqT.of hp, rfl, _, _, rfl, _, _, rfl, rfl, ?_⟩
    refine ⟨fun σ' H' => ∃ lo' hi' : Option Int, σ' = [some (.ref p), some (.str (wT b)), some (.int n), some (.bl side), some (vO lo'), some (vO hi')] ∧ chkF lo' hi' = partF (wT b) lo hi n side ∧ Same H H', ?_, ?_⟩
    · refine ⟨_, rfl, rfl, _, rfl, ?_⟩
      cases b with
      | true =>
        have ew : (wT true : Str) = "less" := rfl
        refine iteTb (show decide (V.str (wT true) = V.str "less") = true by decide +kernel) ?_
        refine ⟨_, rfl, _, rfl, ?_⟩
        cases side with
        | true =>
          have ep : ∀ hi', some (topF hi n) = hi' → chkF lo hi' = partF (wT true) lo hi n true := fun hi' e => by
            rw [← e, chk_below]; simp only [partF, ew, if_pos, lessF]
          refine iteT ?_
          refine ⟨_, rfl, _, rfl, _, _, rfl, rfl, ln2, fun l hl => ?_⟩
          cases hi with
          | none =>
            refine ⟨_, rfl, _, rfl, iteT (.inr ⟨_, rfl, ?_⟩)⟩
            exact ⟨l, _, _, _, rfl, rfl, SqL.of upd_same, at1, lo, some (n - 1), rfl, ep _ rfl, Same.new hl⟩
          | some h =>
            refine ⟨_, rfl, _, rfl, iteF ⟨_, rfl, _, rfl, _, _, rfl, rfl, .inr ⟨_, rfl, ?_⟩⟩⟩
            have key : ∀ bb : Bool, atI [vO (some h), V.int (n - 1)] (if bb = true then 1 else 0) = some (vO (if bb = true then some (n - 1) else some h)) := fun bb => by
              cases bb
              · exact at0
              · exact at1
            refine ⟨l, _, _, _, rfl, rfl, SqL.of upd_same, key _, lo, _, rfl, ep _ ?_, Same.new hl⟩
            simp only [topF]
            by_cases hc : n ≤ h
            · rw [if_pos (by omega), if_pos (decide_eq_true hc)]
            · rw [if_neg (by omega), if_neg (fun z => hc (of_decide_eq_true z))]
        | false =>
          have ep : ∀ lo', some (botF lo n) = lo' → chkF lo' hi = partF (wT true) lo hi n false := fun lo' e => by
            rw [← e, chk_from]; simp only [partF, ew, if_pos, lessF, Bool.false_eq_true, if_false]
          refine iteF ?_
          refine ⟨_, rfl, _, rfl, ln2, fun l hl => ?_⟩
          cases lo with
          | none =>
            refine ⟨_, rfl, _, rfl, iteT (.inr ⟨_, rfl, ?_⟩)⟩
            exact ⟨l, _, _, _, rfl, rfl, SqL.of upd_same, at1, some n, hi, rfl, ep _ rfl, Same.new hl⟩
          | some a =>
            refine ⟨_, rfl, _, rfl, iteF ⟨_, rfl, _, rfl, _, _, rfl, rfl, .inr ⟨_, rfl, ?_⟩⟩⟩
            have key : ∀ bb : Bool, atI [vO (some a), V.int n] (if bb = true then 1 else 0) = some (vO (if bb = true then some n else some a)) := fun bb => by
              cases bb
              · exact at0
              · exact at1
            refine ⟨l, _, _, _, rfl, rfl, SqL.of upd_same, key _, _, hi, rfl, ep _ ?_, Same.new hl⟩
            simp only [botF]
            by_cases hc : a < n
            · rw [if_pos (by omega), if_pos (decide_eq_true hc)]
            · rw [if_neg (by omega), if_neg (fun z => hc (of_decide_eq_true z))]
      | false =>
        have ew : ¬ (wT false : Str) = "less" := by decide +kernel
        refine iteFb (show decide (V.str (wT false) = V.str "less") = false by decide +kernel) ?_
        refine ⟨_, rfl, _, rfl, ?_⟩
        cases side with
        | true =>
          refine iteT ?_
          have eq_ : partF (wT false) lo hi n true = atF lo hi n := by simp only [partF, if_neg ew, isF, if_true]
          rw [eq_] at q
          have yes : liesB n lo hi = true → ∀ t, RV (upd H t (.tup [.int n, .int n])) (.ref t) (atF lo hi n) := fun h t => by
            unfold atF; rw [if_pos h]; exact ⟨t, rfl, upd_same⟩
          have no : liesB n lo hi = false → RV H .non (atF lo hi n) := fun h => by
            unfold atF; rw [if_neg (by rw [h]; decide)]; rfl
          have fin : liesB n lo hi = true → _ := fun h => (show tRet (tTup (tCons (tVar 2) (tCons (tVar 2) tNil))) ⟨fun _ _ => False, Q, fun _ _ => False, fun _ _ => False⟩ [some (.ref p), some (.str (wT false)), some (.int n), some (.bl true), some (vO lo), some (vO hi)] H from ⟨_, rfl, _, rfl, ln2, fun t nt => q _ _ (yes h t) (Same.new nt)⟩)
          cases lo with
          | none =>
            cases hi with
            | none =>
              refine ⟨_, rfl, _, rfl, iteF ⟨_, rfl, _, rfl, iteF (iteF ?_)⟩⟩
              exact ⟨_, rfl, _, rfl, ln2, fun t nt => q _ _ (yes rfl t) (Same.new nt)⟩
            | some h =>
              refine ⟨_, rfl, _, rfl, iteF ⟨_, rfl, _, rfl, iteT ⟨_, rfl, _, rfl, _, _, rfl, rfl, _, rfl, ?_⟩⟩⟩
              refine ite2 (fun hc => ?_) (fun hc => ?_)
              · refine q _ _ (no ?_) (Same.refl H)
                have : h < n := of_decide_eq_true hc
                simp [liesB]; omega
              · refine ⟨_, rfl, _, rfl, ln2, fun t nt => q _ _ (yes ?_ t) (Same.new nt)⟩
                have : ¬ h < n := fun z => hc (decide_eq_true z)
                simp [liesB]; omega
          | some a =>
            refine ⟨_, rfl, _, rfl, iteT ⟨_, rfl, _, rfl, _, _, rfl, rfl, _, rfl, ?_⟩⟩
            refine ite2 (fun hc => ?_) (fun hc => ?_)
            · refine q _ _ (no ?_) (Same.refl H)
              have : n < a := of_decide_eq_true hc
              cases hi <;> simp [liesB] <;> omega
            · have hna : ¬ n < a := fun z => hc (decide_eq_true z)
              cases hi with
              | none =>
                refine ⟨_, rfl, _, rfl, iteF (iteF ?_)⟩
                refine ⟨_, rfl, _, rfl, ln2, fun t nt => q _ _ (yes ?_ t) (Same.new nt)⟩
                simp [liesB]; omega
              | some h =>
                refine ⟨_, rfl, _, rfl, iteT ⟨_, rfl, _, rfl, _, _, rfl, rfl, _, rfl, ?_⟩⟩
                refine ite2 (fun hc => ?_) (fun hc => ?_)
                · refine q _ _ (no ?_) (Same.refl H)
                  have : h < n := of_decide_eq_true hc
                  simp [liesB]; omega
                · refine ⟨_, rfl, _, rfl, ln2, fun t nt => q _ _ (yes ?_ t) (Same.new nt)⟩
                  have : ¬ h < n := fun z => hc (decide_eq_true z)
                  simp [liesB]; omega
        | false =>
          refine iteF ?_
          have ep : chkF (if lo = some n then some (n + 1) else lo) (if hi = some n then some (n - 1) else hi) = partF (wT false) lo hi n false := by
            rw [chk_bes le]; simp only [partF, if_neg ew, isF, Bool.false_eq_true, if_false]
          refine ⟨_, rfl, _, rfl, scal_o, _, rfl, ?_⟩
          rw [dec_o]
          refine ite2 (fun hc => ?_) (fun hc => ?_)
          · have h1 : lo = some n := of_decide_eq_true hc
            rw [if_pos h1] at ep
            refine ⟨_, rfl, _, _, rfl, rfl, ?_⟩
            refine ⟨_, rfl, _, rfl, scal_o, _, rfl, ?_⟩
            rw [dec_o]
            refine ite2 (fun hd => ?_) (fun hd => ?_)
            · rw [if_pos (of_decide_eq_true hd)] at ep
              exact ⟨_, rfl, _, _, rfl, rfl, _, _, rfl, ep, Same.refl H⟩
            · rw [if_neg (fun z => hd (decide_eq_true z))] at ep
              exact ⟨_, _, rfl, ep, Same.refl H⟩
          · rw [if_neg (fun z => hc (decide_eq_true z))] at ep
            refine ⟨_, rfl, _, rfl, scal_o, _, rfl, ?_⟩
            rw [dec_o]
            refine ite2 (fun hd => ?_) (fun hd => ?_)
            · rw [if_pos (of_decide_eq_true hd)] at ep
              exact ⟨_, rfl, _, _, rfl, rfl, _, _, rfl, ep, Same.refl H⟩
            · rw [if_neg (fun z => hd (decide_eq_true z))] at ep
              exact ⟨_, _, rfl, ep, Same.refl H⟩
    rintro σ' H1 ⟨lo', hi', rfl, ec, s1⟩
    rw [← ec] at q
    cases lo' with
    | none =>
      refine ⟨_, rfl, _, rfl, iteF (iteF ?_)⟩
      exact ⟨_, rfl, _, rfl, ln2, fun t nt => q _ _ (by cases hi' <;> exact ⟨t, rfl, upd_same⟩) (s1.trans (Same.new nt))⟩
    | some a =>
      cases hi' with
      | none =>
        refine ⟨_, rfl, _, rfl, iteT ⟨_, rfl, _, rfl, iteF (iteF ?_)⟩⟩
        exact ⟨_, rfl, _, rfl, ln2, fun t nt => q _ _ ⟨t, rfl, upd_same⟩ (s1.trans (Same.new nt))⟩
      | some h =>
        refine ⟨_, rfl, _, rfl, iteT ⟨_, rfl, _, rfl, iteT ⟨_, rfl, _, rfl, _, _, rfl, rfl, _, rfl, ?_⟩⟩⟩
        refine ite2 (fun hc => ?_) (fun hc => ?_)
        · have : h < a := of_decide_eq_true hc
          exact q _ _ (by show RV H1 .non (if h < a then none else _); rw [if_pos this]; rfl) s1
        · have : ¬ h < a := fun z => hc (decide_eq_true z)
          exact ⟨_, rfl, _, rfl, ln2, fun t nt => q _ _ (by show RV _ (.ref t) (if h < a then none else _); rw [if_neg this]; exact ⟨t, rfl, upd_same⟩) (s1.trans (Same.new nt))⟩
end
end My

set_option Elab.async false
set_option linter.all false
set_option maxRecDepth 100000
namespace My
open PySem PySem.Spec PyProof.Rows L2
section
variable {P : Program} {w : World} {K : PySem.W.Frag} {mg : Str → Option Value} {base : Heap}
set_option maxHeartbeats 4000000 in
theorem ok_law_with {f : Addr} {fd : FuncData} (F : Fun K "_law_with" "_law_with" s_law_with f fd) (Z : Bl mg)  : FnOk P w K mg base CX0 1 f fd ["facts", "name", "stretch"] spWithL := by
  refine F.ok (k := 0) sc_law_with (fun vs H Q E h => ?_) (fun cdv A outer s H vs Q E hr h => ?_)
  · obtain ⟨d, T, m, x, sv, s, rfl, _⟩ := h
    rfl
  · obtain ⟨d, T, m, x, sv, s, rfl, lt, hm, sh, q⟩ := h
    refine ⟨_, (pss_cons (ps_set (i := 3) sc_law_with.nd rfl (Or.inl rfl) pe_dnewK)
      (pss_cons (ps_cut (ps_forD PassesOwn.never rfl (pv 0) (pg_name (i := 4) sc_law_with.nd rfl (Or.inl rfl))
      (pss_one (ps_dput (hu_of hr) (pv 3) (pv 4) (pe_dget (hu_of hr) (pv 0) (pv 4) (fun _ _ => rfl)) rfl))))
      (pss_cons (ps_cut (ps_expr (pe_dpop2 (pv 3) (pv 1) pe_non ⟨rfl, rfl, rfl, rfl⟩)))
      (pss_cons (ps_if (pt_cmpR (op_neD hr.units) (pv 2) (pe_tup (pa_cons pe_non (pa_cons pe_non pa_nil))) (nomark _))
      (pss_one (ps_dput (hu_of hr) (pv 3) (pv 1) (pv 2) rfl))
      pss_nil)
      (pss_one (ps_ret (pv 3))))))), ?_⟩

    obtain ⟨kvs, ks, hd, tb, cl, hl⟩ := lt
    have kl : kvs.length = ks.length := by have := congrArg List.length tb.keys; simpa using this
    have ndk : (kvs.map (·.1)).Nodup := by
      rw [tb.keys]
      exact List.Pairwise.map _ (fun a b n z => n (Sum.inr.inj z)) tb.nd
    refine fun md nmd => ?_
    have ndm : d ≠ md := ne_of_none hd nmd
    refine ⟨fun σ' H' => ∃ u : Option V, σ' = [some (.ref d), some (.str x), some sv, some (.ref md), u] ∧ H' md = some (.dK kvs) ∧ Same H H', ?_, ?_⟩
    · refine ⟨_, rfl, d, kvs, rfl, (by rw [upd_ne ndm]; exact hd), fun ob => ⟨fun j τ H2 => ∃ u : Option V, τ = [some (.ref d), some (.str x), some sv, some (.ref md), u] ∧ H2 d = some (.frz ob (.dK kvs)) ∧ H2 md = some (.dK (kvs.take j)) ∧ ∀ c o, H c = some o → c ≠ d → H2 c = some o, ?_, ?_, ?_, ?_⟩⟩
      · refine ⟨none, rfl, upd_same, by rw [upd_ne ndm.symm, upd_same]; rfl, fun c o e n => ?_⟩
        rw [upd_ne n, upd_ne (ne_of_none e nmd)]
        exact e
      · rintro j τ H2 ⟨u, _, h, _⟩
        exact h
      · rintro j k v τ H2 hj ⟨u, rfl, h1, h2, h3⟩
        have hj' : j < kvs.length := (List.getElem?_eq_some_iff.mp hj).1
        refine gname_ ?_
        have dg : DGet H2 d (kV k) (some v) := .inl ⟨kvs, k, .inr ⟨ob, h1⟩, rfl, (valV_mem ndk (List.mem_of_getElem? hj)).symm⟩
        refine ⟨_, rfl, _, rfl, d, v, rfl, dg, _, rfl, _, rfl, md, _, rfl, DPut.k (k := k) h2 (small1000 (by rw [List.length_take]; omega)), ?_⟩
        refine ⟨_, rfl, by rw [upd_ne ndm]; exact h1, by rw [upd_same, putK_take ndk hj], fun c o e n => ?_⟩
        rw [upd_ne (ne_of_none e nmd)]
        exact h3 c o e n
      · rintro τ H2 ⟨u, rfl, h1, h2, h3⟩
        refine ⟨u, rfl, by rw [upd_ne ndm.symm, h2, List.take_length], fun c o e => ?_⟩
        by_cases z : c = d
        · subst z
          rw [hd] at e
          cases e
          exact upd_same
        · rw [upd_ne z]
          exact h3 c o e z
    rintro σ' H1 ⟨u, rfl, hmd, s1⟩
    have tb1 : Tb 0 H1 kvs ks T := tb.tups fun p xs e => s1 _ _ e
    have sh1 : SH H1 sv s := sh.tups fun p xs e => s1 _ _ e
    refine ⟨fun σ' H2 => ∃ (kvs2 : List (Key × V)) (ks2 : List Str), σ' = [some (.ref d), some (.str x), some sv, some (.ref md), u] ∧ H2 md = some (.dK kvs2) ∧ Tb 0 H2 kvs2 ks2 (setT T x allS) ∧ (∀ y ∈ ks2, setT T x allS y ≠ allS) ∧ ks2.length ≤ m ∧ Same H H2,
      ⟨_, rfl, md, rfl, .inl ⟨kvs, .inl hmd⟩, _, rfl, kvs, Sum.inr x, hmd, rfl, fun v ev => ?_, fun ev => ?_⟩, ?_⟩
    · refine ⟨_, _, rfl, upd_same, (tb1.drop x).tups (fun p xs e => by rw [upd_ne (ne_of e hmd (by intro z; cases z))]; exact e), fun y hy => ?_, Nat.le_trans (List.length_filter_le _ _) hl, s1.put nmd⟩
      obtain ⟨h1, h2⟩ := List.mem_filter.mp hy
      have hne : y ≠ x := of_decide_eq_true h2
      unfold setT
      rw [if_neg hne]
      exact cl y h1
    · have hT : T x = allS := by
        rcases tb.val x with ⟨_, a, _⟩ | ⟨v, a, _⟩
        · exact a
        · rw [ev] at a; cases a
      exact ⟨kvs, ks, rfl, hmd, by rw [setT_same hT]; exact tb1, by rw [setT_same hT]; exact cl, hl, s1⟩
    rintro σ' H2 ⟨kvs2, ks2, rfl, hm2, tb2, cl2, hl2, s2⟩
    have kl2 : kvs2.length = ks2.length := by have := congrArg List.length tb2.keys; simpa using this
    refine ⟨_, rfl, ln2, fun t nt => ?_⟩
    have s3 := Same.new (o := .tup [.non, .non]) nt
    have ht : (upd H2 t (.tup [.non, .non])) t = some (.tup [.non, .non]) := upd_same
    generalize (upd H2 t (.tup [.non, .non])) = H3 at s3 ht
    have sh3 : SH H3 sv s := sh.tups fun p xs e => s3 _ _ (s2 _ _ e)
    have tb3 := tb2.tups (H' := H3) fun p xs e => s3 _ _ e
    have hm3 := s3 _ _ hm2
    refine ⟨dS s, .tuple [.none, .none], sh3.rd, .tup ht (.cons .non (.cons .non .nil)), lay_s s, rfl, (by have := dep_s s; omega), _, rfl, ?_⟩
    by_cases hs : s = allS
    · refine iteFb (by rw [eqv_all, decide_eq_true hs]; rfl) ?_
      subst hs
      exact ⟨_, rfl, q md H3 ⟨kvs2, ks2, hm3, tb3, cl2, Nat.le_succ_of_le hl2⟩ (s2.trans s3)⟩
    · refine iteTb (by rw [eqv_all, decide_eq_false hs]; rfl) ?_
      refine ⟨_, rfl, _, rfl, _, rfl, md, _, rfl, DPut.k (k := Sum.inr x) hm3 (small1000 (by omega)), ?_⟩
      obtain ⟨ks4, tb4, k4, m4⟩ := tb3.put x (.inl sh3)
      rw [setT_setT] at tb4
      refine ⟨_, rfl, q md _ ⟨_, ks4, upd_same, tb4.tups (fun p xs e => by rw [upd_ne (ne_of e hm3 (by intro z; cases z))]; exact e), fun y hy => ?_, by omega⟩ ((s2.trans s3).put nmd)⟩
      unfold setT
      by_cases e : y = x
      · rw [if_pos e]; exact hs
      · rw [if_neg e]
        have h1 := cl2 y (((m4 y).mp hy).elim id fun z => absurd z e)
        unfold setT at h1
        rw [if_neg e] at h1
        exact h1
end
end My

set_option Elab.async false
set_option linter.all false
set_option maxRecDepth 100000
namespace My
open PySem PySem.Spec PyProof.Rows L2
section
variable {P : Program} {w : World} {K : PySem.W.Frag} {mg : Str → Option Value} {base : Heap}
set_option maxHeartbeats 4000000 in
theorem ok_law_leads {f : Addr} {fd : FuncData} (F : Fun K "_law_leads" "_law_leads" s_law_leads f fd) (Z : Bl mg) (O_law_part : Own P w K mg base "_law_part" 1 ["stretch", "word", "number", "side"] spPartL) (O_law_with : Own P w K mg base "_law_with" 1 ["facts", "name", "stretch"] spWithL) : FnOk P w K mg base CX0 3 f fd ["facts", "end"] spLeadsL := by
  refine F.ok (k := 2) sc_law_leads (fun vs H Q E h => ?_) (fun cdv A outer s H vs Q E hr h => ?_)
  · obtain ⟨d, ea, T, e, m, rfl, _⟩ := h
    rfl
  · obtain ⟨d, ea, T, e, m, rfl, lt, hm, le, he, q⟩ := h
    refine ⟨_, (pss_cons (ps_if (pt_cmpR op_eq (pe_ix ix_tup (pv 1) pe_int (fun _ _ => rfl)) pe_str (nomark _))
      (pss_one (ps_ret (pe_lst pa_nil)))
      pss_nil)
      (pss_cons (ps_if (pt_cmpR op_eq (pe_ix ix_tup (pv 1) pe_int (fun _ _ => rfl)) pe_str (nomark _))
      (pss_one (ps_ret (pe_lst (pa_cons (pe_tup (pa_cons pe_non (pa_cons (pe_ix ix_tup (pv 1) pe_int (fun _ _ => rfl)) (pa_cons (pv 0) pa_nil)))) pa_nil))))
      pss_nil)
      (pss_cons (ps_set (i := 2) sc_law_leads.nd rfl (Or.inl rfl) (pe_lst pa_nil))
      (pss_cons (ps_for PassesOwn.never rfl (pi_list (pe_lst (pa_cons pe_bl (pa_cons pe_bl pa_nil)))) (pg_name (i := 3) sc_law_leads.nd rfl (Or.inl rfl))
      (pss_cons (ps_cut (ps_set (i := 4) sc_law_leads.nd rfl (Or.inl rfl) (pe_own O_law_part (hr.mono (by decide)) rfl (pa_cons (pe_dget2v (hu_of hr) (pv 0) (pe_ix ix_tup (pv 1) pe_int (fun _ _ => rfl)) (pe_tup (pa_cons pe_non (pa_cons pe_non pa_nil))) ⟨rfl, rfl, rfl, rfl⟩) (pa_cons (pe_ix ix_tup (pv 1) pe_int (fun _ _ => rfl)) (pa_cons (pe_ix ix_tup (pv 1) pe_int (fun _ _ => rfl)) (pa_cons (pv 3) pa_nil)))))))
      (pss_one (ps_if (pt_cmp (pc_notN (pv 4)))
      (pss_one (ps_expr (pe_bm PySem.F.plainAttrs_list PySem.F.slot_list_append PySem.F.type_list_append mt_append (pv 2) (pa_cons (pe_tup (pa_cons (pv 3) (pa_cons (pe_ix ix_tup (pv 1) (pe_op op_sub pe_int (pe_callTy call_int1 rfl Z.int bt_int (pa_cons (pv 3) pa_nil))) (fun _ _ => rfl)) (pa_cons (pe_own O_law_with (hr.mono (by decide)) rfl (pa_cons (pv 0) (pa_cons (pe_ix ix_tup (pv 1) pe_int (fun _ _ => rfl)) (pa_cons (pv 4) pa_nil)))) pa_nil)))) pa_nil))))
      pss_nil))))
      (pss_one (ps_ret (pv 2))))))), ?_⟩

    refine ⟨_, rfl, ea, _, 0, _, rfl, rfl, SqT.of he, (by cases e <;> exact at0 : atI (vEnd e) 0 = some (V.str (wE e))), rfl, _, rfl, ?_⟩
    cases e with
    | stop =>
      refine iteTb (show decide (V.str "stop" = V.str "stop") = true by decide +kernel) ?_
      exact ⟨(by show 0 ≤ sizeLine; decide), fun l hl => q l [] _ upd_same .nil (Same.new hl)⟩
    | go p =>
      refine iteFb (show decide (V.str "go" = V.str "stop") = false by decide +kernel) ?_
      refine ⟨_, rfl, ea, _, 0, _, rfl, rfl, SqT.of he, at0, rfl, _, rfl, ?_⟩
      refine iteTb (show decide (V.str "go" = V.str "go") = true by decide +kernel) ?_
      refine ⟨_, rfl, ea, _, 1, _, rfl, rfl, SqT.of he, at1, _, rfl, ln3, fun t nt => ⟨ln1, fun l hl => ?_⟩⟩
      have q1 := Same.new (o := .tup [.non, .int (p : Nat), .ref d]) nt
      have q2 := Same.new (o := .lst [V.ref t]) hl
      exact q l _ _ upd_same (.cons ⟨t, .non, d, rfl, q2 _ _ upd_same, ((lt.same q1).same q2).up (Nat.le_succ _)⟩ .nil) (q1.trans q2)
    | tst b x n p r =>
      refine iteFb (show decide (V.str (wT b) = V.str "stop") = false by cases b <;> decide +kernel) ?_
      refine ⟨_, rfl, ea, _, 0, _, rfl, rfl, SqT.of he, at0, rfl, _, rfl, ?_⟩
      refine iteFb (show decide (V.str (wT b) = V.str "go") = false by cases b <;> decide +kernel) ?_
      refine ⟨(by show 0 ≤ sizeLine; decide), fun fl hfl => ?_⟩
      have s1 := Same.new (o := .lst []) hfl
      have hfl1 : (upd H fl (.lst [])) fl = some (.lst []) := upd_same
      generalize (upd H fl (.lst [])) = H1 at s1 hfl1
      refine ⟨ln2, fun sl hsl => ⟨sl, rfl, ⟨_, SqL.of upd_same⟩, ?_⟩⟩
      have s2 := Same.new (o := .lst [.bl true, .bl false]) hsl
      have hsl2 : (upd H1 sl (.lst [.bl true, .bl false])) sl = some (.lst [.bl true, .bl false]) := upd_same
      have nsl : sl ≠ fl := (ne_of_none hfl1 hsl).symm
      have hfl2 := s2 _ _ hfl1
      generalize (upd H1 sl (.lst [.bl true, .bl false])) = H2 at s2 hsl2 hfl2
      refine for_list (K := K) (a := sl) (xs := [.bl true, .bl false]) (fun i σ H' => ∃ (u1 u2 : Option V) (vs : List V), σ = [some (.ref d), some (.ref ea), some (.ref fl), u1, u2] ∧ H' fl = some (.lst vs) ∧ H' sl = some (.lst [.bl true, .bl false]) ∧ TVs (m + 1) H' vs ((((waysE (.tst b x n p r)).zip (beyF T (.tst b x n p r))).take i).filterMap fun p => p.2.map fun U => (p.1, U)) ∧ vs.length ≤ i ∧ Same H H') ?_ ?_ ?_ ?_
      · exact ⟨_, _, [], rfl, hfl2, hsl2, .nil, Nat.le_refl _, s1.trans s2⟩
      · rintro i σ H3 hi ⟨u1, u2, vs, rfl, h1, h2, tv, hvl, s3⟩
        exact SqL.of h2
      · rintro i y σ H3 hi ⟨u1, u2, vs, rfl, h1, h2, tv, hvl, s3⟩
        obtain ⟨side, rfl, hwy, hby, hi2⟩ : ∃ side : Bool, y = .bl side ∧ (waysE (.tst b x n p r))[i]? = some (if side = true then p else r) ∧ (beyF T (.tst b x n p r))[i]? = some ((prt T b x n side).map (setT T x)) ∧ i < 2 := by
          match i, hi with
          | 0, hi => cases hi; exact ⟨true, rfl, rfl, rfl, by omega⟩
          | 1, hi => cases hi; exact ⟨false, rfl, rfl, rfl, by omega⟩
          | i + 2, hi => simp at hi
        have hnext := lead_take (T := T) (e := .tst b x n p r) hwy hby
        have he3 := s3 _ _ he
        have lt3 := lt.same s3
        obtain ⟨kvs, ks, hd3, tb3, cl3, hl3⟩ := id lt3
        refine gname_ ?_
        refine ⟨fun σ' H' => ∃ v : V, σ' = [some (.ref d), some (.ref ea), some (.ref fl), some (.bl side), some v] ∧ RV H' v (prt T b x n side) ∧ Same H3 H', ?_, ?_⟩
        · refine ⟨_, rfl, d, rfl, .inl ⟨kvs, .inl hd3⟩, _, rfl, ea, _, 1, _, rfl, rfl, SqT.of he3, at1, ln2, fun t nt => ?_⟩
          have s4 := Same.new (o := .tup [.non, .non]) nt
          obtain ⟨v, ev, sv⟩ := LT.get (tb3.tups fun p xs e => Same.new (o := .tup [.non, .non]) nt _ _ e) cl3 upd_same x
          obtain ⟨sq, rfl, hsq⟩ := id sv
          refine ⟨_, _, DGet.k (k := Sum.inr x) (s4 _ _ hd3), ev, ?_⟩
          refine ⟨_, rfl, ea, _, 0, _, rfl, rfl, SqT.of (s4 _ _ he3), at0, _, rfl, ea, _, 2, _, rfl, rfl, SqT.of (s4 _ _ he3), at2, _, rfl, sq, b, n, side, _, _, rfl, hsq, le x, fun v H5 r5 s5 => ?_⟩
          exact ⟨v, rfl, r5, s4.trans s5⟩
        rintro σ' H4 ⟨v, rfl, rv, s4⟩
        have h14 := s4 _ _ h1
        have h24 := s4 _ _ h2
        have tv4 := tv.same s4
        refine ⟨_, rfl, _, rfl, ?_⟩
        cases hp : prt T b x n side with
        | none =>
          rw [hp] at rv hnext
          cases (show v = V.non from rv)
          refine iteF ?_
          refine ⟨_, _, vs, rfl, h14, h24, ?_, Nat.le_succ_of_le hvl, s3.trans s4⟩
          rw [hnext]
          simpa using tv4
        | some sx =>
          rw [hp] at rv hnext
          have shv : SH H4 v sx := by
            obtain ⟨a1, b1⟩ := sx
            obtain ⟨yp, e, h⟩ := rv
            exact ⟨yp, e, h⟩
          obtain ⟨yp, rfl, hyp⟩ := id shv
          refine iteT ?_
          have he4 := s4 _ _ he3
          have hat : atI (vEnd (.tst b x n p r)) (4 - (if side = true then 1 else 0)) = some (V.int ((if side = true then p else r : Nat) : Nat)) := by
            cases side
            · exact atI_nat (j := 4) rfl
            · exact atI_nat (j := 3) rfl
          refine ⟨_, rfl, .inl ⟨rfl, _, SqL.of h14⟩, _, rfl, _, rfl, _, rfl, .inr ⟨_, rfl, _, _, rfl, rfl, ea, _, _, _, rfl, rfl, SqT.of he4, hat, ?_⟩⟩
          refine ⟨_, rfl, _, rfl, ea, _, 1, _, rfl, rfl, SqT.of he4, at1, _, rfl, d, T, m, x, .ref yp, sx, rfl, lt3.same s4, (by omega), shv, fun d' H5 lt5 s5 => ⟨ln3, fun t nt => ?_⟩⟩
          have s6 := Same.new (o := .tup [.bl side, .int ((if side = true then p else r : Nat) : Nat), .ref d']) nt
          have h16 := s6 _ _ (s5 _ _ h14)
          refine ⟨fl, vs, _, rfl, rfl, h16, small1000 (by omega), ?_⟩
          refine ⟨_, _, vs ++ [.ref t], rfl, upd_same, by rw [upd_ne nsl]; exact s6 _ _ (s5 _ _ h24), ?_, (by rw [List.length_append]; show _ + 1 ≤ _; omega), ((s3.trans s4).trans (s5.trans s6)).put hfl⟩
          rw [hnext]
          refine paired_app (((tv4.same s5).same s6).put h16) (.cons ⟨t, .bl side, d', rfl, ?_, (lt5.same s6).put h16⟩ .nil)
          have ht : (upd H5 t (.tup [.bl side, .int ((if side = true then p else r : Nat) : Nat), .ref d'])) t = some (.tup [.bl side, .int ((if side = true then p else r : Nat) : Nat), .ref d']) := upd_same
          rw [upd_ne (ne_of ht h16 (by intro z; cases z))]
          exact ht
      · rintro σ H3 ⟨u1, u2, vs, rfl, h1, h2, tv, hvl, s3⟩
        exact ⟨_, rfl, q fl vs H3 h1 tv s3⟩
end
end My

set_option Elab.async false
set_option linter.all false
set_option maxRecDepth 100000
namespace My
open PySem PySem.Spec PyProof.Rows L2
section
variable {P : Program} {w : World} {K : PySem.W.Frag} {mg : Str → Option Value} {base : Heap}
set_option maxHeartbeats 4000000 in
theorem ok_law_told {f : Addr} {fd : FuncData} (F : Fun K "_law_told" "_law_told" s_law_told f fd) (Z : Bl mg)  : FnOk P w K mg base CX0 1 f fd ["facts"] spToldL := by
  refine F.ok (k := 0) sc_law_told (fun vs H Q E h => ?_) (fun cdv A outer s H vs Q E hr h => ?_)
  · obtain ⟨d, T, rfl, _⟩ := h
    rfl
  · obtain ⟨d, T, rfl, lt, q⟩ := h
    refine ⟨_, (pss_one (ps_ret (pe_callTy call_tuple_of rfl Z.tuple bt_tuple (pa_cons (pe_lcomp ["name"] ["facts"] [0] rfl (pi_list (pe_callB (call_sortedD rfl) rfl Z.sorted bt_sorted (pa_cons (pv 0) pa_nil))) rfl (by decide +kernel) (by decide +kernel) (by decide +kernel) ⟨⟨rfl, .inl rfl, rfl⟩, True.intro⟩ (fun _ _ _ _ => (pg_name (i := 0) (show ((["name"] : List Str) ++ (["facts"] : List Str)).Nodup by decide +kernel) rfl (Or.inl rfl) (hf := Or.inr rfl))) (fun _ _ _ _ => pts_nil) (fun _ _ _ _ => (pe_tup (pa_cons (pv 0) (pa_cons (pe_dget (hu_of hr) (pv 1) (pv 0) (fun _ _ => rfl)) pa_nil))))) pa_nil)))), ?_⟩

    obtain ⟨kvs, ks, hd, tb, cl, hl⟩ := lt
    refine ⟨_, rfl, d, kvs, ks, rfl, hd, tb.keys, (by omega), fun l ss hp hs hn => ?_⟩
    have srt : Srt ss := ⟨sorted_pw hs, hp.nodup_iff.mpr tb.nd⟩
    have hl1 : (upd H l (.lst (ss.map V.str))) l = some (.lst (ss.map V.str)) := upd_same
    have s1 : Same H (upd H l (.lst (ss.map V.str))) := Same.new hn
    have hssl : ss.length < 64 := by rw [hp.length_eq]; omega
    generalize (upd H l (.lst (ss.map V.str))) = H1 at hl1 s1
    refine ⟨l, rfl, ⟨_, SqL.of hl1⟩, fun acc na => ?_⟩
    refine lc_list (K := K) (a := l) (xs := ss.map V.str) (fun i ys τ H' => ∃ c : Option V, τ = [c, some (.ref d)] ∧ RdDs H' ys ((ss.take i).map (dF T)) ∧ H' acc = some (.lst ys) ∧ Same H1 H') ?_ ?_ ?_ ?_
    · exact ⟨none, rfl, .nil, upd_same, Same.new na⟩
    · rintro i ys τ H2 hi ⟨c, rfl, r, ha, s2⟩
      refine ⟨SqL.of (s2 _ _ hl1), ha, ?_⟩
      have h1 := r.len
      rw [List.length_map, List.length_take] at h1
      exact small1000 (by omega)
    · rintro i x ys τ H2 hi ⟨c, rfl, r, ha, s2⟩
      obtain ⟨y, hy, rfl⟩ : ∃ y, ss[i]? = some y ∧ x = V.str y := by
        rw [List.getElem?_map] at hi
        cases e : ss[i]? with
        | none => rw [e] at hi; cases hi
        | some k => rw [e] at hi; exact ⟨k, rfl, (Option.some.inj hi).symm⟩
      have hym : y ∈ ks := hp.mem_iff.mp (List.mem_of_getElem? hy)
      have tk : ss.take (i + 1) = ss.take i ++ [y] := by rw [List.take_add_one, hy]; rfl
      obtain ⟨v, ev, sv⟩ : ∃ v, valV kvs (Sum.inr y) = some v ∧ SH H v (T y) := by
        rcases tb.val y with ⟨_, _, c⟩ | ⟨v, a, b, _⟩
        · exact absurd hym c
        · rcases b with b | ⟨_, b⟩
          · exact ⟨v, a, b⟩
          · exact absurd b (cl y hym)
      have hd2 : H2 d = some (.dK kvs) := s2 _ _ (s1 _ _ hd)
      have dg : DGet H2 d (.str y) (some v) := by
        have := DGet.k (k := Sum.inr y) hd2
        rw [ev] at this
        exact this
      refine gname_ ?_
      refine yes_ ?_
      refine iteT ?_
      refine ⟨_, rfl, _, rfl, _, rfl, d, v, rfl, dg, ln2, fun t nt => ?_⟩
      have s3 := Same.new (o := .tup [.str y, v]) nt
      have ht : (upd H2 t (.tup [.str y, v])) t = some (.tup [.str y, v]) := upd_same
      generalize (upd H2 t (.tup [.str y, v])) = H3 at s3 ht
      have sh : SH H3 v (T y) := sv.tups fun p xs e => s3 _ _ (s2 _ _ (s1 _ _ e))
      have ha3 := s3 _ _ ha
      refine ⟨ha3, _, rfl, ?_, upd_same, (s2.trans s3).put na⟩
      rw [tk, List.map_append]
      refine RdDs.app ((r.same s3 (noL_f T _)).put ha3 (noL_f T _)) ?_
      refine RdD.tups (H := H3) (fun p zs e => by rw [upd_ne (ne_of e ha3 (by intro z; cases z))]; exact e) (.tup ht (.cons (.str y) (.cons sh.rd .nil))) ?_
      have := noL_f T [y]
      simpa [noLists] using this
    · rintro ys τ H2 ⟨c, rfl, r, ha, s2⟩
      rw [List.length_map, List.take_length] at r
      refine ⟨acc, ys, rfl, .inl ⟨SqL.of ha, fun t nt => ?_⟩⟩
      refine q _ _ ⟨t, ys, ss, rfl, upd_same, srt, fun x => ?_, r.same (Same.new nt) (noL_f T _)⟩ ((s1.trans s2).trans (Same.new nt))
      rw [hp.mem_iff]
      constructor
      · exact cl x
      · intro h
        rcases tb.val x with ⟨_, a, _⟩ | ⟨_, _, _, a⟩
        · exact absurd a h
        · exact a
end
end My

set_option Elab.async false
set_option linter.all false
set_option maxRecDepth 100000
namespace My
open PySem PySem.Spec PyProof.Rows L2
section
variable {P : Program} {w : World} {K : PySem.W.Frag} {mg : Str → Option Value} {base : Heap}
set_option maxHeartbeats 4000000 in
theorem ok_law_table {f : Addr} {fd : FuncData} (F : Fun K "_law_table" "_law_table" s_law_table f fd) (Z : Bl mg) (O_law_take : Own P w K mg base "_law_take" 1 ["bag", "many"] spTake) (O_law_number : Own P w K mg base "_law_number" 2 ["bag"] spNumber) : FnOk P w K mg base CX0 3 f fd ["bag", "names"] spTableL := by
  refine F.ok (k := 2) sc_law_table (fun vs H Q E h => ?_) (fun cdv A outer s H vs Q E hr h => ?_)
  · obtain ⟨b, l, xs, rfl, _⟩ := h
    rfl
  · obtain ⟨b, l, xs, rfl, hB, N, x4, q⟩ := h
    refine ⟨_, (pss_cons (ps_set (i := 2) sc_law_table.nd rfl (Or.inl rfl) pe_dnewK)
      (pss_cons (ps_for PassesOwn.never rfl (pi_list (pv 1)) (pg_name (i := 3) sc_law_table.nd rfl (Or.inl rfl))
      (pss_cons (ps_set (i := 4) sc_law_table.nd rfl (Or.inl rfl) (pe_lst (pa_cons pe_non (pa_cons pe_non pa_nil))))
      (pss_cons (ps_for PassesOwn.never rfl (pi_range1 rfl Z.range (pa_cons pe_int pa_nil)) (pg_name (i := 5) sc_law_table.nd rfl (Or.inl rfl))
      (pss_one (ps_if (pt_cmpR op_gt (pe_own O_law_take (hr.mono (by decide)) rfl (pa_cons (pv 0) (pa_cons pe_int pa_nil))) pe_int (nomark _))
      (pss_one (ps_asg (pe_own O_law_number (hr.mono (by decide)) rfl (pa_cons (pv 0) pa_nil)) (pg_sub (pv 4) (pv 5) set_list)))
      pss_nil)))
      (pss_cons (ps_cut (ps_if (pt_cmpR op_notIn_seq pe_non (pv 4) (by with_unfolding_all rfl))
      (pss_one (ps_set (i := 4) sc_law_table.nd rfl (Or.inl rfl) (pe_callB (call_sortedLI) rfl Z.sorted bt_sorted (pa_cons (pv 4) pa_nil))))
      pss_nil))
      (pss_one (ps_if (PW.pt (pw_and (pt_cmpR (op_neD hr.units) (pv 4) (pe_lst (pa_cons pe_non (pa_cons pe_non pa_nil))) (nomark _)) (pw_and1 (pt_cmpR op_gt (pe_own O_law_take (hr.mono (by decide)) rfl (pa_cons (pv 0) (pa_cons pe_int pa_nil))) pe_int (nomark _)))))
      (pss_one (ps_dput (hu_of hr) (pv 2) (pv 3) (pe_callTy call_tuple_of rfl Z.tuple bt_tuple (pa_cons (pv 4) pa_nil)) rfl))
      pss_nil))))))
      (pss_one (ps_ret (pv 2))))), ?_⟩

    refine fun d nd => ?_
    have hdb : d ≠ b := hB.ne_new nd
    have N0 := N.fix (Fix.new (o := .dK []) nd)
    refine ⟨_, rfl, l, rfl, ⟨_, SqL.of N0.at_⟩, for_list (K := K) (a := l) (xs := xs.map V.str) (fun i σ H' => ∃ (u0 u1 u2 : Option V) (T : Str → Sx), σ = [some (.ref b), some (.ref l), some (.ref d), u0, u1, u2] ∧ LT H' d T i ∧ (∀ x, T x ≠ allS → x ∈ xs) ∧ (∀ x, LEo (T x).1 (T x).2) ∧ Bag H' b ∧ Fix b H H') ?_ ?_ ?_ ?_⟩
    · exact ⟨_, _, _, fun _ => allS, rfl, ⟨[], [], upd_same, ⟨rfl, List.nodup_nil, fun x => .inl ⟨rfl, rfl, by simp⟩⟩, by simp, Nat.le_refl _⟩, fun x h => absurd rfl h, fun x => True.intro, hB.new nd, Fix.new nd⟩
    · rintro i σ H1 hi ⟨u0, u1, u2, T, rfl, lt, h1, h2, B1, X1⟩
      exact SqL.of (N.fix X1).at_
    · rintro i y σ H1 hi ⟨u0, u1, u2, T, rfl, lt, h1, h2, B1, X1⟩
      obtain ⟨x, hx, rfl⟩ : ∃ x, xs[i]? = some x ∧ y = V.str x := by
        rw [List.getElem?_map] at hi
        cases e : xs[i]? with
        | none => rw [e] at hi; cases hi
        | some k => rw [e] at hi; exact ⟨k, rfl, (Option.some.inj hi).symm⟩
      have hxm : x ∈ xs := List.mem_of_getElem? hx
      have hil : i < xs.length := (List.getElem?_eq_some_iff.mp hx).1
      refine gname_ ?_
      refine ⟨ln2, fun ea na => ?_⟩
      have hab : ea ≠ b := B1.ne_new na
      refine ⟨_, rfl, (by decide), (by decide), for_range (lo := 0) (fun j σ H' => ∃ (u : Option V) (lo hi : Option Int), σ = [some (.ref b), some (.ref l), some (.ref d), some (.str x), some (.ref ea), u] ∧ H' ea = some (.lst [vO lo, vO hi]) ∧ Bag H' b ∧ Fix b H1 H') ?_ ?_ ?_⟩
      · exact ⟨_, none, none, rfl, upd_same, B1.new na, Fix.new na⟩
      · rintro j σ H2 hj ⟨u, lo, hi', rfl, e2, B2, X2⟩
        refine ⟨_, rfl, b, 4, rfl, B2, ⟨by decide, by decide⟩, fun r H3 r0 r1 B3 X3 => ⟨_, _, rfl, rfl, _, rfl, ?_⟩⟩
        have e3 := X3 ea _ e2 hab
        refine ite2 (fun hc => ?_) (fun hc => ?_)
        · refine ⟨_, rfl, b, rfl, B3, fun n H4 nok B4 X4 => ?_⟩
          have e4 := X4 ea _ e3 hab
          have hix : ixN ([vO lo, vO hi'] : List V).length (0 + (j : Int)) = some j := by
            have : j < 2 := by omega
            match j, this with
            | 0, _ => rfl
            | 1, _ => rfl
          refine ⟨_, rfl, _, rfl, ea, _, _, j, rfl, rfl, e4, hix, ?_⟩
          obtain ⟨lo2, hi2, es⟩ : ∃ lo2 hi2 : Option Int, ([vO lo, vO hi'] : List V).set j (.int n) = [vO lo2, vO hi2] := by
            have : j < 2 := by omega
            match j, this with
            | 0, _ => exact ⟨some n, hi', rfl⟩
            | 1, _ => exact ⟨lo, some n, rfl⟩
          refine ⟨_, lo2, hi2, rfl, by rw [upd_same, es], B4.put hab.symm, fun c o e nb => ?_⟩
          rw [upd_ne (ne_of_none e na)]
          exact ((X2.trans X3).trans X4) c o e nb
        · exact ⟨_, lo, hi', rfl, e3, B3, X2.trans X3⟩
      rintro σ H2 ⟨u, lo, hi', rfl, e2, B2, X2⟩
      refine ⟨fun σ' H' => ∃ (e' : Addr) (lo' hi2 : Option Int), σ' = [some (.ref b), some (.ref l), some (.ref d), some (.str x), some (.ref e'), u] ∧ H' e' = some (.lst [vO lo', vO hi2]) ∧ LEo lo' hi2 ∧ e' ≠ b ∧ Bag H' b ∧ Fix b H1 H', ?_, ?_⟩
      · refine ⟨_, rfl, ea, _, rfl, .inl (SqL.of e2), rfl, (by cases lo <;> cases hi' <;> rfl), _, rfl, ?_⟩
        rw [inV_none]
        cases lo with
        | none => exact iteF ⟨ea, none, hi', rfl, e2, True.intro, hab, B2, X2⟩
        | some a =>
          cases hi' with
          | none => exact iteF ⟨ea, some a, none, rfl, e2, True.intro, hab, B2, X2⟩
          | some c =>
            refine iteT ⟨_, rfl, ea, [a, c], rfl, SqL.of e2, (by show 2 < 64; decide), fun l2 ns' hp hs hn => ?_⟩
            obtain ⟨p1, p2, rfl, hle⟩ : ∃ p1 p2 : Int, ns' = [p1, p2] ∧ p1 ≤ p2 := by
              have hl := hp.length_eq
              match ns', hl with
              | [p1, p2], _ => exact ⟨p1, p2, rfl, (List.pairwise_cons.mp hs).1 p2 (by simp)⟩
            have nl2 : l2 ≠ b := B2.ne_new hn
            exact ⟨l2, some p1, some p2, rfl, upd_same, hle, nl2, B2.new hn, X2.trans (Fix.new hn)⟩
      rintro σ' H3 ⟨ea', lo', hi2, rfl, e3, le, hab', B3, X13⟩
      refine ⟨_, rfl, ln2, fun t2 nt2 => ?_⟩
      have ntd : ∀ p zs, H1 p = some (.tup zs) → H3 p = some (.tup zs) := fun p zs e => X13 p _ e (B1.ne_tup e)
      have lt3 : LT H3 d T i := lt.tups (fun o e => X13 d o e hdb) ntd
      have s4 : Same H3 (upd H3 t2 (.lst [.non, .non])) := Same.new nt2
      have e2' : (upd H3 t2 (.lst [.non, .non])) t2 = some (.lst [.non, .non]) := upd_same
      have e1 := s4 _ _ e3
      generalize (upd H3 t2 (.lst [.non, .non])) = H4 at s4 e1 e2'
      have B4 := B3.same s4
      have lt4 := lt3.same s4
      have X4 : Fix b H H4 := (X1.trans X13).trans (Fix.of_same s4)
      have eqv2 : PyData.eqv (.list [dO lo', dO hi2]) (.list [.none, .none]) = decide ((lo', hi2) = allS) := by cases lo' <;> cases hi2 <;> rfl
      have lay2 : (PyData.list [dO lo', dO hi2]).canLay0 = true := by cases lo' <;> cases hi2 <;> rfl
      have dep2 : (PyData.list [dO lo', dO hi2]).depth ≤ 60 := by cases lo' <;> cases hi2 <;> (show (1 : Nat) ≤ 60; decide)
      refine ⟨.list [dO lo', dO hi2], .list [.none, .none], .lst e1 (.cons (rd_o _) (.cons (rd_o _) .nil)), .lst e2' (.cons .non (.cons .non .nil)), lay2, rfl, (by omega), _, rfl, ?_⟩
      by_cases hs : (lo', hi2) = allS
      · refine iteFb (by rw [eqv2, decide_eq_true hs]; rfl) (iteF ?_)
        exact ⟨_, _, _, T, rfl, ⟨lt4.choose, lt4.choose_spec.choose, lt4.choose_spec.choose_spec.1, lt4.choose_spec.choose_spec.2.1, lt4.choose_spec.choose_spec.2.2.1, Nat.le_succ_of_le lt4.choose_spec.choose_spec.2.2.2⟩, h1, h2, B4, X4⟩
      · refine iteTb (by rw [eqv2, decide_eq_false hs]; rfl) ?_
        refine ⟨_, rfl, b, 4, rfl, B4, ⟨by decide, by decide⟩, fun r H6 r0 r1 B6 X6 => ⟨_, _, rfl, rfl, _, rfl, ?_⟩⟩
        have e6 := X6 ea' _ e1 hab'
        have lt6 : LT H6 d T i := lt4.tups (fun o e => X6 d o e hdb) fun p zs e => X6 p _ e (B4.ne_tup e)
        obtain ⟨kvs, ks, g1, g2, g3, g4⟩ := lt6
        refine ite2 (fun hc => ?_) (fun hc => ?_)
        · have kl : kvs.length = ks.length := by have := congrArg List.length g2.keys; simpa using this
          refine ⟨_, rfl, ea', _, rfl, .inl ⟨SqL.of e6, fun t3 nt3 => ?_⟩⟩
          have s7 := Same.new (o := .tup [vO lo', vO hi2]) nt3
          have e7 : (upd H6 t3 (.tup [vO lo', vO hi2])) t3 = some (.tup [vO lo', vO hi2]) := upd_same
          generalize (upd H6 t3 (.tup [vO lo', vO hi2])) = H7 at s7 e7
          have g17 := s7 _ _ g1
          refine ⟨_, rfl, _, rfl, d, _, rfl, DPut.k (k := Sum.inr x) g17 (small1000 (by omega)), ?_⟩
          obtain ⟨ks2, t2', k2, m2⟩ := (g2.tups (H' := H7) fun p zs e => s7 _ _ e).put x (v := .ref t3) (s := (lo', hi2)) (.inl ⟨t3, rfl, e7⟩)
          refine ⟨_, _, _, setT T x (lo', hi2), rfl, ⟨_, ks2, upd_same, t2'.tups (fun p zs e => by rw [upd_ne (ne_of e g17 (by intro z; cases z))]; exact e), fun y hy => ?_, by omega⟩, fun y hy => ?_, fun y => ?_, (B6.same s7).put hdb.symm, fun c o e n => ?_⟩
          · unfold setT
            by_cases e : y = x
            · rw [if_pos e]; exact hs
            · rw [if_neg e]; exact g3 y (((m2 y).mp hy).elim id fun z => absurd z e)
          · unfold setT at hy
            by_cases e : y = x
            · rw [e]; exact hxm
            · rw [if_neg e] at hy; exact h1 y hy
          · unfold setT
            by_cases e : y = x
            · rw [if_pos e]; exact le
            · rw [if_neg e]; exact h2 y
          · rw [upd_ne (ne_of_none e nd)]
            exact s7 c o ((X4.trans X6) c o e n)
        · exact ⟨_, _, _, T, rfl, ⟨kvs, ks, g1, g2, g3, Nat.le_succ_of_le g4⟩, h1, h2, B6, X4.trans X6⟩
    · rintro σ H1 ⟨u0, u1, u2, T, rfl, lt, h1, h2, B1, X1⟩
      obtain ⟨kvs, ks, g1, g2, g3, g4⟩ := lt
      rw [List.length_map] at g4
      exact ⟨_, rfl, q d T H1 ⟨kvs, ks, g1, g2, g3, by omega⟩ h1 h2 B1 X1⟩
end
end My

set_option Elab.async false
set_option linter.all false
set_option maxRecDepth 100000
namespace My
open PySem PySem.Spec PyProof.Rows L2
section
variable {P : Program} {w : World} {K : PySem.W.Frag} {mg : Str → Option Value} {base : Heap}
set_option maxHeartbeats 4000000 in
theorem ok_law_test {f : Addr} {fd : FuncData} (F : Fun K "_law_test" "_law_test" s_law_test f fd) (Z : Bl mg) (O_law_take : Own P w K mg base "_law_take" 1 ["bag", "many"] spTake) : FnOk P w K mg base CX0 3 f fd ["bag", "table", "names"] spTestL := by
  refine F.ok (k := 2) sc_law_test (fun vs H Q E h => ?_) (fun cdv A outer s H vs Q E hr h => ?_)
  · obtain ⟨b, d, l, xs, T, rfl, _⟩ := h
    rfl
  · obtain ⟨b, d, l, xs, T, rfl, hB, lt, N, q⟩ := h
    refine ⟨_, (pss_cons (ps_set (i := 3) sc_law_test.nd rfl (Or.inl rfl) (pe_ix ix_list (pe_op op_cat (pv 2) (pe_lst (pa_cons pe_str pa_nil))) (pe_own O_law_take (hr.mono (by decide)) rfl (pa_cons (pv 0) (pa_cons (pe_op op_add (pe_callB call_len_seq rfl Z.len bt_len (pa_cons (pv 2) pa_nil)) pe_int) pa_nil))) (fun _ _ => rfl)))
      (pss_cons (ps_set (i := 4) sc_law_test.nd rfl (Or.inl rfl) (pe_op op_cat (pe_lcomp ["end"] [] [] rfl (pi_tup (pe_dget2v (hu_of hr) (pv 1) (pv 3) (pe_tup (pa_cons pe_non (pa_cons pe_non pa_nil))) ⟨rfl, rfl, rfl, rfl⟩)) rfl (by decide +kernel) (by decide +kernel) (by decide +kernel) True.intro (fun _ _ _ _ => (pg_name (i := 0) (show ((["end"] : List Str) ++ ([] : List Str)).Nodup by decide +kernel) rfl (Or.inl rfl) (hf := Or.inr rfl))) (fun _ _ _ _ => (pts_one (pt_cmp (pc_notN (pv 0))))) (fun _ _ _ _ => (pv 0))) (pe_lst (pa_cons pe_int pa_nil))))
      (pss_cons (ps_set (i := 5) sc_law_test.nd rfl (Or.inl rfl) (pe_op op_sub (pe_op op_add (pe_ix ix_list (pv 4) (pe_own O_law_take (hr.mono (by decide)) rfl (pa_cons (pv 0) (pa_cons (pe_callB call_len_seq rfl Z.len bt_len (pa_cons (pv 4) pa_nil)) pa_nil))) (fun _ _ => rfl)) (pe_own O_law_take (hr.mono (by decide)) rfl (pa_cons (pv 0) (pa_cons pe_int pa_nil)))) pe_int))
      (pss_one (ps_ret (pe_tup (pa_cons (pe_ix ix_list (pe_lst (pa_cons pe_str (pa_cons pe_str pa_nil))) (pe_own O_law_take (hr.mono (by decide)) rfl (pa_cons (pv 0) (pa_cons pe_int pa_nil))) (fun _ _ => rfl)) (pa_cons (pv 3) (pa_cons (pv 5) (pa_cons (pe_own O_law_take (hr.mono (by decide)) rfl (pa_cons (pv 0) (pa_cons pe_int pa_nil))) (pa_cons (pe_own O_law_take (hr.mono (by decide)) rfl (pa_cons (pv 0) (pa_cons pe_int pa_nil))) pa_nil))))))))))), ?_⟩

    refine ⟨_, rfl, ln1, fun o1 n1 => ⟨l, o1, _, _, rfl, rfl, (N.fix (Fix.new n1)).at_, upd_same, (by have := N.few; show _ + 1 ≤ _; rw [List.length_map]; exact small1000 (by omega)), fun cp ncp => ?_⟩⟩
    have s2 : Same H (upd (upd H o1 (.lst [.str "other"])) cp (.lst (xs.map V.str ++ [.str "other"]))) := (Same.new n1).trans (Same.new ncp)
    have h2 : (upd (upd H o1 (.lst [.str "other"])) cp (.lst (xs.map V.str ++ [.str "other"]))) cp = some (.lst ((xs ++ [("other" : Str)]).map V.str)) := by rw [upd_same, List.map_append]; rfl
    have ncb : cp ≠ b := (hB.same (Same.new n1)).ne_new ncp
    generalize (upd (upd H o1 (.lst [.str "other"])) cp (.lst (xs.map V.str ++ [.str "other"]))) = H2 at s2 h2
    have B2 := hB.same s2
    have N2 := N.fix (Fix.of_same (b := b) s2)
    have hfew := N.few
    have hel : ((xs.map V.str).length : Int) + 1 = (((xs ++ [("other" : Str)]).map V.str).length : Int) := by simp
    have hel2 : ((xs.map V.str).length : Int) = (xs.length : Int) := by simp
    refine ⟨_, rfl, _, rfl, l, _, rfl, .inl (SqL.of N2.at_), _, _, rfl, rfl, b, _, rfl, B2, ⟨by omega, smallM (by omega) (by omega)⟩, fun r H3 r0 r1 B3 X3 => ?_⟩
    rw [hel] at r1
    obtain ⟨x, hx, hxm⟩ := names_at r0 r1
    have hxm' : x ∈ xs ∨ x = "other" := by
      rcases List.mem_append.mp hxm with h | h
      · exact .inl h
      · exact .inr (List.mem_singleton.mp h)
    refine ⟨cp, _, r, _, rfl, rfl, SqL.of (X3 _ _ h2 ncb), hx, ?_⟩
    have hdb : d ≠ b := by
      obtain ⟨kvs, ks, g1, _⟩ := id lt
      obtain ⟨x, y, e, _⟩ := id hB
      exact ne_of g1 e (by intro z; cases z)
    have lt3 : LT H3 d T 4 := (lt.same s2).tups (fun o e => X3 d o e hdb) fun p zs e => X3 p _ e (B2.ne_tup e)
    obtain ⟨kvs, ks, g1, g2, g3, g4⟩ := id lt3
    refine ⟨_, rfl, d, rfl, .inl ⟨kvs, .inl g1⟩, _, rfl, ln2, fun t nt => ?_⟩
    have s4 := Same.new (o := .tup [.non, .non]) nt
    have ht4 : (upd H3 t (.tup [.non, .non])) t = some (.tup [.non, .non]) := upd_same
    generalize (upd H3 t (.tup [.non, .non])) = H4 at s4 ht4
    have B4 := B3.same s4
    obtain ⟨v, ev, sq, rfl, hsq⟩ := LT.get (g2.tups fun p xs e => s4 _ _ e) g3 ht4 x
    refine ⟨_, _, DGet.k (k := Sum.inr x) (s4 _ _ g1), ev, ?_⟩
    refine ⟨sq, rfl, ⟨_, SqT.of hsq⟩, fun acc na => ?_⟩
    refine lc_tup (K := K) (a := sq) (xs := [vO (T x).1, vO (T x).2]) (fun i zs τ H' => ∃ (c : Option V) (ns : List Int), τ = [c] ∧ zs = ns.map V.int ∧ ns.length ≤ i ∧ H' acc = some (.lst zs) ∧ Same H4 H') ?_ ?_ ?_ ?_
    · exact ⟨none, [], rfl, rfl, Nat.le_refl _, upd_same, Same.new na⟩
    · rintro i zs τ H5 hi ⟨c, ns, rfl, rfl, hl, ha, s5⟩
      refine ⟨SqT.of (s5 _ _ hsq), ha, ?_⟩
      have : i ≤ 2 := hi
      rw [List.length_map]
      exact small1000 (by omega)
    · rintro i y zs τ H5 hi ⟨c, ns, rfl, rfl, hl, ha, s5⟩
      obtain ⟨o, rfl⟩ : ∃ o : Option Int, y = vO o := by
        match i, hi with
        | 0, hi => cases hi; exact ⟨_, rfl⟩
        | 1, hi => cases hi; exact ⟨_, rfl⟩
        | i + 2, hi => simp at hi
      refine gname_ ?_
      refine ⟨_, rfl, _, rfl, ?_⟩
      cases o with
      | none => exact iteF ⟨_, ns, rfl, rfl, Nat.le_succ_of_le hl, ha, s5⟩
      | some n =>
        refine iteT ⟨_, rfl, ha, _, ns ++ [n], rfl, (by rw [List.map_append]; rfl), (by rw [List.length_append]; show _ + 1 ≤ _; omega), upd_same, s5.put na⟩
    rintro zs τ H5 ⟨c, ns, rfl, rfl, hl, ha, s5⟩
    have hl : ns.length ≤ 2 := hl
    refine ⟨ln1, fun o2 n2 => ⟨acc, o2, _, _, rfl, rfl, Same.new n2 _ _ ha, upd_same, (by rw [List.length_map]; show _ + 1 ≤ _; exact small1000 (by omega)), fun en hen => ?_⟩⟩
    have s6 : Same H5 (upd (upd H5 o2 (.lst [.int 0])) en (.lst (ns.map V.int ++ [.int 0]))) := (Same.new n2).trans (Same.new hen)
    have h6 : (upd (upd H5 o2 (.lst [.int 0])) en (.lst (ns.map V.int ++ [.int 0]))) en = some (.lst ((ns ++ [0]).map V.int)) := by rw [upd_same, List.map_append]; rfl
    have B5 := B4.same s5
    have enb : en ≠ b := (B5.same (Same.new n2)).ne_new hen
    generalize (upd (upd H5 o2 (.lst [.int 0])) en (.lst (ns.map V.int ++ [.int 0]))) = H6 at s6 h6
    have B6 := B5.same s6
    have hl3 : (((ns ++ [0]).map V.int).length : Int) = (ns.length : Int) + 1 := by simp
    refine ⟨_, rfl, _, rfl, _, rfl, en, _, rfl, .inl (SqL.of h6), b, _, rfl, B6, ⟨by omega, smallM (by omega) (by omega)⟩, fun r2 H7 r20 r21 B7 X7 => ?_⟩
    obtain ⟨n, hn⟩ : ∃ n : Int, atI ((ns ++ [0]).map V.int) r2 = some (V.int n) := by
      obtain ⟨j, rfl⟩ : ∃ j : Nat, r2 = j := ⟨r2.toNat, by omega⟩
      have hj : j < (ns ++ [0]).length := by rw [List.length_append]; show _ < _ + 1; omega
      exact ⟨(ns ++ [0])[j], atI_nat (by rw [List.getElem?_map, List.getElem?_eq_getElem hj]; rfl)⟩
    refine ⟨en, _, r2, _, rfl, rfl, SqL.of (X7 _ _ h6 enb), hn, ?_⟩
    refine ⟨_, rfl, b, 5, rfl, B7, ⟨by decide, by decide +kernel⟩, fun r3 H8 r30 r31 B8 X8 => ⟨_, _, rfl, rfl, _, _, rfl, rfl, ?_⟩⟩
    refine ⟨ln2, fun l0 m0 => ⟨_, rfl, b, 2, rfl, B8.new m0, ⟨by decide, by decide +kernel⟩, fun z H9 z0 z1 B9 X9 => ?_⟩⟩
    have h0 : H9 l0 = some (.lst [.str "less", .str "is"]) := X9 l0 _ upd_same (B8.ne_new m0)
    obtain ⟨w, hat⟩ : ∃ w : Bool, atI [V.str "less", V.str "is"] z = some (V.str (wT w)) := by
      obtain h | h : z = 0 ∨ z = 1 := by omega
      · rw [h]; exact ⟨true, at0⟩
      · rw [h]; exact ⟨false, at1⟩
    refine ⟨l0, _, _, _, rfl, rfl, SqL.of h0, hat, ?_⟩
    refine ⟨_, rfl, _, rfl, _, rfl, b, 9, rfl, B9, ⟨by decide, by decide +kernel⟩, fun p H10 p0 p1 B10 X10 => ?_⟩
    refine ⟨_, rfl, b, 9, rfl, B10, ⟨by decide, by decide +kernel⟩, fun p' H11 p0' p1' B11 X11 => ⟨ln5, fun tt mt => ?_⟩⟩
    obtain ⟨k, rfl⟩ : ∃ k : Nat, p = k := ⟨p.toNat, by omega⟩
    obtain ⟨k', rfl⟩ : ∃ k : Nat, p' = k := ⟨p'.toNat, by omega⟩
    exact q tt w x _ k k' _ upd_same hxm' (B11.new mt) ((((Fix.of_same s2).trans X3).trans (Fix.of_same ((s4.trans s5).trans s6))).trans ((X7.trans X8).trans (((Fix.new m0).trans X9).trans ((X10.trans X11).trans (Fix.new mt)))))
end
end My

set_option Elab.async false
set_option linter.all false
set_option maxRecDepth 100000
namespace My
open PySem PySem.Spec PyProof.Rows L2
section
variable {P : Program} {w : World} {K : PySem.W.Frag} {mg : Str → Option Value} {base : Heap}
set_option maxHeartbeats 4000000 in
theorem ok_law {f : Addr} {fd : FuncData} (F : Fun K "law" "law" s_law f fd) (Z : Bl mg) (O_law_bag : Own P w K mg base "_law_bag" 1 ["script", "k"] (spBag K)) (O_law_take : Own P w K mg base "_law_take" 1 ["bag", "many"] spTake) (O_law_names : Own P w K mg base "_law_names" 2 ["bag"] spNames) (O_law_table : Own P w K mg base "_law_table" 3 ["bag", "names"] spTableL) (O_law_test : Own P w K mg base "_law_test" 3 ["bag", "table", "names"] spTestL) (O_law_leads : Own P w K mg base "_law_leads" 3 ["facts", "end"] spLeadsL) (O_law_told : Own P w K mg base "_law_told" 1 ["facts"] spToldL) (O_leads : Own P w K mg base "leads" 5 ["facts", "end"] (spLeads aA)) (O_law_plan : Own P w K mg base "_law_plan" 4 ["bag", "count", "most"] spPlan) (O_start : Own P w K mg base "start" 4 ["plan"] spStart) (O_law_all_names : Own P w K mg base "_law_all_names" 1 ["plan"] spAllL) : FnOk P w K mg base CX0 6 f fd ["script"] (spLaw K) := by
  refine F.ok (k := 5) sc_law (fun vs H Q E h => ?_) (fun cdv A outer s H vs Q E hr h => ?_)
  · obtain ⟨a, ns, rfl, _⟩ := h
    rfl
  · obtain ⟨a, ns, rfl, hS, hlen, q⟩ := h
    refine ⟨_, (pss_cons (ps_for PassesOwn.never rfl (pi_range1 rfl Z.range (pa_cons (pe_op op_add pe_int (pe_callB (call_min2 rfl) rfl Z.min bt_min (pa_cons (pe_callB call_len_seq rfl Z.len bt_len (pa_cons (pv 0) pa_nil)) (pa_cons pe_int pa_nil)))) pa_nil)) (pg_name (i := 1) sc_law.nd rfl (Or.inl rfl))
      (pss_cons (ps_set (i := 2) sc_law.nd rfl (Or.inl rfl) (pe_own O_law_bag (hr.mono (by decide)) rfl (pa_cons (pv 0) (pa_cons (pv 1) pa_nil))))
      (pss_cons (ps_set (i := 3) sc_law.nd rfl (Or.inl rfl) (pe_own O_law_take (hr.mono (by decide)) rfl (pa_cons (pv 2) (pa_cons pe_int pa_nil))))
      (pss_cons (ps_set (i := 4) sc_law.nd rfl (Or.inl rfl) (pe_own O_law_names (hr.mono (by decide)) rfl (pa_cons (pv 2) pa_nil)))
      (pss_cons (ps_set (i := 5) sc_law.nd rfl (Or.inl rfl) (pe_own O_law_table (hr.mono (by decide)) rfl (pa_cons (pv 2) (pa_cons (pv 4) pa_nil))))
      (pss_cons (ps_set (i := 6) sc_law.nd rfl (Or.inl rfl) (pe_own O_law_test (hr.mono (by decide)) rfl (pa_cons (pv 2) (pa_cons (pv 5) (pa_cons (pv 4) pa_nil)))))
      (pss_cons (ps_cut (ps_if (pt_cmpR op_eq (pv 3) pe_int (nomark _))
      (pss_one (ps_set (i := 6) sc_law.nd rfl (Or.inl rfl) (pe_tup (pa_cons pe_str pa_nil))))
      pss_nil))
      (pss_cons (ps_cut (ps_if (pt_cmpR op_eq (pv 3) pe_int (nomark _))
      (pss_one (ps_set (i := 6) sc_law.nd rfl (Or.inl rfl) (pe_tup (pa_cons pe_str (pa_cons (pe_own O_law_take (hr.mono (by decide)) rfl (pa_cons (pv 2) (pa_cons pe_int pa_nil))) pa_nil)))))
      pss_nil))
      (pss_cons (ps_setLC (i := 7) ["side", "piece", "more"] [] [] rfl sc_law.nd rfl rfl rfl (pi_list (pe_own O_law_leads (hr.mono (by decide)) rfl (pa_cons (pv 5) (pa_cons (pv 6) pa_nil)))) rfl (by decide +kernel) (by decide +kernel) (by decide +kernel) True.intro (fun _ _ _ _ => (pg_tupK (K := K) (n := 3) rfl (pg_tup (n := 3) rfl (pgs_cons (pg_name (i := 0) (show ((["side", "piece", "more"] : List Str) ++ ([] : List Str)).Nodup by decide +kernel) rfl (Or.inl rfl) (hf := Or.inr rfl)) (pgs_cons (pg_name (i := 1) (show ((["side", "piece", "more"] : List Str) ++ ([] : List Str)).Nodup by decide +kernel) rfl (Or.inl rfl) (hf := Or.inr rfl)) (pgs_cons (pg_name (i := 2) (show ((["side", "piece", "more"] : List Str) ++ ([] : List Str)).Nodup by decide +kernel) rfl (Or.inl rfl) (hf := Or.inr rfl)) pgs_nil)))))) (fun _ _ _ _ => pts_nil) (fun _ _ _ _ => (pe_tup (pa_cons (pv 1) (pa_cons (pe_own O_law_told (hr.mono (by decide)) rfl (pa_cons (pv 2) pa_nil)) pa_nil)))))
      (pss_one (ps_if (pt_cmpR (op_neD hr.units) (pe_own O_leads (hr.mono (by decide)) rfl (pa_cons (pe_own O_law_told (hr.mono (by decide)) rfl (pa_cons (pv 5) pa_nil)) (pa_cons (pv 6) pa_nil))) (pe_callTy call_tuple_of rfl Z.tuple bt_tuple (pa_cons (pv 7) pa_nil)) (nomark _))
      (pss_one (ps_ret pe_bl))
      pss_nil)))))))))))
      (pss_cons (ps_set (i := 2) sc_law.nd rfl (Or.inl rfl) (pe_own O_law_bag (hr.mono (by decide)) rfl (pa_cons (pv 0) (pa_cons pe_int pa_nil))))
      (pss_cons (ps_set (i := 8) sc_law.nd rfl (Or.inl rfl) (pe_own O_law_plan (hr.mono (by decide)) rfl (pa_cons (pv 2) (pa_cons (pe_op op_add pe_int (pe_own O_law_take (hr.mono (by decide)) rfl (pa_cons (pv 2) (pa_cons pe_int pa_nil)))) (pa_cons pe_int pa_nil)))))
      (pss_one (ps_ret (pe_cmpR (op_eqD hr.units) (pe_own O_start (hr.mono (by decide)) rfl (pa_cons (pv 8) pa_nil)) (pe_callTy call_tuple_of rfl Z.tuple bt_tuple (pa_cons (pe_lcomp ["name"] [] [] rfl (pi_list (pe_own O_law_all_names (hr.mono (by decide)) rfl (pa_cons (pv 8) pa_nil))) rfl (by decide +kernel) (by decide +kernel) (by decide +kernel) True.intro (fun _ _ _ _ => (pg_name (i := 0) (show ((["name"] : List Str) ++ ([] : List Str)).Nodup by decide +kernel) rfl (Or.inl rfl) (hf := Or.inr rfl))) (fun _ _ _ _ => pts_nil) (fun _ _ _ _ => (pe_tup (pa_cons (pv 0) (pa_cons (pe_tup (pa_cons pe_int (pa_cons pe_int pa_nil))) pa_nil))))) pa_nil)) (nomark _))))))), ?_⟩

    have lt63 : ∀ {H' : Hp} {e : Addr} {T' : Str → Sx} {m : Nat}, LT H' e T' m → m ≤ 63 → LT H' e T' 63 := fun h hm => by
      obtain ⟨kvs, ks, g1, g2, g3, g4⟩ := h
      exact ⟨kvs, ks, g1, g2, g3, Nat.le_trans g4 hm⟩
    refine ⟨_, rfl, a, _, rfl, .inl hS, _, _, rfl, _, _, rfl, rfl, _, rfl, (by split <;> (try rw [List.length_map]) <;> omega), (by split <;> (try rw [List.length_map]) <;> omega), for_range (lo := 0) (fun i σ H' => ∃ (u1 u2 u3 u4 u5 u6 u7 u8 : Option V), σ = [some (.ref a), u1, u2, u3, u4, u5, u6, u7, u8] ∧ Same H H') ?_ ?_ ?_⟩
    · exact ⟨_, _, _, _, _, _, _, _, rfl, Same.refl H⟩
    · rintro i σ H7 hi ⟨u1, u2, u3, u4, u5, u6, u7, u8, rfl, s7⟩
      refine ⟨_, rfl, _, rfl, a, ns, _, rfl, s7.seq hS, (by omega), fun b H8 nb8 B8 s8 => ?_⟩
      refine ⟨_, rfl, b, 8, rfl, B8, ⟨by decide, by decide⟩, fun wy H9 w0 w1 B9 X9 => ?_⟩
      refine ⟨_, rfl, b, rfl, B9, fun l xs H10 N10 x4 B10 X10 => ?_⟩
      refine ⟨_, rfl, _, rfl, b, l, xs, rfl, B10, N10, x4, fun d T H11 lt11 h1 h2 B11 X11 => ?_⟩
      refine ⟨_, rfl, _, rfl, _, rfl, b, d, l, xs, T, rfl, B11, lt11, N10.fix X11, fun ea0 less x n p q' H12 e12 hx12 B12 X12 => ?_⟩
      have hdb : d ≠ b := by
        obtain ⟨kvs, ks, g1, _⟩ := id lt11
        obtain ⟨x, y, e, _⟩ := id B11
        exact ne_of g1 e (by intro z; cases z)
      have layT : LayT T := fun y hy => lay_name (N10.ok y (h1 y hy))
      have lay0 : LayE (.tst less x n p q') := fun b' x' n' p' q'' e => by
        cases e
        rcases hx12 with h | h
        · exact lay_name (N10.ok _ h)
        · rw [h]; decide +kernel
      refine ⟨fun σ' H' => ∃ (ea : Addr) (e : L2.End), σ' = [some (.ref a), some (.int (0 + i)), some (.ref b), some (.int wy), some (.ref l), some (.ref d), some (.ref ea), u7, u8] ∧ H' ea = some (.tup (vEnd e)) ∧ LayE e ∧ Bag H' b ∧ Fix b H11 H', ?_, ?_⟩
      · refine ⟨_, rfl, rfl, _, rfl, ?_⟩
        refine ite2 (fun hc => ?_) (fun hc => ?_)
        · exact ⟨ln1, fun t nt => ⟨t, .stop, rfl, upd_same, (fun _ _ _ _ _ e => by cases e), B12.new nt, X12.trans (Fix.new nt)⟩⟩
        · exact ⟨ea0, _, rfl, e12, lay0, B12, X12⟩
      rintro σ' H13 ⟨ea1, e1, rfl, he1, lay1, B13, X13⟩
      refine ⟨fun σ' H' => ∃ (ea : Addr) (e : L2.End), σ' = [some (.ref a), some (.int (0 + i)), some (.ref b), some (.int wy), some (.ref l), some (.ref d), some (.ref ea), u7, u8] ∧ H' ea = some (.tup (vEnd e)) ∧ LayE e ∧ Bag H' b ∧ Fix b H11 H', ?_, ?_⟩
      · refine ⟨_, rfl, rfl, _, rfl, ?_⟩
        refine ite2 (fun hc => ?_) (fun hc => ?_)
        · refine ⟨_, rfl, b, 9, rfl, B13, ⟨by decide, by decide⟩, fun p H14 p0 p1 B14 X14 => ⟨ln2, fun t nt => ?_⟩⟩
          obtain ⟨k, rfl⟩ : ∃ k : Nat, p = k := ⟨p.toNat, by omega⟩
          exact ⟨t, .go k, rfl, upd_same, (fun _ _ _ _ _ e => by cases e), B14.new nt, (X13.trans X14).trans (Fix.new nt)⟩
        · exact ⟨ea1, _, rfl, he1, lay1, B13, X13⟩
      rintro σ' H14 ⟨ea, e, rfl, he, layE, B14, X14⟩
      clear B12 X12 e12 B13 X13 he1 lay1 lay0
      have lt14 : LT H14 d T 4 := lt11.tups (fun o e => X14 d o e hdb) fun p zs e => X14 p _ e (B11.ne_tup e)
      have s714 : Same H7 H14 := Same.of_fix s8 nb8 (((X9.trans X10).trans X11).trans X14)
      refine ⟨_, rfl, _, rfl, d, ea, T, e, 4, rfl, lt14, (by decide), h2, he, fun ll vs H15 hl15 tv s15 => ?_⟩
      refine ⟨ll, rfl, ⟨_, SqL.of hl15⟩, fun acc na => ?_⟩
      have hvl : vs.length ≤ 2 := by
        rw [Paired.length tv]
        unfold leadF
        refine Nat.le_trans (List.length_filterMap_le _ _) ?_
        rw [List.length_zip]
        have : (waysE e).length ≤ 2 := by cases e <;> (show _ ≤ 2) <;> simp [waysE]
        omega
      refine lc_list (K := K) (a := ll) (xs := vs) (fun i zs τ H' => ∃ (c1 c2 c3 : Option V), τ = [c1, c2, c3] ∧ PVs H' zs ((leadF T e).take i) ∧ zs.length = i ∧ H' acc = some (.lst zs) ∧ Same H15 H') ?_ ?_ ?_ ?_
      · exact ⟨none, none, none, rfl, .nil, rfl, upd_same, Same.new na⟩
      · rintro i' zs τ H16 hi' ⟨c1, c2, c3, rfl, pv, hz, ha, s16⟩
        exact ⟨SqL.of (s16 _ _ hl15), ha, small1000 (by omega)⟩
      · rintro i' y zs τ H16 hi' ⟨c1, c2, c3, rfl, pv, hz, ha, s16⟩
        obtain ⟨pr, hpr, qa, sv, d', rfl, hq, lt'⟩ := paired_at tv hi'
        refine ⟨qa, _, rfl, SqT.of (s16 _ _ hq), rfl, _, _, rfl, _, _, rfl, _, _, rfl, rfl, ?_⟩
        refine yes_ ?_
        refine iteT ?_
        refine ⟨_, rfl, _, rfl, d', _, rfl, lt63 (lt'.same s16) (by decide), fun fv H17 f17 s17 => ⟨ln2, fun t nt => ?_⟩⟩
        have s18 := Same.new (o := .tup [.int (pr.1 : Nat), fv]) nt
        have ht : (upd H17 t (.tup [.int (pr.1 : Nat), fv])) t = some (.tup [.int (pr.1 : Nat), fv]) := upd_same
        generalize (upd H17 t (.tup [.int (pr.1 : Nat), fv])) = H18 at s18 ht
        have ha18 := s18 _ _ (s17 _ _ ha)
        have kt : ∀ p ws, H18 p = some (.tup ws) → (upd H18 acc (.lst (zs ++ [V.ref t]))) p = some (.tup ws) := fun p ws e => by rw [upd_ne (ne_of e ha18 (by intro z; cases z))]; exact e
        refine ⟨ha18, _, _, _, rfl, ?_, (by rw [List.length_append, hz]; rfl), upd_same, (s16.trans (s17.trans s18)).put na⟩
        rw [List.take_add_one, hpr]
        exact paired_app ((pv.same (s17.trans s18)).tups kt) (.cons ⟨t, fv, rfl, kt _ _ ht, FV.tups (f17.same s18) kt⟩ .nil)
      rintro zs τ H16 ⟨c1, c2, c3, rfl, pv, hz, ha, s16⟩
      have pv : PVs H16 zs (leadF T e) := by
        rw [Paired.length tv, List.take_length] at pv
        exact pv
      have s1416 := s15.trans s16
      refine ⟨_, rfl, d, T, rfl, lt63 (lt14.same s1416) (by decide), fun fv H17 f17 s17 => ?_⟩
      refine ⟨_, rfl, fv, ea, T, e, rfl, f17, s17 _ _ (s1416 _ _ he), fun ss hs nd => Nat.le_trans (lt14.few ss hs nd) (by decide), fun t vs2 H18 ht pv2 s18 => ?_⟩
      refine ⟨_, rfl, acc, _, rfl, .inl ⟨SqL.of (s18 _ _ (s17 _ _ ha)), fun tp tn => ?_⟩⟩
      have s19 := Same.new (o := .tup zs) tn
      obtain ⟨ds, r1, r2, ly, dp⟩ := PVs.rd2 (pv2.same s19) (((pv.same s17).same s18).same s19) (lead_lay layT layE)
      refine ⟨.tuple ds, .tuple ds, .tup (s19 _ _ ht) r1, .tup upd_same r2, ly, ly, (by have : (PyData.tuple ds).depth = PyData.depthAll ds + 1 := rfl; omega), _, rfl, ?_⟩
      refine iteFb (by rw [PySem.SeqAt.eqv_refl _ ly]; rfl) ?_
      exact ⟨_, _, _, _, _, _, _, _, rfl, s7.trans ((s714.trans s1416).trans ((s17.trans s18).trans s19))⟩
    · rintro σ H7 ⟨u1, u2, u3, u4, u5, u6, u7, u8, rfl, s7⟩
      refine ⟨_, rfl, a, ns, 0, rfl, s7.seq hS, (by decide), fun b H1 nb B1 s1 => ?_⟩
      refine ⟨_, rfl, _, rfl, b, 10, rfl, B1, ⟨by decide, by decide⟩, fun z H2 z0 z1 B2 X2 => ?_⟩
      obtain ⟨c, rfl⟩ : ∃ k : Nat, z = k := ⟨z.toNat, by omega⟩
      refine ⟨_, _, rfl, rfl, b, 1 + c, 3, rfl, B2, (by omega), (by omega), (by omega), fun plv xs ps H3 r3 hc3 pok xok B3 X3 => ?_⟩
      have hal : (allNames ps).length ≤ 4000 := by
        have h1 := all_len pok
        have h2 : ps.length * (2 * 3 + 1) ≤ 10 * 7 := Nat.mul_le_mul (by omega) (Nat.le_refl 7)
        omega
      have hx64 : xs.length < 64 := by have := xok.2; omega
      refine ⟨_, rfl, plv, ps, xs, 3, rfl, r3, pok, hx64, hal, fun v ss H4 r4 hperm hsort s4 => ?_⟩
      refine ⟨_, rfl, plv, ps, xs, 3, rfl, r3.same s4 (noList_plan ps), pok, hx64, fun l2 ss2 H5 h5 hperm2 hsort2 hl64 s5 => ?_⟩
      have ess : ss2 = ss := all_one hperm2 hperm hsort2 hsort
      subst ess
      refine ⟨l2, rfl, ⟨_, SqL.of h5⟩, fun acc na => ?_⟩
      refine lc_list (K := K) (a := l2) (xs := ss2.map V.str) (fun i zs τ H' => ∃ c : Option V, τ = [c] ∧ RdDs H' zs ((ss2.take i).map fun x => .tuple [.str x, .tuple [.int 0, .int 0]]) ∧ H' acc = some (.lst zs) ∧ Same H5 H') ?_ ?_ ?_ ?_
      · exact ⟨none, rfl, .nil, upd_same, Same.new na⟩
      · rintro i zs τ H6 hi ⟨c, rfl, r, ha, s6⟩
        refine ⟨SqL.of (s6 _ _ h5), ha, ?_⟩
        have h1 := r.len
        rw [List.length_map, List.length_take] at h1
        exact small1000 (by omega)
      · rintro i x zs τ H6 hi ⟨c, rfl, r, ha, s6⟩
        obtain ⟨y, hy, rfl⟩ : ∃ y, ss2[i]? = some y ∧ x = V.str y := by
          rw [List.getElem?_map] at hi
          cases e : ss2[i]? with
          | none => rw [e] at hi; cases hi
          | some k => rw [e] at hi; exact ⟨k, rfl, (Option.some.inj hi).symm⟩
        refine gname_ ?_
        refine yes_ ?_
        refine iteT ?_
        refine ⟨_, rfl, ln2, fun t1 n1 => ⟨ln2, fun t2 n2 => ?_⟩⟩
        have q1 := Same.new (o := .tup [.int 0, .int 0]) n1
        have q2 := Same.new (o := .tup [.str y, .ref t1]) n2
        have ha3 := q2 _ _ (q1 _ _ ha)
        have kt : ∀ p ws, (upd (upd H6 t1 (.tup [.int 0, .int 0])) t2 (.tup [.str y, .ref t1])) p = some (.tup ws) → (upd (upd (upd H6 t1 (.tup [.int 0, .int 0])) t2 (.tup [.str y, .ref t1])) acc (.lst (zs ++ [V.ref t2]))) p = some (.tup ws) := fun p ws e => by rw [upd_ne (ne_of e ha3 (by intro z; cases z))]; exact e
        refine ⟨ha3, _, rfl, ?_, upd_same, ((s6.trans q1).trans q2).put na⟩
        rw [List.take_add_one, hy, List.map_append]
        exact (((r.same q1 (noL_start _)).same q2 (noL_start _)).tups kt (noL_start _)).app (.tup (kt _ _ upd_same) (.cons (.str _) (.cons (.tup (kt _ _ (q2 _ _ upd_same)) (.cons (.int _) (.cons (.int _) .nil))) .nil)))
      · rintro zs τ H6 ⟨c, rfl, r, ha, s6⟩
        rw [List.length_map, List.take_length] at r
        refine ⟨acc, _, rfl, .inl ⟨SqL.of ha, fun t ht => ?_⟩⟩
        have lay : (dStart ss2).canLay0 = true := lay_start ss2 fun x hx => lay_name (xok.1 x (pNames_in pok x (LS.onceK_mem.mp (hperm.mem_iff.mp hx))))
        have hnl : noList (dStart ss2) = true := noL_start ss2
        refine ⟨dStart ss2, dStart ss2, ((r4.same s5 hnl).same s6 hnl).same (Same.new ht) hnl, .tup upd_same (r.same (Same.new ht) (noL_start _)), lay, lay, (by have := dep_start ss2; omega), ?_⟩
        rw [PySem.SeqAt.eqv_refl _ lay]
        exact q _
end
end My

set_option Elab.async false
set_option linter.all false
set_option maxRecDepth 100000
namespace My
open PySem PySem.Spec PyProof.Rows L2
set_option maxHeartbeats 4000000 in
theorem all_mk {l : PySem.W.OpenLaw} {w : World} {K : PySem.W.Frag} {h : Heap} {mg : Str → Option Value} {fa : Addr} (X : K.In h) (G : h.Ns mainGlobals mg) (hfa : mg "law" = some (.ref fa))
    {f0 : Addr} {od0 an0 : Option Addr} {sl0 : Array (Option Value)} {oc0 kV0 dc0 pm0 cd0 ct0 : Value}
    {f1 : Addr} {od1 an1 : Option Addr} {sl1 : Array (Option Value)} {oc1 kV1 dc1 pm1 cd1 ct1 : Value}
    {f2 : Addr} {od2 an2 : Option Addr} {sl2 : Array (Option Value)} {oc2 kV2 dc2 pm2 cd2 ct2 : Value}
    {f3 : Addr} {od3 an3 : Option Addr} {sl3 : Array (Option Value)} {oc3 kV3 dc3 pm3 cd3 ct3 : Value}
    {f4 : Addr} {od4 an4 : Option Addr} {sl4 : Array (Option Value)} {oc4 kV4 dc4 pm4 cd4 ct4 : Value}
    {f5 : Addr} {od5 an5 : Option Addr} {sl5 : Array (Option Value)} {oc5 kV5 dc5 pm5 cd5 ct5 : Value}
    {f6 : Addr} {od6 an6 : Option Addr} {sl6 : Array (Option Value)} {oc6 kV6 dc6 pm6 cd6 ct6 : Value}
    {f7 : Addr} {od7 an7 : Option Addr} {sl7 : Array (Option Value)} {oc7 kV7 dc7 pm7 cd7 ct7 : Value}
    {f8 : Addr} {od8 an8 : Option Addr} {sl8 : Array (Option Value)} {oc8 kV8 dc8 pm8 cd8 ct8 : Value}
    {f9 : Addr} {od9 an9 : Option Addr} {sl9 : Array (Option Value)} {oc9 kV9 dc9 pm9 cd9 ct9 : Value}
    {f10 : Addr} {od10 an10 : Option Addr} {sl10 : Array (Option Value)} {oc10 kV10 dc10 pm10 cd10 ct10 : Value}
    {f11 : Addr} {od11 an11 : Option Addr} {sl11 : Array (Option Value)} {oc11 kV11 dc11 pm11 cd11 ct11 : Value}
    {f12 : Addr} {od12 an12 : Option Addr} {sl12 : Array (Option Value)} {oc12 kV12 dc12 pm12 cd12 ct12 : Value}
    {f13 : Addr} {od13 an13 : Option Addr} {sl13 : Array (Option Value)} {oc13 kV13 dc13 pm13 cd13 ct13 : Value}
    {f14 : Addr} {od14 an14 : Option Addr} {sl14 : Array (Option Value)} {oc14 kV14 dc14 pm14 cd14 ct14 : Value}
    {f15 : Addr} {od15 an15 : Option Addr} {sl15 : Array (Option Value)} {oc15 kV15 dc15 pm15 cd15 ct15 : Value}
    {f16 : Addr} {od16 an16 : Option Addr} {sl16 : Array (Option Value)} {oc16 kV16 dc16 pm16 cd16 ct16 : Value}
    {f17 : Addr} {od17 an17 : Option Addr} {sl17 : Array (Option Value)} {oc17 kV17 dc17 pm17 cd17 ct17 : Value}
    {f18 : Addr} {od18 an18 : Option Addr} {sl18 : Array (Option Value)} {oc18 kV18 dc18 pm18 cd18 ct18 : Value}
    {f19 : Addr} {od19 an19 : Option Addr} {sl19 : Array (Option Value)} {oc19 kV19 dc19 pm19 cd19 ct19 : Value}
    {f20 : Addr} {od20 an20 : Option Addr} {sl20 : Array (Option Value)} {oc20 kV20 dc20 pm20 cd20 ct20 : Value}
    {f21 : Addr} {od21 an21 : Option Addr} {sl21 : Array (Option Value)} {oc21 kV21 dc21 pm21 cd21 ct21 : Value}
    {f22 : Addr} {od22 an22 : Option Addr} {sl22 : Array (Option Value)} {oc22 kV22 dc22 pm22 cd22 ct22 : Value}
    {f23 : Addr} {od23 an23 : Option Addr} {sl23 : Array (Option Value)} {oc23 kV23 dc23 pm23 cd23 ct23 : Value}
    {f24 : Addr} {od24 an24 : Option Addr} {sl24 : Array (Option Value)} {oc24 kV24 dc24 pm24 cd24 ct24 : Value}
    {f25 : Addr} {od25 an25 : Option Addr} {sl25 : Array (Option Value)} {oc25 kV25 dc25 pm25 cd25 ct25 : Value}
    {f26 : Addr} {od26 an26 : Option Addr} {sl26 : Array (Option Value)} {oc26 kV26 dc26 pm26 cd26 ct26 : Value}
    {f27 : Addr} {od27 an27 : Option Addr} {sl27 : Array (Option Value)} {oc27 kV27 dc27 pm27 cd27 ct27 : Value}
    {f28 : Addr} {od28 an28 : Option Addr} {sl28 : Array (Option Value)} {oc28 kV28 dc28 pm28 cd28 ct28 : Value}
    {f29 : Addr} {od29 an29 : Option Addr} {sl29 : Array (Option Value)} {oc29 kV29 dc29 pm29 cd29 ct29 : Value}
    {aA : Addr} {dcA : Option Addr} {nA : Nat} {slA : Array (Option Value)}
    {aE : Addr} {epE : Nat} {s0 : Addr} {hsE0 : Int} {tkE0 : Tok} {dcE0 : Option Addr} {nnE0 : Nat} {slE0 : Array (Option Value)}  {s1 : Addr} {hsE1 : Int} {tkE1 : Tok} {dcE1 : Option Addr} {nnE1 : Nat} {slE1 : Array (Option Value)} {ttE1_0 : Tok} {s2 : Addr} {hsE2 : Int} {tkE2 : Tok} {dcE2 : Option Addr} {nnE2 : Nat} {slE2 : Array (Option Value)} {ttE2_0 : Tok} {ttE2_1 : Tok} {ttE2_2 : Tok} {ttE2_3 : Tok} {s3 : Addr} {hsE3 : Int} {tkE3 : Tok} {dcE3 : Option Addr} {nnE3 : Nat} {slE3 : Array (Option Value)} {ttE3_0 : Tok} {ttE3_1 : Tok} {ttE3_2 : Tok} {ttE3_3 : Tok}
    {aD : Addr} {epD : Nat} {d0 : Addr} {hsD0 : Int} {tkD0 : Tok} {dcD0 : Option Addr} {nnD0 : Nat} {slD0 : Array (Option Value)} {ttD0_0 : Tok} {ttD0_1 : Tok} {d1 : Addr} {hsD1 : Int} {tkD1 : Tok} {dcD1 : Option Addr} {nnD1 : Nat} {slD1 : Array (Option Value)} {ttD1_0 : Tok} {ttD1_1 : Tok} {d2 : Addr} {hsD2 : Int} {tkD2 : Tok} {dcD2 : Option Addr} {nnD2 : Nat} {slD2 : Array (Option Value)} {ttD2_0 : Tok} {ttD2_1 : Tok} {d3 : Addr} {hsD3 : Int} {tkD3 : Tok} {dcD3 : Option Addr} {nnD3 : Nat} {slD3 : Array (Option Value)} {ttD3_0 : Tok} {d4 : Addr} {hsD4 : Int} {tkD4 : Tok} {dcD4 : Option Addr} {nnD4 : Nat} {slD4 : Array (Option Value)} {ttD4_0 : Tok}
    (a0 : PySem.W.nsIn K mainGlobals "parts_of_kind" = some (some (.ref f0))) (l0 : K.lookup f0 = some ⟨oc0, od0, .func (PySem.W.fnOf "parts_of_kind" "parts_of_kind" (defArgs s_parts_of_kind) (defBody s_parts_of_kind) (defScope s_parts_of_kind) .none kV0 dc0 pm0 an0 cd0 ct0), sl0⟩) (c0 : PySem.W.codeIn K cd0 "parts_of_kind" = true) (k0 : PySem.W.keepIn K (.ref f0) = true)
    (a1 : PySem.W.nsIn K mainGlobals "names_of" = some (some (.ref f1))) (l1 : K.lookup f1 = some ⟨oc1, od1, .func (PySem.W.fnOf "names_of" "names_of" (defArgs s_names_of) (defBody s_names_of) (defScope s_names_of) .none kV1 dc1 pm1 an1 cd1 ct1), sl1⟩) (c1 : PySem.W.codeIn K cd1 "names_of" = true) (k1 : PySem.W.keepIn K (.ref f1) = true)
    (a2 : PySem.W.nsIn K mainGlobals "ways_on" = some (some (.ref f2))) (l2 : K.lookup f2 = some ⟨oc2, od2, .func (PySem.W.fnOf "ways_on" "ways_on" (defArgs s_ways_on) (defBody s_ways_on) (defScope s_ways_on) .none kV2 dc2 pm2 an2 cd2 ct2), sl2⟩) (c2 : PySem.W.codeIn K cd2 "ways_on" = true) (k2 : PySem.W.keepIn K (.ref f2) = true)
    (a3 : PySem.W.nsIn K mainGlobals "lies_in" = some (some (.ref f3))) (l3 : K.lookup f3 = some ⟨oc3, od3, .func (PySem.W.fnOf "lies_in" "lies_in" (defArgs s_lies_in) (defBody s_lies_in) (defScope s_lies_in) .none kV3 dc3 pm3 an3 cd3 ct3), sl3⟩) (c3 : PySem.W.codeIn K cd3 "lies_in" = true) (k3 : PySem.W.keepIn K (.ref f3) = true)
    (a4 : PySem.W.nsIn K mainGlobals "part_below" = some (some (.ref f4))) (l4 : K.lookup f4 = some ⟨oc4, od4, .func (PySem.W.fnOf "part_below" "part_below" (defArgs s_part_below) (defBody s_part_below) (defScope s_part_below) .none kV4 dc4 pm4 an4 cd4 ct4), sl4⟩) (c4 : PySem.W.codeIn K cd4 "part_below" = true) (k4 : PySem.W.keepIn K (.ref f4) = true)
    (a5 : PySem.W.nsIn K mainGlobals "part_from" = some (some (.ref f5))) (l5 : K.lookup f5 = some ⟨oc5, od5, .func (PySem.W.fnOf "part_from" "part_from" (defArgs s_part_from) (defBody s_part_from) (defScope s_part_from) .none kV5 dc5 pm5 an5 cd5 ct5), sl5⟩) (c5 : PySem.W.codeIn K cd5 "part_from" = true) (k5 : PySem.W.keepIn K (.ref f5) = true)
    (a6 : PySem.W.nsIn K mainGlobals "part_at" = some (some (.ref f6))) (l6 : K.lookup f6 = some ⟨oc6, od6, .func (PySem.W.fnOf "part_at" "part_at" (defArgs s_part_at) (defBody s_part_at) (defScope s_part_at) .none kV6 dc6 pm6 an6 cd6 ct6), sl6⟩) (c6 : PySem.W.codeIn K cd6 "part_at" = true) (k6 : PySem.W.keepIn K (.ref f6) = true)
    (a7 : PySem.W.nsIn K mainGlobals "part_beside" = some (some (.ref f7))) (l7 : K.lookup f7 = some ⟨oc7, od7, .func (PySem.W.fnOf "part_beside" "part_beside" (defArgs s_part_beside) (defBody s_part_beside) (defScope s_part_beside) .none kV7 dc7 pm7 an7 cd7 ct7), sl7⟩) (c7 : PySem.W.codeIn K cd7 "part_beside" = true) (k7 : PySem.W.keepIn K (.ref f7) = true)
    (a8 : PySem.W.nsIn K mainGlobals "part_of" = some (some (.ref f8))) (l8 : K.lookup f8 = some ⟨oc8, od8, .func (PySem.W.fnOf "part_of" "part_of" (defArgs s_part_of) (defBody s_part_of) (defScope s_part_of) .none kV8 dc8 pm8 an8 cd8 ct8), sl8⟩) (c8 : PySem.W.codeIn K cd8 "part_of" = true) (k8 : PySem.W.keepIn K (.ref f8) = true)
    (a9 : PySem.W.nsIn K mainGlobals "facts_of" = some (some (.ref f9))) (l9 : K.lookup f9 = some ⟨oc9, od9, .func (PySem.W.fnOf "facts_of" "facts_of" (defArgs s_facts_of) (defBody s_facts_of) (defScope s_facts_of) .none kV9 dc9 pm9 an9 cd9 ct9), sl9⟩) (c9 : PySem.W.codeIn K cd9 "facts_of" = true) (k9 : PySem.W.keepIn K (.ref f9) = true)
    (a10 : PySem.W.nsIn K mainGlobals "known" = some (some (.ref f10))) (l10 : K.lookup f10 = some ⟨oc10, od10, .func (PySem.W.fnOf "known" "known" (defArgs s_known) (defBody s_known) (defScope s_known) .none kV10 dc10 pm10 an10 cd10 ct10), sl10⟩) (c10 : PySem.W.codeIn K cd10 "known" = true) (k10 : PySem.W.keepIn K (.ref f10) = true)
    (a11 : PySem.W.nsIn K mainGlobals "with_known" = some (some (.ref f11))) (l11 : K.lookup f11 = some ⟨oc11, od11, .func (PySem.W.fnOf "with_known" "with_known" (defArgs s_with_known) (defBody s_with_known) (defScope s_with_known) .none kV11 dc11 pm11 an11 cd11 ct11), sl11⟩) (c11 : PySem.W.codeIn K cd11 "with_known" = true) (k11 : PySem.W.keepIn K (.ref f11) = true)
    (a12 : PySem.W.nsIn K mainGlobals "known_beyond" = some (some (.ref f12))) (l12 : K.lookup f12 = some ⟨oc12, od12, .func (PySem.W.fnOf "known_beyond" "known_beyond" (defArgs s_known_beyond) (defBody s_known_beyond) (defScope s_known_beyond) .none kV12 dc12 pm12 an12 cd12 ct12), sl12⟩) (c12 : PySem.W.codeIn K cd12 "known_beyond" = true) (k12 : PySem.W.keepIn K (.ref f12) = true)
    (a13 : PySem.W.nsIn K mainGlobals "leads" = some (some (.ref f13))) (l13 : K.lookup f13 = some ⟨oc13, od13, .func (PySem.W.fnOf "leads" "leads" (defArgs s_leads) (defBody s_leads) (defScope s_leads) .none kV13 dc13 pm13 an13 cd13 ct13), sl13⟩) (c13 : PySem.W.codeIn K cd13 "leads" = true) (k13 : PySem.W.keepIn K (.ref f13) = true)
    (a14 : PySem.W.nsIn K mainGlobals "start" = some (some (.ref f14))) (l14 : K.lookup f14 = some ⟨oc14, od14, .func (PySem.W.fnOf "start" "start" (defArgs s_start) (defBody s_start) (defScope s_start) .none kV14 dc14 pm14 an14 cd14 ct14), sl14⟩) (c14 : PySem.W.codeIn K cd14 "start" = true) (k14 : PySem.W.keepIn K (.ref f14) = true)
    (a15 : PySem.W.nsIn K mainGlobals "_law_bag" = some (some (.ref f15))) (l15 : K.lookup f15 = some ⟨oc15, od15, .func (PySem.W.fnOf "_law_bag" "_law_bag" (defArgs s_law_bag) (defBody s_law_bag) (defScope s_law_bag) .none kV15 dc15 pm15 an15 cd15 ct15), sl15⟩) (c15 : PySem.W.codeIn K cd15 "_law_bag" = true) (k15 : PySem.W.keepIn K (.ref f15) = true)
    (a16 : PySem.W.nsIn K mainGlobals "_law_take" = some (some (.ref f16))) (l16 : K.lookup f16 = some ⟨oc16, od16, .func (PySem.W.fnOf "_law_take" "_law_take" (defArgs s_law_take) (defBody s_law_take) (defScope s_law_take) .none kV16 dc16 pm16 an16 cd16 ct16), sl16⟩) (c16 : PySem.W.codeIn K cd16 "_law_take" = true) (k16 : PySem.W.keepIn K (.ref f16) = true)
    (a17 : PySem.W.nsIn K mainGlobals "_law_names" = some (some (.ref f17))) (l17 : K.lookup f17 = some ⟨oc17, od17, .func (PySem.W.fnOf "_law_names" "_law_names" (defArgs s_law_names) (defBody s_law_names) (defScope s_law_names) .none kV17 dc17 pm17 an17 cd17 ct17), sl17⟩) (c17 : PySem.W.codeIn K cd17 "_law_names" = true) (k17 : PySem.W.keepIn K (.ref f17) = true)
    (a18 : PySem.W.nsIn K mainGlobals "_law_number" = some (some (.ref f18))) (l18 : K.lookup f18 = some ⟨oc18, od18, .func (PySem.W.fnOf "_law_number" "_law_number" (defArgs s_law_number) (defBody s_law_number) (defScope s_law_number) .none kV18 dc18 pm18 an18 cd18 ct18), sl18⟩) (c18 : PySem.W.codeIn K cd18 "_law_number" = true) (k18 : PySem.W.keepIn K (.ref f18) = true)
    (a19 : PySem.W.nsIn K mainGlobals "_law_deed" = some (some (.ref f19))) (l19 : K.lookup f19 = some ⟨oc19, od19, .func (PySem.W.fnOf "_law_deed" "_law_deed" (defArgs s_law_deed) (defBody s_law_deed) (defScope s_law_deed) .none kV19 dc19 pm19 an19 cd19 ct19), sl19⟩) (c19 : PySem.W.codeIn K cd19 "_law_deed" = true) (k19 : PySem.W.keepIn K (.ref f19) = true)
    (a20 : PySem.W.nsIn K mainGlobals "_law_end" = some (some (.ref f20))) (l20 : K.lookup f20 = some ⟨oc20, od20, .func (PySem.W.fnOf "_law_end" "_law_end" (defArgs s_law_end) (defBody s_law_end) (defScope s_law_end) .none kV20 dc20 pm20 an20 cd20 ct20), sl20⟩) (c20 : PySem.W.codeIn K cd20 "_law_end" = true) (k20 : PySem.W.keepIn K (.ref f20) = true)
    (a21 : PySem.W.nsIn K mainGlobals "_law_plan" = some (some (.ref f21))) (l21 : K.lookup f21 = some ⟨oc21, od21, .func (PySem.W.fnOf "_law_plan" "_law_plan" (defArgs s_law_plan) (defBody s_law_plan) (defScope s_law_plan) .none kV21 dc21 pm21 an21 cd21 ct21), sl21⟩) (c21 : PySem.W.codeIn K cd21 "_law_plan" = true) (k21 : PySem.W.keepIn K (.ref f21) = true)
    (a22 : PySem.W.nsIn K mainGlobals "_law_all_names" = some (some (.ref f22))) (l22 : K.lookup f22 = some ⟨oc22, od22, .func (PySem.W.fnOf "_law_all_names" "_law_all_names" (defArgs s_law_all_names) (defBody s_law_all_names) (defScope s_law_all_names) .none kV22 dc22 pm22 an22 cd22 ct22), sl22⟩) (c22 : PySem.W.codeIn K cd22 "_law_all_names" = true) (k22 : PySem.W.keepIn K (.ref f22) = true)
    (a23 : PySem.W.nsIn K mainGlobals "_law_part" = some (some (.ref f23))) (l23 : K.lookup f23 = some ⟨oc23, od23, .func (PySem.W.fnOf "_law_part" "_law_part" (defArgs s_law_part) (defBody s_law_part) (defScope s_law_part) .none kV23 dc23 pm23 an23 cd23 ct23), sl23⟩) (c23 : PySem.W.codeIn K cd23 "_law_part" = true) (k23 : PySem.W.keepIn K (.ref f23) = true)
    (a24 : PySem.W.nsIn K mainGlobals "_law_with" = some (some (.ref f24))) (l24 : K.lookup f24 = some ⟨oc24, od24, .func (PySem.W.fnOf "_law_with" "_law_with" (defArgs s_law_with) (defBody s_law_with) (defScope s_law_with) .none kV24 dc24 pm24 an24 cd24 ct24), sl24⟩) (c24 : PySem.W.codeIn K cd24 "_law_with" = true) (k24 : PySem.W.keepIn K (.ref f24) = true)
    (a25 : PySem.W.nsIn K mainGlobals "_law_leads" = some (some (.ref f25))) (l25 : K.lookup f25 = some ⟨oc25, od25, .func (PySem.W.fnOf "_law_leads" "_law_leads" (defArgs s_law_leads) (defBody s_law_leads) (defScope s_law_leads) .none kV25 dc25 pm25 an25 cd25 ct25), sl25⟩) (c25 : PySem.W.codeIn K cd25 "_law_leads" = true) (k25 : PySem.W.keepIn K (.ref f25) = true)
    (a26 : PySem.W.nsIn K mainGlobals "_law_told" = some (some (.ref f26))) (l26 : K.lookup f26 = some ⟨oc26, od26, .func (PySem.W.fnOf "_law_told" "_law_told" (defArgs s_law_told) (defBody s_law_told) (defScope s_law_told) .none kV26 dc26 pm26 an26 cd26 ct26), sl26⟩) (c26 : PySem.W.codeIn K cd26 "_law_told" = true) (k26 : PySem.W.keepIn K (.ref f26) = true)
    (a27 : PySem.W.nsIn K mainGlobals "_law_table" = some (some (.ref f27))) (l27 : K.lookup f27 = some ⟨oc27, od27, .func (PySem.W.fnOf "_law_table" "_law_table" (defArgs s_law_table) (defBody s_law_table) (defScope s_law_table) .none kV27 dc27 pm27 an27 cd27 ct27), sl27⟩) (c27 : PySem.W.codeIn K cd27 "_law_table" = true) (k27 : PySem.W.keepIn K (.ref f27) = true)
    (a28 : PySem.W.nsIn K mainGlobals "_law_test" = some (some (.ref f28))) (l28 : K.lookup f28 = some ⟨oc28, od28, .func (PySem.W.fnOf "_law_test" "_law_test" (defArgs s_law_test) (defBody s_law_test) (defScope s_law_test) .none kV28 dc28 pm28 an28 cd28 ct28), sl28⟩) (c28 : PySem.W.codeIn K cd28 "_law_test" = true) (k28 : PySem.W.keepIn K (.ref f28) = true)
    (a29 : PySem.W.nsIn K mainGlobals "law" = some (some (.ref f29))) (l29 : K.lookup f29 = some ⟨oc29, od29, .func (PySem.W.fnOf "law" "law" (defArgs s_law) (defBody s_law) (defScope s_law) .none kV29 dc29 pm29 an29 cd29 ct29), sl29⟩) (c29 : PySem.W.codeIn K cd29 "law" = true) (k29 : PySem.W.keepIn K (.ref f29) = true)
    (z_len : PySem.W.nsIn K mainGlobals "len" = some none)
    (z_zip : PySem.W.nsIn K mainGlobals "zip" = some none)
    (z_tuple : PySem.W.nsIn K mainGlobals "tuple" = some none)
    (z_sorted : PySem.W.nsIn K mainGlobals "sorted" = some none)
    (z_set : PySem.W.nsIn K mainGlobals "set" = some none)
    (z_dict : PySem.W.nsIn K mainGlobals "dict" = some none)
    (z_min : PySem.W.nsIn K mainGlobals "min" = some none)
    (z_max : PySem.W.nsIn K mainGlobals "max" = some none)
    (z_range : PySem.W.nsIn K mainGlobals "range" = some none)
    (z_list : PySem.W.nsIn K mainGlobals "list" = some none)
    (z_int : PySem.W.nsIn K mainGlobals "int" = some none)
    (gA : PySem.W.nsIn K mainGlobals "ALL" = some (some (.ref aA))) (lA : K.lookup aA = some ⟨.type "tuple", dcA, .seq #[.none, .none] nA, slA⟩)
    (gE : PySem.W.nsIn K mainGlobals "END_PARTS" = some (some (.ref aE))) (lE : K.lookup aE = some ⟨.type "dict", none, .dict #[⟨hsE0, .str "stop" tkE0, .ref s0⟩, ⟨hsE1, .str "go" tkE1, .ref s1⟩, ⟨hsE2, .str "less" tkE2, .ref s2⟩, ⟨hsE3, .str "is" tkE3, .ref s3⟩] epE, #[]⟩) (qE0 : K.lookup s0 = some ⟨.type "tuple", dcE0, .seq #[] nnE0, slE0⟩) (qE1 : K.lookup s1 = some ⟨.type "tuple", dcE1, .seq #[.str "piece" ttE1_0] nnE1, slE1⟩) (qE2 : K.lookup s2 = some ⟨.type "tuple", dcE2, .seq #[.str "name" ttE2_0, .str "number" ttE2_1, .str "piece" ttE2_2, .str "piece" ttE2_3] nnE2, slE2⟩) (qE3 : K.lookup s3 = some ⟨.type "tuple", dcE3, .seq #[.str "name" ttE3_0, .str "number" ttE3_1, .str "piece" ttE3_2, .str "piece" ttE3_3] nnE3, slE3⟩)
    (gD : PySem.W.nsIn K mainGlobals "DEED_PARTS" = some (some (.ref aD))) (lD : K.lookup aD = some ⟨.type "dict", none, .dict #[⟨hsD0, .str "put" tkD0, .ref d0⟩, ⟨hsD1, .str "copy" tkD1, .ref d1⟩, ⟨hsD2, .str "add" tkD2, .ref d2⟩, ⟨hsD3, .str "read" tkD3, .ref d3⟩, ⟨hsD4, .str "tell" tkD4, .ref d4⟩] epD, #[]⟩) (qD0 : K.lookup d0 = some ⟨.type "tuple", dcD0, .seq #[.str "name" ttD0_0, .str "number" ttD0_1] nnD0, slD0⟩) (qD1 : K.lookup d1 = some ⟨.type "tuple", dcD1, .seq #[.str "name" ttD1_0, .str "name" ttD1_1] nnD1, slD1⟩) (qD2 : K.lookup d2 = some ⟨.type "tuple", dcD2, .seq #[.str "name" ttD2_0, .str "number" ttD2_1] nnD2, slD2⟩) (qD3 : K.lookup d3 = some ⟨.type "tuple", dcD3, .seq #[.str "name" ttD3_0] nnD3, slD3⟩) (qD4 : K.lookup d4 = some ⟨.type "tuple", dcD4, .seq #[.str "name" ttD4_0] nnD4, slD4⟩) :
    ∃ fd : FuncData, (∀ (s : Shared) (v : Value), BindsTo s fd ⟨[v], []⟩ [("script", v)]) ∧ ∀ base : Heap, K.In base → base.Ns mainGlobals mg → FnOk l.prog w K mg base CX0 6 fa fd ["script"] (spLaw K) := by
  have e := hfa.symm.trans (PySem.W.mg_of X G a29)
  cases e
  have Z : Bl mg := ⟨PySem.W.mg_none_of X G z_len, PySem.W.mg_none_of X G z_zip, PySem.W.mg_none_of X G z_tuple, PySem.W.mg_none_of X G z_sorted, PySem.W.mg_none_of X G z_set, PySem.W.mg_none_of X G z_dict, PySem.W.mg_none_of X G z_min, PySem.W.mg_none_of X G z_max, PySem.W.mg_none_of X G z_range, PySem.W.mg_none_of X G z_list, PySem.W.mg_none_of X G z_int⟩
  have GA : AllG K mg aA := ⟨PySem.W.mg_of X G gA, _, _, _, lA⟩
  have GE : EndG K mg aE s0 s1 s2 s3 := ⟨⟨PySem.W.mg_of X G gE, _, _, lE, (.cons rfl rfl (.cons rfl rfl (.cons rfl rfl (.cons rfl rfl .nil))))⟩, ⟨_, _, _, qE0, rfl, rfl, (by show 0 ≤ sizeLine; decide), .nil⟩, ⟨_, _, _, qE1, rfl, rfl, (by show 1 ≤ sizeLine; decide), (.cons ⟨_, rfl⟩ .nil)⟩, ⟨_, _, _, qE2, rfl, rfl, (by show 4 ≤ sizeLine; decide), (.cons ⟨_, rfl⟩ (.cons ⟨_, rfl⟩ (.cons ⟨_, rfl⟩ (.cons ⟨_, rfl⟩ .nil))))⟩, ⟨_, _, _, qE3, rfl, rfl, (by show 4 ≤ sizeLine; decide), (.cons ⟨_, rfl⟩ (.cons ⟨_, rfl⟩ (.cons ⟨_, rfl⟩ (.cons ⟨_, rfl⟩ .nil))))⟩⟩
  have GD : DeedG K mg aD d0 d1 d2 d3 d4 := ⟨⟨PySem.W.mg_of X G gD, _, _, lD, (.cons rfl rfl (.cons rfl rfl (.cons rfl rfl (.cons rfl rfl (.cons rfl rfl .nil)))))⟩, ⟨_, _, _, qD0, rfl, rfl, (by show 2 ≤ sizeLine; decide), (.cons ⟨_, rfl⟩ (.cons ⟨_, rfl⟩ .nil))⟩, ⟨_, _, _, qD1, rfl, rfl, (by show 2 ≤ sizeLine; decide), (.cons ⟨_, rfl⟩ (.cons ⟨_, rfl⟩ .nil))⟩, ⟨_, _, _, qD2, rfl, rfl, (by show 2 ≤ sizeLine; decide), (.cons ⟨_, rfl⟩ (.cons ⟨_, rfl⟩ .nil))⟩, ⟨_, _, _, qD3, rfl, rfl, (by show 1 ≤ sizeLine; decide), (.cons ⟨_, rfl⟩ .nil)⟩, ⟨_, _, _, qD4, rfl, rfl, (by show 1 ≤ sizeLine; decide), (.cons ⟨_, rfl⟩ .nil)⟩⟩
  have F0 := fun_mk (st := s_parts_of_kind) l0 c0 k0
  have b0 := F0.binds (ps := ["thing", "kinds", "wanted"]) fun _ _ _ _ _ _ us hl => match us, hl with | [_, _, _], _ => rfl
  have F1 := fun_mk (st := s_names_of) l1 c1 k1
  have b1 := F1.binds (ps := ["plan"]) fun _ _ _ _ _ _ us hl => match us, hl with | [_], _ => rfl
  have F2 := fun_mk (st := s_ways_on) l2 c2 k2
  have b2 := F2.binds (ps := ["end"]) fun _ _ _ _ _ _ us hl => match us, hl with | [_], _ => rfl
  have F3 := fun_mk (st := s_lies_in) l3 c3 k3
  have b3 := F3.binds (ps := ["number", "stretch"]) fun _ _ _ _ _ _ us hl => match us, hl with | [_, _], _ => rfl
  have F4 := fun_mk (st := s_part_below) l4 c4 k4
  have b4 := F4.binds (ps := ["stretch", "number"]) fun _ _ _ _ _ _ us hl => match us, hl with | [_, _], _ => rfl
  have F5 := fun_mk (st := s_part_from) l5 c5 k5
  have b5 := F5.binds (ps := ["stretch", "number"]) fun _ _ _ _ _ _ us hl => match us, hl with | [_, _], _ => rfl
  have F6 := fun_mk (st := s_part_at) l6 c6 k6
  have b6 := F6.binds (ps := ["stretch", "number"]) fun _ _ _ _ _ _ us hl => match us, hl with | [_, _], _ => rfl
  have F7 := fun_mk (st := s_part_beside) l7 c7 k7
  have b7 := F7.binds (ps := ["stretch", "number"]) fun _ _ _ _ _ _ us hl => match us, hl with | [_, _], _ => rfl
  have F8 := fun_mk (st := s_part_of) l8 c8 k8
  have b8 := F8.binds (ps := ["stretch", "word", "number", "side"]) fun _ _ _ _ _ _ us hl => match us, hl with | [_, _, _, _], _ => rfl
  have F9 := fun_mk (st := s_facts_of) l9 c9 k9
  have b9 := F9.binds (ps := ["stretches"]) fun _ _ _ _ _ _ us hl => match us, hl with | [_], _ => rfl
  have F10 := fun_mk (st := s_known) l10 c10 k10
  have b10 := F10.binds (ps := ["facts", "name"]) fun _ _ _ _ _ _ us hl => match us, hl with | [_, _], _ => rfl
  have F11 := fun_mk (st := s_with_known) l11 c11 k11
  have b11 := F11.binds (ps := ["facts", "name", "stretch"]) fun _ _ _ _ _ _ us hl => match us, hl with | [_, _, _], _ => rfl
  have F12 := fun_mk (st := s_known_beyond) l12 c12 k12
  have b12 := F12.binds (ps := ["facts", "end"]) fun _ _ _ _ _ _ us hl => match us, hl with | [_, _], _ => rfl
  have F13 := fun_mk (st := s_leads) l13 c13 k13
  have b13 := F13.binds (ps := ["facts", "end"]) fun _ _ _ _ _ _ us hl => match us, hl with | [_, _], _ => rfl
  have F14 := fun_mk (st := s_start) l14 c14 k14
  have b14 := F14.binds (ps := ["plan"]) fun _ _ _ _ _ _ us hl => match us, hl with | [_], _ => rfl
  have F15 := fun_mk (st := s_law_bag) l15 c15 k15
  have b15 := F15.binds (ps := ["script", "k"]) fun _ _ _ _ _ _ us hl => match us, hl with | [_, _], _ => rfl
  have F16 := fun_mk (st := s_law_take) l16 c16 k16
  have b16 := F16.binds (ps := ["bag", "many"]) fun _ _ _ _ _ _ us hl => match us, hl with | [_, _], _ => rfl
  have F17 := fun_mk (st := s_law_names) l17 c17 k17
  have b17 := F17.binds (ps := ["bag"]) fun _ _ _ _ _ _ us hl => match us, hl with | [_], _ => rfl
  have F18 := fun_mk (st := s_law_number) l18 c18 k18
  have b18 := F18.binds (ps := ["bag"]) fun _ _ _ _ _ _ us hl => match us, hl with | [_], _ => rfl
  have F19 := fun_mk (st := s_law_deed) l19 c19 k19
  have b19 := F19.binds (ps := ["bag", "names"]) fun _ _ _ _ _ _ us hl => match us, hl with | [_, _], _ => rfl
  have F20 := fun_mk (st := s_law_end) l20 c20 k20
  have b20 := F20.binds (ps := ["bag", "names", "count"]) fun _ _ _ _ _ _ us hl => match us, hl with | [_, _, _], _ => rfl
  have F21 := fun_mk (st := s_law_plan) l21 c21 k21
  have b21 := F21.binds (ps := ["bag", "count", "most"]) fun _ _ _ _ _ _ us hl => match us, hl with | [_, _, _], _ => rfl
  have F22 := fun_mk (st := s_law_all_names) l22 c22 k22
  have b22 := F22.binds (ps := ["plan"]) fun _ _ _ _ _ _ us hl => match us, hl with | [_], _ => rfl
  have F23 := fun_mk (st := s_law_part) l23 c23 k23
  have b23 := F23.binds (ps := ["stretch", "word", "number", "side"]) fun _ _ _ _ _ _ us hl => match us, hl with | [_, _, _, _], _ => rfl
  have F24 := fun_mk (st := s_law_with) l24 c24 k24
  have b24 := F24.binds (ps := ["facts", "name", "stretch"]) fun _ _ _ _ _ _ us hl => match us, hl with | [_, _, _], _ => rfl
  have F25 := fun_mk (st := s_law_leads) l25 c25 k25
  have b25 := F25.binds (ps := ["facts", "end"]) fun _ _ _ _ _ _ us hl => match us, hl with | [_, _], _ => rfl
  have F26 := fun_mk (st := s_law_told) l26 c26 k26
  have b26 := F26.binds (ps := ["facts"]) fun _ _ _ _ _ _ us hl => match us, hl with | [_], _ => rfl
  have F27 := fun_mk (st := s_law_table) l27 c27 k27
  have b27 := F27.binds (ps := ["bag", "names"]) fun _ _ _ _ _ _ us hl => match us, hl with | [_, _], _ => rfl
  have F28 := fun_mk (st := s_law_test) l28 c28 k28
  have b28 := F28.binds (ps := ["bag", "table", "names"]) fun _ _ _ _ _ _ us hl => match us, hl with | [_, _, _], _ => rfl
  have F29 := fun_mk (st := s_law) l29 c29 k29
  refine ⟨PySem.W.fnOf "law" "law" (defArgs s_law) (defBody s_law) (defScope s_law) .none kV29 dc29 pm29 an29 cd29 ct29, fun s v => .of_eq rfl, fun base _ _ => ?_⟩
  have O_parts_of_kind : Own l.prog w K mg base "parts_of_kind" 1 ["thing", "kinds", "wanted"] (spParts K) := ⟨⟨_, _, ok_parts_of_kind F0 Z , PySem.W.mg_of X G a0, k0, b0⟩⟩
  have O_names_of : Own l.prog w K mg base "names_of" 3 ["plan"] spNamesOf := ⟨⟨_, _, ok_names_of F1 Z GD GE O_parts_of_kind, PySem.W.mg_of X G a1, k1, b1⟩⟩
  have O_ways_on : Own l.prog w K mg base "ways_on" 3 ["end"] spWays := ⟨⟨_, _, ok_ways_on F2 Z GE O_parts_of_kind, PySem.W.mg_of X G a2, k2, b2⟩⟩
  have O_lies_in : Own l.prog w K mg base "lies_in" 1 ["number", "stretch"] (spLiesK K) := ⟨⟨_, _, ok_lies_in F3 Z , PySem.W.mg_of X G a3, k3, b3⟩⟩
  have O_part_below : Own l.prog w K mg base "part_below" 1 ["stretch", "number"] (spPK K belowF) := ⟨⟨_, _, ok_part_below F4 Z , PySem.W.mg_of X G a4, k4, b4⟩⟩
  have O_part_from : Own l.prog w K mg base "part_from" 1 ["stretch", "number"] (spPK K fromF) := ⟨⟨_, _, ok_part_from F5 Z , PySem.W.mg_of X G a5, k5, b5⟩⟩
  have O_part_at : Own l.prog w K mg base "part_at" 2 ["stretch", "number"] (spPK K atF) := ⟨⟨_, _, ok_part_at F6 Z O_lies_in, PySem.W.mg_of X G a6, k6, b6⟩⟩
  have O_part_beside : Own l.prog w K mg base "part_beside" 1 ["stretch", "number"] (spPK K besF) := ⟨⟨_, _, ok_part_beside F7 Z , PySem.W.mg_of X G a7, k7, b7⟩⟩
  have O_part_of : Own l.prog w K mg base "part_of" 3 ["stretch", "word", "number", "side"] (spPartK K) := ⟨⟨_, _, ok_part_of F8 Z O_part_below O_part_from O_part_at O_part_beside, PySem.W.mg_of X G a8, k8, b8⟩⟩
  have O_facts_of : Own l.prog w K mg base "facts_of" 1 ["stretches"] (spFactsOf aA) := ⟨⟨_, _, ok_facts_of F9 Z GA , PySem.W.mg_of X G a9, k9, b9⟩⟩
  have O_known : Own l.prog w K mg base "known" 1 ["facts", "name"] (spKnown aA) := ⟨⟨_, _, ok_known F10 Z GA , PySem.W.mg_of X G a10, k10, b10⟩⟩
  have O_with_known : Own l.prog w K mg base "with_known" 2 ["facts", "name", "stretch"] (spWithKnown aA) := ⟨⟨_, _, ok_with_known F11 Z GA O_facts_of, PySem.W.mg_of X G a11, k11, b11⟩⟩
  have O_known_beyond : Own l.prog w K mg base "known_beyond" 4 ["facts", "end"] (spBeyond aA) := ⟨⟨_, _, ok_known_beyond F12 Z GA O_ways_on O_known O_part_of O_with_known, PySem.W.mg_of X G a12, k12, b12⟩⟩
  have O_leads : Own l.prog w K mg base "leads" 5 ["facts", "end"] (spLeads aA) := ⟨⟨_, _, ok_leads F13 Z O_known_beyond O_ways_on, PySem.W.mg_of X G a13, k13, b13⟩⟩
  have O_start : Own l.prog w K mg base "start" 4 ["plan"] spStart := ⟨⟨_, _, ok_start F14 Z O_names_of, PySem.W.mg_of X G a14, k14, b14⟩⟩
  have O_law_bag : Own l.prog w K mg base "_law_bag" 1 ["script", "k"] (spBag K) := ⟨⟨_, _, ok_law_bag F15 Z , PySem.W.mg_of X G a15, k15, b15⟩⟩
  have O_law_take : Own l.prog w K mg base "_law_take" 1 ["bag", "many"] spTake := ⟨⟨_, _, ok_law_take F16 Z , PySem.W.mg_of X G a16, k16, b16⟩⟩
  have O_law_names : Own l.prog w K mg base "_law_names" 2 ["bag"] spNames := ⟨⟨_, _, ok_law_names F17 Z O_law_take, PySem.W.mg_of X G a17, k17, b17⟩⟩
  have O_law_number : Own l.prog w K mg base "_law_number" 2 ["bag"] spNumber := ⟨⟨_, _, ok_law_number F18 Z O_law_take, PySem.W.mg_of X G a18, k18, b18⟩⟩
  have O_law_deed : Own l.prog w K mg base "_law_deed" 3 ["bag", "names"] spDeed := ⟨⟨_, _, ok_law_deed F19 Z O_law_take O_law_number, PySem.W.mg_of X G a19, k19, b19⟩⟩
  have O_law_end : Own l.prog w K mg base "_law_end" 3 ["bag", "names", "count"] spEndP := ⟨⟨_, _, ok_law_end F20 Z O_law_take O_law_number, PySem.W.mg_of X G a20, k20, b20⟩⟩
  have O_law_plan : Own l.prog w K mg base "_law_plan" 4 ["bag", "count", "most"] spPlan := ⟨⟨_, _, ok_law_plan F21 Z O_law_take O_law_names O_law_deed O_law_end, PySem.W.mg_of X G a21, k21, b21⟩⟩
  have O_law_all_names : Own l.prog w K mg base "_law_all_names" 1 ["plan"] spAllL := ⟨⟨_, _, ok_law_all_names F22 Z , PySem.W.mg_of X G a22, k22, b22⟩⟩
  have O_law_part : Own l.prog w K mg base "_law_part" 1 ["stretch", "word", "number", "side"] spPartL := ⟨⟨_, _, ok_law_part F23 Z , PySem.W.mg_of X G a23, k23, b23⟩⟩
  have O_law_with : Own l.prog w K mg base "_law_with" 1 ["facts", "name", "stretch"] spWithL := ⟨⟨_, _, ok_law_with F24 Z , PySem.W.mg_of X G a24, k24, b24⟩⟩
  have O_law_leads : Own l.prog w K mg base "_law_leads" 3 ["facts", "end"] spLeadsL := ⟨⟨_, _, ok_law_leads F25 Z O_law_part O_law_with, PySem.W.mg_of X G a25, k25, b25⟩⟩
  have O_law_told : Own l.prog w K mg base "_law_told" 1 ["facts"] spToldL := ⟨⟨_, _, ok_law_told F26 Z , PySem.W.mg_of X G a26, k26, b26⟩⟩
  have O_law_table : Own l.prog w K mg base "_law_table" 3 ["bag", "names"] spTableL := ⟨⟨_, _, ok_law_table F27 Z O_law_take O_law_number, PySem.W.mg_of X G a27, k27, b27⟩⟩
  have O_law_test : Own l.prog w K mg base "_law_test" 3 ["bag", "table", "names"] spTestL := ⟨⟨_, _, ok_law_test F28 Z O_law_take, PySem.W.mg_of X G a28, k28, b28⟩⟩
  exact ok_law F29 Z O_law_bag O_law_take O_law_names O_law_table O_law_test O_law_leads O_law_told O_leads O_law_plan O_start O_law_all_names
theorem walk {l : PySem.W.OpenLaw} {q : Program} {loose : List Str} {XP : (Str → Option Value) → Heap → Prop} {YP : World → Heap → Prop} {d : DefRec} {K : Params → PySem.W.Frag} (hn : l.most = some 63) (hdf : d.params.defaults = [])
    (hY : ∀ (w : World) (h : Heap), YP w h → (K w.params).In h)
    (F : ∀ (w : World) (mg : Str → Option Value) (fa : Addr) (h : Heap), (K w.params).In h → h.Ns mainGlobals mg → mg d.name = some (.ref fa) →
      ∃ fd : FuncData, (∀ (s : Shared) (u : Value), BindsTo s fd ⟨[u], []⟩ [("script", u)]) ∧ ∀ base : Heap, (K w.params).In base → base.Ns mainGlobals mg → FnOk l.prog w (K w.params) mg base CX0 6 fa fd ["script"] (spLaw (K w.params))) :
    PySem.W.WalkO q loose XP YP l.row.toRowW d [] (fun f vs => PySem.call f vs) :=
  L2.walk_of (n := 63) (k := 6) (x := "script") (CX := fun _ => CX0) (sp := fun w => spLaw (K w.params)) hn (by decide) hdf ⟨rfl, by decide, by decide⟩ hY F (fun _ _ a ns hl _ hS => ⟨a, ns, rfl, hS, hl, fun _ => rfl⟩) fun _ _ _ _ _ z => z
end My
/-! These names are taken so that the head lays no twins of its largest terms: it needs none of them, and they would be most of the compiled text. -/
theorem PySem.W.Fast.tw13410175647872123643 : True := trivial
theorem PySem.W.Fast.tw6582990270666003459 : True := trivial
theorem PySem.W.Fast.tw4312050100980276310 : True := trivial
theorem PySem.W.Fast.tw8895518756072677524 : True := trivial
theorem PySem.W.Fast.tw9272070003671301918 : True := trivial
theorem PySem.W.Fast.tw15946016629960879019 : True := trivial
open PySem PySem.W PyProof.Rows
set_option maxRecDepth 100000 in
set_option maxHeartbeats 0 in
theorem PySem.Challenge.cw_ledpast_k09_leads_holds : PySem.Challenge.rw_ledpast_k09_leads.Holds := by
  w_on; o_law; k_head; (case hw => w_witness2)
  k_fill
  refine My.walk (l := PySem.Challenge.rw_ledpast_k09_leads) rfl rfl (fun w h Y => PySem.W.kIn_of Y) ?F
  case F =>
    intro w mg fa h KX G hmg
    refine' My.all_mk KX G hmg ?a0 ?l0 ?c0 ?k0 ?a1 ?l1 ?c1 ?k1 ?a2 ?l2 ?c2 ?k2 ?a3 ?l3 ?c3 ?k3 ?a4 ?l4 ?c4 ?k4 ?a5 ?l5 ?c5 ?k5 ?a6 ?l6 ?c6 ?k6 ?a7 ?l7 ?c7 ?k7 ?a8 ?l8 ?c8 ?k8 ?a9 ?l9 ?c9 ?k9 ?a10 ?l10 ?c10 ?k10 ?a11 ?l11 ?c11 ?k11 ?a12 ?l12 ?c12 ?k12 ?a13 ?l13 ?c13 ?k13 ?a14 ?l14 ?c14 ?k14 ?a15 ?l15 ?c15 ?k15 ?a16 ?l16 ?c16 ?k16 ?a17 ?l17 ?c17 ?k17 ?a18 ?l18 ?c18 ?k18 ?a19 ?l19 ?c19 ?k19 ?a20 ?l20 ?c20 ?k20 ?a21 ?l21 ?c21 ?k21 ?a22 ?l22 ?c22 ?k22 ?a23 ?l23 ?c23 ?k23 ?a24 ?l24 ?c24 ?k24 ?a25 ?l25 ?c25 ?k25 ?a26 ?l26 ?c26 ?k26 ?a27 ?l27 ?c27 ?k27 ?a28 ?l28 ?c28 ?k28 ?a29 ?l29 ?c29 ?k29 ?z_len ?z_zip ?z_tuple ?z_sorted ?z_set ?z_dict ?z_min ?z_max ?z_range ?z_list ?z_int ?gA ?lA ?gE ?lE ?qE0 ?qE1 ?qE2 ?qE3 ?gD ?lD ?qD0 ?qD1 ?qD2 ?qD3 ?qD4
    (case gA => k_is)
    (case lA => k_is)
    (case gE => k_is)
    (case lE => k_is)
    (case qE0 => k_is)
    (case qE1 => k_is)
    (case qE2 => k_is)
    (case qE3 => k_is)
    (case gD => k_is)
    (case lD => k_is)
    (case qD0 => k_is)
    (case qD1 => k_is)
    (case qD2 => k_is)
    (case qD3 => k_is)
    (case qD4 => k_is)
    (case a0 => k_is)
    (case l0 => k_is)
    (case c0 => k_is)
    (case k0 => k_is)
    (case a1 => k_is)
    (case l1 => k_is)
    (case c1 => k_is)
    (case k1 => k_is)
    (case a2 => k_is)
    (case l2 => k_is)
    (case c2 => k_is)
    (case k2 => k_is)
    (case a3 => k_is)
    (case l3 => k_is)
    (case c3 => k_is)
    (case k3 => k_is)
    (case a4 => k_is)
    (case l4 => k_is)
    (case c4 => k_is)
    (case k4 => k_is)
    (case a5 => k_is)
    (case l5 => k_is)
    (case c5 => k_is)
    (case k5 => k_is)
    (case a6 => k_is)
    (case l6 => k_is)
    (case c6 => k_is)
    (case k6 => k_is)
    (case a7 => k_is)
    (case l7 => k_is)
    (case c7 => k_is)
    (case k7 => k_is)
    (case a8 => k_is)
    (case l8 => k_is)
    (case c8 => k_is)
    (case k8 => k_is)
    (case a9 => k_is)
    (case l9 => k_is)
    (case c9 => k_is)
    (case k9 => k_is)
    (case a10 => k_is)
    (case l10 => k_is)
    (case c10 => k_is)
    (case k10 => k_is)
    (case a11 => k_is)
    (case l11 => k_is)
    (case c11 => k_is)
    (case k11 => k_is)
    (case a12 => k_is)
    (case l12 => k_is)
    (case c12 => k_is)
    (case k12 => k_is)
    (case a13 => k_is)
    (case l13 => k_is)
    (case c13 => k_is)
    (case k13 => k_is)
    (case a14 => k_is)
    (case l14 => k_is)
    (case c14 => k_is)
    (case k14 => k_is)
    (case a15 => k_is)
    (case l15 => k_is)
    (case c15 => k_is)
    (case k15 => k_is)
    (case a16 => k_is)
    (case l16 => k_is)
    (case c16 => k_is)
    (case k16 => k_is)
    (case a17 => k_is)
    (case l17 => k_is)
    (case c17 => k_is)
    (case k17 => k_is)
    (case a18 => k_is)
    (case l18 => k_is)
    (case c18 => k_is)
    (case k18 => k_is)
    (case a19 => k_is)
    (case l19 => k_is)
    (case c19 => k_is)
    (case k19 => k_is)
    (case a20 => k_is)
    (case l20 => k_is)
    (case c20 => k_is)
    (case k20 => k_is)
    (case a21 => k_is)
    (case l21 => k_is)
    (case c21 => k_is)
    (case k21 => k_is)
    (case a22 => k_is)
    (case l22 => k_is)
    (case c22 => k_is)
    (case k22 => k_is)
    (case a23 => k_is)
    (case l23 => k_is)
    (case c23 => k_is)
    (case k23 => k_is)
    (case a24 => k_is)
    (case l24 => k_is)
    (case c24 => k_is)
    (case k24 => k_is)
    (case a25 => k_is)
    (case l25 => k_is)
    (case c25 => k_is)
    (case k25 => k_is)
    (case a26 => k_is)
    (case l26 => k_is)
    (case c26 => k_is)
    (case k26 => k_is)
    (case a27 => k_is)
    (case l27 => k_is)
    (case c27 => k_is)
    (case k27 => k_is)
    (case a28 => k_is)
    (case l28 => k_is)
    (case c28 => k_is)
    (case k28 => k_is)
    (case a29 => k_is)
    (case l29 => k_is)
    (case c29 => k_is)
    (case k29 => k_is)
    (case z_len => k_is)
    (case z_zip => k_is)
    (case z_tuple => k_is)
    (case z_sorted => k_is)
    (case z_set => k_is)
    (case z_dict => k_is)
    (case z_min => k_is)
    (case z_max => k_is)
    (case z_range => k_is)
    (case z_list => k_is)
    (case z_int => k_is)
