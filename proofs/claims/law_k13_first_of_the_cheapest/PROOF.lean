import PyProof.Rows.All
import Wide.All
import OpenK.AllK
import Wide.FinOn
import Lean
import PyProof.EqAt
import PyProof.EqKinds
import PyProof.TupleCall
import PySem.Challenge.RW_stripmeld_k13_first_of_the_cheapest
set_option Elab.async false
set_option linter.all false
set_option maxRecDepth 100000
/-! THE HAND LAYER, for ints, bools, texts, own classes, LISTS and tuples (index, slices, in, append, pop ..), calls, loops. Paste it whole ahead of your own text; what your proof does not reach may be deleted. -/
namespace L2
open PySem PySem.Spec PyProof.Rows

/-- a key: an int or a str -/
abbrev Key := Sum Int Str
def keyIs : Key → Value → Bool
  | .inl k, v => Value.isInt k v
  | .inr x, v => Value.isStrOf x v
def keyH (w : World) : Key → Int
  | .inl k => hashInt k
  | .inr x => hashStr w x
theorem keyIs_shape : ∀ {k : Key} {v : Value}, keyIs k v = true → (∃ i t, k = Sum.inl i ∧ v = Value.int i t) ∨ (∃ x t, k = Sum.inr x ∧ v = Value.str x t)
  | .inl i, v, h => by
    obtain ⟨t, e⟩ := Value.isInt_shape (k := i) (v := v) h
    exact .inl ⟨i, t, rfl, e⟩
  | .inr x, v, h => by
    obtain ⟨t, e⟩ := Value.isStrOf_shape (x := x) (v := v) h
    exact .inr ⟨x, t, rfl, e⟩
theorem keyIs_int (i : Int) (t : Tok) : keyIs (.inl i) (.int i t) = true := by simp [keyIs, Value.isInt]
theorem keyIs_str (x : Str) (t : Tok) : keyIs (.inr x) (.str x t) = true := by simp [keyIs, Value.isStrOf]
theorem key_ll (a b : Int) : decide ((Sum.inl a : Key) = Sum.inl b) = (a == b) := by
  by_cases e : a = b
  · subst e; simp
  · have h : ¬ (Sum.inl a : Key) = Sum.inl b := fun q => e (Sum.inl.inj q)
    rw [decide_eq_false h]
    exact (beq_eq_false_iff_ne.mpr e).symm
theorem key_rr (a b : Str) : decide ((Sum.inr a : Key) = Sum.inr b) = decide (a = b) := by
  by_cases e : a = b
  · subst e; simp
  · have h : ¬ (Sum.inr a : Key) = Sum.inr b := fun q => e (Sum.inr.inj q)
    rw [decide_eq_false h, decide_eq_false e]
theorem key_lr (a : Int) (b : Str) : decide ((Sum.inl a : Key) = Sum.inr b) = false := decide_eq_false (fun q => nomatch q)
theorem key_rl (a : Str) (b : Int) : decide ((Sum.inr a : Key) = Sum.inl b) = false := decide_eq_false (fun q => nomatch q)

def mixKind (prog : Program) (w : World) : PySem.KeyKind prog w Key where
  is := keyIs
  hash := keyH w
  inj := fun v a b ha hb => by
    rcases keyIs_shape ha with ⟨i, t, rfl, rfl⟩ | ⟨x, t, rfl, rfl⟩
    · rcases keyIs_shape hb with ⟨j, u, rfl, e⟩ | ⟨y, u, rfl, e⟩
      · injection e with e1 _; rw [e1]
      · exact nomatch e
    · rcases keyIs_shape hb with ⟨j, u, rfl, e⟩ | ⟨y, u, rfl, e⟩
      · exact nomatch e
      · injection e with e1 _; rw [e1]
  byValue := fun k v h => by
    rcases keyIs_shape h with ⟨i, t, rfl, rfl⟩ | ⟨x, t, rfl, rfl⟩ <;> rfl
  pyHash := fun hv h => by
    rcases keyIs_shape hv with ⟨i, t, rfl, rfl⟩ | ⟨x, t, rfl, rfl⟩
    · exact wpAny_pyHash_int h
    · exact wpAny_pyHash_str h
  eqBool := fun hu hv h => by
    rcases keyIs_shape hu with ⟨i, t, rfl, rfl⟩ | ⟨x, t, rfl, rfl⟩
    · rcases keyIs_shape hv with ⟨j, u, rfl, rfl⟩ | ⟨y, u, rfl, rfl⟩
      · rw [key_ll] at h; exact wpAny_eqBool_int h
      · rw [key_lr] at h; exact SeqAt.EqAt.int_str i t y u _ _ _ _ h
    · rcases keyIs_shape hv with ⟨j, u, rfl, rfl⟩ | ⟨y, u, rfl, rfl⟩
      · rw [key_rl] at h; exact SeqAt.EqAt.str_int x t j u _ _ _ _ h
      · rw [key_rr] at h; exact wpAny_eqBool_str h
  «strs» := fun k x t v h => by
    rcases keyIs_shape h with ⟨i, u, rfl, e⟩ | ⟨y, u, rfl, e⟩
    · exact nomatch e
    · injection e with e1 _
      subst e1
      cases v <;> rfl

theorem mixKind_int (prog : Program) (w : World) (i : Int) (t : Tok) : (mixKind prog w).is (.inl i) (.int i t) = true := keyIs_int i t
theorem mixKind_str (prog : Program) (w : World) (x : Str) (t : Tok) : (mixKind prog w).is (.inr x) (.str x t) = true := keyIs_str x t
end L2

namespace L2
open PySem PySem.Spec PyProof.Rows

/-- a value, without the heap -/
inductive V where
  | non | bl (b : Bool) | int (i : Int) | str (x : Str) | byt (b : Array UInt8) | flt (b : UInt64) | ref (a : Addr) | ty (n : String)
  deriving DecidableEq

def RelV : V → Value → Prop
  | .non, u => u = Value.none
  | .bl b, u => u = Value.bool b
  | .int i, u => ∃ t, u = Value.int i t
  | .str x, u => ∃ t, u = Value.str x t
  | .byt b, u => ∃ t, u = Value.bytes b t
  | .flt b, u => ∃ t, u = Value.float b t
  | .ref a, u => u = Value.ref a
  | .ty n, u => u = Value.type n

abbrev Vals : List V → List Value → Prop := Paired RelV
theorem Vals.length {xs : List V} {us : List Value} (r : Vals xs us) : xs.length = us.length := Paired.length r
theorem Vals.get : ∀ {xs : List V} {us : List Value} {i : Nat} {x : V}, Vals xs us → xs[i]? = some x → ∃ u, us[i]? = some u ∧ RelV x u
  | _, _, _, _, .nil, e => by simp at e
  | _, _, 0, _, .cons r _, e => by simp at e; subst e; exact ⟨_, rfl, r⟩
  | _, _, i + 1, x, .cons _ t, e => by
    obtain ⟨u, h1, h2⟩ := Vals.get (i := i) (x := x) t (by simpa using e)
    exact ⟨u, by simpa using h1, h2⟩
theorem Vals.set {x : V} {u : Value} (r : RelV x u) : ∀ {xs : List V} {us : List Value} (i : Nat), Vals xs us → Vals (xs.set i x) (us.set i u)
  | _, _, _, .nil => .nil
  | _, _, 0, .cons _ t => .cons r t
  | _, _, i + 1, .cons q t => .cons q (Vals.set r i t)
theorem Vals.append : ∀ {xs ys : List V} {us ws : List Value}, Vals xs us → Vals ys ws → Vals (xs ++ ys) (us ++ ws)
  | _, _, _, _, .nil, s => s
  | _, _, _, _, .cons r t, s => .cons r (Vals.append t s)
theorem Vals.take : ∀ {xs : List V} {us : List Value} (n : Nat), Vals xs us → Vals (xs.take n) (us.take n)
  | _, _, 0, _ => .nil
  | _, _, _ + 1, .nil => .nil
  | _, _, n + 1, .cons r t => .cons r (Vals.take n t)
theorem Vals.drop : ∀ {xs : List V} {us : List Value} (n : Nat), Vals xs us → Vals (xs.drop n) (us.drop n)
  | _, _, 0, r => r
  | _, _, _ + 1, .nil => .nil
  | _, _, n + 1, .cons _ t => Vals.drop n t
def RelO : Option V → Option Value → Prop
  | some v, some u => RelV v u
  | none, none => True
  | _, _ => False
def KV {κ : Type} : List (κ × V) → List (κ × Value) → Prop := Paired fun (p : κ × V) (q : κ × Value) => p.1 = q.1 ∧ RelV p.2 q.2

/-- a key of a dict (00_mix): an int or a text -/
def kV : Key → V
  | .inl i => .int i
  | .inr x => .str x

/-- what stands at a tracked address -/
inductive HO where
  /-- a list -/
  | lst (xs : List V)
  /-- a tuple (never changes) -/
  | tup (xs : List V)
  /-- a dict whose keys are ints and texts; one whose keys are tuples of ints and texts (the empty one is both) -/
  | dK (kvs : List (Key × V)) | dT (kvs : List (List Key × V))
  /-- a set of ints: its members, its size -/
  | set (S : Int → Bool) (n : Nat)
  /-- an instance of the class at C, its dict at dx, its attributes -/
  | ins (C dx : Addr) (fs : List (Str × V))
  /-- the dict of the instance at x -/
  | own (x : Addr)
  /-- the dict of an exception -/
  | xd (fs : List (Str × V))
  /-- a bound method, f of x -/
  | met (f x : Addr)
  /-- a range object lo, lo + 1, .. below hi -/
  | rng (lo hi : Int)
  /-- a thing that is known to the object (the script; a dict while a loop walks it): read, never written while it is so -/
  | frz (o : Obj) (u : HO)
  /-- a code object's table -/
  | tbl (ps : Array Value)
  /-- any other thing, by what is true of its one object (a def of one's own: SetO a S n := HO.ext fun h => ..) -/
  | ext (φ : Heap → Prop)

abbrev Hp := Addr → Option HO
def upd (H : Hp) (a : Addr) (o : HO) : Hp := fun b => if b = a then some o else H b
theorem upd_same {H : Hp} {a : Addr} {o : HO} : upd H a o a = some o := by unfold upd; rw [if_pos rfl]
theorem upd_ne {H : Hp} {a b : Addr} {o : HO} (h : b ≠ a) : upd H a o b = H b := by unfold upd; rw [if_neg h]
theorem upd_upd {H : Hp} {a : Addr} {o u : HO} : upd (upd H a o) a u = upd H a u := by
  funext b; unfold upd; split <;> rfl
/-- two objects of different content stand apart -/
theorem ne_of {H : Hp} {a b : Addr} {o u : HO} (h : H a = some o) (h' : H b = some u) (d : o ≠ u) : a ≠ b := by
  intro e; subst e; rw [h] at h'; exact d (Option.some.inj h')
theorem ne_of_none {H : Hp} {a b : Addr} {o : HO} (h : H a = some o) (h' : H b = none) : a ≠ b := by
  intro e; subst e; rw [h] at h'; cases h'

section
variable (P : Program) (w : World)
def ObjOk (H : Hp) (h : Heap) (a : Addr) : HO → Prop
  | .lst xs => xs.length ≤ sizeLine ∧ ∃ (its : List Value) (n : Nat), Vals xs its ∧ h.get? a = some { cls := .type "list", data := .seq its.toArray n }
  | .tup xs => xs.length ≤ sizeLine ∧ ∃ its : List Value, Vals xs its ∧ IsTup h a its.toArray
  | .dK kvs => kvs.length ≤ sizeLine ∧ (a == sysModules) = false ∧ ∃ vs, KV kvs vs ∧ h.DictOf (mixKind P w) a vs
  | .dT kvs => kvs.length ≤ sizeLine ∧ (a == sysModules) = false ∧ ∃ xs : List (List Key × Addr × Value),
      Paired (fun (p : List Key × V) (q : List Key × Addr × Value) => p.1 = q.1 ∧ H q.2.1 = some (.tup (p.1.map kV)) ∧ RelV p.2 q.2.2) kvs xs ∧
      ∃ o es ep, h.get? a = some o ∧ o.ExactDict ∧ o.data = .dict es ep ∧ es.toList = xs.map (entryOfKey (tupleKind (mixKind P w))) ∧ (xs.map (·.1)).Nodup
  | .set S n => h.SetOf (intKind P w) a S n
  | .ins C dx fs => H dx = some (.own a) ∧ fs.length ≤ 1000 ∧ dx ≠ a ∧ h.get? a = some (PySem.W.instObj C dx) ∧
      ∃ mA, h.Ns1 dx mA ∧ (∀ f, RelO (fs.lookup f) (mA f)) ∧ PySem.Within mA (fs.map (·.1))
  | .own _ => ∃ o, h.get? a = some o
  | .xd fs => ∃ mA, h.Ns1 a mA ∧ ∀ f, RelO (fs.lookup f) (mA f)
  | .rng lo hi => ∃ t u v, h.get? a = some { cls := .type "range", data := .fields #[.int lo t, .int hi u, .int 1 v] }
  | .frz o u => h.get? a = some o ∧ ObjOk H h a u
  | .tbl ps => h.get? a = some { cls := .none, data := .fields ps }
  | .met f x => h.get? a = some (PySem.W.methodObj (.ref f) (.ref x))
  | .ext φ => φ h ∧ (∃ o, h.get? a = some o) ∧ ∀ h1 h2 : Heap, φ h1 → (∀ o, h1.get? a = some o → h2.get? a = some o) → φ h2
/-- the abstract heap is held -/
def HOk (H : Hp) (h : Heap) : Prop := ∀ a o, H a = some o → ObjOk P w H h a o
end

section
variable {P : Program} {w : World} {H H' : Hp} {h h' : Heap} {a : Addr} {o : HO}
theorem ObjOk.lt (x : ObjOk P w H h a o) : a < h.objs.size := by
  cases o with
  | lst xs => obtain ⟨_, _, _, _, e⟩ := x; exact Heap.lt_size e
  | tup xs => obtain ⟨_, _, _, p⟩ := x; exact p.lt
  | dK kvs => obtain ⟨_, _, _, _, o, _, _, e, _⟩ := x; exact Heap.lt_size e
  | dT kvs => obtain ⟨_, _, _, _, o, _, _, e, _⟩ := x; exact Heap.lt_size e
  | set S n => obtain ⟨o, _, _, _, e, _⟩ := x; exact Heap.lt_size e
  | ins C dx fs => obtain ⟨_, _, _, e, _⟩ := x; exact Heap.lt_size e
  | own y => obtain ⟨_, e⟩ := x; exact Heap.lt_size e
  | xd fs => obtain ⟨_, ⟨_, _, _, e, _⟩, _⟩ := x; exact Heap.lt_size e
  | rng lo hi => obtain ⟨_, _, _, e⟩ := x; exact Heap.lt_size e
  | frz ob u => obtain ⟨e, _⟩ := x; exact Heap.lt_size e
  | tbl ps => exact Heap.lt_size (show h.get? a = some _ from x)
  | met f y => exact Heap.lt_size (show h.get? a = some _ from x)
  | ext φ => obtain ⟨_, ⟨_, e⟩, _⟩ := x; exact Heap.lt_size e
theorem Paired.mapP {α β : Type} {F G : α → β → Prop} : ∀ {l₁ : List α} {l₂ : List β}, Paired F l₁ l₂ → (∀ a b, F a b → G a b) → Paired G l₁ l₂
  | _, _, .nil, _ => .nil
  | _, _, .cons r t, f => .cons (f _ _ r) (Paired.mapP t f)
/-- what an object's description leans on: its own object, its own dict, the tuples -/
theorem ObjOk.stay (x : ObjOk P w H h a o) (k : ∀ b u, (b = a ∨ H b = some (.own a)) → h.get? b = some u → h'.get? b = some u)
    (ho : ∀ b, H b = some (.own a) → H' b = some (.own a)) (ht : ∀ b xs, H b = some (.tup xs) → H' b = some (.tup xs)) : ObjOk P w H' h' a o := by
  induction o with
  | lst xs => obtain ⟨z, its, n, r, e⟩ := x; exact ⟨z, its, n, r, k _ _ (.inl rfl) e⟩
  | tup xs => obtain ⟨z, its, r, ob, e, c⟩ := x; exact ⟨z, its, r, ob, k _ _ (.inl rfl) e, c⟩
  | dK kvs => obtain ⟨z, y, vs, r, ob, es, ep, e, c⟩ := x; exact ⟨z, y, vs, r, ob, es, ep, k _ _ (.inl rfl) e, c⟩
  | dT kvs =>
    obtain ⟨z, y, xs, r, ob, es, ep, e, c⟩ := x
    exact ⟨z, y, xs, Paired.mapP r fun p q z => ⟨z.1, ht _ _ z.2.1, z.2.2⟩, ob, es, ep, k _ _ (.inl rfl) e, c⟩
  | set S n => obtain ⟨ob, es, ep, t, e, c⟩ := x; exact ⟨ob, es, ep, t, k _ _ (.inl rfl) e, c⟩
  | ins C dx fs =>
    obtain ⟨d, z, ne, e, mA, ⟨od, es, ep, e2, c⟩, r⟩ := x
    exact ⟨ho _ d, z, ne, k _ _ (.inl rfl) e, mA, ⟨od, es, ep, k _ _ (.inr d) e2, c⟩, r⟩
  | own y => obtain ⟨ob, e⟩ := x; exact ⟨ob, k _ _ (.inl rfl) e⟩
  | xd fs => obtain ⟨mA, ⟨od, es, ep, e, c⟩, r⟩ := x; exact ⟨mA, ⟨od, es, ep, k _ _ (.inl rfl) e, c⟩, r⟩
  | rng lo hi => obtain ⟨t, u, v, e⟩ := x; exact ⟨t, u, v, k _ _ (.inl rfl) e⟩
  | frz ob u ih => obtain ⟨e, q⟩ := x; exact ⟨k _ _ (.inl rfl) e, ih q⟩
  | tbl ps =>
    have e : h.get? a = some { cls := .none, data := .fields ps } := x
    show h'.get? a = some { cls := .none, data := .fields ps }
    exact k a _ (.inl rfl) e
  | met f y =>
    have e : h.get? a = some (PySem.W.methodObj (.ref f) (.ref y)) := x
    show h'.get? a = some (PySem.W.methodObj (.ref f) (.ref y))
    exact k a _ (.inl rfl) e
  | ext φ => obtain ⟨p, ⟨o, e⟩, st⟩ := x; exact ⟨st _ _ p fun o q => k _ _ (.inl rfl) q, ⟨o, k _ _ (.inl rfl) e⟩, st⟩
theorem HOk.lt (x : HOk P w H h) (e : H a = some o) : a < h.objs.size := (x a o e).lt
theorem HOk.fresh (x : HOk P w H h) (e : h.objs.size ≤ a) : H a = none := by
  cases q : H a with
  | none => rfl
  | some u => exact absurd (Nat.lt_of_lt_of_le (x.lt q) e) (Nat.lt_irrefl _)
/-- every object of the heap is kept -/
theorem HOk.kept (x : HOk P w H h) (k : ∀ b u, h.get? b = some u → h'.get? b = some u) : HOk P w H h' := fun a o e =>
  (x a o e).stay (fun b u _ q => k b u q) (fun _ q => q) fun _ _ q => q
/-- a new object is laid and tracked -/
theorem HOk.laid (x : HOk P w H h) (k : ∀ b u, h.get? b = some u → h'.get? b = some u) (hp : h.objs.size ≤ a) (new : ObjOk P w (upd H a o) h' a o) : HOk P w (upd H a o) h' := fun b u e => by
  have hn := x.fresh hp
  by_cases hb : b = a
  · subst hb; rw [upd_same] at e; cases e; exact new
  · rw [upd_ne hb] at e
    exact (x b u e).stay (fun c v _ q => k c v q) (fun c q => by rw [upd_ne (ne_of_none q hn)]; exact q) fun c xs q => by rw [upd_ne (ne_of_none q hn)]; exact q
end

/-- what may be read as u: it is u, or a known u -/
def Rd (H : Hp) (a : Addr) (u : HO) : Prop := H a = some u ∨ ∃ o, H a = some (.frz o u)
theorem Rd.ok {P : Program} {w : World} {H : Hp} {h : Heap} {a : Addr} {u : HO} (r : Rd H a u) (x : HOk P w H h) : ObjOk P w H h a u := by
  rcases r with r | ⟨o, r⟩
  · exact x a u r
  · obtain ⟨_, q⟩ := x a _ r
    exact q
/-- what may be written -/
def Mut : Option HO → Prop
  | some (.lst _) => True
  | some (.dK _) => True
  | some (.dT _) => True
  | some (.set _ _) => True
  | some (.ins _ _ _) => True
  | some (.ext _) => True
  | _ => False
section
variable {P : Program} {w : World} {H : Hp} {h h' : Heap} {x e : Addr} {o' : HO}
/-- the object at e is changed: x itself, or the dict of the instance x -/
theorem HOk.write (ok : HOk P w H h) (mu : Mut (H x)) (he : e = x ∨ H e = some (.own x)) (k : ∀ b u, b ≠ e → h.get? b = some u → h'.get? b = some u) (heo : ∃ u, h'.get? e = some u)
    (new : ObjOk P w (upd H x o') h' x o') : HOk P w (upd H x o') h' := fun b u q => by
  have nown : ∀ c y, H c = some (.own y) → c ≠ x := fun c y r z => by subst z; rw [r] at mu; exact mu
  have ntup : ∀ c xs, H c = some (.tup xs) → c ≠ x := fun c xs r z => by subst z; rw [r] at mu; exact mu
  by_cases hb : b = x
  · subst hb; rw [upd_same] at q; cases q; exact new
  · rw [upd_ne hb] at q
    by_cases hbe : b = e
    · have q' : H b = some (.own x) := by
        rcases he with z | z
        · exact absurd (hbe.trans z) hb
        · rw [hbe]; exact z
      rw [q] at q'; cases q'
      obtain ⟨v, hv⟩ := heo
      exact ⟨v, by rw [hbe]; exact hv⟩
    · refine (ok b u q).stay (fun c v hc r => k c v ?_ r) (fun c r => by rw [upd_ne (nown c b r)]; exact r) fun c xs r => by rw [upd_ne (ntup c xs r)]; exact r
      rcases hc with rfl | hc
      · exact hbe
      · rintro rfl
        rcases he with z | z
        · exact nown c b hc z
        · rw [hc] at z; cases z; exact hb rfl
end

/-! ### kept unless tracked; of the frames at fs (the callers') the slots may change (an exception that passes writes there); of the records at ex (iterators) nothing is said -/
structure Un (fs ex : List Addr) (H H' : Hp) (h h' : Heap) : Prop where
  keep : ∀ b o, h.get? b = some o → H b = none → b ∉ fs → b ∉ ex → h'.get? b = some o
  slot : ∀ b o, h.get? b = some o → H b = none → b ∈ fs → b ∉ ex → ∃ sl, h'.get? b = some { o with slots := sl }
  free : ∀ b o, h.get? b = some o → H b = none → b ∉ ex → H' b = none
  there : ∀ b o, h.get? b = some o → b ∉ ex → ∃ o', h'.get? b = some o'
  tups : ∀ b xs, H b = some (.tup xs) → H' b = some (.tup xs)
  frzs : ∀ b o u, H b = some (.frz o u) → H' b = some (.frz o u)
  tbls : ∀ b ps, H b = some (.tbl ps) → ∃ more, H' b = some (.tbl (ps ++ more))
section
variable {fs fs' ex ex' : List Addr} {H H1 H2 : Hp} {h h1 h2 h' : Heap} {a x e : Addr} {o : HO}
theorem Un.any (u : Un fs ex H H1 h h1) {b : Addr} {ob : Obj} (q : h.get? b = some ob) (n : H b = none) (hx : b ∉ ex) : ∃ sl, h1.get? b = some { ob with slots := sl } := by
  by_cases hb : b ∈ fs
  · exact u.slot b ob q n hb hx
  · exact ⟨ob.slots, u.keep b ob q n hb hx⟩
theorem Un.trans (a : Un fs ex H H1 h h1) (b : Un fs ex H1 H2 h1 h2) : Un fs ex H H2 h h2 where
  keep := fun c ob q n hc hx => b.keep c ob (a.keep c ob q n hc hx) (a.free c ob q n hx) hc hx
  slot := fun c ob q n hc hx => by
    obtain ⟨sl, e1⟩ := a.slot c ob q n hc hx
    obtain ⟨sl', e2⟩ := b.slot c _ e1 (a.free c ob q n hx) hc hx
    exact ⟨sl', e2⟩
  free := fun c ob q n hx => by
    obtain ⟨o', e1⟩ := a.there c ob q hx
    exact b.free c o' e1 (a.free c ob q n hx) hx
  there := fun c ob q hx => by
    obtain ⟨o', e1⟩ := a.there c ob q hx
    exact b.there c o' e1 hx
  tups := fun c xs q => b.tups c xs (a.tups c xs q)
  frzs := fun c ob xs q => b.frzs c ob xs (a.frzs c ob xs q)
  tbls := fun c ps q => by
    obtain ⟨m1, e1⟩ := a.tbls c ps q
    obtain ⟨m2, e2⟩ := b.tbls c _ e1
    exact ⟨m1 ++ m2, by rw [e2, Array.append_assoc]⟩
theorem Un.kept (k : ∀ b u, h.get? b = some u → h'.get? b = some u) : Un fs ex H H h h' :=
  ⟨fun b ob q _ _ _ => k b ob q, fun b ob q _ _ _ => ⟨ob.slots, k b ob q⟩, fun _ _ _ n _ => n, fun b ob q _ => ⟨ob, k b ob q⟩, fun _ _ q => q, fun _ _ _ q => q, fun _ ps q => ⟨#[], by rw [q]; simp⟩⟩
theorem Un.refl : Un fs ex H H h h := Un.kept fun _ _ q => q
theorem Un.laid (k : ∀ b u, h.get? b = some u → h'.get? b = some u) (hp : h.objs.size ≤ a) (hn : H a = none) : Un fs ex H (upd H a o) h h' where
  keep := fun b u q _ _ _ => k b u q
  slot := fun b u q _ _ _ => ⟨u.slots, k b u q⟩
  free := fun b u q n _ => by rw [upd_ne (Nat.ne_of_lt (Nat.lt_of_lt_of_le (Heap.lt_size q) hp))]; exact n
  there := fun b u q _ => ⟨u, k b u q⟩
  tups := fun b xs q => by rw [upd_ne (ne_of_none q hn)]; exact q
  frzs := fun b u xs q => by rw [upd_ne (ne_of_none q hn)]; exact q
  tbls := fun b ps q => ⟨#[], by rw [upd_ne (ne_of_none q hn), q]; simp⟩
theorem Un.write (mu : Mut (H x)) (he : e = x ∨ H e = some (.own x)) (k : ∀ b u, b ≠ e → h.get? b = some u → h'.get? b = some u) (heo : ∃ u, h'.get? e = some u) : Un fs ex H (upd H x o) h h' := by
  have hx : ∀ b, H b = none → b ≠ x := fun b n z => by subst z; rw [n] at mu; exact mu
  have hb : ∀ b, H b = none → b ≠ e := fun b n z => by
    subst z
    rcases he with r | r
    · exact hx b n r
    · rw [n] at r; cases r
  have hm : ∀ b u, H b = some u → ¬ Mut (some u) → b ≠ x := fun b u q nm z => by subst z; rw [q] at mu; exact nm mu
  refine ⟨fun b u q n _ _ => k b u (hb b n) q, fun b u q n _ _ => ⟨u.slots, k b u (hb b n) q⟩, fun b u q n _ => by rw [upd_ne (hx b n)]; exact n, fun b u q _ => ?_,
    fun b xs q => by rw [upd_ne (hm b _ q fun z => z)]; exact q, fun b u xs q => by rw [upd_ne (hm b _ q fun z => z)]; exact q, fun b ps q => ⟨#[], by rw [upd_ne (hm b _ q fun z => z), q]; simp⟩⟩
  by_cases hbe : b = e
  · subst hbe; exact heo
  · exact ⟨u, k b u hbe q⟩
theorem Un.mono (u : Un fs ex H H1 h h1) (hs : ∀ b ∈ fs, b ∈ fs') (hx : ∀ b ∈ ex, b ∈ ex') : Un fs' ex' H H1 h h1 :=
  ⟨fun b ob q n hb he => u.keep b ob q n (fun z => hb (hs b z)) fun z => he (hx b z), fun _ _ q n _ he => u.any q n fun z => he (hx _ z), fun b ob q n he => u.free b ob q n fun z => he (hx b z), fun b ob q he => u.there b ob q fun z => he (hx b z), u.tups, u.frzs, u.tbls⟩
end

/-! ### the heap without what is tracked -/
def trk (h : Heap) (H : Hp) : List Addr := (List.range h.objs.size).filter fun a => (H a).isSome
def hidT (h : Heap) (H : Hp) : Heap := PySem.W.hideAll h (trk h H)
theorem hidT_size (h : Heap) (H : Hp) : (hidT h H).objs.size = h.objs.size := PySem.W.hideAll_size _ _
theorem hidT_get {h : Heap} {H : Hp} {b : Addr} {o : Obj} (e : h.get? b = some o) (n : H b = none) : (hidT h H).get? b = some o :=
  PySem.W.hideAll_get _ e fun hm => by
    have q : (H b).isSome = true := (List.mem_filter.mp hm).2
    rw [n] at q; simp at q
theorem of_hidT {h : Heap} {H : Hp} {b : Addr} {o : Obj} (e : (hidT h H).get? b = some o) : h.get? b = some o ∧ H b = none := by
  have e' : h.get? b = some o := PySem.W.of_hideAll (trk h H) e
  refine ⟨e', ?_⟩
  cases q : H b with
  | none => rfl
  | some x =>
    have hm : b ∈ trk h H := List.mem_filter.mpr ⟨List.mem_range.mpr (Heap.lt_size e'), by simp [q]⟩
    have z : (hidT h H).get? b = none := PySem.W.hideAll_none (trk h H) hm
    rw [z] at e; cases e

/-! ### OpenK's ledger, filled with every new object but one -/
def allNews (g h : Heap) (L : Addr) : List (Addr × Obj) := (List.range h.objs.size).filterMap fun a => if a = L ∨ (g.get? a).isSome = true then none else (h.get? a).map fun o => (a, o)
def rest (g h : Heap) (L d : Addr) : List (Addr × Obj) := (allNews g h L).filter fun p => decide (p.1 ≠ d)
end L2

namespace L2
open PySem PySem.Spec PyProof.Rows

/-- the module's facts, over the base: the heap at the law's entry without what is tracked there -/
structure Mod (K : PySem.W.Frag) (mg : Str → Option Value) (base : Heap) : Prop where
  kin : K.In base
  glob : base.Ns mainGlobals mg
  blt : ∃ mb, base.Ns builtinsNs mb ∧ ∀ x : Str, x ≠ "__name__" → mb x = bootBuiltins x
  nolimit : base.NoLimit

/-- the context: a def's body (or a comprehension's block) running. base: fixed through the whole law; s₀, H₀: the entry; outer: the frames whose slots others may change (a def's callers); stack: all frames that run;
   ex: iterators that were made ahead of the entry and are walked here (a comprehension's); fn: the names whose cells were made at the entry (a def: all; a comprehension's block: its own); calm: not within an except suite; pn: pins that every state bears; xe: what is wanted of an exception that leaves the code -/
structure Cx where
  prog : Program
  w : World
  K : PySem.W.Frag
  mg : Str → Option Value
  base : Heap
  A : Around
  N : List Str
  s₀ : Shared
  H₀ : Hp
  env : Env
  outer : List Env
  stack : List Env
  ex : List Addr
  fn : Str → Bool
  calm : Bool
  pn : List (Addr × Obj)
  xe : Value → Shared → Prop
/-- the callers' frames -/
def frs (l : List Env) : List Addr := l.filterMap (·.frame)
abbrev Cx.fs (X : Cx) : List Addr := frs X.outer

def Vis (sc : Scope) (x : Str) : Prop := sc.names.lookup x = some .local ∨ sc.names.lookup x = some .cell ∨ sc.names.lookup x = some .free
def Loc (sc : Scope) (x : Str) : Prop := sc.names.lookup x = some .local ∨ sc.names.lookup x = some .cell
def Look (env : Env) (h : Heap) (m : Str → Option Value) (x : Str) (u : Value) : Prop :=
  (env.kindOf x = some .local ∧ m x = some u) ∨ ((env.kindOf x = some .cell ∨ env.kindOf x = some .free) ∧ ∃ c, env.cells.lookup x = some c ∧ h.IsCell c (some u))

structure Cx.Ok (X : Cx) : Prop where
  mod : Mod X.K X.mg X.base
  kind : X.env.scope.kind = .function
  glob : X.env.globals = mainGlobals
  blt : X.env.builtins = builtinsNs
  above : X.s₀.heap.objs.size ≤ X.env.locals
  inj : ∀ x y c, X.env.cells.lookup x = some c → X.env.cells.lookup y = some c → x = y
  has : ∀ x, (X.env.kindOf x = some .cell ∨ X.env.kindOf x = some .free) → ∃ c, X.env.cells.lookup x = some c
  cab : ∀ x c, X.fn x = true → X.env.cells.lookup x = some c → X.s₀.heap.objs.size ≤ c
  hd : X.calm = true → X.A.handled = none
  frames : X.A.frames = some X.stack
  stk : X.stack = X.outer ∨ (X.stack = X.env :: X.outer ∧ X.env.frame = some X.env.locals)
  exf : ∀ b ∈ X.ex, b ≠ X.env.locals ∧ ∀ x c, X.env.cells.lookup x = some c → c ≠ b
  bs : ∀ b o, X.base.get? b = some o → X.s₀.heap.get? b = some o ∧ X.H₀ b = none
  bsz : X.base.objs.size ≤ X.s₀.heap.objs.size
  noex : ∀ b o, X.base.get? b = some o → b ∉ X.ex
  exfs : ∀ b ∈ X.ex, b ∉ X.fs
  funs : X.s₀.heap.FunFrames X.base X.outer
  frf : ∀ b ∈ X.fs, X.H₀ b = none

structure Inv (X : Cx) (pins : List (Addr × Obj)) (σ : List (Option V)) (H : Hp) (s : Shared) : Prop where
  ok : X.Ok
  os : s.os = X.s₀.os
  bare : AllBare s.gens
  base : Un X.fs X.ex X.H₀ H X.s₀.heap s.heap
  loc : ∃ m, s.heap.Ns X.env.locals m ∧ ∀ (i : Nat) (x : Str) (v : V), X.N[i]? = some x → σ[i]? = some (some v) → Vis X.env.scope x → ∃ u, RelV v u ∧ Look X.env s.heap m x u
  cell : ∀ x c, X.env.cells.lookup x = some c → ∃ v, s.heap.IsCell c v
  free : H X.env.locals = none
  freeC : ∀ x c, X.env.cells.lookup x = some c → H c = none
  pin : ∀ p ∈ X.pn ++ pins, s.heap.get? p.1 = some p.2 ∧ H p.1 = none ∧ p.1 ≠ X.env.locals ∧ p.1 ∉ X.fs ∧ ∀ v, p.2.data ≠ .cell v
  hok : HOk X.prog X.w H s.heap
  len : σ.length = X.N.length

section
variable {X : Cx} {pins : List (Addr × Obj)} {σ : List (Option V)} {H H' : Hp} {s : Shared} {h' : Heap}

theorem Cx.Ok.nofr (ok : X.Ok) {b : Addr} {o : Obj} (e : X.base.get? b = some o) : b ∉ X.fs := fun hb => by
  have := (ok.funs.mem hb).1
  rw [e] at this; cases this
theorem Inv.bs (I : Inv X pins σ H s) : ∀ b o, X.base.get? b = some o → s.heap.get? b = some o ∧ H b = none := fun b o e =>
  ⟨I.base.keep b o (I.ok.bs b o e).1 (I.ok.bs b o e).2 (I.ok.nofr e) (I.ok.noex b o e), I.base.free b o (I.ok.bs b o e).1 (I.ok.bs b o e).2 (I.ok.noex b o e)⟩
theorem Inv.bk (I : Inv X pins σ H s) : ∀ b o, X.base.get? b = some o → s.heap.get? b = some o := fun b o e => (I.bs b o e).1
theorem Inv.mod (I : Inv X pins σ H s) : Mod X.K X.mg X.base := I.ok.mod
theorem Inv.kIn (I : Inv X pins σ H s) : X.K.In s.heap := I.ok.mod.kin.keeps I.bk
theorem Inv.lt (I : Inv X pins σ H s) : X.env.locals < s.heap.objs.size := let ⟨_, hn, _⟩ := I.loc; hn.lt
theorem Inv.sz (I : Inv X pins σ H s) : X.s₀.heap.objs.size ≤ s.heap.objs.size := Nat.le_trans I.ok.above (Nat.le_of_lt I.lt)
theorem Inv.nofs (I : Inv X pins σ H s) {a : Addr} (h : s.heap.objs.size ≤ a) : a ∉ X.fs := fun hb => by
  obtain ⟨_, o, ho, _⟩ := I.ok.funs.mem hb
  exact absurd (Nat.lt_of_lt_of_le (Heap.lt_size ho) (Nat.le_trans I.sz h)) (Nat.lt_irrefl _)
theorem Inv.cne (I : Inv X pins σ H s) : ∀ x c, X.env.cells.lookup x = some c → c ≠ X.env.locals := fun x c e z => by
  obtain ⟨v, o, ho, hd⟩ := I.cell x c e
  obtain ⟨m, ⟨o', es, ep, ho', hd', _⟩, _⟩ := I.loc
  rw [z, ho'] at ho; cases ho; rw [hd'] at hd; cases hd
theorem Inv.funs (I : Inv X pins σ H s) : s.heap.FunFrames X.base X.outer := by
  have all : ∀ (l : List Env), (∀ b ∈ frs l, b ∈ X.fs) → X.s₀.heap.FunFrames X.base l → s.heap.FunFrames X.base l := by
    intro l
    induction l with
    | nil => intro _ _; trivial
    | cons env r ih =>
      intro hs hl
      obtain ⟨hk, ⟨L, o, hf, hn, ho, hd⟩, hr⟩ := hl
      have hL : L ∈ X.fs := hs L (by unfold frs; rw [List.filterMap_cons, hf]; exact List.mem_cons_self)
      obtain ⟨sl, e⟩ := I.base.slot L o ho (I.ok.frf L hL) hL fun z => I.ok.exfs L z hL
      exact ⟨hk, ⟨L, _, hf, hn, e, hd⟩, ih (fun b hb => hs b (by unfold frs; rw [List.filterMap_cons, hf]; exact List.mem_cons_of_mem _ hb)) hr⟩
  exact all X.outer (fun _ hb => hb) I.ok.funs

/-- the frames that run, for a call -/
theorem Inv.stack (I : Inv X pins σ H s) : s.heap.FunFrames X.base X.stack := by
  rcases I.ok.stk with e | ⟨e, hf⟩
  · rw [e]; exact I.funs
  · rw [e]
    obtain ⟨m, hn, _⟩ := I.loc
    refine .cons (by rw [I.ok.kind]; decide) hf hn ?_ I.funs
    exact Heap.get?_none_of_le (Nat.le_trans I.ok.bsz I.ok.above)
theorem Inv.stkSub (I : Inv X pins σ H s) : ∀ b ∈ frs X.stack, b ∈ X.env.locals :: X.fs := fun b hb => by
  rcases I.ok.stk with e | ⟨e, hf⟩
  · rw [e] at hb; exact List.mem_cons_of_mem _ hb
  · rw [e] at hb
    unfold frs at hb
    rw [List.filterMap_cons, hf] at hb
    exact hb
theorem Inv.stkFree (I : Inv X pins σ H s) : ∀ b ∈ frs X.stack, H b = none := fun b hb => by
  rcases List.mem_cons.mp (I.stkSub b hb) with e | hb
  · rw [e]; exact I.free
  · obtain ⟨_, o, ho, _⟩ := I.ok.funs.mem hb
    exact I.base.free b o ho (I.ok.frf b hb) fun z => I.ok.exfs b z hb

/-- THE STEP: the untracked objects but the frame and the records at ch are kept (the callers' frames up to slots), the frame's map is kept, the new abstract heap is held -/
theorem Inv.step {g' : Array GenState} {t' : Nat} {d' : Drawn} {ch : List Addr} (I : Inv X pins σ H s)
    (hch : ∀ b ∈ ch, (b ∈ X.ex ∨ X.s₀.heap.objs.size ≤ b) ∧ b ≠ X.env.locals ∧ (∀ x c, X.env.cells.lookup x = some c → c ≠ b) ∧ ∀ p ∈ X.pn ++ pins, p.1 ≠ b)
    (keep : ∀ b o, b ≠ X.env.locals → b ∉ X.fs → b ∉ ch → s.heap.get? b = some o → H b = none → h'.get? b = some o)
    (slot : ∀ b o, b ≠ X.env.locals → b ∈ X.fs → b ∉ ch → s.heap.get? b = some o → H b = none → ∃ sl, h'.get? b = some { o with slots := sl }) (free : ∀ b o, b ∉ ch → s.heap.get? b = some o → H b = none → H' b = none)
    (there : ∀ b o, b ∉ ch → s.heap.get? b = some o → ∃ o', h'.get? b = some o')
    (tups : ∀ b xs, H b = some (.tup xs) → H' b = some (.tup xs)) (frzs : ∀ b o u, H b = some (.frz o u) → H' b = some (.frz o u)) (tbls : ∀ b ps, H b = some (.tbl ps) → ∃ more, H' b = some (.tbl (ps ++ more)))
    (ns : ∀ m, s.heap.Ns X.env.locals m → h'.Ns X.env.locals m) (hok : HOk X.prog X.w H' h') (hg : AllBare g') :
    Inv X pins σ H' { s with heap := h', gens := g', drawn := d', toks := t' } := by
  have neL : ∀ b o, X.s₀.heap.get? b = some o → b ≠ X.env.locals := fun b o e => Nat.ne_of_lt (Nat.lt_of_lt_of_le (Heap.lt_size e) I.ok.above)
  have neC : ∀ b o, X.s₀.heap.get? b = some o → b ∉ X.ex → b ∉ ch := fun b o e hx hb => by
    rcases (hch b hb).1 with z | z
    · exact hx z
    · exact absurd (Nat.lt_of_lt_of_le (Heap.lt_size e) z) (Nat.lt_irrefl _)
  have cellK : ∀ x c, X.env.cells.lookup x = some c → ∀ v, s.heap.IsCell c v → h'.IsCell c v := fun x c e v ⟨o, ho, hd⟩ => by
    have nch : c ∉ ch := fun z => (hch c z).2.2.1 x c e rfl
    by_cases hc : c ∈ X.fs
    · obtain ⟨sl, q⟩ := slot c o (I.cne x c e) hc nch ho (I.freeC x c e)
      exact ⟨_, q, hd⟩
    · exact ⟨o, keep c o (I.cne x c e) hc nch ho (I.freeC x c e), hd⟩
  refine ⟨I.ok, I.os, hg, ⟨fun b o e n hb hx => ?_, fun b o e n hb hx => ?_, fun b o e n hx => ?_, fun b o e hx => ?_, fun b xs e => tups b xs (I.base.tups b xs e), fun b o xs e => frzs b o xs (I.base.frzs b o xs e), fun b ps e => ?_⟩, ?_, fun x c e => ?_, ?_, fun x c e => ?_, fun p hp => ?_, hok, I.len⟩
  · exact keep b o (neL b o e) hb (neC b o e hx) (I.base.keep b o e n hb hx) (I.base.free b o e n hx)
  · obtain ⟨sl, e1⟩ := I.base.slot b o e n hb hx
    obtain ⟨sl', e2⟩ := slot b _ (neL b o e) hb (neC b o e hx) e1 (I.base.free b o e n hx)
    exact ⟨sl', e2⟩
  · obtain ⟨o', e1⟩ := I.base.there b o e hx
    exact free b o' (neC b o e hx) e1 (I.base.free b o e n hx)
  · obtain ⟨o', e1⟩ := I.base.there b o e hx
    exact there b o' (neC b o e hx) e1
  · obtain ⟨m1, e1⟩ := I.base.tbls b ps e
    obtain ⟨m2, e2⟩ := tbls b _ e1
    exact ⟨m1 ++ m2, by rw [e2, Array.append_assoc]⟩
  · obtain ⟨m, hn, hl⟩ := I.loc
    refine ⟨m, ns m hn, fun i x v e1 e2 e3 => ?_⟩
    obtain ⟨u, r, l⟩ := hl i x v e1 e2 e3
    refine ⟨u, r, ?_⟩
    rcases l with l | ⟨k, c, e, z⟩
    · exact .inl l
    · exact .inr ⟨k, c, e, cellK x c e _ z⟩
  · obtain ⟨v, z⟩ := I.cell x c e
    exact ⟨v, cellK x c e v z⟩
  · obtain ⟨m, ⟨o, _, _, ho, _⟩, _⟩ := I.loc
    exact free _ o (fun z => (hch _ z).2.1 rfl) ho I.free
  · obtain ⟨v, o, ho, hd⟩ := I.cell x c e
    exact free c o (fun z => (hch c z).2.2.1 x c e rfl) ho (I.freeC x c e)
  · obtain ⟨e, n, ne, nf, d⟩ := I.pin p hp
    have nch : p.1 ∉ ch := fun z => (hch p.1 z).2.2.2 p hp rfl
    exact ⟨keep p.1 p.2 ne nf nch e n, free p.1 p.2 nch e n, ne, nf, d⟩
/-- .. where the frame's own object is kept too -/
theorem Inv.un {t' : Nat} (I : Inv X pins σ H s) (u : Un X.fs [] H H' s.heap h') (hok : HOk X.prog X.w H' h') : Inv X pins σ H' { s with heap := h', toks := t' } := by
  obtain ⟨m, ⟨o, es, ep, ho, r⟩, _⟩ := id I.loc
  obtain ⟨sl, hL⟩ := u.any ho I.free (by simp)
  exact I.step (g' := s.gens) (d' := s.drawn) (ch := []) (fun _ z => nomatch z) (fun b o _ hb _ e n => u.keep b o e n hb (by simp)) (fun b o _ hb _ e n => u.slot b o e n hb (by simp)) (fun b o _ e n => u.free b o e n (by simp)) (fun b o _ e => u.there b o e (by simp)) u.tups u.frzs u.tbls (fun m' hm => by
    obtain ⟨o', es', ep', ho', r'⟩ := hm
    rw [ho] at ho'; cases ho'
    exact ⟨_, es', ep', hL, r'⟩) hok I.bare
/-- behind a call (or a comprehension's block): the slots of this frame may have changed too, the records at ch may have turned -/
theorem Inv.call {g' : Array GenState} {t' : Nat} {d' : Drawn} {ch : List Addr} (I : Inv X pins σ H s) (u : Un (frs X.stack) ch H H' s.heap h') (hok : HOk X.prog X.w H' h') (hg : AllBare g')
    (hch : ∀ b ∈ ch, (b ∈ X.ex ∨ X.s₀.heap.objs.size ≤ b) ∧ b ≠ X.env.locals ∧ (∀ x c, X.env.cells.lookup x = some c → c ≠ b) ∧ ∀ p ∈ X.pn ++ pins, p.1 ≠ b) :
    Inv X pins σ H' { s with heap := h', gens := g', drawn := d', toks := t' } := by
  obtain ⟨m, ⟨o, es, ep, ho, r⟩, _⟩ := id I.loc
  obtain ⟨sl, hL⟩ := u.any ho I.free fun z => (hch _ z).2.1 rfl
  exact I.step (ch := ch) hch (fun b o hL hb hc e n => u.keep b o e n (fun z => (List.mem_cons.mp (I.stkSub b z)).elim hL hb) hc) (fun b o _ _ hc e n => u.any e n hc) (fun b o hc e n => u.free b o e n hc) (fun b o hc e => u.there b o e hc) u.tups u.frzs u.tbls (fun m' hm => by
    obtain ⟨o', es', ep', ho', r'⟩ := hm
    rw [ho] at ho'; cases ho'
    exact ⟨_, es', ep', hL, r'⟩) hok hg
/-- an untracked record of ours (an iterator) has turned -/
theorem Inv.turned {t' : Nat} {it : Addr} (I : Inv X pins σ H s) (k : ∀ b o, b ≠ it → s.heap.get? b = some o → h'.get? b = some o) (hn : H it = none) (hL : it ≠ X.env.locals)
    (h1 : it ∈ X.ex ∨ X.s₀.heap.objs.size ≤ it) (h2 : ∀ x c, X.env.cells.lookup x = some c → c ≠ it) (h3 : ∀ p ∈ X.pn ++ pins, p.1 ≠ it) : Inv X pins σ H { s with heap := h', toks := t' } := by
  have nit : ∀ b u, H b = some u → b ≠ it := fun b u e z => by rw [z, hn] at e; cases e
  refine I.step (g' := s.gens) (d' := s.drawn) (ch := [it]) (fun b hb => ?_) (fun b o _ _ hc e _ => k b o (fun z => hc (by simp [z])) e) (fun b o _ _ hc e _ => ⟨o.slots, k b o (fun z => hc (by simp [z])) e⟩) (fun _ _ _ _ n => n)
    (fun b o hc e => ⟨o, k b o (fun z => hc (by simp [z])) e⟩) (fun _ _ e => e) (fun _ _ _ e => e) (fun b ps e => ⟨#[], by rw [e]; simp⟩) (fun m hm => ?_) (fun b u e => ?_) I.bare
  · have e : b = it := by simpa using hb
    subst e
    exact ⟨h1, hL, h2, h3⟩
  · obtain ⟨o, es, ep, ho, r⟩ := hm
    exact ⟨o, es, ep, k _ o (Ne.symm hL) ho, r⟩
  · refine (I.hok b u e).stay (fun c v hc q => k c v ?_ q) (fun _ q => q) fun _ _ q => q
    rcases hc with z | z
    · rw [z]; exact nit b u e
    · exact nit c _ z
theorem Inv.tok (I : Inv X pins σ H s) (t : Nat) : Inv X pins σ H { s with toks := t } := I.un (h' := s.heap) (t' := t) Un.refl I.hok
/-- all objects kept -/
theorem Inv.kept {t' : Nat} (I : Inv X pins σ H s) (k : ∀ b u, s.heap.get? b = some u → h'.get? b = some u) : Inv X pins σ H { s with heap := h', toks := t' } := I.un (Un.kept k) (I.hok.kept k)
/-- a new object laid and tracked -/
theorem Inv.laid {a : Addr} {o : HO} {t' : Nat} (I : Inv X pins σ H s) (k : ∀ b u, s.heap.get? b = some u → h'.get? b = some u) (hp : s.heap.objs.size ≤ a) (new : ObjOk X.prog X.w (upd H a o) h' a o) :
    Inv X pins σ (upd H a o) { s with heap := h', toks := t' } := I.un (Un.laid k hp (I.hok.fresh hp)) (I.hok.laid k hp new)
/-- an object written -/
theorem Inv.write {x e : Addr} {o : HO} {t' : Nat} (I : Inv X pins σ H s) (mu : Mut (H x)) (he : e = x ∨ H e = some (.own x)) (k : ∀ b u, b ≠ e → s.heap.get? b = some u → h'.get? b = some u) (heo : ∃ u, h'.get? e = some u)
    (new : ObjOk X.prog X.w (upd H x o) h' x o) : Inv X pins σ (upd H x o) { s with heap := h', toks := t' } := I.un (Un.write mu he k heo) (I.hok.write mu he k heo new)
/-- forgetting slots, pins -/
theorem Inv.weak {σ' : List (Option V)} (I : Inv X pins σ H s) (hl : σ'.length = σ.length) (w : ∀ (i : Nat) v, σ'[i]? = some (some v) → σ[i]? = some (some v)) : Inv X pins σ' H s :=
  ⟨I.ok, I.os, I.bare, I.base, let ⟨m, hn, hl'⟩ := I.loc; ⟨m, hn, fun i x v e1 e2 e3 => hl' i x v e1 (w i v e2) e3⟩, I.cell, I.free, I.freeC, I.pin, I.hok, hl.trans I.len⟩
theorem Inv.pins_of {pins' : List (Addr × Obj)} (I : Inv X pins σ H s) (h : ∀ p ∈ pins', s.heap.get? p.1 = some p.2 ∧ H p.1 = none ∧ p.1 ≠ X.env.locals ∧ p.1 ∉ X.fs ∧ ∀ v, p.2.data ≠ .cell v) : Inv X pins' σ H s :=
  ⟨I.ok, I.os, I.bare, I.base, I.loc, I.cell, I.free, I.freeC, fun p hp => (List.mem_append.mp hp).elim (fun z => I.pin p (List.mem_append_left _ z)) (h p), I.hok, I.len⟩

theorem nodup_ix {N : List Str} (hN : N.Nodup) {i j : Nat} {x : Str} (a : N[i]? = some x) (b : N[j]? = some x) : i = j := by
  obtain ⟨h1, e1⟩ := List.getElem?_eq_some_iff.mp a
  obtain ⟨h2, e2⟩ := List.getElem?_eq_some_iff.mp b
  exact (List.getElem_inj hN).mp (e1.trans e2.symm)

/-- a name is stored; what changed -/
theorem store_ok2 {M : Model} {A : Around} {E : Value → Shared → Prop} {i : Nat} {x : Str} {v : V} {u : Value} {Q : Unit → Shared → Prop} (I : Inv X pins σ H s) (hN : X.N.Nodup) (hi : X.N[i]? = some x) (hx : Loc X.env.scope x) (r : RelV v u)
    (h : ∀ s', Inv X pins (σ.set i (some v)) H s' → (∃ a, Heap.SameBut a s.heap s'.heap ∧ (a = X.env.locals ∨ X.env.cells.lookup x = some a)) → Q () s') (hf : X.fn x = true ∨ X.env.scope.names.lookup x = some .local := by first | exact .inl rfl | exact .inr rfl | assumption) : wpAny M A (storeName X.env x u) Q E s := by
  obtain ⟨m, hn, hl⟩ := id I.loc
  have hcls : (X.env.scope.kind == .class || (X.env.scope.kind == .module && X.env.locals != X.env.globals)) = false := by rw [I.ok.kind]; rfl
  have hiσ : i < σ.length := by rw [I.len]; exact (List.getElem?_eq_some_iff.mp hi).1
  have cne := I.cne
  have tracked : ∀ {a : Addr} {h' : Heap}, (∃ o, s.heap.get? a = some o ∧ H a = none) → Heap.SameBut a s.heap h' → HOk X.prog X.w H h' := fun {a h'} ha hs b ob e => by
    obtain ⟨_, _, hfree⟩ := ha
    refine (I.hok b ob e).stay (fun c w' hc q => (hs.2 c ?_).trans q) (fun _ q => q) fun _ _ q => q
    rintro rfl
    rcases hc with rfl | hc
    · rw [hfree] at e; cases e
    · rw [hfree] at hc; cases hc
  rcases hx with hk | hk
  · refine wpAny_storeName_local hk hn (fun h' hn' hs => ?_) hcls
    obtain ⟨oL, _, _, hoL, _⟩ := id hn
    refine h _ ⟨I.ok, I.os, I.bare, ⟨fun b o e n hb hx => ?_, fun b o e n hb hx => ?_, I.base.free, fun b o e hx => ?_, I.base.tups, I.base.frzs, I.base.tbls⟩, ⟨_, hn', fun j y v' e1 e2 e3 => ?_⟩, fun y c e => ?_, I.free, I.freeC, fun p hp => ?_, tracked ⟨oL, hoL, I.free⟩ hs, by simpa using I.len⟩ ⟨_, hs, .inl rfl⟩
    · exact (hs.2 b (Nat.ne_of_lt (Nat.lt_of_lt_of_le (Heap.lt_size e) I.ok.above))).trans (I.base.keep b o e n hb hx)
    · obtain ⟨sl, e1⟩ := I.base.slot b o e n hb hx
      exact ⟨sl, (hs.2 b (Nat.ne_of_lt (Nat.lt_of_lt_of_le (Heap.lt_size e) I.ok.above))).trans e1⟩
    · obtain ⟨o', e1⟩ := I.base.there b o e hx
      exact ⟨o', (hs.2 b (Nat.ne_of_lt (Nat.lt_of_lt_of_le (Heap.lt_size e) I.ok.above))).trans e1⟩
    · by_cases hj : j = i
      · subst hj
        rw [hi] at e1; cases e1
        rw [List.getElem?_set_self hiσ] at e2
        cases e2
        exact ⟨u, r, .inl ⟨hk, by simp⟩⟩
      · rw [List.getElem?_set_ne (Ne.symm hj)] at e2
        obtain ⟨u', r', q⟩ := hl j y v' e1 e2 e3
        refine ⟨u', r', ?_⟩
        rcases q with ⟨k, e⟩ | ⟨k, c, e, z⟩
        · refine .inl ⟨k, ?_⟩
          have : y ≠ x := fun e => hj (nodup_ix hN e1 (e ▸ hi))
          simp [this, e]
        · exact .inr ⟨k, c, e, z.sameBut hs (cne y c e)⟩
    · obtain ⟨w', z⟩ := I.cell y c e
      exact ⟨w', z.sameBut hs (cne y c e)⟩
    · obtain ⟨e, n, ne, nf, d⟩ := I.pin p hp
      exact ⟨(hs.2 p.1 ne).trans e, n, ne, nf, d⟩
  · have hfn : X.fn x = true := by
      rcases hf with z | z
      · exact z
      · rw [z] at hk; cases hk
    obtain ⟨c, hc⟩ := I.ok.has x (.inl hk)
    obtain ⟨w', z⟩ := I.cell x c hc
    refine wpAny_storeName_cell I.ok.kind hk hc z (fun h' hc' hs => ?_)
    obtain ⟨oc, hoc, hocd⟩ := id z
    refine h { s with heap := h' } ⟨I.ok, I.os, I.bare, ⟨fun b o e n hb hx => ?_, fun b o e n hb hx => ?_, I.base.free, fun b o e hx => ?_, I.base.tups, I.base.frzs, I.base.tbls⟩, ⟨m, hn.sameBut hs (Ne.symm (cne x c hc)), fun j y v' e1 e2 e3 => ?_⟩, fun y c' e => ?_, I.free, I.freeC, fun p hp => ?_, tracked ⟨oc, hoc, I.freeC x c hc⟩ hs, by simpa using I.len⟩ ⟨c, hs, .inr hc⟩
    · exact (hs.2 b (Nat.ne_of_lt (Nat.lt_of_lt_of_le (Heap.lt_size e) (I.ok.cab x c hfn hc)))).trans (I.base.keep b o e n hb hx)
    · obtain ⟨sl, e1⟩ := I.base.slot b o e n hb hx
      exact ⟨sl, (hs.2 b (Nat.ne_of_lt (Nat.lt_of_lt_of_le (Heap.lt_size e) (I.ok.cab x c hfn hc)))).trans e1⟩
    · obtain ⟨o', e1⟩ := I.base.there b o e hx
      exact ⟨o', (hs.2 b (Nat.ne_of_lt (Nat.lt_of_lt_of_le (Heap.lt_size e) (I.ok.cab x c hfn hc)))).trans e1⟩
    · by_cases hj : j = i
      · subst hj
        rw [hi] at e1; cases e1
        rw [List.getElem?_set_self hiσ] at e2
        cases e2
        exact ⟨u, r, .inr ⟨.inl hk, c, hc, hc'⟩⟩
      · rw [List.getElem?_set_ne (Ne.symm hj)] at e2
        obtain ⟨u', r', q⟩ := hl j y v' e1 e2 e3
        refine ⟨u', r', ?_⟩
        rcases q with q | ⟨k, c', e, z'⟩
        · exact .inl q
        · refine .inr ⟨k, c', e, z'.sameBut hs ?_⟩
          rintro rfl
          exact hj (nodup_ix hN e1 (I.ok.inj _ _ _ e hc ▸ hi))
    · by_cases hcc : c' = c
      · subst hcc; exact ⟨_, hc'⟩
      · obtain ⟨w2, z2⟩ := I.cell y c' e
        exact ⟨w2, z2.sameBut hs hcc⟩
    · obtain ⟨e, n, ne, nf, d⟩ := I.pin p hp
      refine ⟨(hs.2 p.1 ?_).trans e, n, ne, nf, d⟩
      intro q
      rw [q, hoc] at e
      have q' : oc = p.2 := Option.some.inj e
      exact d w' (by rw [← q']; exact hocd)
theorem store_ok {M : Model} {A : Around} {E : Value → Shared → Prop} {i : Nat} {x : Str} {v : V} {u : Value} {Q : Unit → Shared → Prop} (I : Inv X pins σ H s) (hN : X.N.Nodup) (hi : X.N[i]? = some x) (hx : Loc X.env.scope x) (r : RelV v u)
    (h : ∀ s', Inv X pins (σ.set i (some v)) H s' → Q () s') (hf : X.fn x = true ∨ X.env.scope.names.lookup x = some .local := by first | exact .inl rfl | exact .inr rfl | assumption) : wpAny M A (storeName X.env x u) Q E s :=
  store_ok2 I hN hi hx r (fun s' I' _ => h s' I') hf
end

/-! ### the judgements -/
/-- an exception: its class, its own dict's address (where it has one), the abstract heap behind it -/
abbrev XK := Value → Option Addr → Hp → Prop
abbrev St := List (Option V)
abbrev VK := V → Hp → Prop
/-- an expression's reading; a test's; an argument list's -/
abbrev TE := St → Hp → VK → Prop
abbrev TT := St → Hp → (Bool → Hp → Prop) → Prop
abbrev TA := St → Hp → (List V → Hp → Prop) → Prop
/-- what is wanted behind a statement -/
structure Ends where
  nx : St → Hp → Prop
  rt : VK
  bk : St → Hp → Prop := fun _ _ => False
  ct : St → Hp → Prop := fun _ _ => False
abbrev TS := Ends → St → Hp → Prop

def EP (X : Cx) (pins : List (Addr × Obj)) (σ : St) (Q : VK) (u : Value) (s' : Shared) : Prop := ∃ v H', Inv X pins σ H' s' ∧ RelV v u ∧ Q v H'
def TP (X : Cx) (pins : List (Addr × Obj)) (σ : St) (Q : Bool → Hp → Prop) (b : Bool) (s' : Shared) : Prop := ∃ H', Inv X pins σ H' s' ∧ Q b H'
def AP (X : Cx) (pins : List (Addr × Obj)) (σ : St) (Q : List V → Hp → Prop) (us : List Value) (s' : Shared) : Prop := ∃ vs H', Inv X pins σ H' s' ∧ Vals vs us ∧ Q vs H'
def SP (X : Cx) (pins : List (Addr × Obj)) (D : Ends) (f : Flow) (s' : Shared) : Prop :=
  match f with
  | .next => ∃ σ' H', Inv X pins σ' H' s' ∧ D.nx σ' H'
  | .brk => ∃ σ' H', Inv X pins σ' H' s' ∧ D.bk σ' H'
  | .cont => ∃ σ' H', Inv X pins σ' H' s' ∧ D.ct σ' H'
  | .ret u => ∃ v σ' H', Inv X pins σ' H' s' ∧ RelV v u ∧ D.rt v H'

def PE (X : Cx) (e : Expr) (t : TE) : Prop :=
  ∀ (pins : List (Addr × Obj)) (s : Shared) (σ : St) (H : Hp) (Q : VK), Inv X pins σ H s → t σ H Q → wpAny (model X.prog X.w) X.A (eval e X.env) (EP X pins σ Q) X.xe s
def PT (X : Cx) (e : Expr) (t : TT) : Prop :=
  ∀ (pins : List (Addr × Obj)) (s : Shared) (σ : St) (H : Hp) (Q : Bool → Hp → Prop), Inv X pins σ H s → t σ H Q → wpAny (model X.prog X.w) X.A (isTrue e X.env (eval e X.env)) (TP X pins σ Q) X.xe s
/-- a test whatever its 'whole' is (and, or) -/
def PW (X : Cx) (e : Expr) (t : TT) : Prop :=
  ∀ (whole : Sem Value) (pins : List (Addr × Obj)) (s : Shared) (σ : St) (H : Hp) (Q : Bool → Hp → Prop), Inv X pins σ H s → t σ H Q → wpAny (model X.prog X.w) X.A (isTrue e X.env whole) (TP X pins σ Q) X.xe s
theorem PW.pt {X : Cx} {e : Expr} {t : TT} (h : PW X e t) : PT X e t := h _
/-- an argument list (no star), from the left -/
def PA (X : Cx) (es : List Expr) (t : TA) : Prop :=
  ∀ (pos : Pos) (pins : List (Addr × Obj)) (s : Shared) (σ : St) (H : Hp) (Q : List V → Hp → Prop), Inv X pins σ H s → t σ H Q → wpAny (model X.prog X.w) X.A (spliced (backTo pos (starEach es X.env))) (AP X pins σ Q) X.xe s
def PS (X : Cx) (st : Stmt) (t : TS) : Prop :=
  ∀ (pins : List (Addr × Obj)) (s : Shared) (σ : St) (H : Hp) (D : Ends), Inv X pins σ H s → t D σ H → wpAny (model X.prog X.w) X.A (exec st X.env) (SP X pins D) X.xe s
def PSs (X : Cx) (st : List Stmt) (t : TS) : Prop :=
  ∀ (pins : List (Addr × Obj)) (s : Shared) (σ : St) (H : Hp) (D : Ends), Inv X pins σ H s → t D σ H → wpAny (model X.prog X.w) X.A (execs st X.env) (SP X pins D) X.xe s
/-- weaken the end -/
theorem thn {α : Type} {t : Sem α} {Q Q' : α → Shared → Prop} {M : Model} {A : Around} {E : Value → Shared → Prop} {s : Shared} (h : wpAny M A t Q E s) (hQ : ∀ a s, Q a s → Q' a s) : wpAny M A t Q' E s := wpAny_mono h hQ fun _ _ x => x
end L2

namespace L2
open PySem PySem.Spec PyProof.Rows
section
variable {X : Cx}

/-- two expressions in a row -/
theorem bin {a b : Expr} {ta tb : TE} (ha : PE X a ta) (hb : PE X b tb) {pins : List (Addr × Obj)} {s : Shared} {σ : St} {H : Hp} {R : V → V → Hp → Prop} (I : Inv X pins σ H s) (h : ta σ H fun x H1 => tb σ H1 fun y H2 => R x y H2)
    {α : Type} {Q : α → Shared → Prop} {f : Value → Value → Sem α}
    (hf : ∀ v u s2 x y H2, Inv X pins σ H2 s2 → RelV x v → RelV y u → R x y H2 → wpAny (model X.prog X.w) X.A (f v u) Q X.xe s2) :
    wpAny (model X.prog X.w) X.A (eval a X.env) (fun v s₁ => wpAny (model X.prog X.w) X.A (eval b X.env) (fun u s₂ => wpAny (model X.prog X.w) X.A (f v u) Q X.xe s₂) X.xe s₁) X.xe s := by
  refine thn (ha pins s σ H _ I h) fun v s1 ⟨x, H1, I1, r1, q1⟩ => ?_
  refine thn (hb pins s1 σ H1 _ I1 q1) fun u s2 ⟨y, H2, I2, r2, q2⟩ => ?_
  exact hf v u s2 x y H2 I2 r1 r2 q2

/-! ### names and constants -/
def tVar (i : Nat) : TE := fun σ H Q => ∃ v, σ[i]? = some (some v) ∧ Q v H
def tC (v : V) : TE := fun _ H Q => Q v H
theorem pe_var {i : Nat} {x : Str} {pos : Pos} (hN : X.N[i]? = some x) (hv : Vis X.env.scope x) (hd : (x == ("__debug__" : Str)) = false := by decide) (hcd : (x == ("__classdict__" : Str)) = false := by decide) : PE X (.Name x pos) (tVar i) := by
  intro pins s σ H Q I h
  obtain ⟨v, e, h⟩ := h
  obtain ⟨m, hn, hl⟩ := I.loc
  obtain ⟨u, r, l⟩ := hl i x v hN e hv
  have fin : EP X pins σ Q u s := ⟨v, H, I, r, h⟩
  rcases l with ⟨hk, hm⟩ | ⟨hk, c, hc, hcell⟩
  · exact wpAny_Name (wpAny_loadName_local I.ok.kind hk hn hm fin) hd
  · rcases hk with hk | hk
    · exact wpAny_Name (wpAny_loadName_cell I.ok.kind hk hc hcell fin) hd
    · exact wpAny_Name (wpAny_loadName_free I.ok.kind hk hc hcell fin hcd) hd
theorem pe_int {i j pos} : PE X (.Constant (.int i) j pos) (tC (.int i)) := fun _ _ _ H _ I h => wpAny_Constant_int ⟨.int i, H, I.tok _, ⟨_, rfl⟩, h⟩
theorem pe_bl {b j pos} : PE X (.Constant (.bool b) j pos) (tC (.bl b)) := fun _ _ _ H _ I h => Constant_bool ⟨.bl b, H, I, rfl, h⟩
/-- a global name of the def -/
def Gl (X : Cx) (x : Str) : Prop := X.env.kindOf x = some .globalImplicit
theorem ld_glob {E : Value → Shared → Prop} {pins : List (Addr × Obj)} {s : Shared} {σ : St} {H : Hp} {x : Str} {u : Value} {pos : Pos} {Q : Value → Shared → Prop} (I : Inv X pins σ H s) (hg : Gl X x) (hm : X.mg x = some u) (h : Q u s)
    (hd : (x == ("__debug__" : Str)) = false := by decide) : wpAny (model X.prog X.w) X.A (eval (.Name x pos) X.env) Q E s :=
  Calls.Name_function_global I.ok.kind hg (Calls.loadGlobal_global (by rw [I.ok.glob]; exact I.mod.glob.keeps I.bk) hm h) hd
theorem ld_blt {E : Value → Shared → Prop} {pins : List (Addr × Obj)} {s : Shared} {σ : St} {H : Hp} {x : Str} {u : Value} {pos : Pos} {Q : Value → Shared → Prop} (I : Inv X pins σ H s) (hg : Gl X x) (hm : X.mg x = none) (hv : bootBuiltins x = some u) (h : Q u s)
    (hn : x ≠ "__name__" := by decide) (hd : (x == ("__debug__" : Str)) = false := by decide) : wpAny (model X.prog X.w) X.A (eval (.Name x pos) X.env) Q E s := by
  obtain ⟨mb, h1, h2⟩ := I.mod.blt
  exact Calls.Name_function_global I.ok.kind hg (Calls.loadGlobal_builtin (by rw [I.ok.glob]; exact I.mod.glob.keeps I.bk) hm (by rw [I.ok.blt]; exact h1.keeps I.bk) ((h2 x hn).trans hv) h) hd
theorem pe_bltn {x : Str} {v : V} {u : Value} {pos : Pos} (hg : Gl X x) (hm : X.mg x = none) (hv : bootBuiltins x = some u) (r : RelV v u) (hn : x ≠ "__name__" := by decide) (hd : (x == ("__debug__" : Str)) = false := by decide) : PE X (.Name x pos) (tC v) :=
  fun _ _ _ H _ I h => ld_blt I hg hm hv ⟨v, H, I, r, h⟩ hn hd

/-! ### arithmetic -/
variable {a b : Expr} {ta tb : TE} {pos : Pos}
/-! ### comparisons -/
def PC (X : Cx) (op : CmpOp) (a b : Expr) (t : TE) : Prop :=
  ∀ (pins : List (Addr × Obj)) (s : Shared) (σ : St) (H : Hp) (Q : VK), Inv X pins σ H s → t σ H Q →
    wpAny (model X.prog X.w) X.A (eval a X.env) (fun v s₁ => wpAny (model X.prog X.w) X.A (eval b X.env) (fun u s₂ => wpAny (model X.prog X.w) X.A (compareOp op v u) (EP X pins σ Q) X.xe s₂) X.xe s₁) X.xe s
theorem nobehind (b : Expr) {op : CmpOp} (h : op ≠ .In) (h2 : op ≠ .NotIn) : behindInMarks op b = false := by
  have e1 : (op == CmpOp.In) = false := by cases op <;> first | rfl | exact absurd rfl h
  have e2 : (op == CmpOp.NotIn) = false := by cases op <;> first | rfl | exact absurd rfl h2
  cases b <;> simp [behindInMarks, e1, e2]
/-- a comparison as a value, as a test -/
def tB (t : TE) : TT := fun σ H Q => t σ H fun x H1 => ∃ c, x = .bl c ∧ Q c H1
theorem pt_cmp {op : CmpOp} {t : TE} (h : PC X op a b t) (h1 : behindInMarks op b = false := by first | exact nobehind _ (by decide) (by decide) | rfl) : PT X (.Compare a [op] [b] pos) (tB t) := by
  intro pins s σ H Q I hw
  refine wpAny_isTrue_Compare1 (thn (h pins s σ H _ I hw) fun v s1 h1 => thn h1 fun u s2 h2 => thn h2 fun c s3 ⟨x, H1, I1, r1, q1⟩ => ?_) h1
  obtain ⟨d, rfl, q⟩ := q1
  cases r1
  exact wpAny_truthy_bool ⟨H1, I1, q⟩
/-- an expression whose value is a bool, as a test -/
theorem pt_val {e : Expr} {t : TE} (h : PE X e t) (he : ∀ whole, isTrue e X.env whole = (do let v ← whole; standAt e.pos; holding [v] (truthy v)) := by intro _; rfl) : PT X e (tB t) := by
  intro pins s σ H Q I hw
  refine isTrue_plain (thn (h pins s σ H _ I hw) fun v s1 ⟨x, H1, I1, r1, q1⟩ => ?_) (he _)
  obtain ⟨d, rfl, q⟩ := q1
  cases r1
  exact wpAny_truthy_bool ⟨H1, I1, q⟩

/-! ### and, or, not -/
variable {tA tB' : TT} {rest : List Expr}
def tAnd (t u : TT) : TT := fun σ H Q => t σ H fun c H1 => if c = true then u σ H1 Q else Q false H1
def tOr (t u : TT) : TT := fun σ H Q => t σ H fun c H1 => if c = true then Q true H1 else u σ H1 Q
def tNot (t : TT) : TT := fun σ H Q => t σ H fun c H1 => Q (!c) H1
theorem pw_and1 (ha : PT X a tA) : PW X (.BoolOp .And [a] pos) tA := by
  intro wh pins s σ H Q I h
  refine isTrue_and (thn (ha pins s σ H Q I h) fun c s1 e => ?_)
  cases c with
  | true => exact isTrue_and_nil e
  | false => exact e
theorem pw_or1 (ha : PT X a tA) : PW X (.BoolOp .Or [a] pos) tA := by
  intro wh pins s σ H Q I h
  refine isTrue_or (thn (ha pins s σ H Q I h) fun c s1 e => ?_)
  cases c with
  | false => exact isTrue_or_nil e
  | true => exact e
theorem pw_and (ha : PT X a tA) (hb : PW X (.BoolOp .And (b :: rest) pos) tB') : PW X (.BoolOp .And (a :: b :: rest) pos) (tAnd tA tB') := by
  intro wh pins s σ H Q I h
  refine isTrue_and (thn (ha pins s σ H _ I h) fun c s1 ⟨H1, I1, q1⟩ => ?_)
  cases c with
  | true => exact hb wh pins s1 σ H1 Q I1 q1
  | false => exact ⟨H1, I1, q1⟩
theorem pw_or (ha : PT X a tA) (hb : PW X (.BoolOp .Or (b :: rest) pos) tB') : PW X (.BoolOp .Or (a :: b :: rest) pos) (tOr tA tB') := by
  intro wh pins s σ H Q I h
  refine isTrue_or (thn (ha pins s σ H _ I h) fun c s1 ⟨H1, I1, q1⟩ => ?_)
  cases c with
  | true => exact ⟨H1, I1, q1⟩
  | false => exact hb wh pins s1 σ H1 Q I1 q1
theorem pt_not (ha : PT X a tA) : PT X (.UnaryOp .Not a pos) (tNot tA) := by
  intro pins s σ H Q I h
  exact isTrue_not (ha pins s σ H (fun c H1 => Q (!c) H1) I h)
/-- .. as values (bools) -/
def tAndV (ta tb : TE) : TE := fun σ H Q => ta σ H fun x H1 => ∃ c, x = .bl c ∧ if c = true then tb σ H1 Q else Q (.bl false) H1
def tNotV (ta : TE) : TE := fun σ H Q => ta σ H fun x H1 => ∃ c, x = .bl c ∧ Q (.bl (!c)) H1
theorem pe_one {op} {t : TE} (h : PE X a t) : PE X (.BoolOp op [a] pos) t := fun pins s σ H Q I hw => BoolOp_one (h pins s σ H Q I hw)
theorem pe_and (ha : PE X a ta) (hb : PE X (.BoolOp .And (b :: rest) pos) tb) : PE X (.BoolOp .And (a :: b :: rest) pos) (tAndV ta tb) := by
  intro pins s σ H Q I h
  refine BoolOp_and (thn (ha pins s σ H _ I h) fun v s1 ⟨x, H1, I1, r1, q1⟩ => ?_)
  obtain ⟨c, rfl, q1⟩ := q1
  cases r1
  refine wpAny_truthy_bool ?_
  cases c with
  | true => exact hb pins s1 σ H1 Q I1 q1
  | false => exact ⟨.bl false, H1, I1, rfl, q1⟩
theorem pe_not (ha : PE X a ta) : PE X (.UnaryOp .Not a pos) (tNotV ta) := by
  intro pins s σ H Q I h
  refine UnaryOp_ (thn (ha pins s σ H _ I h) fun v s1 ⟨x, H1, I1, r1, q1⟩ => ?_)
  obtain ⟨c, rfl, q1⟩ := q1
  cases r1
  exact not_of (wpAny_truthy_bool ⟨.bl (!c), H1, I1, rfl, q1⟩)
end
end L2

namespace L2
open PySem PySem.Spec PyProof.Rows

/-! ### a list, a tuple that is read: tracked, frozen, or an object of the module -/
def SqL (K : PySem.W.Frag) (H : Hp) (a : Addr) (xs : List V) : Prop :=
  Rd H a (.lst xs) ∨
    ∃ (o : Obj) (its : Array Value) (n : Nat), K.lookup a = some o ∧ o.cls = .type "list" ∧ o.dict = none ∧ o.data = .seq its n ∧ its.size ≤ sizeLine ∧ Vals xs its.toList
def SqT (K : PySem.W.Frag) (H : Hp) (a : Addr) (xs : List V) : Prop :=
  Rd H a (.tup xs) ∨
    ∃ (o : Obj) (its : Array Value) (n : Nat), K.lookup a = some o ∧ o.cls = .type "tuple" ∧ o.data = .seq its n ∧ its.size ≤ sizeLine ∧ Vals xs its.toList
def absV : Value → Option V
  | .none => some .non
  | .bool b => some (.bl b)
  | .int i _ => some (.int i)
  | .str x _ => some (.str x)
  | .bytes b _ => some (.byt b)
  | .float b _ => some (.flt b)
  | .ref a => some (.ref a)
  | .type n => some (.ty n)
  | _ => none
theorem RelV.abs {x : V} {u : Value} (r : RelV x u) : absV u = some x := by
  cases x with
  | non => cases r; rfl
  | bl _ => cases r; rfl
  | int _ => obtain ⟨t, rfl⟩ := r; rfl
  | str _ => obtain ⟨t, rfl⟩ := r; rfl
  | byt _ => obtain ⟨t, rfl⟩ := r; rfl
  | flt _ => obtain ⟨t, rfl⟩ := r; rfl
  | ref _ => cases r; rfl
  | ty _ => cases r; rfl
theorem RelV.inj {x y : V} {u : Value} (r : RelV x u) (q : RelV y u) : x = y := Option.some.inj (r.abs.symm.trans q.abs)
theorem Vals.inj : ∀ {xs ys : List V} {us : List Value}, Vals xs us → Vals ys us → xs = ys
  | _, _, _, .nil, .nil => rfl
  | _, _, _, .cons r t, .cons r' t' => by rw [r.inj r', Vals.inj t t']
section
variable {X : Cx} {pins : List (Addr × Obj)} {σ : St} {H : Hp} {s : Shared} {a : Addr} {xs ys : List V}
theorem SqL.of {K : PySem.W.Frag} (h : H a = some (.lst xs)) : SqL K H a xs := .inl (.inl h)
theorem SqT.of {K : PySem.W.Frag} (h : H a = some (.tup xs)) : SqT K H a xs := .inl (.inl h)
theorem Inv.list (I : Inv X pins σ H s) (h : SqL X.K H a xs) : ∃ its : List Value, Vals xs its ∧ PlainL s.heap a its.toArray ∧ xs.length ≤ sizeLine := by
  rcases h with h | ⟨o, its, n, hk, hc, hd, hs, hz, r⟩
  · obtain ⟨z, its, n, r, e⟩ := h.ok I.hok
    exact ⟨its, r, ⟨_, n, e, rfl, rfl, rfl⟩, z⟩
  · refine ⟨its.toList, r, ⟨o, n, I.kIn a o hk, hc, hd, by simpa using hs⟩, ?_⟩
    have e := r.length
    simp only [Array.length_toList] at e
    omega
theorem Inv.tuple (I : Inv X pins σ H s) (h : SqT X.K H a xs) : ∃ its : List Value, Vals xs its ∧ IsTup s.heap a its.toArray ∧ xs.length ≤ sizeLine := by
  rcases h with h | ⟨o, its, n, hk, hc, hs, hz, r⟩
  · obtain ⟨z, its, r, p⟩ := h.ok I.hok
    exact ⟨its, r, p, z⟩
  · refine ⟨its.toList, r, ⟨o, I.kIn a o hk, hc, n, by simpa using hs⟩, ?_⟩
    have e := r.length
    simp only [Array.length_toList] at e
    omega
theorem Inv.list_inj (I : Inv X pins σ H s) (h : SqL X.K H a xs) (h' : SqL X.K H a ys) : xs = ys := by
  obtain ⟨its, r, ⟨o, n, e, _, _, d⟩, _⟩ := I.list h
  obtain ⟨its', r', ⟨o', n', e', _, _, d'⟩, _⟩ := I.list h'
  rw [e] at e'; cases e'
  rw [d] at d'
  injection d' with d1 _
  have : its = its' := by simpa using congrArg Array.toList d1
  subst this
  exact r.inj r'
theorem Inv.tuple_inj (I : Inv X pins σ H s) (h : SqT X.K H a xs) (h' : SqT X.K H a ys) : xs = ys := by
  obtain ⟨its, r, ⟨o, e, _, n, d⟩, _⟩ := I.tuple h
  obtain ⟨its', r', ⟨o', e', _, n', d'⟩, _⟩ := I.tuple h'
  rw [e] at e'; cases e'
  rw [d] at d'
  injection d' with d1 _
  have : its = its' := by simpa using congrArg Array.toList d1
  subst this
  exact r.inj r'
end

/-! ### another wish about exceptions -/
abbrev Cx.wish (X : Cx) (E : Value → Shared → Prop) : Cx := { X with xe := E }
/-- no exception leaves -/
abbrev Cx.nox (X : Cx) : Cx := X.wish fun _ _ => False
theorem Cx.Ok.wish {X : Cx} (ok : X.Ok) (E : Value → Shared → Prop) : (X.wish E).Ok :=
  ⟨ok.mod, ok.kind, ok.glob, ok.blt, ok.above, ok.inj, ok.has, ok.cab, ok.hd, ok.frames, ok.stk, ok.exf, ok.bs, ok.bsz, ok.noex, ok.exfs, ok.funs, ok.frf⟩
theorem Cx.Ok.unwish {X : Cx} {E : Value → Shared → Prop} (ok : (X.wish E).Ok) : X.Ok :=
  ⟨ok.mod, ok.kind, ok.glob, ok.blt, ok.above, ok.inj, ok.has, ok.cab, ok.hd, ok.frames, ok.stk, ok.exf, ok.bs, ok.bsz, ok.noex, ok.exfs, ok.funs, ok.frf⟩
section
variable {X : Cx} {pins : List (Addr × Obj)} {σ : St} {H : Hp} {s : Shared} {E : Value → Shared → Prop}
theorem Inv.wish (I : Inv X pins σ H s) (E : Value → Shared → Prop) : Inv (X.wish E) pins σ H s := ⟨I.ok.wish E, I.os, I.bare, I.base, I.loc, I.cell, I.free, I.freeC, I.pin, I.hok, I.len⟩
theorem Inv.unwish (I : Inv (X.wish E) pins σ H s) : Inv X pins σ H s := ⟨I.ok.unwish, I.os, I.bare, I.base, I.loc, I.cell, I.free, I.freeC, I.pin, I.hok, I.len⟩
theorem SP.unwish {D : Ends} {f : Flow} {s' : Shared} (h : SP (X.wish E) pins D f s') : SP X pins D f s' := by
  cases f with
  | next => obtain ⟨σ', H', I, q⟩ := h; exact ⟨σ', H', I.unwish, q⟩
  | brk => obtain ⟨σ', H', I, q⟩ := h; exact ⟨σ', H', I.unwish, q⟩
  | cont => obtain ⟨σ', H', I, q⟩ := h; exact ⟨σ', H', I.unwish, q⟩
  | ret u => obtain ⟨v, σ', H', I, r, q⟩ := h; exact ⟨v, σ', H', I.unwish, r, q⟩
theorem PE.nox {e : Expr} {t : TE} (h : PE X.nox e t) : PE X e t := fun pins s σ H Q I hw =>
  wpAny_mono (h pins s σ H Q (I.wish _) hw) (fun _ _ ⟨v, H', I', r, q⟩ => ⟨v, H', I'.unwish, r, q⟩) fun _ _ z => False.elim z
theorem PT.nox {e : Expr} {t : TT} (h : PT X.nox e t) : PT X e t := fun pins s σ H Q I hw =>
  wpAny_mono (h pins s σ H Q (I.wish _) hw) (fun _ _ ⟨H', I', q⟩ => ⟨H', I'.unwish, q⟩) fun _ _ z => False.elim z
theorem PSs.nox {st : List Stmt} {t : TS} (h : PSs X.nox st t) : PSs X st t := fun pins s σ H D I hw =>
  wpAny_mono (h pins s σ H D (I.wish _) hw) (fun _ _ q => q.unwish) fun _ _ z => False.elim z
end

/-! ### blocks and small statements -/
section
variable {X : Cx} {st : Stmt} {rest : List Stmt} {t u : TS} {e : Expr} {te : TE} {pos : Pos}
def tNext : TS := fun D σ H => D.nx σ H
def tSeq (t u : TS) : TS := fun D σ H => t { D with nx := u D } σ H
theorem pss_nil : PSs X [] tNext := fun _ _ σ H _ I h => wpAny_execs_nil ⟨σ, H, I, h⟩
theorem pss_cons (h1 : PS X st t) (h2 : PSs X rest u) : PSs X (st :: rest) (tSeq t u) := by
  intro pins s σ H D I h
  refine wpAny_execs_cons (thn (h1 pins s σ H { D with nx := u D } I h) fun f s1 q => ?_)
  cases f with
  | next =>
    obtain ⟨σ', H', I', q⟩ := q
    exact h2 pins s1 σ' H' D I' q
  | ret v => exact q
  | brk => exact q
  | cont => exact q
theorem pss_one (h1 : PS X st t) : PSs X [st] t := by
  intro pins s σ H D I h
  refine wpAny_execs_cons (thn (h1 pins s σ H D I h) fun f s1 q => ?_)
  cases f with
  | next => exact wpAny_execs_nil q
  | ret v => exact q
  | brk => exact q
  | cont => exact q
/-- in a def's body nothing is shown -/
theorem Inv.quiet {pins : List (Addr × Obj)} {σ : St} {H : Hp} {s : Shared} (I : Inv X pins σ H s) : interactive X.env = false := by simp [interactive, I.ok.kind]
/-- an expression whose value is dropped -/
def tDrop (te : TE) : TS := fun D σ H => te σ H fun _ H1 => D.nx σ H1
theorem ps_expr (he : PE X e te) (hs : swapsWith e none pos.line X.env = pure false := by rfl) : PS X (.Expr e pos) (tDrop te) := by
  intro pins s σ H D I h
  exact wpAny_Expr_any (thn (he pins s σ H _ I h) fun v s1 ⟨x, H1, I1, r1, q1⟩ => ⟨σ, H1, I1, q1⟩) I.quiet hs
def tRet (te : TE) : TS := fun D σ H => te σ H D.rt
theorem ps_ret (he : PE X e te) : PS X (.Return (some e) pos) (tRet te) := by
  intro pins s σ H D I h
  exact wpAny_Return_some (thn (he pins s σ H _ I h) fun v s1 ⟨x, H1, I1, r1, q1⟩ => ⟨x, σ, H1, I1, r1, q1⟩)
def tIfS (c : TT) (t u : TS) : TS := fun D σ H => c σ H fun b H1 => if b = true then t D σ H1 else u D σ H1
theorem ps_if {c : Expr} {a b : List Stmt} {tc : TT} (hc : PT X c tc) (ha : PSs X a t) (hb : PSs X b u) : PS X (.If c a b pos) (tIfS tc t u) := by
  intro pins s σ H D I h
  refine wpAny_If (thn (hc pins s σ H _ I h) fun d s1 ⟨H1, I1, q1⟩ => ?_)
  cases d with
  | true => exact ha pins s1 σ H1 D I1 q1
  | false => exact hb pins s1 σ H1 D I1 q1
/-- code that the proof never comes to -/
def tNever : TS := fun _ _ _ => False
theorem ps_never : PS X st tNever := fun _ _ _ _ _ _ h => h.elim
end

/-! ### targets -/
abbrev TG := V → St → Hp → (St → Hp → Prop) → Prop
abbrev TGs := List V → St → Hp → (St → Hp → Prop) → Prop
def PG (X : Cx) (target : Expr) (t : TG) : Prop :=
  ∀ (pins : List (Addr × Obj)) (s : Shared) (σ : St) (H : Hp) (v : V) (u : Value) (Q : St → Hp → Prop), Inv X pins σ H s → RelV v u → t v σ H Q →
    wpAny (model X.prog X.w) X.A (assign target X.env u) (fun _ s' => ∃ σ' H', Inv X pins σ' H' s' ∧ Q σ' H') X.xe s
/-- several targets, one after another -/
def PGs (X : Cx) (ts : List Expr) (t : TGs) : Prop :=
  ∀ (pins : List (Addr × Obj)) (s : Shared) (σ : St) (H : Hp) (vs : List V) (us : List Value) (Q : St → Hp → Prop), Inv X pins σ H s → Vals vs us → t vs σ H Q →
    wpAny (model X.prog X.w) X.A (assignInOrder ((assignEach ts X.env).map (·.2)) us) (fun _ s' => ∃ σ' H', Inv X pins σ' H' s' ∧ Q σ' H') X.xe s
/-- o[i] = v, by values -/
abbrev TSet := V → V → V → Hp → (Hp → Prop) → Prop
def PSet (X : Cx) (t : TSet) : Prop :=
  ∀ (pins : List (Addr × Obj)) (s : Shared) (σ : St) (H : Hp) (o i v : V) (ov iv u : Value) (Q : Hp → Prop), Inv X pins σ H s → RelV o ov → RelV i iv → RelV v u → t o i v H Q →
    wpAny (model X.prog X.w) X.A (setItem ov iv u) (fun _ s' => ∃ H', Inv X pins σ H' s' ∧ Q H') X.xe s
/-- a op= b, by values -/
abbrev TIp := V → V → Hp → VK → Prop
def PIp (X : Cx) (op : Operator) (t : TIp) : Prop :=
  ∀ (pins : List (Addr × Obj)) (s : Shared) (σ : St) (H : Hp) (x y : V) (v u : Value) (Q : VK), Inv X pins σ H s → RelV x v → RelV y u → t x y H Q →
    wpAny (model X.prog X.w) X.A (inplaceOp op v u) (EP X pins σ Q) X.xe s
section
variable {X : Cx} {pos : Pos}
def gName (i : Nat) : TG := fun v σ H Q => Q (σ.set i (some v)) H
theorem pg_name {i : Nat} {x : Str} (hN : X.N.Nodup) (hi : X.N[i]? = some x) (hx : Loc X.env.scope x) (hf : X.fn x = true ∨ X.env.scope.names.lookup x = some .local := by first | exact .inl rfl | exact .inr rfl | assumption) : PG X (.Name x pos) (gName i) := by
  intro pins s σ H v u Q I r h
  exact wpAny_assign_Name (store_ok I hN hi hx r (fun s' I' => ⟨_, H, I', h⟩) hf)
def gNil : TGs := fun vs σ H Q => vs = [] ∧ Q σ H
def gCons (t : TG) (u : TGs) : TGs := fun vs σ H Q => ∃ v r, vs = v :: r ∧ t v σ H fun σ' H' => u r σ' H' Q
theorem pgs_nil : PGs X [] gNil := by
  intro pins s σ H vs us Q I r h
  obtain ⟨e, h⟩ := h
  subst e
  cases r
  exact assignInOrder_nil ⟨σ, H, I, h⟩
theorem pgs_cons {e : Expr} {es : List Expr} {t : TG} {u : TGs} (h1 : PG X e t) (h2 : PGs X es u)
    (hs : (assignEach (e :: es) X.env).map (·.2) = assign e X.env :: (assignEach es X.env).map (·.2) := by rfl) : PGs X (e :: es) (gCons t u) := by
  intro pins s σ H vs us Q I r h
  obtain ⟨v, vr, e1, h⟩ := h
  subst e1
  cases r with
  | cons r rr =>
    rw [hs]
    refine assignInOrder_cons (thn (h1 pins s σ H _ _ _ I r h) fun _ s1 ⟨σ1, H1, I1, q1⟩ => ?_)
    exact h2 pins s1 σ1 H1 _ _ Q I1 rr q1
/-- (a, b, ..) = a tuple of that length -/
def gTup (K : PySem.W.Frag) (n : Nat) (t : TGs) : TG := fun v σ H Q => ∃ a xs, v = .ref a ∧ SqT K H a xs ∧ xs.length = n ∧ t xs σ H Q
theorem pg_tup {es : List Expr} {k : Nat} {t : TGs} {n : Nat} (hc : X.calm = true) (h : PGs X es t)
    (hn : (assignEach es X.env).length = n := by rfl) (hst : (assignEach es X.env).findIdx? (·.1) = none := by rfl) : PG X (.Tuple es k pos) (gTup X.K n t) := by
  intro pins s σ H v u Q I r hw
  obtain ⟨a, xs, e1, hq, hl, hw⟩ := hw
  subst e1
  cases r
  obtain ⟨its, rv, ht, hz⟩ := I.tuple hq
  refine assign_Tuple_tuple (I.ok.hd hc) ht (by simp [hn, ← hl, rv.length]) hst fun h' hx => ?_
  have I1 : Inv X pins σ H { s with heap := h' } := I.kept (t' := s.toks) fun b o e => hx b o (Nat.ne_of_lt (Heap.lt_size e)) e
  exact h pins _ σ H xs _ Q I1 (by simpa using rv) hw
/-- o[i] = .. -/
def gSub (to ti : TE) (t : TSet) : TG := fun v σ H Q => to σ H fun o H1 => ti σ H1 fun i H2 => t o i v H2 fun H3 => Q σ H3
theorem pg_sub {o i : Expr} {to ti : TE} {t : TSet} (ho : PE X o to) (hi : PE X i ti) (hs : PSet X t)
    (ha : ∀ v, assign (.Subscript o i pos) X.env v = (do
      let ov ← holding [v] (eval o X.env)
      let iv ← holding [v, ov] (eval i X.env)
      standAt pos
      holding [v, ov, iv] (setItem ov iv v)
      release [v, ov, iv] []) := by intro _; rfl) : PG X (.Subscript o i pos) (gSub to ti t) := by
  intro pins s σ H v u Q I r h
  rw [ha]
  refine wpAny_bind (wpAny_holding (thn (ho pins s σ H _ I h) fun ov s1 ⟨x, H1, I1, r1, q1⟩ => ?_))
  refine wpAny_bind (wpAny_holding (thn (hi pins s1 σ H1 _ I1 q1) fun iv s2 ⟨y, H2, I2, r2, q2⟩ => ?_))
  refine wpAny_bind (wpAny_standAt (wpAny_bind (wpAny_holding (thn (hs pins s2 σ H2 x y v ov iv u _ I2 r1 r2 r q2) fun _ s3 ⟨H3, I3, q3⟩ => ?_))))
  exact wpAny_release ⟨σ, H3, I3, q3⟩
/-- target = value -/
def tAsg (te : TE) (g : TG) : TS := fun D σ H => te σ H fun x H1 => g x σ H1 D.nx
theorem ps_asg {tg e : Expr} {te : TE} {g : TG} (he : PE X e te) (hg : PG X tg g) (hs : swapsWithSole [tg] e pos.line X.env = pure false := by rfl) (hw : swappedStores [tg] e X.env = pure none := by rfl)
    (h1 : (assignEach [tg] X.env).map (·.2) = [assign tg X.env] := by rfl) : PS X (.Assign [tg] e pos) (tAsg te g) := by
  intro pins s σ H D I h
  refine wpAny_Assign_stores (thn (he pins s σ H _ I h) fun v s1 ⟨x, H1, I1, r1, q1⟩ => ?_) hs hw
  rw [h1]
  exact thn (hg pins s1 σ H1 x v _ I1 r1 q1) fun _ s2 q => q
/-- name = value -/
theorem ps_set {i : Nat} {x : Str} {e : Expr} {te : TE} {pos' : Pos} (hN : X.N.Nodup) (hi : X.N[i]? = some x) (hx : Loc X.env.scope x) (he : PE X e te) (hs : swapsWith e (some (.Name x pos')) pos.line X.env = pure false := by rfl) (hf : X.fn x = true ∨ X.env.scope.names.lookup x = some .local := by first | exact .inl rfl | exact .inr rfl | assumption) :
    PS X (.Assign [.Name x pos'] e pos) (tAsg te (gName i)) := by
  intro pins s σ H D I h
  refine wpAny_Assign_Name (thn (he pins s σ H _ I h) fun v s1 ⟨y, H1, I1, r1, q1⟩ => ?_) hs
  exact store_ok I1 hN hi hx r1 (fun s2 I2 => ⟨_, H1, I2, q1⟩) hf
/-- a, b = x, y with plain local names: stored from the right; the pair itself is not tracked (the opening rows as in PyProof/Rows/TupAssign.lean:23) -/
def tPar (i j : Nat) (ta : TA) : TS := fun D σ H => ta σ H fun vs H1 => ∃ v w, vs = [v, w] ∧ D.nx ((σ.set i (some v)).set j (some w)) H1
theorem ps_par {i j : Nat} {x y : Str} {a b : Expr} {ta : TA} {px py pt : Pos} {kt k2 pt2} (hc : X.calm = true) (hN : X.N.Nodup) (hi : X.N[i]? = some x) (hj : X.N[j]? = some y) (hij : i ≠ j)
    (hx : X.env.scope.names.lookup x = some .local) (hy : X.env.scope.names.lookup y = some .local) (ha : PA X [a, b] ta)
    (hw : swappedStores [.Tuple [.Name x px, .Name y py] kt pt] (.Tuple [a, b] k2 pt2) X.env = pure (some [x, y]))
    (hs : swapsWithSole [.Tuple [.Name x px, .Name y py] kt pt] (.Tuple [a, b] k2 pt2) pos.line X.env = pure false := by rfl) :
    PS X (.Assign [.Tuple [.Name x px, .Name y py] kt pt] (.Tuple [a, b] k2 pt2) pos) (tPar i j ta) := by
  intro pins s σ H D I h
  rw [exec_Assign_arm]
  refine wpAny_bind (wpAny_standAt ?_)
  rw [hs]
  refine wpAny_bind (wpAny_pure ?_)
  rw [if_neg (by decide)]
  refine wpAny_bind (Tuple_ (thn (ha _ pins s σ H _ I h) fun us s1 ⟨vs, H1, I1, r1, q1⟩ => ?_))
  obtain ⟨v, w, e1, q1⟩ := q1
  subst e1
  obtain ⟨u1, u2, rfl, rv, rw'⟩ : ∃ u1 u2, us = [u1, u2] ∧ RelV v u1 ∧ RelV w u2 := by
    cases r1 with
    | cons p q =>
      cases q with
      | cons p' q' =>
        cases q'
        exact ⟨_, _, rfl, p, p'⟩
  refine wpAny_newObj_type ?_ (by show 2 ≤ sizeLine; decide)
  have I2 : Inv X pins σ H1 { s1 with heap := s1.heap.push { cls := .type "tuple", data := .seq [u1, u2].toArray } } := I1.kept (t' := s1.toks) fun b o e => Heap.get?_push_of_some _ e
  rw [hw]
  refine wpAny_bind (wpAny_pure ?_)
  show wpAny (model X.prog X.w) X.A (do rule "assign.swapped-stores"; let items ← unpackItems (.ref s1.heap.objs.size) 2 none; assignInOrder [fun v => bindName X.env y v, fun v => bindName X.env x v] items.reverse; pure Flow.next) _ _ _
  refine wpAny_bind (wpAny_rule (wpAny_bind (unpackItems_tuple (items := #[u1, u2]) (I.ok.hd hc) (IsTup.new s1.heap _) fun h' hx' => ?_)))
  have I3 := I2.kept (h' := h') (t' := s1.toks) fun b o e => hx' b o (Nat.ne_of_lt (Heap.lt_size e)) e
  show wpAny _ _ (assignInOrder [fun v => bindName X.env y v, fun v => bindName X.env x v] [u2, u1] >>= fun _ => pure Flow.next) _ _ _
  refine wpAny_bind (assignInOrder_cons (wpAny_bindName (store_ok I3 hN hj (.inl hy) rw' (fun s2 I4 => ?_) (.inr hy))))
  refine assignInOrder_cons (wpAny_bindName (store_ok I4 hN hi (.inl hx) rv (fun s3 I5 => assignInOrder_nil (wpAny_pure ?_)) (.inr hx)))
  rw [List.set_comm _ _ (Ne.symm hij)] at I5
  exact ⟨_, H1, I5, q1⟩
/-- name op= e -/
def tAug (i : Nat) (te : TE) (ti : TIp) : TS := fun D σ H => ∃ x, σ[i]? = some (some x) ∧ te σ H fun y H1 => ti x y H1 fun z H2 => D.nx (σ.set i (some z)) H2
theorem ps_aug {i : Nat} {x : Str} {e : Expr} {te : TE} {op : Operator} {ti : TIp} {pos' : Pos} (hN : X.N.Nodup) (hi : X.N[i]? = some x) (hx : Loc X.env.scope x) (he : PE X e te) (ho : PIp X op ti) (hf : X.fn x = true ∨ X.env.scope.names.lookup x = some .local := by first | exact .inl rfl | exact .inr rfl | assumption) :
    PS X (.AugAssign (.Name x pos') op e pos) (tAug i te ti) := by
  intro pins s σ H D I h
  obtain ⟨v, e1, h⟩ := h
  obtain ⟨m, hn, hl⟩ := I.loc
  have vis : Vis X.env.scope x := by rcases hx with k | k; exact .inl k; exact .inr (.inl k)
  obtain ⟨u, r, l⟩ := hl i x v hi e1 vis
  refine wpAny_AugAssign_Name ?_
  have go : wpAny (model X.prog X.w) X.A (eval e X.env) (fun w s₂ => wpAny (model X.prog X.w) X.A (inplaceOp op u w) (fun r s₃ => wpAny (model X.prog X.w) X.A (storeName X.env x r) (fun _ => SP X pins D .next) X.xe s₃) X.xe s₂) X.xe s := by
    refine thn (he pins s σ H _ I h) fun w s1 ⟨y, H1, I1, r1, q1⟩ => ?_
    refine thn (ho pins s1 σ H1 v y u w _ I1 r r1 q1) fun z s2 ⟨zv, H2, I2, r2, q2⟩ => ?_
    exact store_ok I2 hN hi hx r2 (fun s3 I3 => ⟨_, H2, I3, q2⟩) hf
  rcases l with ⟨hk, hm⟩ | ⟨hk, c, hc, hcell⟩
  · exact wpAny_loadName_local I.ok.kind hk hn hm go
  · rcases hk with hk | hk
    · exact wpAny_loadName_cell I.ok.kind hk hc hcell go
    · rcases hx with k | k
      · have : X.env.scope.names.lookup x = some .free := hk
        rw [k] at this; cases this
      · have : X.env.scope.names.lookup x = some .free := hk
        rw [k] at this; cases this
/-- ints -/
def ipI (f : Int → Int → Int) : TIp := fun x y H Q => ∃ i j, x = .int i ∧ y = .int j ∧ Q (.int (f i j)) H
theorem ip_add : PIp X .Add (ipI fun i j => i + j) := by
  intro pins s σ H x y v u Q I r1 r2 h
  obtain ⟨i, j, e1, e2, q⟩ := h
  subst e1; subst e2
  obtain ⟨t, rfl⟩ := r1
  obtain ⟨t', rfl⟩ := r2
  exact iadd_int ⟨.int _, H, I.tok _, ⟨_, rfl⟩, q⟩
end

/-! ### while -/
section
variable {X : Cx} {pos : Pos}
/-- the invariant W with its measure -/
def tWhile (c : TT) (tb : TS) : TS := fun D σ H => ∃ W : Nat → St → Hp → Prop, (∃ m, W m σ H) ∧ ∀ m σ H, W m σ H →
  c σ H fun b H1 => if b = true then ∃ N : St → Hp → Prop, (∀ σ' H', N σ' H' → ∃ m', m' < m ∧ W m' σ' H') ∧ tb { D with nx := N, ct := N, bk := D.nx } σ H1 else D.nx σ H1
theorem ps_while {c : Expr} {body : List Stmt} {tc : TT} {tb : TS} (hp : PassesOwn (model X.prog X.w) X.A X.env X.xe) (hc : PT X c tc) (hb : PSs X body tb) : PS X (.While c body [] pos) (tWhile tc tb) := by
  intro pins s σ H D I h
  obtain ⟨W, ⟨m0, w0⟩, turn⟩ := h
  refine wpAny_While (codeAny_whileLoop (fun n s' => ∃ σ' H', Inv X pins σ' H' s' ∧ W n σ' H') ?_ m0 ⟨σ, H, I, w0⟩)
  rintro n s1 ⟨σ1, H1, I1, w1⟩
  refine wpAny_passesOwn hp (thn (hc pins s1 σ1 H1 _ I1 (turn n σ1 H1 w1)) fun b s2 ⟨H2, I2, q2⟩ => ?_)
  cases b with
  | true =>
    obtain ⟨N, hN, q2⟩ := q2
    rw [if_pos rfl]
    refine wpAny_passesOwn hp (thn (hb pins s2 σ1 H2 _ I2 q2) fun f s3 q3 => ?_)
    cases f with
    | next =>
      obtain ⟨σ3, H3, I3, n3⟩ := q3
      obtain ⟨m', hm, w3⟩ := hN σ3 H3 n3
      exact ⟨m', hm, σ3, H3, I3, w3⟩
    | cont =>
      obtain ⟨σ3, H3, I3, n3⟩ := q3
      obtain ⟨m', hm, w3⟩ := hN σ3 H3 n3
      exact ⟨m', hm, σ3, H3, I3, w3⟩
    | brk => exact q3
    | ret v => exact q3
  | false =>
    rw [if_neg Bool.false_ne_true]
    exact wpAny_execs_nil ⟨σ1, H2, I2, q2⟩
end

/-! ### what a loop or a comprehension walks -/
/-- at turn i: it yields x (the heap may grow), or it stops -/
structure It where
  go : Nat → Hp → Prop
  yld : Nat → Hp → V → Hp → Prop
  stop : Nat → Hp → Prop
/-- the iterator's own objects may turn: they are not the frame's, not pinned, younger than the entry (or a comprehension's own) -/
def FpOk (X : Cx) (pins : List (Addr × Obj)) (H : Hp) (b : Addr) : Prop :=
  H b = none ∧ b ≠ X.env.locals ∧ b ∉ X.fs ∧ (b ∈ X.ex ∨ X.s₀.heap.objs.size ≤ b) ∧ (∀ x c, X.env.cells.lookup x = some c → c ≠ b) ∧ ∀ p ∈ X.pn ++ pins, p.1 ≠ b
theorem Inv.fpOk {X : Cx} {pins : List (Addr × Obj)} {σ : St} {H H' : Hp} {s : Shared} {b : Addr} (I : Inv X pins σ H s) (hb : s.heap.objs.size ≤ b) (hn : H' b = none) : FpOk X pins H' b := by
  refine ⟨hn, Nat.ne_of_gt (Nat.lt_of_lt_of_le I.lt hb), I.nofs hb, .inr (Nat.le_trans I.sz hb), fun x c e z => ?_, fun p hp z => ?_⟩
  · obtain ⟨v, q⟩ := I.cell x c e
    exact absurd (Nat.lt_of_lt_of_le q.lt (by rw [z]; exact hb)) (Nat.lt_irrefl _)
  · exact absurd (Nat.lt_of_lt_of_le (Heap.lt_size (I.pin p hp).1) (by rw [z]; exact hb)) (Nat.lt_irrefl _)
structure Turn (P : Program) (w : World) (K : PySem.W.Frag) (tg : Expr) (J : It) (fp : List Addr) (it : Addr) (tn : Nat → Heap → Prop) : Prop where
  mem : it ∈ fp
  obj : ∀ i h, tn i h → ∀ b ∈ fp, ∃ o, h.get? b = some o ∧ ∀ v, o.data ≠ .cell v
  keep : ∀ i h h', tn i h → (∀ b ∈ fp, ∀ o, h.get? b = some o → h'.get? b = some o) → tn i h'
  item : ∀ (X : Cx), X.prog = P → X.w = w → X.K = K → X.calm = true → ∀ (i : Nat) (pins : List (Addr × Obj)) (s : Shared) (σ : St) (H : Hp) (E : Value → Shared → Prop), Inv X pins σ H s → (∀ b ∈ fp, FpOk X pins H b) → tn i s.heap → J.go i H →
    wpAny (model P w) X.A (pyNext (.ref it)) (fun r s1 => ∃ u, r = some u ∧
      wpAny (model P w) X.A (letOwnedTupleGo tg (.ref it) u) (fun _ s2 => ∃ x H', Inv X pins σ H' s2 ∧ RelV x u ∧ J.yld i H x H' ∧ tn (i + 1) s2.heap ∧ ∀ b ∈ fp, H' b = none) E s1) E s
  done : ∀ (X : Cx), X.prog = P → X.w = w → X.K = K → X.calm = true → ∀ (i : Nat) (pins : List (Addr × Obj)) (s : Shared) (σ : St) (H : Hp) (E : Value → Shared → Prop), Inv X pins σ H s → (∀ b ∈ fp, FpOk X pins H b) → tn i s.heap → J.stop i H →
    wpAny (model P w) X.A (pyNext (.ref it)) (fun r s1 => r = none ∧ Inv X pins σ H s1) E s
  self : ∀ (A : Around) (i : Nat) (s : Shared) (Q : Value → Shared → Prop) (E : Value → Shared → Prop), tn i s.heap → Q (.ref it) s → wpAny (model P w) A (pyIter (.ref it)) Q E s
abbrev TI := St → Hp → (It → Hp → Prop) → Prop
/-- an iterator has come -/
def PIE (X : Cx) (pins : List (Addr × Obj)) (σ : St) (tg : Expr) (R : It → Hp → Prop) (itv : Value) (s2 : Shared) : Prop :=
  ∃ (it : Addr) (fp : List Addr) (tn : Nat → Heap → Prop) (J : It) (H' : Hp), itv = .ref it ∧ Inv X pins σ H' s2 ∧ Turn X.prog X.w X.K tg J fp it tn ∧ tn 0 s2.heap ∧ (∀ b ∈ fp, FpOk X pins H' b) ∧ R J H'
def PI (X : Cx) (tg iter : Expr) (wi : TI) : Prop :=
  ∀ (pins : List (Addr × Obj)) (s : Shared) (σ : St) (H : Hp) (R : It → Hp → Prop), Inv X pins σ H s → wi σ H R →
    wpAny (model X.prog X.w) X.A (eval iter X.env) (fun v s1 => wpAny (model X.prog X.w) X.A (pyIter v) (PIE X pins σ tg R) X.xe s1) X.xe s

/-- the step ahead of the store is nothing for an iterator that keeps no tuple -/
theorem go_of {M : Model} {A : Around} {E : Value → Shared → Prop} {s : Shared} {tg : Expr} {it : Addr} {u : Value} {o : Obj} {n : String} {vs : Array Value} {Q : Unit → Shared → Prop} (ho : s.heap.get? it = some o) (hc : o.cls = .type n) (hd : o.data = .fields vs)
    (hn : ["enumerate", "zip", "dict_itemiterator", "dict_reverseitemiterator", "odict_iterator", "itertools.zip_longest", "itertools.pairwise"].contains n = false) (hQ : Q () s) : wpAny M A (letOwnedTupleGo tg (.ref it) u) Q E s := by
  unfold letOwnedTupleGo
  cases tg <;> first
    | exact wpAny_pure hQ
    | (cases u <;> first
        | exact wpAny_pure hQ
        | (refine wpAny_bind (wpAny_load ho ?_)
           rw [hc, hd]
           show wpAny M A (if (["enumerate", "zip", "dict_itemiterator", "dict_reverseitemiterator", "odict_iterator", "itertools.zip_longest", "itertools.pairwise"].contains n && vs[0]? == some (rawInt _)) = true then _ else _) Q E s
           rw [if_neg (by intro h; rw [hn, Bool.false_and] at h; cases h)]
           exact wpAny_pure hQ))

/-- the list at a, as it stands at each turn (a loop may append to it) -/
def Itl (K : PySem.W.Frag) (a : Addr) : It :=
  ⟨fun i H => ∃ xs x, SqL K H a xs ∧ xs[i]? = some x, fun i H x H' => H' = H ∧ ∀ xs, SqL K H a xs → xs[i]? = some x, fun i H => ∃ xs, SqL K H a xs ∧ xs.length ≤ i⟩
def Itt (K : PySem.W.Frag) (a : Addr) : It :=
  ⟨fun i H => ∃ xs x, SqT K H a xs ∧ xs[i]? = some x, fun i H x H' => H' = H ∧ ∀ xs, SqT K H a xs → xs[i]? = some x, fun i H => ∃ xs, SqT K H a xs ∧ xs.length ≤ i⟩
/-- lo, lo + 1, .. (n of them) -/
def Itr (lo : Int) (n : Nat) : It := ⟨fun i _ => i < n, fun i H x H' => H' = H ∧ x = .int (lo + i), fun i _ => n ≤ i⟩
theorem turn_list {P : Program} {w : World} {K : PySem.W.Frag} {tg : Expr} (a it : Addr) : Turn P w K tg (Itl K a) [it] it (fun i h => h.IsListIter it a i) where
  mem := by simp
  obj := fun i h st b hb => by
    have e : b = it := by simpa using hb
    subst e
    obtain ⟨o, e, c, d⟩ := st
    exact ⟨o, e, fun v z => by rw [d] at z; cases z⟩
  keep := fun i h h' st k => st.at fun o e => k it (by simp) o e
  item := by
    intro X hP hw hK hc i pins s σ H E I hf st hg
    subst hP hw hK
    obtain ⟨xs, x, hq, hx⟩ := hg
    obtain ⟨its, rv, p, hz⟩ := I.list hq
    obtain ⟨u, hu, ru⟩ := rv.get hx
    obtain ⟨f0, f1, f2, f3, f4, f5⟩ := hf it (by simp)
    refine wpAny_pyNext_list_item st p.isList (x := u) (by simpa using hu) fun h' st' sb => ?_
    have I1 : Inv X pins σ H { s with heap := h' } := I.turned (t' := s.toks) (fun b o hb e => (sb.2 b hb).trans e) f0 f1 f3 f4 f5
    obtain ⟨o, e, c, d⟩ := id st'
    exact ⟨u, rfl, go_of (s := { s with heap := h' }) e c d (by decide) ⟨x, H, I1, ru, ⟨rfl, fun ys hy => by rw [I.list_inj hy hq]; exact hx⟩, st', fun b hb => (hf b hb).1⟩⟩
  done := by
    intro X hP hw hK hc i pins s σ H E I hf st hg
    subst hP hw hK
    obtain ⟨xs, hq, hx⟩ := hg
    obtain ⟨its, rv, p, hz⟩ := I.list hq
    obtain ⟨f0, f1, f2, f3, f4, f5⟩ := hf it (by simp)
    have hl := rv.length
    exact wpAny_pyNext_list_end (I.ok.hd hc) st p.isList (by simp; omega) fun h' eb => ⟨rfl, I.turned (t' := s.toks) (fun b o hb e => eb b o hb e) f0 f1 f3 f4 f5⟩
  self := fun _ _ _ _ _ st h => wpAny_pyIter_listiter st h
theorem turn_tuple {P : Program} {w : World} {K : PySem.W.Frag} {tg : Expr} (a it : Addr) : Turn P w K tg (Itt K a) [it] it (fun i h => h.IsTupleIter it a i) where
  mem := by simp
  obj := fun i h st b hb => by
    have e : b = it := by simpa using hb
    subst e
    obtain ⟨o, e, c, d⟩ := st
    exact ⟨o, e, fun v z => by rw [d] at z; cases z⟩
  keep := fun i h h' st k => st.at fun o e => k it (by simp) o e
  item := by
    intro X hP hw hK hc i pins s σ H E I hf st hg
    subst hP hw hK
    obtain ⟨xs, x, hq, hx⟩ := hg
    obtain ⟨its, rv, p, hz⟩ := I.tuple hq
    obtain ⟨u, hu, ru⟩ := rv.get hx
    obtain ⟨f0, f1, f2, f3, f4, f5⟩ := hf it (by simp)
    refine wpAny_pyNext_tuple_item st (show s.heap.IsTuple a its.toArray from p) (x := u) (by simpa using hu) fun h' st' sb => ?_
    have I1 : Inv X pins σ H { s with heap := h' } := I.turned (t' := s.toks) (fun b o hb e => (sb.2 b hb).trans e) f0 f1 f3 f4 f5
    obtain ⟨o, e, c, d⟩ := id st'
    exact ⟨u, rfl, go_of (s := { s with heap := h' }) e c d (by decide) ⟨x, H, I1, ru, ⟨rfl, fun ys hy => by rw [I.tuple_inj hy hq]; exact hx⟩, st', fun b hb => (hf b hb).1⟩⟩
  done := by
    intro X hP hw hK hc i pins s σ H E I hf st hg
    subst hP hw hK
    obtain ⟨xs, hq, hx⟩ := hg
    obtain ⟨its, rv, p, hz⟩ := I.tuple hq
    obtain ⟨f0, f1, f2, f3, f4, f5⟩ := hf it (by simp)
    have hl := rv.length
    exact wpAny_pyNext_tuple_end (I.ok.hd hc) st (show s.heap.IsTuple a its.toArray from p) (by simp; omega) fun h' eb => ⟨rfl, I.turned (t' := s.toks) (fun b o hb e => eb b o hb e) f0 f1 f3 f4 f5⟩
  self := fun _ _ _ _ _ st h => wpAny_pyIter_tupleiter st h
theorem turn_range {P : Program} {w : World} {K : PySem.W.Frag} {tg : Expr} (it : Addr) (lo : Int) (n : Nat) : Turn P w K tg (Itr lo n) [it] it (fun i h => IsRangeIter h it (lo + (i : Nat) * 1) ((n : Int) - (i : Nat)) 1) where
  mem := by simp
  obj := fun i h st b hb => by
    have e : b = it := by simpa using hb
    subst e
    exact ⟨_, st, fun v z => by
      have z' : Data.fields _ = Data.cell v := z
      cases z'⟩
  keep := fun i h h' st k => k it (by simp) _ st
  item := by
    intro X hP hw hK hc i pins s σ H E I hf st hg
    subst hP hw hK
    obtain ⟨f0, f1, f2, f3, f4, f5⟩ := hf it (by simp)
    have W := Walks.range (prog := X.prog) (w := X.w) (I.ok.hd hc) it lo 1 n
    refine W.item i s _ _ hg st fun v h' tk hv st' kk => ?_
    obtain ⟨t, rfl⟩ := hv
    have I1 : Inv X pins σ H { s with heap := h', toks := tk } := I.turned (fun b o hb e => kk b o (by simpa using hb) e) f0 f1 f3 f4 f5
    refine ⟨_, rfl, go_of (s := { s with heap := h', toks := tk }) (n := "range_iterator") st' rfl rfl (by decide) ⟨.int (lo + i), H, I1, ⟨t, ?_⟩, ⟨rfl, rfl⟩, st', fun b hb => (hf b hb).1⟩⟩
    rw [Int.mul_one]
  done := by
    intro X hP hw hK hc i pins s σ H E I hf st hg
    subst hP hw hK
    obtain ⟨f0, f1, f2, f3, f4, f5⟩ := hf it (by simp)
    exact wpAny_pyNext_range_end (I.ok.hd hc) st (by have : n ≤ i := hg; omega) fun h' eb => ⟨rfl, I.turned (t' := s.toks) (fun b o hb e => eb b o hb e) f0 f1 f3 f4 f5⟩
  self := fun _ _ _ _ _ st h => wpAny_pyIter_rangeiter st h
end L2

namespace L2
open PySem PySem.Spec PyProof.Rows
section
variable {X : Cx} {tg : Expr}
def iList (K : PySem.W.Frag) (tl : TE) : TI := fun σ H R => tl σ H fun x H1 => ∃ a, x = .ref a ∧ (∃ xs, SqL K H1 a xs) ∧ R (Itl K a) H1
def iTup (K : PySem.W.Frag) (tl : TE) : TI := fun σ H R => tl σ H fun x H1 => ∃ a, x = .ref a ∧ (∃ xs, SqT K H1 a xs) ∧ R (Itt K a) H1
theorem pi_list {l : Expr} {tl : TE} (hl : PE X l tl) : PI X tg l (iList X.K tl) := by
  intro pins s σ H R I h
  refine thn (hl pins s σ H _ I h) fun v s1 ⟨x, H1, I1, r1, q1⟩ => ?_
  obtain ⟨a, e, ⟨xs, hq⟩, q⟩ := q1
  subst e
  cases r1
  obtain ⟨its, rv, p, hz⟩ := I1.list hq
  refine wpAny_pyIter_list p.isList ?_
  refine ⟨s1.heap.objs.size, [s1.heap.objs.size], _, _, H1, rfl, I1.kept (t' := s1.toks) fun b o e => Heap.get?_push_of_some _ e, turn_list a _, ⟨_, Heap.get?_push_size _ rfl, rfl, rfl⟩, fun b hb => ?_, q⟩
  have e : b = s1.heap.objs.size := by simpa using hb
  subst e
  exact I1.fpOk (Nat.le_refl _) (I1.hok.fresh (Nat.le_refl _))
theorem pi_tup {l : Expr} {tl : TE} (hl : PE X l tl) : PI X tg l (iTup X.K tl) := by
  intro pins s σ H R I h
  refine thn (hl pins s σ H _ I h) fun v s1 ⟨x, H1, I1, r1, q1⟩ => ?_
  obtain ⟨a, e, ⟨xs, hq⟩, q⟩ := q1
  subst e
  cases r1
  obtain ⟨its, rv, p, hz⟩ := I1.tuple hq
  refine wpAny_pyIter_tuple (show s1.heap.IsTuple a its.toArray from p) ?_
  refine ⟨s1.heap.objs.size, [s1.heap.objs.size], _, _, H1, rfl, I1.kept (t' := s1.toks) fun b o e => Heap.get?_push_of_some _ e, turn_tuple a _, ⟨_, Heap.get?_push_size _ rfl, rfl, rfl⟩, fun b hb => ?_, q⟩
  have e : b = s1.heap.objs.size := by simpa using hb
  subst e
  exact I1.fpOk (Nat.le_refl _) (I1.hok.fresh (Nat.le_refl _))
/-- a range object just made, walked -/
theorem range_it {pins : List (Addr × Obj)} {σ : St} {H : Hp} {s : Shared} {R : It → Hp → Prop} {E : Value → Shared → Prop} {lo hi : Int} {t u v : Tok} {tk : Nat} (I : Inv X pins σ H s) (h1 : -(2 ^ 62) ≤ lo) (h2 : lo < 2 ^ 62) (h3 : -(2 ^ 62) ≤ hi) (h4 : hi < 2 ^ 62)
    (q : R (Itr lo (hi - lo).toNat) H) : wpAny (model X.prog X.w) X.A (pyIter (.ref s.heap.objs.size)) (PIE X pins σ tg R) E { s with heap := s.heap.push { cls := .type "range", data := .fields #[.int lo t, .int hi u, .int 1 v] }, toks := tk } := by
  refine wpAny_pyIter_range (IsRange.new ..) (small_one h1 h2 h3 h4) ?_
  have I1 : Inv X pins σ H { s with heap := s.heap.push { cls := .type "range", data := .fields #[.int lo t, .int hi u, .int 1 v] }, toks := tk } := I.kept fun b o e => Heap.get?_push_of_some _ e
  refine ⟨(s.heap.push { cls := .type "range", data := .fields #[.int lo t, .int hi u, .int 1 v] }).objs.size, [(s.heap.push { cls := .type "range", data := .fields #[.int lo t, .int hi u, .int 1 v] }).objs.size], _, _, H, rfl,
    I1.kept (t' := tk) fun b o e => Heap.get?_push_of_some _ e, turn_range _ lo (hi - lo).toNat, ?_, fun b hb => ?_, q⟩
  · have e1 : lo + ((0 : Nat) : Int) * 1 = lo := by simp
    have e2 : (((hi - lo).toNat : Nat) : Int) - ((0 : Nat) : Int) = Builtin.Range.rangeSize lo hi 1 := by rw [rangeSize_one]; split <;> omega
    show IsRangeIter _ _ (lo + ((0 : Nat) : Int) * 1) ((((hi - lo).toNat : Nat) : Int) - ((0 : Nat) : Int)) 1
    rw [e1, e2]
    exact Heap.get?_push_size _ rfl
  · have e : b = (s.heap.push { cls := .type "range", data := .fields #[.int lo t, .int hi u, .int 1 v] }).objs.size := by simpa using hb
    subst e
    exact I1.fpOk (Nat.le_refl _) (I1.hok.fresh (Nat.le_refl _))
def iRng1 (ta : TA) : TI := fun σ H R => ta σ H fun vs H1 => ∃ j : Int, vs = [.int j] ∧ -(2 ^ 62) ≤ j ∧ j < 2 ^ 62 ∧ R (Itr 0 j.toNat) H1
def iRng2 (ta : TA) : TI := fun σ H R => ta σ H fun vs H1 => ∃ i j : Int, vs = [.int i, .int j] ∧ (-(2 ^ 62) ≤ i ∧ i < 2 ^ 62 ∧ -(2 ^ 62) ≤ j ∧ j < 2 ^ 62) ∧ R (Itr i (j - i).toNat) H1
theorem pi_range1 {a : Expr} {ta : TA} {p pos : Pos} (hg : Gl X "range") (hm : X.mg "range" = none) (ha : PA X [a] ta) (hs : starEach [a] X.env = [(false, eval a X.env)] := by rfl) : PI X tg (.Call (.Name "range" p) [a] [] pos) (iRng1 ta) := by
  intro pins s σ H R I h
  refine Call_ (ld_blt I hg hm boot_range (PyProof.Rows.callWith_type1 (thn (ha pos pins s σ H _ I h) fun us s1 ⟨vs, H1, I1, r1, q1⟩ => ?_) hs rfl))
  obtain ⟨j, e, q1, q2, q⟩ := q1
  subst e
  cases r1 with
  | cons r rr =>
    cases rr
    obtain ⟨t, rfl⟩ := r
    exact call_range_1 (range_it I1 (by omega) (by omega) q1 q2 (by simpa using q))
theorem pi_range2 {a b : Expr} {ta : TA} {p pos : Pos} (hg : Gl X "range") (hm : X.mg "range" = none) (ha : PA X [a, b] ta) (hs : starEach [a, b] X.env = [(false, eval a X.env), (false, eval b X.env)] := by rfl) (hs2 : starEach [b] X.env = [(false, eval b X.env)] := by rfl) :
    PI X tg (.Call (.Name "range" p) [a, b] [] pos) (iRng2 ta) := by
  intro pins s σ H R I h
  refine Call_ (ld_blt I hg hm boot_range (PyProof.Rows.callWith_type1 (thn (ha pos pins s σ H _ I h) fun us s1 ⟨vs, H1, I1, r1, q1⟩ => ?_) (by rw [hs, hs2]) (by rw [hs2]; rfl)))
  obtain ⟨i, j, e, ⟨q1, q2, q3, q4⟩, q⟩ := q1
  subst e
  cases r1 with
  | cons r rr =>
    cases rr with
    | cons r' rr =>
      cases rr
      obtain ⟨t, rfl⟩ := r
      obtain ⟨t', rfl⟩ := r'
      exact call_range_2 (range_it I1 q1 q2 q3 q4 q)

/-! ### for -/
/-- W: the invariant by the turn and a measure; N: what the body is to reach -/
def tFor (wi : TI) (g : TG) (tb : TS) : TS := fun D σ H => wi σ H fun J H1 => ∃ W : Nat → Nat → St → Hp → Prop, (∃ m, W 0 m σ H1) ∧ ∀ i m σ H, W i m σ H →
  (J.stop i H ∧ D.nx σ H) ∨ (J.go i H ∧ ∃ N : St → Hp → Prop, (∀ σ' H', N σ' H' → ∃ m', m' < m ∧ W (i + 1) m' σ' H') ∧ ∀ x H', J.yld i H x H' → g x σ H' fun σ2 H2 => tb { D with nx := N, ct := N, bk := D.nx } σ2 H2)
/-- the records at fp as they stand -/
def pinsAt (fp : List Addr) (h : Heap) : List (Addr × Obj) := fp.filterMap fun b => (h.get? b).map fun o => (b, o)
theorem mem_pinsAt {fp : List Addr} {h : Heap} {b : Addr} {o : Obj} (hb : b ∈ fp) (e : h.get? b = some o) : (b, o) ∈ pinsAt fp h := List.mem_filterMap.mpr ⟨b, hb, by rw [e]; rfl⟩
theorem of_pinsAt {fp : List Addr} {h : Heap} {p : Addr × Obj} (hp : p ∈ pinsAt fp h) : p.1 ∈ fp ∧ h.get? p.1 = some p.2 := by
  obtain ⟨b, hb, e⟩ := List.mem_filterMap.mp hp
  cases q : h.get? b with
  | none => rw [q] at e; cases e
  | some o =>
    rw [q] at e
    have e' : (b, o) = p := Option.some.inj e
    subst e'
    exact ⟨hb, q⟩
theorem Inv.pinned {pins : List (Addr × Obj)} {σ : St} {H : Hp} {s : Shared} {fp : List Addr} (I : Inv X pins σ H s) (hf : ∀ b ∈ fp, FpOk X pins H b) (ho : ∀ b ∈ fp, ∃ o, s.heap.get? b = some o ∧ ∀ v, o.data ≠ .cell v) : Inv X (pins ++ pinsAt fp s.heap) σ H s :=
  I.pins_of fun p hp => (List.mem_append.mp hp).elim (fun z => I.pin p (List.mem_append_right _ z)) fun z => by
    obtain ⟨hb, e⟩ := of_pinsAt z
    obtain ⟨f0, f1, f2, _⟩ := hf p.1 hb
    obtain ⟨o, e', d⟩ := ho p.1 hb
    rw [e] at e'; cases e'
    exact ⟨e, f0, f1, f2, d⟩
theorem Inv.unpinned {pins pl : List (Addr × Obj)} {σ : St} {H : Hp} {s : Shared} (I : Inv X (pins ++ pl) σ H s) : Inv X pins σ H s := I.pins_of fun p hp => I.pin p (List.mem_append_right _ (List.mem_append_left _ hp))
theorem ps_for {iter : Expr} {body : List Stmt} {wi : TI} {g : TG} {tb : TS} {pos : Pos} (hp : PassesOwn (model X.prog X.w) X.A X.env X.xe) (hc : X.calm = true) (hi : PI X tg iter wi) (hg : PG X tg g) (hb : PSs X body tb)
    (hs : ∀ x, foldedSetIterable iter X.env x = pure x := by intro _; rfl) : PS X (.For tg iter body [] pos) (tFor wi g tb) := by
  intro pins s σ H D I h
  refine wpAny_For (thn (hi pins s σ H _ I h) fun v s1 h1 => thn h1 fun itv s2 h2 => ?_) hs
  obtain ⟨it, fp, tn, J, H2, e, I2, T, st2, f2, W, ⟨m0, w0⟩, turn⟩ := h2
  subst e
  -- what stays true of the iterator's objects through the loop
  have stat : ∀ {H' : Hp}, (∀ b ∈ fp, H' b = none) → ∀ b ∈ fp, FpOk X pins H' b := fun hn b hb => ⟨hn b hb, (f2 b hb).2⟩
  refine codeAny_forLoop_any (fun n s' => ∃ i σ' H', Inv X pins σ' H' s' ∧ tn i s'.heap ∧ (∀ b ∈ fp, H' b = none) ∧ W i n σ' H') ?_ m0 ⟨0, σ, H2, I2, st2, fun b hb => (f2 b hb).1, w0⟩
  rintro n s3 ⟨i, σ3, H3, I3, st3, fr3, w3⟩
  rcases turn i n σ3 H3 w3 with ⟨stop, qn⟩ | ⟨go, N, hN, step⟩
  · refine wpAny_passesOwn hp (thn (T.done X rfl rfl rfl hc i pins s3 σ3 H3 X.xe I3 (stat fr3) st3 stop) fun r s4 ⟨hr, I4⟩ => ?_)
    subst hr
    exact wpAny_execs_nil ⟨σ3, H3, I4, qn⟩
  · refine wpAny_passesOwn hp (thn (T.item X rfl rfl rfl hc i pins s3 σ3 H3 X.xe I3 (stat fr3) st3 go) fun r s4 ⟨u, hr, h4⟩ => ?_)
    subst hr
    refine wpAny_passesOwn hp (thn h4 fun _ s5 ⟨x, H5, I5, r5, y5, st5, fr5⟩ => ?_)
    have I5' := I5.pinned (stat fr5) (T.obj _ _ st5)
    refine wpAny_passesOwn hp (thn (hg _ s5 σ3 H5 x u _ I5' r5 (step x H5 y5)) fun _ s6 ⟨σ6, H6, I6, q6⟩ => ?_)
    refine wpAny_passesOwn hp (thn (hb _ s6 σ6 H6 _ I6 q6) fun f s7 q7 => ?_)
    have again : ∀ {σ7 : St} {H7 : Hp}, Inv X (pins ++ pinsAt fp s5.heap) σ7 H7 s7 → N σ7 H7 → ∃ m, m < n ∧ ∃ i σ' H', Inv X pins σ' H' s7 ∧ tn i s7.heap ∧ (∀ b ∈ fp, H' b = none) ∧ W i m σ' H' := fun {σ7 H7} I7 n7 => by
      obtain ⟨m', hm, w7⟩ := hN σ7 H7 n7
      refine ⟨m', hm, i + 1, σ7, H7, I7.unpinned, T.keep _ _ _ st5 fun b hb o e => (I7.pin (b, o) (List.mem_append_right _ (List.mem_append_right _ (mem_pinsAt hb e)))).1, fun b hb => ?_, w7⟩
      obtain ⟨o, e, d⟩ := T.obj _ _ st5 b hb
      exact (I7.pin (b, o) (List.mem_append_right _ (List.mem_append_right _ (mem_pinsAt hb e)))).2.1
    cases f with
    | next => obtain ⟨σ7, H7, I7, n7⟩ := q7; exact again I7 n7
    | cont => obtain ⟨σ7, H7, I7, n7⟩ := q7; exact again I7 n7
    | brk => obtain ⟨σ7, H7, I7, q7⟩ := q7; exact ⟨σ7, H7, I7.unpinned, q7⟩
    | ret v => obtain ⟨x7, σ7, H7, I7, r7, q7⟩ := q7; exact ⟨x7, σ7, H7, I7.unpinned, r7, q7⟩
end

/-! ### the forms one uses -/
/-- over a list that the body leaves as it is -/
theorem for_list {K : PySem.W.Frag} {a : Addr} {xs : List V} {g : TG} {tb : TS} {D : Ends} {σ : St} {H : Hp} (Pv : Nat → St → Hp → Prop) (h0 : Pv 0 σ H) (hl : ∀ i σ H, i ≤ xs.length → Pv i σ H → SqL K H a xs)
    (hs : ∀ i x σ H, xs[i]? = some x → Pv i σ H → g x σ H fun σ2 H2 => tb { D with nx := Pv (i + 1), ct := Pv (i + 1), bk := D.nx } σ2 H2) (hd : ∀ σ H, Pv xs.length σ H → D.nx σ H) :
    ∃ W : Nat → Nat → St → Hp → Prop, (∃ m, W 0 m σ H) ∧ ∀ i m σ H, W i m σ H →
      ((Itl K a).stop i H ∧ D.nx σ H) ∨ ((Itl K a).go i H ∧ ∃ N : St → Hp → Prop, (∀ σ' H', N σ' H' → ∃ m', m' < m ∧ W (i + 1) m' σ' H') ∧ ∀ x H', (Itl K a).yld i H x H' → g x σ H' fun σ2 H2 => tb { D with nx := N, ct := N, bk := D.nx } σ2 H2) := by
  refine ⟨fun i m σ H => m = xs.length - i ∧ i ≤ xs.length ∧ Pv i σ H, ⟨xs.length, by simp, Nat.zero_le _, h0⟩, ?_⟩
  rintro i m σ H ⟨rfl, hi, p⟩
  have q := hl i σ H hi p
  by_cases hlt : i < xs.length
  · refine .inr ⟨⟨xs, xs[i], q, by simp [hlt]⟩, Pv (i + 1), fun σ' H' p' => ⟨xs.length - (i + 1), by omega, rfl, hlt, p'⟩, fun x H' y => ?_⟩
    obtain ⟨e, y⟩ := y
    subst e
    exact hs i x σ _ (y xs q) p
  · have e : i = xs.length := by omega
    subst e
    exact .inl ⟨⟨xs, q, Nat.le_refl _⟩, hd σ H p⟩
theorem for_range {lo : Int} {n : Nat} {g : TG} {tb : TS} {D : Ends} {σ : St} {H : Hp} (Pv : Nat → St → Hp → Prop) (h0 : Pv 0 σ H)
    (hs : ∀ i σ H, i < n → Pv i σ H → g (.int (lo + i)) σ H fun σ2 H2 => tb { D with nx := Pv (i + 1), ct := Pv (i + 1), bk := D.nx } σ2 H2) (hd : ∀ σ H, Pv n σ H → D.nx σ H) :
    ∃ W : Nat → Nat → St → Hp → Prop, (∃ m, W 0 m σ H) ∧ ∀ i m σ H, W i m σ H →
      ((Itr lo n).stop i H ∧ D.nx σ H) ∨ ((Itr lo n).go i H ∧ ∃ N : St → Hp → Prop, (∀ σ' H', N σ' H' → ∃ m', m' < m ∧ W (i + 1) m' σ' H') ∧ ∀ x H', (Itr lo n).yld i H x H' → g x σ H' fun σ2 H2 => tb { D with nx := N, ct := N, bk := D.nx } σ2 H2) := by
  refine ⟨fun i m σ H => m = n - i ∧ i ≤ n ∧ Pv i σ H, ⟨n, by simp, Nat.zero_le _, h0⟩, ?_⟩
  rintro i m σ H ⟨rfl, hi, p⟩
  by_cases hlt : i < n
  · refine .inr ⟨hlt, Pv (i + 1), fun σ' H' p' => ⟨n - (i + 1), by omega, rfl, hlt, p'⟩, fun x H' y => ?_⟩
    obtain ⟨e, y⟩ := y
    subst e y
    exact hs i σ _ hlt p
  · have e : i = n := by omega
    subst e
    exact .inl ⟨Nat.le_refl _, hd σ H p⟩
end L2

namespace L2
open PySem PySem.Spec PyProof.Rows

abbrev R2 := V → V → Hp → VK → Prop
/-- a two-place operation on values: f is binaryOp op, inplaceOp op or compareOp op -/
def OpR (X : Cx) (f : Value → Value → Sem Value) (r : R2) : Prop :=
  ∀ (pins : List (Addr × Obj)) (s : Shared) (σ : St) (H : Hp) (x y : V) (v u : Value) (Q : VK), Inv X pins σ H s → RelV x v → RelV y u → r x y H Q →
    wpAny (model X.prog X.w) X.A (f v u) (EP X pins σ Q) X.xe s
/-- a one-place operation -/
def UnR (X : Cx) (f : Value → Sem Value) (r : V → Hp → VK → Prop) : Prop :=
  ∀ (pins : List (Addr × Obj)) (s : Shared) (σ : St) (H : Hp) (x : V) (v : Value) (Q : VK), Inv X pins σ H s → RelV x v → r x H Q →
    wpAny (model X.prog X.w) X.A (f v) (EP X pins σ Q) X.xe s
/-- a call of a value that is known (a builtin, a type) with values -/
def CallR (X : Cx) (f : Value) (r : List V → Hp → VK → Prop) : Prop :=
  ∀ (pins : List (Addr × Obj)) (s : Shared) (σ : St) (H : Hp) (xs : List V) (us : List Value) (Q : VK), Inv X pins σ H s → Vals xs us → r xs H Q →
    wpAny (model X.prog X.w) X.A (call f us) (EP X pins σ Q) X.xe s
/-- a value's truth -/
def TruR (X : Cx) (r : V → Hp → (Bool → Hp → Prop) → Prop) : Prop :=
  ∀ (pins : List (Addr × Obj)) (s : Shared) (σ : St) (H : Hp) (x : V) (v : Value) (Q : Bool → Hp → Prop), Inv X pins σ H s → RelV x v → r x H Q →
    wpAny (model X.prog X.w) X.A (truthy v) (TP X pins σ Q) X.xe s

def tOp (r : R2) (ta tb : TE) : TE := fun σ H Q => ta σ H fun x H1 => tb σ H1 fun y H2 => r x y H2 Q
def tUn (r : V → Hp → VK → Prop) (ta : TE) : TE := fun σ H Q => ta σ H fun x H1 => r x H1 Q
/-- ints in, under C, and a value out -/
def rI (C : Int → Int → Prop) (g : Int → Int → V) : R2 := fun x y H Q => ∃ i j, x = .int i ∧ y = .int j ∧ C i j ∧ Q (g i j) H
def rI0 (g : Int → Int → V) : R2 := fun x y H Q => ∃ i j, x = .int i ∧ y = .int j ∧ Q (g i j) H
def rU (g : Int → V) : V → Hp → VK → Prop := fun x H Q => ∃ i, x = .int i ∧ Q (g i) H

section
variable {X : Cx} {a b c : Expr} {ta tb tc : TE} {pos : Pos}

theorem binT (ha : PE X a ta) (hb : PE X b tb) {pins : List (Addr × Obj)} {s : Shared} {σ : St} {H : Hp} {R : V → V → Hp → Prop} (I : Inv X pins σ H s)
    (h : ta σ H fun x H1 => tb σ H1 fun y H2 => R x y H2) {Q : Value → Shared → Prop} {f : Value → Value → Sem Value}
    (hf : ∀ v u s2 x y H2, Inv X pins σ H2 s2 → RelV x v → RelV y u → R x y H2 → wpAny (model X.prog X.w) X.A (f v u) Q X.xe s2) :
    wpAny (model X.prog X.w) X.A (eval a X.env) (fun v s₁ => wpAny (model X.prog X.w) X.A (eval b X.env) (fun u s₂ => wpAny (model X.prog X.w) X.A (f v u) Q X.xe s₂) X.xe s₁) X.xe s := by
  refine thn (ha pins s σ H _ I h) fun v s1 ⟨x, H1, I1, r1, q1⟩ => ?_
  refine thn (hb pins s1 σ H1 _ I1 q1) fun u s2 ⟨y, H2, I2, r2, q2⟩ => ?_
  exact hf v u s2 x y H2 I2 r1 r2 q2

theorem pe_op {op : Operator} {r : R2} (ho : OpR X (binaryOp op) r) (ha : PE X a ta) (hb : PE X b tb) : PE X (.BinOp a op b pos) (tOp r ta tb) := by
  intro pins s σ H Q I h
  exact wpAny_BinOp (binT ha hb I h fun v u s2 x y H2 I2 rx ry q => ho pins s2 σ H2 x y v u Q I2 rx ry q)
theorem pe_un {op : UnaryOp} {r : V → Hp → VK → Prop} (ho : UnR X (unaryOp op) r) (ha : PE X a ta) : PE X (.UnaryOp op a pos) (tUn r ta) := by
  intro pins s σ H Q I h
  exact UnaryOp_ (thn (ha pins s σ H _ I h) fun v s1 ⟨x, H1, I1, r1, q1⟩ => ho pins s1 σ H1 x v Q I1 r1 q1)
/-! ### ints -/
theorem opI {f : Value → Value → Sem Value} {C : Int → Int → Prop} {g : Int → Int → Int}
    (rule : ∀ (i j : Int) (t u : Tok) (s : Shared) (Q : Value → Shared → Prop) (E : Value → Shared → Prop), C i j → Q (.int (g i j) s.toks) { s with toks := s.toks + 1 } → wpAny (model X.prog X.w) X.A (f (.int i t) (.int j u)) Q E s) :
    OpR X f (rI C fun i j => .int (g i j)) := by
  intro pins s σ H x y v u Q I rx ry h
  obtain ⟨i, j, rfl, rfl, hc, q⟩ := h
  obtain ⟨t, rfl⟩ := rx
  obtain ⟨t', rfl⟩ := ry
  exact rule i j t t' s _ _ hc ⟨.int (g i j), H, I.tok _, ⟨_, rfl⟩, q⟩
theorem opI0 {f : Value → Value → Sem Value} {g : Int → Int → Int}
    (rule : ∀ (i j : Int) (t u : Tok) (s : Shared) (Q : Value → Shared → Prop) (E : Value → Shared → Prop), Q (.int (g i j) s.toks) { s with toks := s.toks + 1 } → wpAny (model X.prog X.w) X.A (f (.int i t) (.int j u)) Q E s) :
    OpR X f (rI0 fun i j => .int (g i j)) := by
  intro pins s σ H x y v u Q I rx ry h
  obtain ⟨i, j, rfl, rfl, q⟩ := h
  obtain ⟨t, rfl⟩ := rx
  obtain ⟨t', rfl⟩ := ry
  exact rule i j t t' s _ _ ⟨.int (g i j), H, I.tok _, ⟨_, rfl⟩, q⟩
theorem opB0 {f : Value → Value → Sem Value} {g : Int → Int → Bool}
    (rule : ∀ (i j : Int) (t u : Tok) (s : Shared) (Q : Value → Shared → Prop) (E : Value → Shared → Prop), Q (.bool (g i j)) s → wpAny (model X.prog X.w) X.A (f (.int i t) (.int j u)) Q E s) :
    OpR X f (rI0 fun i j => .bl (g i j)) := by
  intro pins s σ H x y v u Q I rx ry h
  obtain ⟨i, j, rfl, rfl, q⟩ := h
  obtain ⟨t, rfl⟩ := rx
  obtain ⟨t', rfl⟩ := ry
  exact rule i j t t' s _ _ ⟨.bl (g i j), H, I, rfl, q⟩

def CDiv (i j : Int) : Prop := 0 < j ∧ j < 1073741824
def CMul (i j : Int) : Prop := (-(2 ^ 64) < i ∧ i < 2 ^ 64) ∨ (-(2 ^ 64) < j ∧ j < 2 ^ 64)
theorem CMul.ok {i j : Int} (h : CMul i j) : IntMulOk i j := by
  rcases h with ⟨h1, h2⟩ | ⟨h1, h2⟩
  · exact .of_left (intBits_le_64 h1 h2)
  · exact .of_right (intBits_le_64 h1 h2)
theorem op_add : OpR X (binaryOp .Add) (rI0 fun i j => .int (i + j)) := opI0 fun _ _ _ _ _ _ _ q => add_int q
theorem op_sub : OpR X (binaryOp .Sub) (rI0 fun i j => .int (i - j)) := opI0 fun _ _ _ _ _ _ _ q => sub_int q
theorem op_mul : OpR X (binaryOp .Mult) (rI CMul fun i j => .int (i * j)) := opI fun _ _ _ _ _ _ _ hc q => mul_int q hc.ok
/-- // by a positive divisor -/
theorem op_fdiv : OpR X (binaryOp .FloorDiv) (rI CDiv fun i j => .int (i / j)) := opI fun i j _ _ _ _ _ hc q => by
  have h1 : (0 : Int) < j := hc.1
  have h2 : j < 1073741824 := hc.2
  exact floordiv_int (by omega) (by rw [Int.fdiv_eq_ediv_of_nonneg i (by omega)]; exact q) (.inl (PyProof.noPylong_small (by omega)))
/-- % by a positive divisor of any size -/
theorem op_mod : OpR X (binaryOp .Mod) (rI (fun _ j => 0 < j) fun i j => .int (i % j)) := opI fun i j _ _ _ _ _ hc q => by
  have h1 : (0 : Int) < j := hc
  exact mod_int' (by omega) (by rw [Int.fmod_eq_emod_of_nonneg i (by omega)]; exact q)
theorem unI {f : Value → Sem Value} {g : Int → Int}
    (rule : ∀ (i : Int) (t : Tok) (s : Shared) (Q : Value → Shared → Prop) (E : Value → Shared → Prop), Q (.int (g i) s.toks) { s with toks := s.toks + 1 } → wpAny (model X.prog X.w) X.A (f (.int i t)) Q E s) :
    UnR X f (rU fun i => .int (g i)) := by
  intro pins s σ H x v Q I rx h
  obtain ⟨i, rfl, q⟩ := h
  obtain ⟨t, rfl⟩ := rx
  exact rule i t s _ _ ⟨.int (g i), H, I.tok _, ⟨_, rfl⟩, q⟩
theorem un_neg : UnR X (unaryOp .USub) (rU fun i => .int (-i)) := unI fun _ _ _ _ _ q => neg_int q
/-! ### bools among ints: n += (a < b) -/
end

/-! ### comparisons -/
/-- the scalars that == tells apart as data does -/
def scal : V → V → Bool
  | .non, .non => true | .non, .int _ => true | .int _, .non => true | .non, .bl _ => true | .bl _, .non => true | .non, .str _ => true | .str _, .non => true
  | .int _, .int _ => true | .bl _, .bl _ => true | .str _, .str _ => true | .byt _, .byt _ => true
  | .int _, .str _ => true | .str _, .int _ => true | .bl _, .str _ => true | .str _, .bl _ => true
  | _, _ => false
def rEq : R2 := fun x y H Q => scal x y = true ∧ Q (.bl (decide (x = y))) H
def rNe : R2 := fun x y H Q => scal x y = true ∧ Q (.bl (!decide (x = y))) H

theorem dec_int {i j : Int} : decide (V.int i = V.int j) = (i == j) := by
  rw [Bool.eq_iff_iff]
  simp
theorem dec_bl {i j : Bool} : decide (V.bl i = V.bl j) = (i == j) := by
  rw [Bool.eq_iff_iff]
  simp
theorem dec_str {i j : Str} : decide (V.str i = V.str j) = (i == j) := by
  rw [Bool.eq_iff_iff]
  simp
theorem dec_byt {i j : Array UInt8} : decide (V.byt i = V.byt j) = (i.toList == j.toList) := by
  rw [Bool.eq_iff_iff]
  cases i
  cases j
  simp

section
variable {X : Cx} {a b c : Expr} {ta tb tc : TE} {pos : Pos}
theorem fin_bl {pins : List (Addr × Obj)} {σ : St} {H : Hp} {s : Shared} {Q : VK} {k k' : Bool} (I : Inv X pins σ H s) (q : Q (.bl k) H) (e : k = k') : EP X pins σ Q (.bool k') s := by
  subst e
  exact ⟨.bl k, H, I, rfl, q⟩
theorem op_eq : OpR X (compareOp .Eq) rEq := by
  intro pins s σ H x y v u Q I rx ry h
  obtain ⟨hs, q⟩ := h
  cases x with
  | non =>
    cases rx
    cases y with
    | non => cases ry; exact PySem.EqNone.eq_none_none (fin_bl I q (by simp))
    | bl j => cases ry; exact PySem.EqNone.eq_none_bool (fin_bl I q (by simp))
    | int j => obtain ⟨t', rfl⟩ := ry; exact PySem.EqNone.eq_none_int (fin_bl I q (by simp))
    | str j => obtain ⟨t', rfl⟩ := ry; exact PySem.EqNone.eq_none_str (fin_bl I q (by simp))
    | _ => exact absurd (show false = true from hs) Bool.false_ne_true
  | bl i =>
    cases rx
    cases y with
    | non => cases ry; exact PySem.EqNone.eq_bool_none (fin_bl I q (by simp))
    | bl j => cases ry; exact eq_bool (fin_bl I q dec_bl)
    | str j => obtain ⟨t', rfl⟩ := ry; exact PySem.EqMixed.eq_bool_str (fin_bl I q (by simp))
    | _ => exact absurd (show false = true from hs) Bool.false_ne_true
  | int i =>
    obtain ⟨t, rfl⟩ := rx
    cases y with
    | non => cases ry; exact PySem.EqNone.eq_int_none (fin_bl I q (by simp))
    | int j => obtain ⟨t', rfl⟩ := ry; exact eq_int (fin_bl I q dec_int)
    | str j => obtain ⟨t', rfl⟩ := ry; exact PySem.EqMixed.eq_int_str (fin_bl I q (by simp))
    | _ => exact absurd (show false = true from hs) Bool.false_ne_true
  | str i =>
    obtain ⟨t, rfl⟩ := rx
    cases y with
    | non => cases ry; exact PySem.EqNone.eq_str_none (fin_bl I q (by simp))
    | bl j => cases ry; exact PySem.EqMixed.eq_str_bool (fin_bl I q (by simp))
    | int j => obtain ⟨t', rfl⟩ := ry; exact PySem.EqMixed.eq_str_int (fin_bl I q (by simp))
    | str j => obtain ⟨t', rfl⟩ := ry; exact eq_str (fin_bl I q dec_str)
    | _ => exact absurd (show false = true from hs) Bool.false_ne_true
  | byt i =>
    obtain ⟨t, rfl⟩ := rx
    cases y with
    | byt j => obtain ⟨t', rfl⟩ := ry; exact PySem.W.eq_bytes (fin_bl I q dec_byt)
    | _ => exact absurd (show false = true from hs) Bool.false_ne_true
  | _ => cases y <;> exact absurd (show false = true from hs) Bool.false_ne_true
theorem op_ne : OpR X (compareOp .NotEq) rNe := by
  intro pins s σ H x y v u Q I rx ry h
  obtain ⟨hs, q⟩ := h
  cases x with
  | non =>
    cases rx
    cases y with
    | non => cases ry; exact PySem.EqNone.ne_none_none (fin_bl I q (by simp))
    | bl j => cases ry; exact PySem.EqNone.ne_none_bool (fin_bl I q (by simp))
    | int j => obtain ⟨t', rfl⟩ := ry; exact PySem.EqNone.ne_none_int (fin_bl I q (by simp))
    | str j => obtain ⟨t', rfl⟩ := ry; exact PySem.EqNone.ne_none_str (fin_bl I q (by simp))
    | _ => exact absurd (show false = true from hs) Bool.false_ne_true
  | bl i =>
    cases rx
    cases y with
    | non => cases ry; exact PySem.EqNone.ne_bool_none (fin_bl I q (by simp))
    | bl j => cases ry; exact ne_bool (fin_bl I q (congrArg not dec_bl))
    | str j => obtain ⟨t', rfl⟩ := ry; exact PySem.EqMixed.ne_bool_str (fin_bl I q (by simp))
    | _ => exact absurd (show false = true from hs) Bool.false_ne_true
  | int i =>
    obtain ⟨t, rfl⟩ := rx
    cases y with
    | non => cases ry; exact PySem.EqNone.ne_int_none (fin_bl I q (by simp))
    | int j => obtain ⟨t', rfl⟩ := ry; exact ne_int (fin_bl I q (congrArg not dec_int))
    | str j => obtain ⟨t', rfl⟩ := ry; exact PySem.EqMixed.ne_int_str (fin_bl I q (by simp))
    | _ => exact absurd (show false = true from hs) Bool.false_ne_true
  | str i =>
    obtain ⟨t, rfl⟩ := rx
    cases y with
    | non => cases ry; exact PySem.EqNone.ne_str_none (fin_bl I q (by simp))
    | bl j => cases ry; exact PySem.EqMixed.ne_str_bool (fin_bl I q (by simp))
    | int j => obtain ⟨t', rfl⟩ := ry; exact PySem.EqMixed.ne_str_int (fin_bl I q (by simp))
    | str j => obtain ⟨t', rfl⟩ := ry; exact ne_str (fin_bl I q (congrArg not dec_str))
    | _ => exact absurd (show false = true from hs) Bool.false_ne_true
  | byt i =>
    obtain ⟨t, rfl⟩ := rx
    cases y with
    | byt j => obtain ⟨t', rfl⟩ := ry; exact PySem.W.ne_bytes (fin_bl I q (congrArg not dec_byt))
    | _ => exact absurd (show false = true from hs) Bool.false_ne_true
  | _ => cases y <;> exact absurd (show false = true from hs) Bool.false_ne_true

theorem op_lt : OpR X (compareOp .Lt) (rI0 fun i j => .bl (decide (i < j))) := opB0 fun _ _ _ _ _ _ _ q => lt_int q
theorem op_gt : OpR X (compareOp .Gt) (rI0 fun i j => .bl (decide (j < i))) := opB0 fun _ _ _ _ _ _ _ q => gt_int q
/-- two rules for one operation: by cases -/
theorem OpR.or {f : Value → Value → Sem Value} {r r' : R2} (h : OpR X f r) (h' : OpR X f r') : OpR X f (fun x y H Q => r x y H Q ∨ r' x y H Q) := by
  intro pins s σ H x y v u Q I rx ry q
  rcases q with q | q
  · exact h pins s σ H x y v u Q I rx ry q
  · exact h' pins s σ H x y v u Q I rx ry q

theorem nomark (b : Expr) {op : CmpOp} (h : op ≠ .In := by decide) (h2 : op ≠ .NotIn := by decide) : behindInMarks op b = false := by
  have e1 : (op == CmpOp.In) = false := by cases op <;> first | rfl | exact absurd rfl h
  have e2 : (op == CmpOp.NotIn) = false := by cases op <;> first | rfl | exact absurd rfl h2
  cases b <;> simp [behindInMarks, e1, e2]
/-- a comparison as a value; hm: nomark b, or (for in, not in) by with_unfolding_all rfl -/
theorem pe_cmpR {op : CmpOp} {r : R2} (ho : OpR X (compareOp op) r) (ha : PE X a ta) (hb : PE X b tb) (hm : behindInMarks op b = false) : PE X (.Compare a [op] [b] pos) (tOp r ta tb) := by
  intro pins s σ H Q I h
  exact wpAny_Compare1 (binT ha hb I h fun v u s2 x y H2 I2 rx ry q => ho pins s2 σ H2 x y v u Q I2 rx ry q) hm
/-- a reading of a value as a test -/
def tTest (t : TE) : TT := fun σ H Q => t σ H fun x H' => ∃ k, x = .bl k ∧ Q k H'
theorem pt_cmpR {op : CmpOp} {r : R2} (ho : OpR X (compareOp op) r) (ha : PE X a ta) (hb : PE X b tb) (hm : behindInMarks op b = false) : PT X (.Compare a [op] [b] pos) (tTest (tOp r ta tb)) := by
  intro pins s σ H Q I h
  refine wpAny_isTrue_Compare1 (thn (ha pins s σ H _ I h) fun v s1 ⟨x, H1, I1, r1, q1⟩ => thn (hb pins s1 σ H1 _ I1 q1) fun u s2 ⟨y, H2, I2, r2, q2⟩ =>
    thn (ho pins s2 σ H2 x y v u _ I2 r1 r2 q2) fun c s3 ⟨z, H3, I3, r3, k, e, q3⟩ => ?_) hm
  subst e
  cases r3
  exact wpAny_truthy_bool ⟨H3, I3, q3⟩
/-! ### truth -/
/-- a value's truth by the abstract heap -/
def TruV (K : PySem.W.Frag) (x : V) (H : Hp) (k : Bool) : Prop :=
  match x with
  | .non => k = false
  | .bl b => k = b
  | .int i => k = (i != 0)
  | .str y => y.length ≤ sizeLine ∧ k = ((y.length : Int) != 0)
  | .byt y => y.size ≤ sizeLine ∧ k = ((y.size : Int) != 0)
  | .ref p => (∃ xs, SqL K H p xs ∧ k = !xs.isEmpty) ∨ (∃ xs, SqT K H p xs ∧ k = !xs.isEmpty) ∨ ∃ kvs, H p = some (.dK kvs) ∧ k = !kvs.isEmpty
  | _ => False
theorem isEmpty_kv {κ : Type} {kvs : List (κ × V)} {vs : List (κ × Value)} (r : KV kvs vs) : (!vs.isEmpty) = !kvs.isEmpty := by
  cases r <;> rfl
theorem isEmpty_of {xs : List V} {its : List Value} (r : Vals xs its) : (!its.toArray.isEmpty) = !xs.isEmpty := by
  cases r <;> simp
theorem line63 : (sizeLine : Nat) < 2 ^ 63 := by rw [sizeLine_eq]; decide
theorem tru_ok : TruR X (fun x H Q => ∃ k, TruV X.K x H k ∧ Q k H) := by
  intro pins s σ H x v Q I rx h
  obtain ⟨k, e, q⟩ := h
  have hl := line63
  have hs : sizeLine = 16777216 := sizeLine_eq
  cases x with
  | non =>
    cases rx
    have e' : k = false := e
    subst e'
    exact truthy_none ⟨H, I, q⟩
  | bl b =>
    cases rx
    have e' : k = b := e
    subst e'
    exact wpAny_truthy_bool ⟨H, I, q⟩
  | int i =>
    obtain ⟨t, rfl⟩ := rx
    have e' : k = (i != 0) := e
    subst e'
    exact PySem.P.truthy_int ⟨H, I, q⟩
  | str y =>
    obtain ⟨t, rfl⟩ := rx
    obtain ⟨hy, e'⟩ : y.length ≤ sizeLine ∧ k = ((y.length : Int) != 0) := e
    subst e'
    exact PySem.P.truthy_str (by omega) ⟨H, I.tok _, q⟩
  | byt y =>
    obtain ⟨t, rfl⟩ := rx
    obtain ⟨hy, e'⟩ : y.size ≤ sizeLine ∧ k = ((y.size : Int) != 0) := e
    subst e'
    exact PySem.W.truthy_bytes (by omega) ⟨H, I.tok _, q⟩
  | ref p =>
    cases rx
    have e' : (∃ xs, SqL X.K H p xs ∧ k = !xs.isEmpty) ∨ (∃ xs, SqT X.K H p xs ∧ k = !xs.isEmpty) ∨ ∃ kvs, H p = some (.dK kvs) ∧ k = !kvs.isEmpty := e
    rcases e' with ⟨xs, hx, e'⟩ | ⟨xs, hx, e'⟩ | ⟨kvs, hx, e'⟩
    · subst e'
      obtain ⟨its, r, pl, hz⟩ := I.list hx
      have hlen := r.length
      exact wpAny_truthy_list pl.isList (by simp only [List.size_toArray]; omega) ⟨H, I.tok _, by rw [isEmpty_of r]; exact q⟩
    · subst e'
      obtain ⟨its, r, pl, hz⟩ := I.tuple hx
      have hlen := r.length
      exact truthy_tuple pl (by simp only [List.size_toArray]; omega) ⟨H, I.tok _, by rw [isEmpty_of r]; exact q⟩
    · subst e'
      obtain ⟨hz, hS, vs, r, m⟩ : kvs.length ≤ sizeLine ∧ (p == sysModules) = false ∧ ∃ vs, KV kvs vs ∧ s.heap.DictOf (mixKind X.prog X.w) p vs := I.hok p _ hx
      have hlen : kvs.length = vs.length := Paired.length r
      exact wpAny_truthy_dict hS m (by omega) ⟨H, I.tok _, by rw [isEmpty_kv r]; exact q⟩
  | _ => exact (show False from e).elim
/-- any expression whose test is its value's truth (a name, a call, a subscript, a field ..: he by fun _ => rfl) -/
theorem pt_truth (ha : PE X a ta) (he : ∀ whole, isTrue a X.env whole = (do let v ← whole; standAt a.pos; holding [v] (truthy v))) :
    PT X a (fun σ H Q => ta σ H fun x H' => ∃ k, TruV X.K x H' k ∧ Q k H') := by
  intro pins s σ H Q I h
  exact isTrue_plain (thn (ha pins s σ H _ I h) fun v s1 ⟨x, H1, I1, r1, q1⟩ => tru_ok pins s1 σ H1 x v Q I1 r1 q1) (he _)

/-! ### strs and bytes -/
/-! ### scalar builtins, by CallR -/
theorem vals1 {x : V} {us : List Value} (r : Vals [x] us) : ∃ u, us = [u] ∧ RelV x u := by
  cases r with
  | cons r1 r2 => cases r2; exact ⟨_, rfl, r1⟩
theorem vals2 {x y : V} {us : List Value} (r : Vals [x, y] us) : ∃ u w', us = [u, w'] ∧ RelV x u ∧ RelV y w' := by
  cases r with
  | cons r1 r2 =>
    cases r2 with
    | cons r3 r4 => cases r4; exact ⟨_, _, rfl, r1, r3⟩
theorem call_max2 (hc : X.calm = true) : CallR X (.builtin "max") (fun xs H Q => ∃ i j, xs = [.int i, .int j] ∧ Q (.int (if j > i then j else i)) H) := by
  intro pins s σ H xs us Q I r h
  obtain ⟨i, j, rfl, q⟩ := h
  obtain ⟨u, w', rfl, ⟨t, rfl⟩, ⟨t', rfl⟩⟩ := vals2 r
  refine max_two_ints (I.ok.hd hc) fun h' tk k => ⟨_, H, I.kept k, ?_, q⟩
  by_cases hj : j > i
  · rw [if_pos hj, if_pos hj]; exact ⟨_, rfl⟩
  · rw [if_neg hj, if_neg hj]; exact ⟨_, rfl⟩
/-- len of a str, a bytes, a list, a tuple -/
def LenV (K : PySem.W.Frag) (x : V) (H : Hp) (n : Nat) : Prop :=
  match x with
  | .str y => y.length ≤ sizeLine ∧ n = y.length
  | .byt y => y.size ≤ sizeLine ∧ n = y.size
  | .ref p => (∃ xs, SqL K H p xs ∧ n = xs.length) ∨ ∃ xs, SqT K H p xs ∧ n = xs.length
  | _ => False
theorem call_len : CallR X (.builtin "len") (fun xs H Q => ∃ x n, xs = [x] ∧ LenV X.K x H n ∧ Q (.int n) H) := by
  intro pins s σ H xs us Q I r h
  obtain ⟨x, n, rfl, e, q⟩ := h
  obtain ⟨u, rfl, rx⟩ := vals1 r
  have hl := line63
  have hs : sizeLine = 16777216 := sizeLine_eq
  cases x with
  | str y =>
    obtain ⟨t, rfl⟩ := rx
    obtain ⟨hy, e'⟩ : y.length ≤ sizeLine ∧ n = y.length := e
    subst e'
    exact len_str (by omega) ⟨.int _, H, I.tok _, ⟨_, rfl⟩, q⟩
  | byt y =>
    obtain ⟨t, rfl⟩ := rx
    obtain ⟨hy, e'⟩ : y.size ≤ sizeLine ∧ n = y.size := e
    subst e'
    exact PySem.W.len_bytes (by omega) ⟨.int _, H, I.tok _, ⟨_, rfl⟩, q⟩
  | ref p =>
    cases rx
    have e' : (∃ xs, SqL X.K H p xs ∧ n = xs.length) ∨ ∃ xs, SqT X.K H p xs ∧ n = xs.length := e
    rcases e' with ⟨xs, hx, e'⟩ | ⟨xs, hx, e'⟩
    · subst e'
      obtain ⟨its, r', pl, hz⟩ := I.list hx
      have hlen := r'.length
      exact Calls.call_len_list pl.isList (by simp only [List.size_toArray]; omega) ⟨.int xs.length, H, I.tok _, ⟨_, by simp only [List.size_toArray]; rw [hlen]⟩, q⟩
    · subst e'
      obtain ⟨its, r', pl, hz⟩ := I.tuple hx
      have hlen := r'.length
      exact len_tuple pl (by simp only [List.size_toArray]; omega) ⟨.int xs.length, H, I.tok _, ⟨_, by simp only [List.size_toArray]; rw [hlen]⟩, q⟩
  | _ => exact (show False from e).elim
end
end L2

namespace L2
open PySem PySem.Spec PyProof.Rows

/-! ### an instance, its attributes a map -/
structure ObjM (h : Heap) (x dx C : Addr) (mA : Str → Option Value) : Prop where
  obj : h.get? x = some (PySem.W.instObj C dx)
  ns : h.Ns1 dx mA
  ne : dx ≠ x

theorem lookIn_ns {h : Heap} {dx : Addr} {mA : Str → Option Value} (n : h.Ns1 dx mA) : ∃ od, h.get? dx = some od ∧ ∀ name, PySem.W.lookIn name od = some (mA name) := by
  obtain ⟨o, es, ep, ho, hd, hk, _, hm⟩ := n
  refine ⟨o, ho, fun name => ?_⟩
  have e := hm name
  unfold nsFind findBy at e
  rw [← Array.find?_toList] at e
  unfold PySem.W.lookIn
  rw [hd]
  dsimp only
  split
  · rename_i y q
    rw [q] at e
    exact congrArg some e
  · rename_i q
    rw [q] at e
    have a : es.toList.any (·.refKey) = false := by
      rw [List.any_eq_false]
      intro y hy
      obtain ⟨z, t, hkey⟩ := hk y (Array.mem_toList_iff.mp hy)
      simp [DictEntry.refKey, hkey]
    have a' : ¬ es.toList.any (·.refKey) = true := by rw [a]; exact Bool.false_ne_true
    rw [if_neg a']
    exact congrArg some e

theorem ObjM.look {h : Heap} {x dx C : Addr} {mA : Str → Option Value} (I : ObjM h x dx C mA) : ∃ od, PySem.W.InstAt h x (PySem.W.instObj C dx) C (some od) ∧ ∀ name, PySem.W.lookIn name od = some (mA name) :=
  let ⟨od, ho, hl⟩ := lookIn_ns I.ns
  ⟨od, ⟨I.obj, rfl, rfl, ho⟩, hl⟩

section
variable {prog : Program} {w : World} {A : Around} {E : Value → Shared → Prop} {s : Shared} {K : PySem.W.Frag} {x dx C f : Addr} {mA : Str → Option Value} {name : Str} {v : Value}

end

/-! ### the attributes as a list of pairs -/
theorem RelO.some_of {v : V} {o : Option Value} (r : RelO (some v) o) : ∃ u, o = some u ∧ RelV v u := by
  cases o with
  | none => exact (show False from r).elim
  | some u => exact ⟨u, rfl, r⟩
section
variable {P : Program} {w : World} {H H' : Hp} {h h' : Heap} {a C dx : Addr} {fs fs' : List (Str × V)}
theorem ins_get (hok : HOk P w H h) (e : H a = some (.ins C dx fs)) : ∃ mA, ObjM h a dx C mA ∧ (∀ f, RelO (fs.lookup f) (mA f)) ∧ PySem.Within mA (fs.map (·.1)) ∧ fs.length ≤ 1000 ∧ H dx = some (.own a) := by
  obtain ⟨d, z, ne, ob, mA, n, r, q⟩ := (show ObjOk P w H h a (.ins C dx fs) from hok a _ e)
  exact ⟨mA, ⟨ob, n, ne⟩, r, q, z, d⟩
end

/-! ### what of the text a class must have -/
structure Cls (K : PySem.W.Frag) (C : Addr) : Prop where
  pg : PySem.W.plainGet K C Str.empty = true
  hd : PySem.W.hasDictIn K C = true
  po : PySem.W.plainOver K C = true
  sa : PySem.W.findIn K (.ref C) "__setattr__" = some (some (.builtin "object.__setattr__"))
theorem Cls.get {K : PySem.W.Frag} {C : Addr} (c : Cls K C) (f : Str) : PySem.W.plainGet K C f = true := c.pg
section
variable {X : Cx} {pins : List (Addr × Obj)} {σ : St} {H : Hp} {s : Shared} {a C dx : Addr} {fs : List (Str × V)} {f : Str} {v : V} {A : Around} {E : Value → Shared → Prop}

end

/-! ### readings and rules -/
section
variable {X : Cx} {o e value : Expr} {f : Str} {pos pos' tpos : Pos} {ta tv : TE}
end

/-! ### isinstance -/
section
variable {X : Cx} {pins : List (Addr × Obj)} {σ : St} {H : Hp} {s : Shared} {A : Around} {E : Value → Shared → Prop} {Q : Value → Shared → Prop} {c : Value} {b : Bool}
/-- the type of a value, as the fragment's deciders take it; for an instance its class -/
inductive TyOf (K : PySem.W.Frag) (H : Hp) : V → Value → Prop where
  | non : TyOf K H .non (.type "NoneType")
  | bl (x : Bool) : TyOf K H (.bl x) (.type "bool")
  | int (i : Int) : TyOf K H (.int i) (.type "int")
  | str (x : Str) : TyOf K H (.str x) (.type "str")
  | flt (x : UInt64) : TyOf K H (.flt x) (.type "float")
  | lst {a : Addr} {xs : List V} (e : H a = some (.lst xs)) : TyOf K H (.ref a) (.type "list")
  | frz {a : Addr} {o : Obj} {xs : List V} (e : H a = some (.frz o (.lst xs))) : TyOf K H (.ref a) (.type "list")
  | tup {a : Addr} {xs : List V} (e : H a = some (.tup xs)) : TyOf K H (.ref a) (.type "tuple")
  | dK {a : Addr} {kvs : List (Key × V)} (e : H a = some (.dK kvs)) : TyOf K H (.ref a) (.type "dict")
  | dT {a : Addr} {kvs : List (List Key × V)} (e : H a = some (.dT kvs)) : TyOf K H (.ref a) (.type "dict")
  | ins {a C dx : Addr} {fs : List (Str × V)} (e : H a = some (.ins C dx fs)) (cl : Cls K C) (ha : PySem.W.findIn K (.ref C) "__class__" = some (some (.builtin "object.__class__")))
      (hn : PySem.W.specialIn K (.builtin "object.__class__") "__get__" = some (some (.builtin "getset_descriptor.__get__"))) (htk : PySem.W.takesIn K (.builtin "object.__class__") = some true)
      (hm : PySem.W.mroIn K C (.type "object") = some true) : TyOf K H (.ref a) (.ref C)
/-- isinstance(x, c) for one class c, a built-in or an own one: kitOne's answer -/
theorem isinst_ok {x : V} {u t : Value} (I : Inv X pins σ H s) (rx : RelV x u) (ty : TyOf X.K H x t) (e : PySem.W.kitOne X.K t c = some b) (h : ∀ tk, Q (.bool b) { s with toks := tk }) :
    wpAny (model X.prog X.w) A (call (.builtin "isinstance") [u, c]) Q E s := by
  cases ty with
  | non => cases (show u = Value.none from rx); exact PySem.W.kia_one PySem.W.kitx_none I.kIn True.intro e (fun z => nomatch z) h
  | bl y => cases (show u = Value.bool y from rx); exact PySem.W.kia_one PySem.W.kitx_bool I.kIn True.intro e (fun z => nomatch z) h
  | int i => obtain ⟨t, q⟩ := (show ∃ t, u = Value.int i t from rx); cases q; exact PySem.W.kia_one PySem.W.kitx_int I.kIn True.intro e (fun z => nomatch z) h
  | str y => obtain ⟨t, q⟩ := (show ∃ t, u = Value.str y t from rx); cases q; exact PySem.W.kia_one PySem.W.kitx_str I.kIn True.intro e (fun z => nomatch z) h
  | flt y => obtain ⟨t, q⟩ := (show ∃ t, u = Value.float y t from rx); cases q; exact PySem.W.kia_one PySem.W.kitx_float I.kIn True.intro e (fun z => nomatch z) h
  | @lst a xs ea =>
    cases (show u = Value.ref a from rx)
    obtain ⟨_, _, n, _, h1⟩ := (show ObjOk X.prog X.w H s.heap a (.lst xs) from I.hok a _ ea)
    exact PySem.W.kia_one PySem.W.kitx_list I.kIn ⟨_, h1, rfl⟩ e (fun z => nomatch z) h
  | @frz a ob xs ea =>
    cases (show u = Value.ref a from rx)
    obtain ⟨_, _, _, n, _, h1⟩ := (show ObjOk X.prog X.w H s.heap a (.frz ob (.lst xs)) from I.hok a _ ea)
    exact PySem.W.kia_one PySem.W.kitx_list I.kIn ⟨_, h1, rfl⟩ e (fun z => nomatch z) h
  | @tup a xs ea =>
    cases (show u = Value.ref a from rx)
    obtain ⟨_, _, _, p⟩ := (show ObjOk X.prog X.w H s.heap a (.tup xs) from I.hok a _ ea)
    obtain ⟨o, h1, h2, _⟩ := p
    exact PySem.W.kia_one PySem.W.kitx_tuple I.kIn ⟨o, h1, h2⟩ e (fun z => nomatch z) h
  | @dK a kvs ea =>
    cases (show u = Value.ref a from rx)
    obtain ⟨_, _, vs, _, p⟩ := (show ObjOk X.prog X.w H s.heap a (.dK kvs) from I.hok a _ ea)
    obtain ⟨o, es, ep, h1, h2, _⟩ := p
    exact PySem.W.kia_one PySem.W.kitx_dict I.kIn ⟨o, h1, h2.1⟩ e (fun z => nomatch z) h
  | @dT a kvs ea =>
    cases (show u = Value.ref a from rx)
    obtain ⟨_, _, xs, _, o, es, ep, h1, h2, _⟩ := (show ObjOk X.prog X.w H s.heap a (.dT kvs) from I.hok a _ ea)
    exact PySem.W.kia_one PySem.W.kitx_dict I.kIn ⟨o, h1, h2.1⟩ e (fun z => nomatch z) h
  | @ins a C dx fs ea cl ha hn htk hm =>
    cases (show u = Value.ref a from rx)
    obtain ⟨mA, O, _⟩ := ins_get I.hok ea
    obtain ⟨od, J, _⟩ := O.look
    exact PySem.W.kia_one (PySem.W.kitx_own (cl.get _) cl.hd ha hn htk hm) I.kIn J e (fun z => nomatch z) h
end
end L2

namespace L2
open PySem PySem.Spec PyProof.Rows

/-! ### room -/
structure Room (k : Nat) (A : Around) : Prop where
  hd : A.handled = none
  dp : A.depth + 3 * k + 5 < recursionLimit
  un : A.units + 16 * k + 200 < cLine
theorem Room.mono {j k : Nat} {A : Around} (r : Room k A) (h : j ≤ k) : Room j A := ⟨r.hd, by have := r.dp; omega, by have := r.un; omega⟩
theorem Room.deeper {k : Nat} {A : Around} (r : Room (k + 1) A) (env : Env) : Room k (A.deeper env) :=
  ⟨r.hd, by have := r.dp; show A.depth + 1 + 3 * k + 5 < _; omega, by have := r.un; show A.units + 3 + 16 * k + 200 < _; omega⟩
theorem Room.depth {k : Nat} {A : Around} (r : Room k A) : A.depth < recursionLimit := by have := r.dp; omega
theorem Room.units {k : Nat} {A : Around} (r : Room k A) : A.units + 64 < cLine := by have := r.un; omega
theorem Room.units0 {k : Nat} {A : Around} (r : Room k A) : A.units < cLine := by have := r.un; omega

/-! ### argument lists and displays -/
def tNil : TA := fun _ H Q => Q [] H
def tCons (ta : TE) (tr : TA) : TA := fun σ H Q => ta σ H fun x H1 => tr σ H1 fun xs H2 => Q (x :: xs) H2
section
variable {X : Cx} {e : Expr} {es : List Expr} {te : TE} {t : TA} {pos : Pos}
theorem pa_nil : PA X [] tNil := fun _ _ _ _ H Q I h => Calls.spliced_nil ⟨[], H, I, .nil, h⟩
theorem pa_cons (ha : PE X e te) (hr : PA X es t) (hs : starEach (e :: es) X.env = (false, eval e X.env) :: starEach es X.env := by rfl) : PA X (e :: es) (tCons te t) := by
  intro pos pins s σ H Q I h
  rw [hs]
  show wpAny _ _ (spliced ((false, eval e X.env) :: backTo pos (starEach es X.env))) _ _ s
  refine Calls.spliced_cons (thn (ha pins s σ H _ I h) fun u s1 ⟨x, H1, I1, r1, q1⟩ => ?_)
  exact thn (hr pos pins s1 σ H1 _ I1 q1) fun us s2 ⟨xs, H2, I2, r2, q2⟩ => ⟨x :: xs, H2, I2, .cons r1 r2, q2⟩

/-- a tuple, a list of written items -/
def tTup (t : TA) : TE := fun σ H Q => t σ H fun xs H1 => xs.length ≤ sizeLine ∧ ∀ p, H1 p = none → Q (.ref p) (upd H1 p (.tup xs))
def tLst (t : TA) : TE := fun σ H Q => t σ H fun xs H1 => xs.length ≤ sizeLine ∧ ∀ p, H1 p = none → Q (.ref p) (upd H1 p (.lst xs))
theorem pe_tup {x1} (h : PA X es t) : PE X (.Tuple es x1 pos) (tTup t) := by
  intro pins s σ H Q I hq
  refine wpAny_Tuple_spliced (thn (h pos pins s σ H _ I hq) fun us s1 ⟨xs, H1, I1, r, z, q⟩ => ⟨by rw [← r.length]; exact z, ?_⟩)
  have hf : H1 s1.heap.objs.size = none := I1.hok.fresh (Nat.le_refl _)
  refine ⟨.ref s1.heap.objs.size, upd H1 s1.heap.objs.size (.tup xs), I1.laid (t' := s1.toks) (fun b u e => Heap.get?_push_of_some _ e) (Nat.le_refl _) ?_, rfl, q _ hf⟩
  exact ⟨z, us, r, ⟨_, Heap.get?_push_size _ rfl, rfl, _, rfl⟩⟩
theorem pe_lst (h : PA X es t) : PE X (.List es pos) (tLst t) := by
  intro pins s σ H Q I hq
  refine wpAny_List_spliced (thn (h pos pins s σ H _ I hq) fun us s1 ⟨xs, H1, I1, r, z, q⟩ => ⟨by rw [← r.length]; exact z, ?_⟩)
  have hf : H1 s1.heap.objs.size = none := I1.hok.fresh (Nat.le_refl _)
  refine ⟨.ref s1.heap.objs.size, upd H1 s1.heap.objs.size (.lst xs), I1.laid (t' := s1.toks) (fun b u e => Heap.get?_push_of_some _ e) (Nat.le_refl _) ?_, rfl, q _ hf⟩
  exact ⟨z, us, 0, r, Heap.get?_push_size _ rfl⟩
end

/-! ### what a def promises -/
/-- a def's promise: the bound arguments in the parameters' order, the heap, the wanted end, the wanted exception -/
abbrev Sp := List V → Hp → VK → XK → Prop
/-- how an exception lies behind a call (file 08 gives it): the callers' frames, abstract heap and state ahead of the call, the wish, the exception, the state -/
abbrev CXT := List Env → Hp → Shared → XK → Value → Shared → Prop

/-- the state at a call -/
structure Env0 (P : Program) (w : World) (K : PySem.W.Frag) (mg : Str → Option Value) (base : Heap) (A : Around) (outer : List Env) (s : Shared) (H : Hp) : Prop where
  frames : A.frames = some outer
  mod : Mod K mg base
  bs : ∀ b o, base.get? b = some o → s.heap.get? b = some o ∧ H b = none
  bsz : base.objs.size ≤ s.heap.objs.size
  funs : s.heap.FunFrames base outer
  frf : ∀ b ∈ frs outer, H b = none
  hok : HOk P w H s.heap
  bare : AllBare s.gens
/-- a call's end -/
def CE (outer : List Env) (P : Program) (w : World) (H : Hp) (s : Shared) (Q : VK) (u : Value) (s' : Shared) : Prop :=
  ∃ v H', s'.os = s.os ∧ AllBare s'.gens ∧ Un (frs outer) [] H H' s.heap s'.heap ∧ HOk P w H' s'.heap ∧ RelV v u ∧ Q v H'
def CR (CX : CXT) (outer : List Env) (P : Program) (w : World) (H : Hp) (s : Shared) (Q : VK) (E : XK) (r : Result) (s' : Shared) : Prop :=
  match r with
  | .ok (.ret u) => CE outer P w H s Q u s'
  | .ok _ => False
  | .error e => CX outer H s E e s'
structure FnOk (P : Program) (w : World) (K : PySem.W.Frag) (mg : Str → Option Value) (base : Heap) (CX : CXT) (k : Nat) (f : Addr) (fd : FuncData) (ps : List Str) (sp : Sp) : Prop where
  len : ∀ vs H Q E, sp vs H Q E → vs.length = ps.length
  run : ∀ (A : Around) (outer : List Env) (s : Shared) (H : Hp) (args : Args) (us : List Value) (vs : List V) (Q : VK) (E : XK), Room k A → Env0 P w K mg base A outer s H → BindsTo s fd args (ps.zip us) → Vals vs us → sp vs H Q E →
    codeAny (model P w) A (.call (.ref f) args) (CR CX outer P w H s Q E) s
theorem FnOk.mono {P : Program} {w : World} {K : PySem.W.Frag} {mg : Str → Option Value} {base : Heap} {CX : CXT} {j k : Nat} {f : Addr} {fd : FuncData} {ps : List Str} {sp : Sp} (F : FnOk P w K mg base CX j f fd ps sp) (h : j ≤ k) :
    FnOk P w K mg base CX k f fd ps sp := ⟨F.len, fun A outer s H args us vs Q E hr => F.run A outer s H args us vs Q E (hr.mono h)⟩
/-- a weaker promise -/
theorem FnOk.imp {P : Program} {w : World} {K : PySem.W.Frag} {mg : Str → Option Value} {base : Heap} {CX : CXT} {k : Nat} {f : Addr} {fd : FuncData} {ps : List Str} {sp sp' : Sp} (F : FnOk P w K mg base CX k f fd ps sp)
    (h : ∀ vs H Q E, sp' vs H Q E → sp vs H Q E) : FnOk P w K mg base CX k f fd ps sp' :=
  ⟨fun vs H Q E q => F.len vs H Q E (h _ _ _ _ q), fun A outer s H args us vs Q E hr he hb hv hs => F.run A outer s H args us vs Q E hr he hb hv (h _ _ _ _ hs)⟩

section
variable {X : Cx} {pins : List (Addr × Obj)} {σ : St} {H : Hp} {s s' : Shared}
/-- from a body: what a callee wants -/
theorem Inv.env0 (I : Inv X pins σ H s) : Env0 X.prog X.w X.K X.mg X.base X.A X.stack s H :=
  ⟨I.ok.frames, I.ok.mod, I.bs, Nat.le_trans I.ok.bsz I.sz, I.stack, I.stkFree, I.hok, I.bare⟩
/-- behind a call -/
theorem Inv.after {Q : VK} {u : Value} (I : Inv X pins σ H s) (h : CE X.stack X.prog X.w H s Q u s') : EP X pins σ Q u s' := by
  obtain ⟨v, H', os, bare, un, hok, r, q⟩ := h
  obtain ⟨hh, g, d, t, os'⟩ := s'
  obtain rfl : os' = s.os := os
  exact ⟨v, H', I.call (h' := hh) (g' := g) (d' := d) (t' := t) (ch := []) un hok bare (fun b z => absurd z (by simp)), r, q⟩
end

/-! ### calls -/
/-- f(..): the written arguments, then the defaults dvs; E: what is wanted of an exception -/
def tCall (sp : Sp) (dvs : List V) (E : XK) (t : TA) : TE := fun σ H Q => t σ H fun vs H1 => sp (vs ++ dvs) H1 Q E
/-- how the parameters are bound: us the positional arguments, kw the keywords' values by name, ds the defaults that fill up -/
def Binds (K : PySem.W.Frag) (fd : FuncData) (ps : List Str) (ds : List Value) : Prop :=
  ∀ (s : Shared) (us : List Value), K.In s.heap → (us ++ ds).length = ps.length → BindsTo s fd ⟨us, []⟩ (ps.zip (us ++ ds))
/-- every parameter is given -/
theorem Binds.all {K : PySem.W.Frag} {fd : FuncData} {ps : List Str} (h : ∀ us : List Value, us.length = ps.length → bindArgs fd ⟨us, []⟩ = pure (ps.zip us)) : Binds K fd ps [] := fun s us _ hl => by
  rw [List.append_nil] at hl ⊢
  exact .of_eq (h us hl)

/-- an exception of a callee reaches what this body wants of exceptions -/
def Passes (CX : CXT) (X : Cx) (E : XK) : Prop := ∀ (pins : List (Addr × Obj)) (σ : St) (H : Hp) (s : Shared) (e : Value) (s' : Shared), Inv X pins σ H s → CX X.stack H s E e s' → X.xe e s'

section
variable {X : Cx} {CX : CXT} {k : Nat} {f C : Addr} {fd : FuncData} {ps : List Str} {sp : Sp} {dvs : List V} {ds : List Value} {E : XK} {x m : Str} {p pos apos : Pos} {e o : Expr} {es : List Expr} {ta : TE} {t : TA}

/-- the callee runs -/
theorem run_fn {pins : List (Addr × Obj)} {σ : St} {H : Hp} {s : Shared} {Q : VK} {us : List Value} {vs : List V} (F : FnOk X.prog X.w X.K X.mg X.base CX k f fd ps sp) (hr : Room k X.A) (hb : Binds X.K fd ps ds) (hd : Vals dvs ds) (hx : Passes CX X E)
    (I : Inv X pins σ H s) (r : Vals vs us) (h : sp (vs ++ dvs) H Q E) : wpAny (model X.prog X.w) X.A (call (.ref f) us) (EP X pins σ Q) X.xe s := by
  have r2 : Vals (vs ++ dvs) (us ++ ds) := r.append hd
  have hl : (us ++ ds).length = ps.length := by rw [← r2.length]; exact F.len _ _ _ _ h
  refine wpAny_call (codeAny_mono (F.run X.A X.stack s H ⟨us, []⟩ (us ++ ds) (vs ++ dvs) Q E hr I.env0 (hb s us I.kIn hl) r2 h) fun r s' hq => ?_)
  cases r with
  | error e => exact hx pins σ H s e s' I hq
  | ok fl =>
    cases fl with
    | ret u => exact I.after hq
    | next => exact False.elim hq
    | brk => exact False.elim hq
    | cont => exact False.elim hq

theorem pe_call (F : FnOk X.prog X.w X.K X.mg X.base CX k f fd ps sp) (hr : Room k X.A) (hg : Gl X x) (hm : X.mg x = some (.ref f)) (hk : PySem.W.keepIn X.K (.ref f) = true) (hb : Binds X.K fd ps ds) (hd : Vals dvs ds) (hx : Passes CX X E)
    (ha : PA X (e :: es) t) (hdb : (x == ("__debug__" : Str)) = false := by decide) (he : starEach (e :: es) X.env = (false, eval e X.env) :: starEach es X.env := by rfl) (hpl : (backTo pos (starEach es X.env)).any (·.1) = false := by rfl) :
    PE X (.Call (.Name x p) (e :: es) [] pos) (tCall sp dvs E t) := by
  intro pins s σ H Q I h
  refine wpAny_Call_Name_kw (ld_glob I hg hm ?_ hdb)
  refine PySem.W.callWith_K (h₀ := X.base) I.ok.mod.kin hk (thn (ha pos pins s σ H _ I h) fun us s1 ⟨vs, H1, I1, r, q⟩ => ⟨I1.kIn, ?_⟩) he hpl
  exact run_fn F hr hb hd hx I1 r q
end

/-! ### keywords -/
section
variable {X : Cx} {CX : CXT} {k : Nat} {f C : Addr} {fd : FuncData} {ps ks : List Str} {sp : Sp} {E : XK} {x m : Str} {p pos apos kpos : Pos} {e o : Expr} {es : List Expr} {kws : List Keyword} {te ta : TE} {t tk : TA} {nm : Option Str}
variable {g : List Value → List Value → List Value} {gV : List V → List V → List V}
end

/-! ### a def's body keeps its promise -/
/-- names: the parameters first -/
structure FnScope (N P : List Str) (sc : Scope) : Prop where
  kind : sc.kind = .function
  co : sc.isCoroutine = false
  gen : sc.isGenerator = false
  nd : N.Nodup
  pre : N.take P.length = P
  par : ∀ x ∈ P, sc.names.lookup x = some .local ∨ sc.names.lookup x = some .cell
  nofree : ∀ y ∈ sc.names, y.2 ≠ .free

theorem bindL_out {kindOf : Str → Option NameKind} {x : Str} : ∀ {binds : List (Str × Value)} {m : Str → Option Value}, (∀ v, (x, v) ∉ binds) → bindL kindOf binds m x = m x
  | [], _, _ => rfl
  | (n, v) :: r, m, h => by
    unfold bindL
    rw [bindL_out fun w hw => h w (List.mem_cons_of_mem _ hw)]
    split
    · have : x ≠ n := by rintro rfl; exact h v List.mem_cons_self
      simp [this]
    · rfl
theorem bindC_out {kindOf : Str → Option NameKind} {x : Str} : ∀ {binds : List (Str × Value)} {m : Str → Option Value}, (∀ v, (x, v) ∉ binds) → bindC kindOf binds m x = m x
  | [], _, _ => rfl
  | (n, v) :: r, m, h => by
    unfold bindC
    rw [bindC_out fun w hw => h w (List.mem_cons_of_mem _ hw)]
    split
    · rfl
    · have : x ≠ n := by rintro rfl; exact h v List.mem_cons_self
      simp [this]
theorem bindL_get {kindOf : Str → Option NameKind} {x : Str} {v : Value} : ∀ {P : List Str} {vs : List Value} {i : Nat} {m : Str → Option Value}, P.Nodup → P[i]? = some x → vs[i]? = some v → kindOf x = some .local →
    bindL kindOf (P.zip vs) m x = some v
  | [], _, _, _, _, h, _, _ => by simp at h
  | _ :: _, [], _, _, _, _, h, _ => by simp at h
  | p :: P, w :: vs, 0, m, nd, h1, h2, hk => by
    simp at h1 h2; subst h1; subst h2
    show bindL kindOf ((p, w) :: P.zip vs) m p = _
    unfold bindL
    rw [bindL_out fun v hv => (List.nodup_cons.mp nd).1 (List.of_mem_zip hv).1, if_pos hk]
    simp
  | p :: P, w :: vs, i + 1, m, nd, h1, h2, hk => by
    show bindL kindOf ((p, w) :: P.zip vs) m x = _
    unfold bindL
    exact bindL_get (i := i) (List.nodup_cons.mp nd).2 (by simpa using h1) (by simpa using h2) hk
theorem bindC_get {kindOf : Str → Option NameKind} {x : Str} {v : Value} : ∀ {P : List Str} {vs : List Value} {i : Nat} {m : Str → Option Value}, P.Nodup → P[i]? = some x → vs[i]? = some v → kindOf x ≠ some .local →
    bindC kindOf (P.zip vs) m x = some v
  | [], _, _, _, _, h, _, _ => by simp at h
  | _ :: _, [], _, _, _, _, h, _ => by simp at h
  | p :: P, w :: vs, 0, m, nd, h1, h2, hk => by
    simp at h1 h2; subst h1; subst h2
    show bindC kindOf ((p, w) :: P.zip vs) m p = _
    unfold bindC
    rw [bindC_out fun v hv => (List.nodup_cons.mp nd).1 (List.of_mem_zip hv).1, if_neg hk]
    simp
  | p :: P, w :: vs, i + 1, m, nd, h1, h2, hk => by
    show bindC kindOf ((p, w) :: P.zip vs) m x = _
    unfold bindC
    exact bindC_get (i := i) (List.nodup_cons.mp nd).2 (by simpa using h1) (by simpa using h2) hk

/-- the names' values at the entry -/
def start (N : List Str) (vs : List V) : St := vs.map some ++ List.replicate (N.length - vs.length) none

/-- the context of a def's body, at its entry; an exception leaves the frame, then lies as CX says -/
def cxOf (CX : CXT) (P : Program) (w : World) (K : PySem.W.Frag) (mg : Str → Option Value) (base : Heap) (N : List Str) (qual : Str) (scope : Scope) (f : Addr) (cd : Value) (A : Around) (outer : List Env) (s : Shared) (H : Hp) (E : XK) : Cx where
  prog := P
  w := w
  K := K
  mg := mg
  base := base
  A := A.deeper (envOfC qual scope s.heap.objs.size f cd)
  N := N
  s₀ := s
  H₀ := H
  env := envOfC qual scope s.heap.objs.size f cd
  outer := outer
  stack := envOfC qual scope s.heap.objs.size f cd :: outer
  ex := []
  calm := true
  fn := fun _ => true
  pn := []
  xe := fun e s' => wpAny (model P w) (A.deeper (envOfC qual scope s.heap.objs.size f cd)) (leaving (envOfC qual scope s.heap.objs.size f cd) e) (fun _ s'' => CX outer H s E e s'') (fun e' s'' => CX outer H s E e' s'') s'

theorem cell_has {sc : Scope} {n : Nat} {x : Str} (h : sc.names.lookup x = some .cell) : ∃ c, (cellsFrom n sc.names []).lookup x = some c := by
  have q := PySem.W.cellsFrom_some sc.names n [] (.inl h)
  exact Option.isSome_iff_exists.mp q

theorem inv_start {CX : CXT} {P : Program} {w : World} {K : PySem.W.Frag} {mg : Str → Option Value} {base : Heap} {N ps : List Str} {qual : Str} {scope : Scope} {f : Addr} {cd : Value} {A : Around} {outer : List Env} {s s1 : Shared} {H : Hp} {E : XK} {us : List Value} {vs : List V}
    (S : FnScope N ps scope) (hd : A.handled = none) (e0 : Env0 P w K mg base A outer s H) (hl : vs.length = ps.length) (r : Vals vs us)
    (x : InCallC s s.heap.objs.size (bindL (envOfC qual scope s.heap.objs.size f cd).kindOf (ps.zip us) fun _ => none) (cellsFrom (s.heap.objs.size + 1) scope.names []) (bindC (envOfC qual scope s.heap.objs.size f cd).kindOf (ps.zip us) fun _ => none) s1) :
    Inv (cxOf CX P w K mg base N qual scope f cd A outer s H E) [] (start N vs) H s1 := by
  have hpl : ps.length ≤ N.length := by have := congrArg List.length S.pre; rw [List.length_take] at this; omega
  obtain ⟨h1, tk, rfl, hk⟩ := x.done
  have noA : ∀ b : Addr, b ∉ (cxOf CX P w K mg base N qual scope f cd A outer s H E).ex := fun b z => absurd (show b ∈ ([] : List Addr) from z) (by simp)
  refine ⟨⟨e0.mod, S.kind, rfl, rfl, Nat.le_refl _, fun y z c h1 h2 => ?_, fun y hy => ?_, fun y c _ h => ?_, fun _ => hd, Around.frames_deeper e0.frames, .inr ⟨rfl, rfl⟩, fun b z => absurd z (noA b), e0.bs, e0.bsz, fun b _ _ => noA b, fun b z => absurd z (noA b), e0.funs, e0.frf⟩,
    rfl, e0.bare, Un.kept hk, ⟨_, x.toInCall.ns, fun i y v h1 h2 h3 => ?_⟩, fun y c h => ⟨_, x.cell y c h⟩, e0.hok.fresh (Nat.le_refl _), fun y c h => ?_, fun p hp => absurd (show p ∈ ([] : List (Addr × Obj)) from hp) (by simp), e0.hok.kept hk, ?_⟩
  · exact name_of_addr x.apart (PySem.mem_of_lookup h1) (PySem.mem_of_lookup h2)
  · have hy : scope.names.lookup y = some .cell ∨ scope.names.lookup y = some .free := hy
    rcases hy with hy | hy
    · exact cell_has hy
    · exact absurd rfl (S.nofree _ (PySem.mem_of_lookup hy))
  · exact Nat.le_of_lt (x.above y c (PySem.mem_of_lookup h))
  · have hi : i < vs.length := by
      unfold start at h2
      by_cases hi : i < vs.length
      · exact hi
      · rw [List.getElem?_append_right (by simpa using hi)] at h2
        rw [List.getElem?_replicate] at h2
        split at h2 <;> cases h2
    have ha : vs[i]? = some v := by
      unfold start at h2
      rw [List.getElem?_append_left (by simpa using hi), List.getElem?_map] at h2
      cases e : vs[i]? with
      | none => rw [e] at h2; cases h2
      | some a => rw [e] at h2; cases h2; rfl
    obtain ⟨u, hu, rv⟩ := r.get ha
    have hp : ps[i]? = some y := by
      rw [← S.pre, List.getElem?_take_of_lt (by omega)]; exact h1
    have ndP : ps.Nodup := by rw [← S.pre]; exact S.nd.sublist (List.take_sublist _ _)
    refine ⟨u, rv, ?_⟩
    rcases S.par y (List.mem_of_getElem? hp) with k | k
    · exact .inl ⟨k, bindL_get ndP hp hu k⟩
    · obtain ⟨c, e⟩ := cell_has (n := s.heap.objs.size + 1) k
      refine .inr ⟨.inl k, c, e, ?_⟩
      have q := x.cell y c e
      rw [bindC_get ndP hp hu (by show scope.names.lookup y ≠ _; rw [k]; decide)] at q
      exact q
  · exact e0.hok.fresh (Nat.le_of_lt (x.above y c (PySem.mem_of_lookup h)))
  · unfold start
    show _ = N.length
    rw [List.length_append, List.length_map, List.length_replicate]
    omega

/-- THE RULE: a def (or a method) of the text, by its body. The body's reading t is chosen for each entry; it is run at the parameters' values -/
theorem fn_of {CX : CXT} {P : Program} {w : World} {K : PySem.W.Frag} {mg : Str → Option Value} {base : Heap} {k : Nat} {f : Addr} {name qual : Str} {params : Arguments} {body : List Stmt} {scope : Scope} {dV kV doc pm cdv ct oc : Value} {an od : Option Addr}
    {osl : Array (Option Value)} {N ps : List Str} {sp : Sp} (lk : K.lookup f = some ⟨oc, od, .func (PySem.W.fnOf name qual params body scope dV kV doc pm an cdv ct), osl⟩) (hcd : PySem.W.codeIn K cdv qual = true) (S : FnScope N ps scope)
    (len : ∀ vs H Q E, sp vs H Q E → vs.length = ps.length)
    (hbody : ∀ (A : Around) (outer : List Env) (s : Shared) (H : Hp) (vs : List V) (Q : VK) (E : XK), Room k (A.deeper (envOfC qual scope s.heap.objs.size f cdv)) → sp vs H Q E →
      ∃ t, PSs (cxOf CX P w K mg base N qual scope f cdv A outer s H E) body t ∧ t { nx := fun _ H' => Q .non H', rt := Q } (start N vs) H) :
    FnOk P w K mg base CX (k + 1) f (PySem.W.fnOf name qual params body scope dV kV doc pm an cdv ct) ps sp := by
  refine ⟨len, fun A outer s H args us vs Q E hr e0 hb r hsp => ?_⟩
  have hl := len _ _ _ _ hsp
  have KX : K.In s.heap := e0.mod.kin.keeps fun b o e => (e0.bs b o e).1
  have lim : s.heap.NoLimit := e0.mod.nolimit.keeps fun b o e => (e0.bs b o e).1
  have hkind : ∀ y ∈ ps.zip us, scope.names.lookup y.1 = some .local ∨ (scope.names.lookup y.1 = some .cell ∧ ((cellsFrom (s.heap.objs.size + 1) scope.names []).lookup y.1).isSome = true) := fun ⟨n, v⟩ hy => by
    rcases S.par n (List.of_mem_zip hy).1 with q | q
    · exact .inl q
    · exact .inr ⟨q, PySem.W.cellsFrom_some _ _ _ (.inl q)⟩
  refine codeAny_call_function hr.depth (KX _ _ lk) rfl S.co S.gen rfl (PySem.W.codeRec_of KX hcd) (hb _ _ _ _ ?_)
  refine wpAny_newFunctionEnv_cells S.kind hkind fun env he s1 x => ?_
  subst he
  refine ⟨lim.keeps x.toInCall.keep, codeAny_func ?_⟩
  obtain ⟨t, ht, hq⟩ := hbody A outer s H vs Q E (hr.deeper _) hsp
  have I : Inv (cxOf CX P w K mg base N qual scope f cdv A outer s H E) [] (start N vs) H s1 := inv_start S hr.hd e0 hl r x
  refine wpAny_mono (ht [] s1 (start N vs) H _ I hq) (fun fl s' hs => ?_) fun e s' hs => hs
  have fin : ∀ {σ' : St} {H' : Hp} {v : V} {u : Value}, Inv (cxOf CX P w K mg base N qual scope f cdv A outer s H E) [] σ' H' s' → RelV v u → Q v H' → CE outer P w H s Q u s' :=
    fun {σ' H' v u} J rv q => ⟨v, H', J.os, J.bare, J.base, J.hok, rv, q⟩
  cases fl with
  | ret u =>
    obtain ⟨v, σ', H', J, rv, q⟩ := hs
    exact fin J rv q
  | next =>
    obtain ⟨σ', H', J, q⟩ := hs
    exact fin (v := V.non) (u := Value.none) J rfl q
  | brk =>
    obtain ⟨_, _, _, q⟩ := hs
    exact False.elim q
  | cont =>
    obtain ⟨_, _, _, q⟩ := hs
    exact False.elim q
end L2

namespace L2
open PySem PySem.Spec PyProof.Rows
section
variable {X : Cx} {x : Str} {p pos : Pos} {e : Expr} {es : List Expr} {t : TA} {id T : String} {r : List V → Hp → VK → Prop}

def tCB (r : List V → Hp → VK → Prop) (t : TA) : TE := fun σ H Q => t σ H fun vs H1 => r vs H1 Q
/-- f(e, ..), f a built-in function -/
theorem pe_callB (hc : CallR X (.builtin id) r) (hg : Gl X x) (hm : X.mg x = none) (hv : bootBuiltins x = some (.builtin id)) (ha : PA X (e :: es) t) (hn : x ≠ "__name__" := by decide) (hdb : (x == ("__debug__" : Str)) = false := by decide)
    (he : starEach (e :: es) X.env = (false, eval e X.env) :: starEach es X.env := by rfl) (hpl : (backTo pos (starEach es X.env)).any (·.1) = false := by rfl) : PE X (.Call (.Name x p) (e :: es) [] pos) (tCB r t) := by
  intro pins s σ H Q I h
  refine wpAny_Call_Name_kw (ld_blt I hg hm hv ?_ hn hdb)
  exact PyProof.Rows.callWith_builtin1 (thn (ha pos pins s σ H _ I h) fun us s1 ⟨vs, H1, I1, r1, q1⟩ => hc pins s1 σ H1 vs us Q I1 r1 q1) he hpl
/-- T(e, ..), T a built-in type -/
theorem pe_callTy (hc : CallR X (.type T) r) (hg : Gl X x) (hm : X.mg x = none) (hv : bootBuiltins x = some (.type T)) (ha : PA X (e :: es) t) (hn : x ≠ "__name__" := by decide) (hdb : (x == ("__debug__" : Str)) = false := by decide)
    (he : starEach (e :: es) X.env = (false, eval e X.env) :: starEach es X.env := by rfl) (hpl : (backTo pos (starEach es X.env)).any (·.1) = false := by rfl) : PE X (.Call (.Name x p) (e :: es) [] pos) (tCB r t) := by
  intro pins s σ H Q I h
  refine wpAny_Call_Name_kw (ld_blt I hg hm hv ?_ hn hdb)
  exact PyProof.Rows.callWith_type1 (thn (ha pos pins s σ H _ I h) fun us s1 ⟨vs, H1, I1, r1, q1⟩ => hc pins s1 σ H1 vs us Q I1 r1 q1) he hpl
end
end L2

namespace HT
open PySem PyProof.Rows

section
open PySem.SeqAt
open PySem.AutoSeq1 (wpAny_loadPart')
open PySem.MeetsSeq PySem.MeetsSeq2 PySem.MeetsSeq3

end

section
variable {prog : Program} {w : World} {A : Around} {E : Value → Shared → Prop} {s : Shared}

/-- t + u, t not empty -/
theorem cat_tup {t b : Addr} {vs ws : List Value} {Q : Value → Shared → Prop} (ht : IsTup s.heap t vs.toArray) (hb : IsTup s.heap b ws.toArray) (hv : vs ≠ [])
    (h1 : ws = [] → Q (.ref t) s) (h2 : ws ≠ [] → Q (.ref s.heap.objs.size) { s with heap := s.heap.push { cls := .type "tuple", data := .seq (vs ++ ws).toArray } })
    (hsz : vs.length + ws.length ≤ sizeLine) : wpAny (model prog w) A (binaryOp .Add (.ref t) (.ref b)) Q E s := by
  obtain ⟨⟨cls, dd, data, sl⟩, ho, hc, n, hd⟩ := id ht
  obtain ⟨⟨cls2, dd2, data2, sl2⟩, ho2, hc2, n2, hd2⟩ := id hb
  simp only at hc hd hc2 hd2
  subst hc hd hc2 hd2
  have e : vs.toArray ++ ws.toArray = (vs ++ ws).toArray := by simp
  by_cases hw : ws = []
  · exact concat_meets ⟨_, ho, rfl⟩ ⟨_, ho2, rfl⟩ noFill_tuple_add seq_tuple_add PySem.F.slot_tuple_add PySem.F.entry_tuple_add (PySem.F.args_tuple_add_2 _ _)
      (tuple_addW1 t b vs.toArray ws.toArray n n2 dd dd2 sl sl2 (by simpa using hv) (by simp [hw])) ⟨ho, ho2, h1 hw⟩
  · refine concat_meets ⟨_, ho, rfl⟩ ⟨_, ho2, rfl⟩ noFill_tuple_add seq_tuple_add PySem.F.slot_tuple_add PySem.F.entry_tuple_add (PySem.F.args_tuple_add_2 _ _)
      (tuple_addW2 t b vs.toArray ws.toArray n n2 dd dd2 sl sl2 (by simpa using hv) (by simpa using hw) (by rw [List.size_toArray, List.size_toArray]; exact hsz)) ⟨ho, ho2, ?_⟩
    rw [e]
    exact h2 hw

/-! ### t[a:b], not the whole -/
/-- a slice's bound as a place among n (d where it is left out) -/
def sIx (n d : Nat) : Option Int → Nat
  | none => d
  | some v => if v < 0 then (v + (n : Int)).toNat else min v.toNat n
theorem sIx_none (n d : Nat) : sIx n d none = d := rfl
theorem sIx_nat (n d k : Nat) : sIx n d (some (k : Int)) = min k n := by
  show (if (k : Int) < 0 then ((k : Int) + (n : Int)).toNat else min (k : Int).toNat n) = min k n
  rw [if_neg (by omega), Int.toNat_natCast]
end
end HT

namespace L2
open PySem PySem.Spec PyProof.Rows

/-! ### the parts of a slice -/
abbrev TO := St → Hp → (Option Int → Hp → Prop) → Prop
/-- a slice's part (left out, or an int) -/
def PO (X : Cx) (e : Option Expr) (t : TO) : Prop :=
  ∀ (pins : List (Addr × Obj)) (s : Shared) (σ : St) (H : Hp) (Q : Option Int → Hp → Prop), Inv X pins σ H s → t σ H Q →
    wpAny (model X.prog X.w) X.A (evalPart e X.env) (fun u s' => ∃ o H', Inv X pins σ H' s' ∧ IsPart u o ∧ Q o H') X.xe s
def tNoPart : TO := fun _ H Q => Q none H
def tPart (t : TE) : TO := fun σ H Q => t σ H fun x H1 => ∃ i, x = .int i ∧ Q (some i) H1

theorem intsAre_of {ns : List Int} : ∀ {us : List Value}, Vals (ns.map V.int) us → IntsAre us ns := by
  induction ns with
  | nil => intro us r; rw [List.map_nil] at r; cases r; exact .nil
  | cons n ns ih =>
    intro us r
    rw [List.map_cons] at r
    cases r with
    | cons r1 r2 =>
      obtain ⟨t, e⟩ := r1
      subst e
      exact .cons n t (ih r2)

section
variable {X : Cx} {e : Expr} {te : TE} {lo hi : Option Expr} {tl th : TO} {pos p2 : Pos}

theorem po_none : PO X none tNoPart := by
  intro pins s σ H Q I h
  rw [evalPart_none]
  exact wpAny_pure ⟨none, H, I, .none, h⟩
theorem po_some (h : PE X e te) : PO X (some e) (tPart te) := by
  intro pins s σ H Q I hw
  rw [evalPart_some]
  refine thn (h pins s σ H _ I hw) fun u s1 ⟨x, H1, I1, r1, q1⟩ => ?_
  obtain ⟨i, rfl, q⟩ := q1
  obtain ⟨t, rfl⟩ := r1
  exact ⟨some i, H1, I1, .int i t, q⟩

/-- what a slice of a value is, by values: the slice object stands at sl -/
def SlR (X : Cx) (r : V → Option Int → Option Int → Hp → VK → Prop) : Prop :=
  ∀ (pins : List (Addr × Obj)) (s : Shared) (σ : St) (H : Hp) (x : V) (v vl vu : Value) (lo hi : Option Int) (sl : Addr) (Q : VK), Inv X pins σ H s → RelV x v → s.heap.IsSliceOf sl vl vu .none → IsPart vl lo → IsPart vu hi → r x lo hi H Q →
    ∃ T id, typeLookup (.type T) "__getitem__" = pure (some (.builtin id)) ∧ s.TypeIs v T ∧ wpAny (model X.prog X.w) X.A (getItem v (.ref sl)) (EP X pins σ Q) X.xe s
def tSl (r : V → Option Int → Option Int → Hp → VK → Prop) (te : TE) (tl th : TO) : TE := fun σ H Q => te σ H fun x H1 => tl σ H1 fun l H2 => th σ H2 fun u H3 => r x l u H3 Q
/-- a[lo:hi], any a -/
theorem pe_slice {r : V → Option Int → Option Int → Hp → VK → Prop} (hr : SlR X r) (he : PE X e te) (hl : PO X lo tl) (hu : PO X hi th) : PE X (.Subscript e (.Slice lo hi none p2) pos) (tSl r te tl th) := by
  intro pins s σ H Q I h
  refine Subscript_ (thn (he pins s σ H _ I h) fun v s1 ⟨x, H1, I1, r1, q1⟩ => ?_)
  refine wpAny_Slice (thn (hl pins s1 σ H1 _ I1 q1) fun vl s2 ⟨l, H2, I2, pl, q2⟩ => thn (hu pins s2 σ H2 _ I2 q2) fun vu s3 ⟨u, H3, I3, pu, q3⟩ => ?_)
  rw [evalPart_none]
  refine wpAny_pure ?_
  have I4 : Inv X pins σ H3 { s3 with heap := s3.heap.push { cls := .type "slice", data := .fields #[vl, vu, .none] } } := I3.kept (t' := s3.toks) fun b ob q => Heap.get?_push_of_some _ q
  obtain ⟨T, id, hT, ht, hg⟩ := hr pins { s3 with heap := s3.heap.push { cls := .type "slice", data := .fields #[vl, vu, .none] } } σ H3 x v vl vu l u s3.heap.objs.size Q I4 r1 (Heap.IsSliceOf.new ..) pl pu q3
  show wpAny (model X.prog X.w) X.A (subscriptTail e (.Slice lo hi none p2) v (.ref s3.heap.objs.size)) (EP X pins σ Q) X.xe { s3 with heap := s3.heap.push { cls := .type "slice", data := .fields #[vl, vu, .none] } }
  exact tail_any (ops := [.ref s3.heap.objs.size, v]) ht hT hg (by with_unfolding_all rfl)

/-- the items of xs[lo:hi] -/
def cutV (xs : List V) (lo hi : Option Int) : List V := (xs.drop (HT.sIx xs.length 0 lo)).take (HT.sIx xs.length xs.length hi - HT.sIx xs.length 0 lo)
theorem cutV_length (xs : List V) (lo hi : Option Int) : (cutV xs lo hi).length ≤ xs.length := by
  unfold cutV
  rw [List.length_take, List.length_drop]
  omega
/-! ### t < u, t + u -/
/-- t + u, t not empty: u empty gives t itself -/
def rCatT (K : PySem.W.Frag) : R2 := fun x y H Q => ∃ a b xs ys, x = .ref a ∧ y = .ref b ∧ SqT K H a xs ∧ SqT K H b ys ∧ xs ≠ [] ∧ xs.length + ys.length ≤ sizeLine ∧
  (ys = [] → Q (.ref a) H) ∧ (ys ≠ [] → ∀ p, H p = none → Q (.ref p) (upd H p (.tup (xs ++ ys))))
theorem Vals.nil_iff {xs : List V} {us : List Value} (r : Vals xs us) : us = [] ↔ xs = [] := by
  cases r with
  | nil => simp
  | cons _ _ => simp
theorem op_catT : OpR X (binaryOp .Add) (rCatT X.K) := by
  intro pins s σ H x y v u Q I rx ry h
  obtain ⟨a, b, xs, ys, rfl, rfl, ha, hb, hx, hz, q1, q2⟩ := h
  cases rx
  cases ry
  obtain ⟨its, r1, p1, _⟩ := I.tuple ha
  obtain ⟨its2, r2, p2, _⟩ := I.tuple hb
  refine HT.cat_tup p1 p2 (fun z => hx (r1.nil_iff.mp z)) (fun z => ⟨.ref a, H, I, rfl, q1 (r2.nil_iff.mp z)⟩) (fun z => ?_) (by rw [← r1.length, ← r2.length]; exact hz)
  refine ⟨.ref s.heap.objs.size, _, I.laid (t' := s.toks) (o := .tup (xs ++ ys)) (fun b ob q => Heap.get?_push_of_some _ q) (Nat.le_refl _) ?_, rfl, q2 (fun w => z (r2.nil_iff.mpr w)) _ (I.hok.fresh (Nat.le_refl _))⟩
  exact ⟨by rw [List.length_append]; exact hz, _, r1.append r2, IsTup.new _ _⟩
end
end L2

namespace L2
open PySem PySem.Spec PyProof.Rows

/-! ### places -/
/-- the place that an index of any sign means -/
def ixN (n : Nat) (i : Int) : Option Nat := if 0 ≤ i then (if i < n then some i.toNat else none) else if -(n : Int) ≤ i then some (i + n).toNat else none
def atI {α : Type} (xs : List α) (i : Int) : Option α := (ixN xs.length i).bind fun j => xs[j]?
theorem ixN_seq {n : Nat} {i : Int} {j : Nat} (h : ixN n i = some j) : seqIndex? i n = some j ∧ j < n ∧ -(n : Int) ≤ i ∧ i < n := by
  unfold ixN at h
  by_cases h0 : 0 ≤ i
  · rw [if_pos h0] at h
    by_cases h1 : i < n
    · rw [if_pos h1] at h
      have e : i.toNat = j := Option.some.inj h
      exact ⟨by rw [seqIndex_of h0 h1, e], by omega, by omega, h1⟩
    · rw [if_neg h1] at h; cases h
  · rw [if_neg h0] at h
    by_cases h1 : -(n : Int) ≤ i
    · rw [if_pos h1] at h
      have e : (i + n).toNat = j := Option.some.inj h
      exact ⟨by rw [seqIndex_neg (by omega) h1, e], by omega, h1, by omega⟩
    · rw [if_neg h1] at h; cases h
theorem atI_get {α : Type} {xs : List α} {i : Int} {v : α} (h : atI xs i = some v) : ∃ j, seqIndex? i xs.length = some j ∧ xs[j]? = some v ∧ j < xs.length ∧ -(xs.length : Int) ≤ i ∧ i < xs.length := by
  unfold atI at h
  cases e : ixN xs.length i with
  | none => rw [e] at h; cases h
  | some j =>
    rw [e] at h
    obtain ⟨h1, h2, h3, h4⟩ := ixN_seq e
    exact ⟨j, h1, h, h2, h3, h4⟩
theorem atI_nat {α : Type} {xs : List α} {j : Nat} {v : α} (h : xs[j]? = some v) : atI xs (j : Int) = some v := by
  have hj : j < xs.length := (List.getElem?_eq_some_iff.mp h).1
  have e : ixN xs.length (j : Int) = some j := by
    unfold ixN
    rw [if_pos (by omega), if_pos (by omega)]; simp
  unfold atI; rw [e]; exact h
/-! ### what may be subscripted -/
/-- what stands as an index of a plain subscript -/
def PlainIx (b : Expr) : Prop := ∀ o i, subscripted b false o i = operate [o, i] (getItem o i)
/-- a subscript by values -/
def IxR (X : Cx) (r : R2) : Prop :=
  ∀ (value slice : Expr) (pins : List (Addr × Obj)) (s : Shared) (σ : St) (H : Hp) (x y : V) (v u : Value) (Q : VK), Inv X pins σ H s → RelV x v → RelV y u → r x y H Q →
    subscripted slice false v u = operate [v, u] (getItem v u) → wpAny (model X.prog X.w) X.A (subscriptTail value slice v u) (EP X pins σ Q) X.xe s
/-- a call of a builtin's method by values: the receiver, the arguments -/
def MtR (X : Cx) (id : String) (r : V → List V → Hp → VK → Prop) : Prop :=
  ∀ (pins : List (Addr × Obj)) (s : Shared) (σ : St) (H : Hp) (x : V) (xs : List V) (v : Value) (us : List Value) (Q : VK), Inv X pins σ H s → RelV x v → Vals xs us → r x xs H Q →
    wpAny (model X.prog X.w) X.A (call (.builtin id) (v :: us)) (EP X pins σ Q) X.xe s
section
variable {X : Cx} {a b : Expr} {ta tb : TE} {pos : Pos}
theorem IxR.or {r r' : R2} (h : IxR X r) (h' : IxR X r') : IxR X (fun x y H Q => r x y H Q ∨ r' x y H Q) := by
  intro value slice pins s σ H x y v u Q I rx ry q hs
  rcases q with q | q
  · exact h value slice pins s σ H x y v u Q I rx ry q hs
  · exact h' value slice pins s σ H x y v u Q I rx ry q hs
/-- a[b] -/
theorem pe_ix {r : R2} (hr : IxR X r) (ha : PE X a ta) (hb : PE X b tb) (hs : PlainIx b) : PE X (.Subscript a b pos) (tOp r ta tb) := by
  intro pins s σ H Q I h
  exact Subscript_ (binT ha hb I h fun v u s2 x y H2 I2 rx ry q => hr a b pins s2 σ H2 x y v u Q I2 rx ry q (hs _ _))

def rIxL (K : PySem.W.Frag) : R2 := fun x y H Q => ∃ p xs i v, x = .ref p ∧ y = .int i ∧ SqL K H p xs ∧ atI xs i = some v ∧ Q v H
def rIxT (K : PySem.W.Frag) : R2 := fun x y H Q => ∃ p xs i v, x = .ref p ∧ y = .int i ∧ SqT K H p xs ∧ atI xs i = some v ∧ Q v H
theorem ix_list : IxR X (rIxL X.K) := by
  intro value slice pins s σ H x y v u Q I rx ry h hs
  obtain ⟨p, xs, i, z, rfl, rfl, hq, he, q⟩ := h
  cases rx
  obtain ⟨t, rfl⟩ := ry
  obtain ⟨its, r, pl, hz⟩ := I.list hq
  obtain ⟨j, h1, h2, h3, h4, h5⟩ := atI_get he
  obtain ⟨w, ew, rw'⟩ := r.get h2
  have hl := r.length
  have hn := line63
  have fin : EP X pins σ Q w s := ⟨z, H, I, rw', q⟩
  by_cases h0 : 0 ≤ i
  · have hj : i.toNat = j := by
      rw [seqIndex_of h0 h5] at h1
      exact Option.some.inj h1
    exact item_listR pl.isList h0 (by omega) (by rw [hj]; simpa using ew) fin hs
  · have hj : (i + (its.toArray.size : Int)).toNat = j := by
      rw [seqIndex_neg (by omega) h4] at h1
      rw [List.size_toArray, ← hl]
      exact Option.some.inj h1
    exact subscriptTail_builtinR (x := w) pl.isList.typeIs slot_list_getitem.lookup
      (wpAny_getItem_list_neg (Q := fun r s' => r = w ∧ EP X pins σ Q r s') pl.isList (by omega) (by rw [List.size_toArray] <;> omega) (by omega) (by rw [hj]; simpa using ew) ⟨rfl, fin⟩) hs
theorem ix_tup : IxR X (rIxT X.K) := by
  intro value slice pins s σ H x y v u Q I rx ry h hs
  obtain ⟨p, xs, i, z, rfl, rfl, hq, he, q⟩ := h
  cases rx
  obtain ⟨t, rfl⟩ := ry
  obtain ⟨its, r, pl, hz⟩ := I.tuple hq
  obtain ⟨j, h1, h2, h3, h4, h5⟩ := atI_get he
  obtain ⟨w, ew, rw'⟩ := r.get h2
  have hl := r.length
  have hn := line63
  have fin : EP X pins σ Q w s := ⟨z, H, I, rw', q⟩
  exact subscriptTail_builtinR (x := w) pl.typeIs slot_tuple_getitem.lookup
    (getItem_tuple (j := j) (Q := fun r s' => r = w ∧ EP X pins σ Q r s') pl (by omega) (by omega) (by rw [List.size_toArray, ← hl]; exact h1) (by simpa using ew) ⟨rfl, fin⟩) hs
/-! ### xs[i] = v, any sign -/
/-- the list's object behind a store -/
theorem mapSeq_set (its : List Value) (n j : Nat) (u : Value) : Obj.mapSeq (·.setIfInBounds j u) { cls := .type "list", data := .seq its.toArray n } = { cls := .type "list", data := .seq (its.set j u).toArray n } := by
  simp [Obj.mapSeq]
theorem Inv.lst {pins : List (Addr × Obj)} {σ : St} {H : Hp} {s : Shared} {p : Addr} {xs : List V} (I : Inv X pins σ H s) (h : H p = some (.lst xs)) :
    ∃ (its : List Value) (n : Nat), Vals xs its ∧ s.heap.get? p = some { cls := .type "list", data := .seq its.toArray n } ∧ xs.length ≤ sizeLine := by
  obtain ⟨z, its, n, r, e⟩ := I.hok p _ h
  exact ⟨its, n, r, e, z⟩
/-- the list at p is written by an update of its object -/
theorem Inv.lstUpd {pins : List (Addr × Obj)} {σ : St} {H : Hp} {s : Shared} {p : Addr} {xs ys : List V} {its its' : List Value} {n n' : Nat} {f : Obj → Obj} (I : Inv X pins σ H s) (h : H p = some (.lst xs))
    (ho : s.heap.get? p = some { cls := .type "list", data := .seq its.toArray n }) (hf : f { cls := .type "list", data := .seq its.toArray n } = { cls := .type "list", data := .seq its'.toArray n' }) (r : Vals ys its') (hz : ys.length ≤ sizeLine) (t : Nat) :
    Inv X pins σ (upd H p (.lst ys)) { s with heap := s.heap.update p f, toks := t } := by
  have e : (s.heap.update p f).get? p = some { cls := .type "list", data := .seq its'.toArray n' } := by
    rw [Heap.get?_update_self f ho (by rw [hf] <;> rfl), hf]
  refine I.write (x := p) (e := p) (by rw [h]; trivial) (.inl rfl) (fun b u hb q => (Heap.get?_update_other _ _ (Ne.symm hb)).trans q) ⟨_, e⟩ ?_
  exact ⟨hz, its', n', r, e⟩
def rSetL : V → V → V → Hp → (Hp → Prop) → Prop := fun o i v H Q => ∃ p xs k j, o = .ref p ∧ i = .int k ∧ H p = some (.lst xs) ∧ ixN xs.length k = some j ∧ Q (upd H p (.lst (xs.set j v)))
theorem set_list : PSet X rSetL := by
  intro pins s σ H o i v ov iv u Q I ro ri rv h
  obtain ⟨p, xs, k, j, rfl, rfl, hp, hj, q⟩ := h
  cases ro
  obtain ⟨t, rfl⟩ := ri
  obtain ⟨its, n, r, ho, hz⟩ := I.lst hp
  obtain ⟨h1, h2, h3, h4⟩ := ixN_seq hj
  have hl := r.length
  have hn := line63
  have I' : Inv X pins σ (upd H p (.lst (xs.set j v))) { s with heap := s.heap.update p (Obj.mapSeq (·.setIfInBounds j u)) } :=
    I.lstUpd hp ho (mapSeq_set its n j u) (r.set rv j) (by rw [List.length_set]; exact hz) s.toks
  by_cases h0 : 0 ≤ k
  · have hk : k.toNat = j := by
      rw [seqIndex_of h0 h4] at h1
      exact Option.some.inj h1
    exact PySem.W.ki_setAt ho h0 (by omega) (by rw [List.size_toArray, ← hl]; exact h4) (by rw [hk]; exact ⟨_, I', q⟩)
  · have hk : (k + (its.toArray.size : Int)).toNat = j := by
      rw [seqIndex_neg (by omega) h3] at h1
      rw [List.size_toArray, ← hl]
      exact Option.some.inj h1
    exact PySem.W.ki_setBack ho (by omega) (by rw [List.size_toArray, ← hl]; exact h3) (by omega) (by rw [hk]; exact ⟨_, I', q⟩)

/-! ### slices -/
theorem slice_bounds (lo hi : Option Int) (n : Nat) : (sliceBounds lo hi none n).1 = ((HT.sIx n 0 lo : Nat) : Int) ∧ (sliceBounds lo hi none n).2.1 = ((HT.sIx n n hi : Nat) : Int) ∧ (sliceBounds lo hi none n).2.2 = 1 := by
  refine ⟨?_, ?_, rfl⟩
  · cases lo with
    | none => simp [sliceBounds, HT.sIx]
    | some i =>
      simp only [sliceBounds, HT.sIx, Option.getD_none, show (1 : Int) > 0 by decide, if_true]
      by_cases h : i < 0
      · simp only [h, if_true] <;> omega
      · simp only [h, if_false] <;> omega
  · cases hi with
    | none => simp [sliceBounds, HT.sIx]
    | some i =>
      simp only [sliceBounds, HT.sIx, Option.getD_none, show (1 : Int) > 0 by decide, if_true]
      by_cases h : i < 0
      · simp only [h, if_true] <;> omega
      · simp only [h, if_false] <;> omega
theorem slicePick_cut (its : List Value) (lo hi : Option Int) : slicePick its.toArray lo hi none = ((its.drop (HT.sIx its.length 0 lo)).take (HT.sIx its.length its.length hi - HT.sIx its.length 0 lo)).toArray := by
  obtain ⟨h1, h2, h3⟩ := slice_bounds lo hi its.toArray.size
  unfold slicePick
  rw [h1, h2, h3]
  simp only [sliceRange_one, pick_run, List.size_toArray] <;> rfl
/-- xs[lo:hi] of a list: a new list -/
def rSlL (K : PySem.W.Frag) : V → Option Int → Option Int → Hp → VK → Prop := fun x lo hi H Q => ∃ a xs, x = .ref a ∧ SqL K H a xs ∧ ∀ p, H p = none → Q (.ref p) (upd H p (.lst (cutV xs lo hi)))
theorem sl_list : SlR X (rSlL X.K) := by
  intro pins s σ H x v vl vu lo hi sl Q I rx hs pl pu h
  obtain ⟨a, xs, rfl, hx, q⟩ := h
  cases rx
  obtain ⟨its, r, ht, hz⟩ := I.list hx
  have hlen := r.length
  refine ⟨"list", _, slot_list_getitem.lookup, ht.isList.typeIs, ?_⟩
  refine wpAny_getItem_list_slice ht.isList hs pl pu .none (by simp) ?_ (by rw [List.size_toArray] <;> omega)
  rw [slicePick_cut, ← hlen]
  refine ⟨.ref s.heap.objs.size, _, I.laid (t' := s.toks) (o := .lst (cutV xs lo hi)) (fun b ob q => Heap.get?_push_of_some _ q) (Nat.le_refl _) ?_, rfl, q _ (I.hok.fresh (Nat.le_refl _))⟩
  exact ⟨Nat.le_trans (cutV_length xs lo hi) hz, _, 0, (r.drop (HT.sIx xs.length 0 lo)).take (HT.sIx xs.length xs.length hi - HT.sIx xs.length 0 lo), Heap.get?_push_size _ rfl⟩

/-! ### in, not in: flat items -/
def flatV : V → Bool
  | .non => true
  | .bl _ => true
  | .int _ => true
  | .str _ => true
  | _ => false
/-- == of flat values -/
def eqV : V → V → Bool
  | .non, .non => true
  | .bl a, .bl b => a == b
  | .bl a, .int b => (if a then 1 else 0) == b
  | .int a, .bl b => a == (if b then 1 else 0)
  | .int a, .int b => a == b
  | .str a, .str b => a == b
  | _, _ => false
theorem eqAt_V {A : Around} {s : Shared} {y x : V} {u v : Value} (ry : RelV y u) (rx : RelV x v) (fy : flatV y = true) (fx : flatV x = true) : SeqAt.EqAt A s u v (eqV y x) := by
  cases y with
  | non =>
    cases ry
    cases x with
    | non => cases rx; exact SeqAt.EqAt.same _
    | bl b => cases rx; exact SeqAt.EqAt.none_bool b
    | int b => obtain ⟨t, rfl⟩ := rx; exact SeqAt.EqAt.none_int b t
    | str b => obtain ⟨t, rfl⟩ := rx; exact SeqAt.EqAt.none_str b t
    | _ => exact absurd (show false = true from fx) Bool.false_ne_true
  | bl a =>
    cases ry
    cases x with
    | non => cases rx; exact SeqAt.EqAt.bool_none a
    | bl b => cases rx; exact SeqAt.EqAt.bool_bool a b
    | int b => obtain ⟨t, rfl⟩ := rx; exact SeqAt.EqAt.bool_int a b t
    | str b => obtain ⟨t, rfl⟩ := rx; exact SeqAt.EqAt.bool_str a b t
    | _ => exact absurd (show false = true from fx) Bool.false_ne_true
  | int a =>
    obtain ⟨t', rfl⟩ := ry
    cases x with
    | non => cases rx; exact SeqAt.EqAt.int_none a t'
    | bl b => cases rx; exact SeqAt.EqAt.int_bool a t' b
    | int b => obtain ⟨t, rfl⟩ := rx; exact SeqAt.EqAt.int_int a t' b t
    | str b => obtain ⟨t, rfl⟩ := rx; exact SeqAt.EqAt.int_str a t' b t
    | _ => exact absurd (show false = true from fx) Bool.false_ne_true
  | str a =>
    obtain ⟨t', rfl⟩ := ry
    cases x with
    | non => cases rx; exact SeqAt.EqAt.str_none a t'
    | bl b => cases rx; exact SeqAt.EqAt.str_bool a t' b
    | int b => obtain ⟨t, rfl⟩ := rx; exact SeqAt.EqAt.str_int a t' b t
    | str b => obtain ⟨t, rfl⟩ := rx; exact SeqAt.EqAt.str_str a t' b t
    | _ => exact absurd (show false = true from fx) Bool.false_ne_true
  | _ => exact absurd (show false = true from fy) Bool.false_ne_true
/-- the items' answers, read off the values (a value's own answer does not lean on its token) -/
def eqU (x : V) (u : Value) : Bool := match u with
  | .none => eqV .non x
  | .bool b => eqV (.bl b) x
  | .int i _ => eqV (.int i) x
  | .str z _ => eqV (.str z) x
  | _ => false
theorem eqU_of {x y : V} {u : Value} (r : RelV y u) (f : flatV y = true) : eqU x u = eqV y x := by
  cases y with
  | non => cases r; rfl
  | bl b => cases r; rfl
  | int i => obtain ⟨t, rfl⟩ := r; rfl
  | str z => obtain ⟨t, rfl⟩ := r; rfl
  | _ => exact absurd (show false = true from f) Bool.false_ne_true
theorem any_eqU {x : V} : ∀ {xs : List V} {us : List Value}, Vals xs us → xs.all flatV = true → us.any (eqU x) = xs.any fun y => eqV y x
  | _, _, .nil, _ => rfl
  | y :: xs, u :: us, .cons r t, f => by
    rw [List.all_cons, Bool.and_eq_true] at f
    rw [List.any_cons, List.any_cons, eqU_of r f.1, any_eqU t f.2]
theorem mem_eqAt {A : Around} {s : Shared} {x : V} {v : Value} (rx : RelV x v) (fx : flatV x = true) : ∀ {xs : List V} {us : List Value}, Vals xs us → xs.all flatV = true → ∀ u ∈ us, SeqAt.EqAt A s u v (eqU x u)
  | _, _, .nil, _ => fun u hu => by cases hu
  | y :: xs, u :: us, .cons r t, f => fun u' hu => by
    rw [List.all_cons, Bool.and_eq_true] at f
    rcases List.mem_cons.mp hu with rfl | hu
    · rw [eqU_of r f.1]; exact eqAt_V r rx f.1 fx
    · exact mem_eqAt rx fx t f.2 u' hu
def inV (x : V) (xs : List V) : Bool := xs.any fun y => eqV y x
/-- x in a list or tuple of flat items -/
def rIn (K : PySem.W.Frag) (neg : Bool) : R2 := fun x y H Q => ∃ p xs, y = .ref p ∧ (SqL K H p xs ∨ SqT K H p xs) ∧ flatV x = true ∧ xs.all flatV = true ∧ Q (.bl (if neg then !inV x xs else inV x xs)) H
theorem op_in_seq : OpR X (compareOp .In) (rIn X.K false) := by
  intro pins s σ H x y v u Q I rx ry h
  obtain ⟨p, xs, rfl, hq, fx, fs, q⟩ := h
  cases ry
  rcases hq with hq | hq
  · obtain ⟨its, r, pl, hz⟩ := I.list hq
    refine SeqAt.in_listAt (eqU x) pl.isList (fun w hw => mem_eqAt rx fx r fs w (by simpa using hw)) ⟨.bl _, H, I, rfl, ?_⟩
    rw [show its.toArray.any (eqU x) = its.any (eqU x) by simp, any_eqU r fs]
    exact q
  · obtain ⟨its, r, pl, hz⟩ := I.tuple hq
    refine SeqAt.in_tupleAt (eqU x) pl (fun w hw => mem_eqAt rx fx r fs w (by simpa using hw)) ⟨.bl _, H, I, rfl, ?_⟩
    rw [show its.toArray.any (eqU x) = its.any (eqU x) by simp, any_eqU r fs]
    exact q
theorem op_notIn_seq : OpR X (compareOp .NotIn) (rIn X.K true) := by
  intro pins s σ H x y v u Q I rx ry h
  obtain ⟨p, xs, rfl, hq, fx, fs, q⟩ := h
  cases ry
  rcases hq with hq | hq
  · obtain ⟨its, r, pl, hz⟩ := I.list hq
    refine SeqAt.notIn_listAt (eqU x) pl.isList (fun w hw => mem_eqAt rx fx r fs w (by simpa using hw)) ⟨.bl _, H, I, rfl, ?_⟩
    rw [show its.toArray.any (eqU x) = its.any (eqU x) by simp, any_eqU r fs]
    exact q
  · obtain ⟨its, r, pl, hz⟩ := I.tuple hq
    refine SeqAt.notIn_tupleAt (eqU x) pl (fun w hw => mem_eqAt rx fx r fs w (by simpa using hw)) ⟨.bl _, H, I, rfl, ?_⟩
    rw [show its.toArray.any (eqU x) = its.any (eqU x) by simp, any_eqU r fs]
    exact q
/-! ### len, list(x), tuple(x) of any list or tuple that is read -/
theorem call_list_of : CallR X (.type "list") (fun xs H Q => ∃ p ys, xs = [.ref p] ∧ (SqL X.K H p ys ∨ SqT X.K H p ys) ∧ ∀ l, H l = none → Q (.ref l) (upd H l (.lst ys))) := by
  intro pins s σ H xs us Q I r h
  obtain ⟨p, ys, rfl, hq, q⟩ := h
  obtain ⟨u, rfl, rx⟩ := vals1 r
  cases rx
  have fin : ∀ (its : List Value), Vals ys its → ys.length ≤ sizeLine → ∀ (h' : Heap) (c' : Nat), (∀ b o', s.heap.get? b = some o' → h'.get? b = some o') →
      h'.get? s.heap.objs.size = some { cls := .type "list", dict := none, data := .seq its.toArray c', slots := #[] } → EP X pins σ Q (.ref s.heap.objs.size) { s with heap := h' } := fun its r' hz h' c' kp e =>
    ⟨.ref s.heap.objs.size, _, I.laid (t' := s.toks) kp (Nat.le_refl _) (show ObjOk X.prog X.w _ h' _ (.lst ys) from ⟨hz, its, c', r', e⟩), rfl, q _ (I.hok.fresh (Nat.le_refl _))⟩
  rcases hq with hq | hq
  · obtain ⟨its, r', pl, hz⟩ := I.list hq
    have hlen := r'.length
    obtain ⟨o, ho, hc, n, hd⟩ := pl.isList
    exact call_list_seq p (.inl rfl) ho hc hd (fun h' c' kp e => fin its r' hz h' c' kp e) (by simp only [List.size_toArray] <;> omega)
  · obtain ⟨its, r', pl, hz⟩ := I.tuple hq
    have hlen := r'.length
    obtain ⟨o, ho, hc, n, hd⟩ := pl
    exact call_list_seq p (.inr rfl) ho hc hd (fun h' c' kp e => fin its r' hz h' c' kp e) (by simp only [List.size_toArray] <;> omega)
theorem call_tuple_of : CallR X (.type "tuple") (fun xs H Q => ∃ p ys, xs = [.ref p] ∧ ((SqL X.K H p ys ∧ ∀ l, H l = none → Q (.ref l) (upd H l (.tup ys))) ∨ (SqT X.K H p ys ∧ Q (.ref p) H))) := by
  intro pins s σ H xs us Q I r h
  obtain ⟨p, ys, rfl, h⟩ := h
  obtain ⟨u, rfl, rx⟩ := vals1 r
  cases rx
  rcases h with ⟨hq, q⟩ | ⟨hq, q⟩
  · obtain ⟨its, r', pl, hz⟩ := I.list hq
    have hlen := r'.length
    refine call_tuple_list pl.isList (fun h' kp => ?_) (by simp only [List.size_toArray] <;> omega)
    have I1 : Inv X pins σ H { s with heap := h' } := I.kept (t' := s.toks) kp
    have I2 : Inv X pins σ (upd H h'.objs.size (.tup ys)) { s with heap := h'.push { cls := .type "tuple", data := .seq its.toArray } } :=
      I1.laid (t' := s.toks) (fun b o e => Heap.get?_push_of_some _ e) (Nat.le_refl _) (show ObjOk X.prog X.w _ _ _ (.tup ys) from ⟨hz, its, r', IsTup.new _ _⟩)
    exact ⟨.ref h'.objs.size, _, I2, rfl, q _ (I1.hok.fresh (Nat.le_refl _))⟩
  · obtain ⟨its, r', pl, hz⟩ := I.tuple hq
    exact call_tuple_same pl ⟨.ref p, H, I, rfl, q⟩

/-! ### the call of a builtin's method: o.m(..) -/
/-- the value is of that builtin type -/
def tyV (K : PySem.W.Frag) (T : String) (x : V) (H : Hp) : Prop := match x with
  | .str _ => T = "str"
  | .int _ => T = "int"
  | .ref p => (T = "list" ∧ ∃ xs, SqL K H p xs) ∨ (T = "tuple" ∧ ∃ o, K.lookup p = some o ∧ o.cls = .type "tuple" ∧ o.dict = none) ∨
      (T = "dict" ∧ ((∃ kvs, H p = some (.dK kvs)) ∨ ∃ kvs, H p = some (.dT kvs))) ∨ (T = "set" ∧ ∃ S n, H p = some (.set S n))
  | _ => False
theorem tyV_is {pins : List (Addr × Obj)} {σ : St} {H : Hp} {s : Shared} {T : String} {x : V} {v : Value} (I : Inv X pins σ H s) (r : RelV x v) (ty : tyV X.K T x H) :
    s.TypeIs v T ∧ ∀ a, v = .ref a → ∃ ob, s.heap.get? a = some ob ∧ ob.dict = none := by
  cases x with
  | str z =>
    obtain ⟨t, rfl⟩ := r
    cases (show T = "str" from ty)
    exact ⟨typeIs_str s z t, fun _ e => nomatch e⟩
  | int i =>
    obtain ⟨t, rfl⟩ := r
    cases (show T = "int" from ty)
    exact ⟨typeIs_int s i t, fun _ e => nomatch e⟩
  | ref p =>
    cases r
    rcases ty with ⟨rfl, xs, hq⟩ | ⟨rfl, o, hk, hc, hd⟩ | ⟨rfl, hk⟩ | ⟨rfl, S, n, hk⟩
    · obtain ⟨its, _, pl, _⟩ := I.list hq
      refine ⟨pl.isList.typeIs, fun a e => ?_⟩
      cases e
      obtain ⟨o, n, e, c, hd, _⟩ := pl
      exact ⟨o, e, hd⟩
    · refine ⟨⟨o, I.kIn p o hk, hc⟩, fun a e => ?_⟩
      cases e
      exact ⟨o, I.kIn _ o hk, hd⟩
    · have z : ∃ o, s.heap.get? p = some o ∧ o.ExactDict := by
        rcases hk with ⟨kvs, hk⟩ | ⟨kvs, hk⟩
        · obtain ⟨_, _, _, _, o, _, _, e, ex, _⟩ := I.hok p _ hk
          exact ⟨o, e, ex⟩
        · obtain ⟨_, _, _, _, o, _, _, e, ex, _⟩ := I.hok p _ hk
          exact ⟨o, e, ex⟩
      obtain ⟨o, e, ex⟩ := z
      refine ⟨⟨o, e, ex.1⟩, fun a e2 => ?_⟩
      cases e2
      exact ⟨o, e, ex.2.1⟩
    · obtain ⟨o, _, _, _, e, ex, _⟩ := I.hok p _ hk
      refine ⟨⟨o, e, ex.1⟩, fun a e2 => ?_⟩
      cases e2
      exact ⟨o, e, ex.2.1⟩
  | _ => exact False.elim ty
def tBM0 (K : PySem.W.Frag) (T : String) (r : V → List V → Hp → VK → Prop) (to : TE) : TE := fun σ H Q => to σ H fun x H1 => tyV K T x H1 ∧ r x [] H1 Q
def tBM (K : PySem.W.Frag) (T : String) (r : V → List V → Hp → VK → Prop) (to : TE) (t : TA) : TE := fun σ H Q => to σ H fun x H1 => tyV K T x H1 ∧ t σ H1 fun xs H2 => r x xs H2 Q
variable {o e : Expr} {es : List Expr} {to : TE} {t : TA} {name : Str} {apos cpos : Pos} {T id : String} {r : V → List V → Hp → VK → Prop}
theorem pe_bm0 (pa : PlainAttrs T) (slot : Slot T name id) (hty : typeOf (.builtin id) = pure (.type "method_descriptor")) (hm : MtR X id r) (ho : PE X o to)
    (hbase : attributeBase o name X.env (eval o X.env) = eval o X.env := by rfl) (hline : (apos.endLine == cpos.line) = true := by rfl) : PE X (.Call (.Attribute o name apos) [] [] cpos) (tBM0 X.K T r to) := by
  intro pins s σ H Q I h
  refine wpAny_Call_method0_late hbase hline (thn (ho pins s σ H _ I h) fun v s1 ⟨x, H1, I1, r1, ty, q1⟩ => ?_)
  obtain ⟨h1, h2⟩ := tyV_is I1 r1 ty
  exact ⟨T, id, pa, slot, hty, h1, h2, Calls.callWith_builtin rfl (PySem.evalArgs_none (hm pins s1 σ H1 x [] v [] Q I1 r1 .nil q1))⟩
theorem pe_bm (pa : PlainAttrs T) (slot : Slot T name id) (hty : typeOf (.builtin id) = pure (.type "method_descriptor")) (hm : MtR X id r) (ho : PE X o to) (ha : PA X (e :: es) t)
    (hbase : attributeBase o name X.env (eval o X.env) = eval o X.env := by rfl)
    (hfew : ((backTo cpos (starEach (e :: es) X.env)).all (fun x => !x.1) && (backToKw cpos (keywordEach [] X.env)).all (fun x => x.1.isSome)
      && decide ((e :: es).length + ([] : List Keyword).length + (if ([] : List Keyword).isEmpty then 0 else 1) < 30)) = true := by rfl)
    (hline : (apos.endLine == cpos.line) = true := by rfl) (hs : starEach (e :: es) X.env = (false, eval e X.env) :: starEach es X.env := by rfl) (hplain : (backTo cpos (starEach es X.env)).any (·.1) = false := by rfl) :
    PE X (.Call (.Attribute o name apos) (e :: es) [] cpos) (tBM X.K T r to t) := by
  intro pins s σ H Q I h
  refine wpAny_Call_method_late hbase hfew hline rfl (thn (ho pins s σ H _ I h) fun v s1 ⟨x, H1, I1, r1, ty, q1⟩ => ?_)
  obtain ⟨h1, h2⟩ := tyV_is I1 r1 ty
  refine ⟨T, id, pa, slot, hty, h1, h2, ?_⟩
  have hA := ha cpos pins s1 σ H1 _ I1 q1
  rw [hs] at hA ⊢
  refine Calls.callWith_builtin (by show (false || (backTo cpos (starEach es X.env)).any (·.1)) = false; rw [hplain] <;> rfl) (Calls.evalArgs_plain ?_)
  exact thn hA fun us s2 ⟨vs, H2, I2, r2, q2⟩ => hm pins s2 σ H2 x vs v us Q I2 r1 r2 q2
/- xs.append(e), list.index on a module's tuple .. are MtR facts of 06m -/
end
end L2

namespace L2
open PySem PySem.Spec PyProof.Rows

def MtM (X : Cx) (id : String) (r : V → List V → Hp → VK → Prop) : Prop :=
  ∀ (pins : List (Addr × Obj)) (s : Shared) (σ : St) (H : Hp) (x : V) (xs : List V) (v : Value) (us : List Value) (Q : VK), Inv X pins σ H s → RelV x v → Vals xs us → r x xs H Q →
    wpAny (model X.prog X.w) X.A (call (.builtin id) (v :: us)) (EP X pins σ Q) X.xe s

/-! ### lists of values -/
theorem Vals.one : ∀ {x : V} {us : List Value}, Vals [x] us → ∃ u, us = [u] ∧ RelV x u
  | _, _, .cons r .nil => ⟨_, rfl, r⟩
theorem Vals.zero : ∀ {us : List Value}, Vals [] us → us = []
  | _, .nil => rfl
theorem Vals.dropLast {xs : List V} {us : List Value} (h : Vals xs us) : Vals xs.dropLast us.dropLast := by
  induction h with
  | nil => exact .nil
  | cons r t ih =>
    cases t with
    | nil => exact .nil
    | cons q t' => exact .cons r ih
theorem erase_last {α : Type} (l : List α) : l.eraseIdx (l.length - 1) = l.dropLast := by
  induction l with
  | nil => rfl
  | cons a r ih =>
    cases r with
    | nil => rfl
    | cons b r =>
      have e : (a :: b :: r).length - 1 = ((b :: r).length - 1) + 1 := by
        have h1 : (a :: b :: r).length = r.length + 2 := rfl
        have h2 : (b :: r).length = r.length + 1 := rfl
        omega
      rw [e, List.eraseIdx_cons_succ, ih]
      all_goals rfl
section
variable {X : Cx} {pins : List (Addr × Obj)} {σ : St} {H : Hp} {s : Shared} {l b : Addr} {xs ys zs : List V}

/-! ### the two steps: a tracked list is rewritten, a new list is laid -/
theorem Inv.lset {its its' : List Value} {n : Nat} {f : Array Value → Array Value} {t' : Nat} (I : Inv X pins σ H s) (hH : H l = some (.lst xs))
    (e : s.heap.get? l = some { cls := .type "list", data := .seq its.toArray n }) (hf : f its.toArray = its'.toArray) (hv : Vals ys its') (hz : ys.length ≤ sizeLine) :
    Inv X pins σ (upd H l (.lst ys)) { s with heap := s.heap.update l (Obj.mapSeq f), toks := t' } := by
  have q := PySem.IsL.update e f
  rw [hf] at q
  refine I.write (x := l) (e := l) (by rw [hH]; exact trivial) (.inl rfl) (fun b' u hb hu => (Heap.get?_update_other s.heap (Obj.mapSeq f) (Ne.symm hb)).trans hu) ⟨_, q⟩ ?_
  exact ⟨hz, its', _, hv, q⟩
theorem Inv.lnew {its : List Value} {t' : Nat} (I : Inv X pins σ H s) (hv : Vals ys its) (hz : ys.length ≤ sizeLine) :
    Inv X pins σ (upd H s.heap.objs.size (.lst ys)) { s with heap := s.heap.push { cls := .type "list", data := .seq its.toArray }, toks := t' } :=
  I.laid (fun _ _ q => Heap.get?_push_of_some _ q) (Nat.le_refl _) ⟨hz, its, 0, hv, Heap.get?_push_size _ rfl⟩
theorem Inv.fresh (I : Inv X pins σ H s) : H s.heap.objs.size = none := I.hok.fresh (Nat.le_refl _)
theorem Inv.lstM (I : Inv X pins σ H s) (hH : H l = some (.lst xs)) : xs.length ≤ sizeLine ∧ ∃ (its : List Value) (n : Nat), Vals xs its ∧ xs.length = its.length ∧ s.heap.get? l = some { cls := .type "list", data := .seq its.toArray n } := by
  obtain ⟨z, its, n, r, e⟩ := I.hok l _ hH
  exact ⟨z, its, n, r, r.length, e⟩

theorem notLongL {n : Nat} (h : n ≤ sizeLine) : Builtin.List.listTooLong n = false := by
  unfold Builtin.List.listTooLong
  exact decide_eq_false (by omega)
end

section
variable {X : Cx}

/-! ### methods -/
def rAppend : V → List V → Hp → VK → Prop := fun x vs H Q => ∃ l xs y, x = .ref l ∧ vs = [y] ∧ H l = some (.lst xs) ∧ xs.length < sizeLine ∧ Q .non (upd H l (.lst (xs ++ [y])))
theorem mt_append : MtM X "list.append" rAppend := by
  intro pins s σ H x vs v us Q I rx rv h
  obtain ⟨l, xs, y, rfl, rfl, hH, hz, q⟩ := h
  cases rx
  obtain ⟨u, rfl, ru⟩ := rv.one
  obtain ⟨z, its, n, r, hl, e⟩ := I.lstM hH
  refine call_meets F.slot_list_append ⟨_, e, rfl⟩ F.entry_list_append (F.args_list_append_2 _ _) (PySem.list_append l its.toArray n u (by rw [List.size_toArray]; omega)) ⟨e, ?_⟩
  refine ⟨.non, _, I.lset (its' := its ++ [u]) hH e (by simp) (r.append (.cons ru .nil)) ?_, rfl, q⟩
  rw [List.length_append, List.length_singleton]
  omega

def rExtend : V → List V → Hp → VK → Prop := fun x vs H Q => ∃ l b xs zs, x = .ref l ∧ vs = [.ref b] ∧ H l = some (.lst xs) ∧ H b = some (.lst zs) ∧ xs.length + zs.length ≤ sizeLine ∧ Q .non (upd H l (.lst (xs ++ zs)))
theorem mt_extend : MtM X "list.extend" rExtend := by
  intro pins s σ H x vs v us Q I rx rv h
  obtain ⟨l, b, xs, zs, rfl, rfl, hH, hB, hz, q⟩ := h
  cases rx
  obtain ⟨u, rfl, ru⟩ := rv.one
  cases ru
  obtain ⟨z, its, n, r, hl, e⟩ := I.lstM hH
  obtain ⟨z2, its2, n2, r2, hl2, e2⟩ := I.lstM hB
  have hsz : its.toArray.size + its2.toArray.size ≤ sizeLine := by rw [List.size_toArray, List.size_toArray]; omega
  have hlong : ¬ (!its.toArray.isEmpty && Builtin.List.listTooLong (its.toArray.size + its2.toArray.size)) = true := by
    rw [notLongL hsz, Bool.and_false]
    exact Bool.false_ne_true
  refine call_meets F.slot_list_extend ⟨_, e, rfl⟩ F.entry_list_extend (F.args_list_extend_2 _ _)
    (AutoSeq1.list_extend_list_list_0 l its.toArray n b its2.toArray n2 hlong (by rw [List.size_toArray]; omega) (by omega)) ⟨e, e2, ?_⟩
  refine ⟨.non, _, I.lset (its' := its ++ its2) hH e (by simp) (r.append r2) ?_, rfl, q⟩
  rw [List.length_append]
  omega

def rPop : V → List V → Hp → VK → Prop := fun x vs H Q => ∃ l xs y, x = .ref l ∧ vs = [] ∧ H l = some (.lst xs) ∧ xs[xs.length - 1]? = some y ∧ Q y (upd H l (.lst xs.dropLast))
theorem mt_pop : MtM X "list.pop" rPop := by
  intro pins s σ H x vs v us Q I rx rv h
  obtain ⟨l, xs, y, rfl, rfl, hH, hy, q⟩ := h
  cases rx
  have hus := rv.zero
  subst hus
  obtain ⟨z, its, n, r, hl, e⟩ := I.lstM hH
  obtain ⟨u, hu, ru⟩ := r.get hy
  have hy' : its.toArray[its.toArray.size - 1]? = some u := by
    show its.toArray[its.length - 1]? = some u
    rw [← Array.getElem?_toList, ← hl]
    exact hu
  refine call_meets F.slot_list_pop ⟨_, e, rfl⟩ F.entry_list_pop (F.args_list_pop_1 _) (MeetsSeq.list_pop_last l its.toArray n u hy' (by rw [List.size_toArray]; omega)) ⟨e, ?_⟩
  refine ⟨y, _, I.lset (its' := its.dropLast) hH e ?_ r.dropLast ?_, ru, q⟩
  · show its.toArray.eraseIdxIfInBounds (its.toArray.size - 1) = its.dropLast.toArray
    rw [List.size_toArray, List.eraseIdxIfInBounds_toArray, erase_last]
  · rw [List.length_dropLast]
    omega

/-! ### list + list, list += list, list * int -/
def rCat : R2 := fun x y H Q => ∃ l b xs zs, x = .ref l ∧ y = .ref b ∧ H l = some (.lst xs) ∧ H b = some (.lst zs) ∧ xs.length + zs.length ≤ sizeLine ∧ ∀ p, H p = none → Q (.ref p) (upd H p (.lst (xs ++ zs)))
theorem op_cat : OpR X (binaryOp .Add) rCat := by
  intro pins s σ H x y v u Q I rx ry h
  obtain ⟨l, b, xs, zs, rfl, rfl, hH, hB, hz, q⟩ := h
  cases rx
  cases ry
  obtain ⟨z, its, n, r, hl, e⟩ := I.lstM hH
  obtain ⟨z2, its2, n2, r2, hl2, e2⟩ := I.lstM hB
  refine PySem.P.add_list e e2 ?_ (by rw [List.size_toArray, List.size_toArray]; omega)
  have ea : its.toArray ++ its2.toArray = (its ++ its2).toArray := by simp
  rw [ea]
  exact ⟨.ref _, _, I.lnew (t' := s.toks) (r.append r2) (by rw [List.length_append]; omega), rfl, q _ I.fresh⟩
/-! ### del xs[i] -/
end

/-! ### xs[a:b] = ys -/
section
variable {prog : Program} {w : World} {A : Around} {E : Value → Shared → Prop} {s : Shared}
end

section
variable {X : Cx}
end
end L2

namespace Att
open PySem PySem.W PySem.Calls PyProof.Rows

/-! ### the script -/
theorem ints_of_wellAll {P : Params} {h : Heap} : ∀ (ns : List Int) (vs : List Value), WellAll P h vs (ns.map WData.int) → IntsAre vs ns := by
  intro ns
  induction ns with
  | nil =>
    intro vs w
    rw [List.map_nil] at w
    cases w
    exact .nil
  | cons n ns ih =>
    intro vs w
    rw [List.map_cons] at w
    cases w with
    | cons a b =>
      cases a
      exact .cons _ _ (ih _ b)

theorem script_of {l : OpenLaw} {n : Nat} (hn : l.most = some n) {P : Params} {h : Heap} {args : List WData} {vals : List Value}
    (hpre : l.row.toRowW.claim.pre args = true) (hwl : WellAll P h vals args) :
    ∃ a vs ns, vals = [Value.ref a] ∧ args = [WData.list (ns.map WData.int)] ∧ h.get? a = some { cls := .type "list", data := .seq vs.toArray } ∧ IntsAre vs ns ∧ ns.length ≤ n := by
  have hsh : WShape.hasAll [] args [.list .int] = true := (pre_splitW hpre).1
  have hc : l.pre.holds [] { args := args } = true := (pre_splitW hpre).2
  obtain ⟨d, r, rfl, h1, h2⟩ := hasAllW_cons hsh
  obtain rfl := hasAllW_nil h2
  obtain ⟨xs, rfl, h3⟩ := hasW_list h1
  obtain ⟨ns, rfl⟩ := items_int h3
  have hlen : ns.length ≤ n := by
    unfold OpenLaw.pre at hc
    have h4 : (WTm.not (.lt (.lit (.int (n : Int))) (.len (.arg 0)))).holds [] { args := [.list (ns.map .int)] } = true := by
      have h4 := (holds_andW hc).1
      rw [hn] at h4
      exact h4
    have h5 := condW_of h4 (w_not (w_lt w_lit (w_len_list (w_arg rfl))))
    rw [List.length_map] at h5
    refine Nat.le_of_not_lt fun q => ?_
    have q' : (n : Int) < ((ns.length : Nat) : Int) := by omega
    first
      | (rw [decide_eq_true q'] at h5; exact absurd h5 (by decide))
      | (simp at h5; omega)
  cases hwl with
  | cons w1 w2 =>
    cases w2
    cases w1 with
    | list ho hall => exact ⟨_, _, ns, rfl, rfl, ho, ints_of_wellAll ns _ hall, hlen⟩

theorem post_true (l : OpenLaw) (args : List WData) : l.row.toRowW.claim.post args (.bool true) args = true :=
  postW_of (r := l.row.toRowW) (X := (true == true))
    (show WShape.has [] (.bool true) .bool = true by first | rfl | decide | simp [WShape.has, WShape.arms, WShape.armsAll])
    (show (WTm.eq .res (.lit (.bool true))).value [] { args := args, res := some (.bool true), after := args } = some (.bool (true == true)) from w_eq_bool (w_res rfl) w_lit) rfl

/-! ### the attachment: holds_open's last premise (the goal 'hc' behind k_head) from a wpAny of the law's body -/
/-- the same from a codeAny of the CALL (for a layer whose function contracts speak of calls) -/
theorem attach_call {l : OpenLaw} {n : Nat} {q : Program} {loose : List Str} {XP : (Str → Option Value) → Heap → Prop} {YP : World → Heap → Prop} {d : DefRec}
    (hn : l.most = some n) (hdf : d.params.defaults = [])
    (call : ∀ (w : World) (s₀ s₁ : Shared) (mg mb : Str → Option Value) (fa : Addr) (o : Obj) (pm cd doc : Value) (a : Addr) (vs : List Value) (ns : List Int),
      Ground q loose [] XP w s₀ mg mb s₁.heap → YP w s₁.heap →
      s₁.heap.get? fa = some o → o.data = .func (docDef d.name d.params d.body d.scope pm cd doc) → s₁.heap.CodeRec cd d.name → mg d.name = some (.ref fa) →
      s₁.heap.get? a = some { cls := .type "list", data := .seq vs.toArray } → IntsAre vs ns → ns.length ≤ n → s₁.gens = #[] →
      codeAny (model l.prog w) callerA (.call (.ref fa) ⟨[.ref a], []⟩) (fun r s' => r = .ok (.ret (.bool true)) ∧ OldK s₁.heap s'.heap ∧ s'.os = s₁.os ∧ AllBare s'.gens) s₁) :
    WalkO q loose XP YP l.row.toRowW d [] (fun f vs => PySem.call f vs) := by
  intro w s₀ s₁ mg mb G Y fa o pm cd doc dV kV ho hd hcd hD hmg hg args vals as hpre hlay hrd hwl hlo
  obtain rfl : dV = .none := Dflts.none hD hdf
  obtain rfl : kV = .none := Dflts.noKw hD
  obtain ⟨a, vs, ns, rfl, rfl, hobj, hints, hlen⟩ := script_of hn hpre hwl
  refine enter_call (codeAny_mono (call w s₀ s₁ mg mb fa o pm cd doc a vs ns G Y ho (fd_plain hd) hcd hmg hobj hints hlen hg) fun r s' hq => ?_)
  obtain ⟨rfl, h2, h3, h4⟩ := hq
  exact ⟨.inl ⟨.bool true, .bool true, [], rfl, fun _ => rfl, .bool true, post_true l _, fun _ => ⟨List.Pairwise.nil, fun _ hm => (nomatch hm)⟩⟩, h2, h3, h4⟩

/-! ### rules over ANY heap (no ledger) from facts about the written part K: the library's own take a ledger (News) for what they write -/
section
variable {prog : Program} {w : World} {A : Around} {E : Value → Shared → Prop} {s : Shared} {K : Frag}

/-! the whole heap as the ledger: makes every rule that writes through a ledger a rule over any heap -/
end
end Att

namespace L2
open PySem PySem.Spec PyProof.Rows

theorem vals_ints : ∀ {vs : List Value} {ns : List Int}, IntsAre vs ns → Vals (ns.map V.int) vs
  | _, _, .nil => .nil
  | _, _, .cons n t h => .cons ⟨t, rfl⟩ (vals_ints h)

/-- nothing is tracked but the script, known to the object (or it is an object of the module) -/
def Only (H : Hp) : Prop := ∀ b, H b = none ∨ ∃ o xs, H b = some (.frz o (.lst xs))

/-- THE HEAD: the law's promise, at the heap behind the top. F, the promise of the law's def, may use that base is part of the heap (so K.In base, base.Ns mainGlobals mg stand in Mod) -/
theorem law_call {P : Program} {w : World} {K : PySem.W.Frag} {mg mb : Str → Option Value} {CX : CXT} {k : Nat} {fa a : Addr} {fd : FuncData} {x : Str} {sp : Sp} {s₁ : Shared} {vs : List Value} {ns : List Int}
    (KX : K.In s₁.heap) (hns : s₁.heap.Ns mainGlobals mg) (hb : s₁.heap.Ns builtinsNs mb) (hbb : ∀ x : Str, x ≠ "__name__" → mb x = bootBuiltins x) (hlim : s₁.heap.NoLimit) (hg : s₁.gens = #[])
    (ha : s₁.heap.get? a = some { cls := .type "list", data := .seq vs.toArray }) (hi : IntsAre vs ns) (hl : ns.length ≤ sizeLine) (hr : Room k callerA)
    (F : ∀ base : Heap, K.In base → base.Ns mainGlobals mg → FnOk P w K mg base CX k fa fd [x] sp) (hbind : ∀ (s : Shared) (u : Value), BindsTo s fd ⟨[u], []⟩ [(x, u)])
    (hsp : ∀ H : Hp, Only H → SqL K H a (ns.map V.int) → sp [.ref a] H (fun v _ => v = .bl true) fun _ _ _ => False)
    (hCX : ∀ H e s', CX [] H s₁ (fun _ _ _ => False) e s' → False) :
    codeAny (model P w) callerA (.call (.ref fa) ⟨[.ref a], []⟩) (fun r s' => r = .ok (.ret (.bool true)) ∧ OldK s₁.heap s'.heap ∧ s'.os = s₁.os ∧ AllBare s'.gens) s₁ := by
  have rv := vals_ints hi
  have lenV := hi.length
  -- from an abstract heap in which nothing but the script may be tracked
  have core : ∀ H : Hp, Only H → SqL K H a (ns.map V.int) → HOk P w H s₁.heap → (∀ b, H b ≠ none → b = a) → (H a ≠ none → K.lookup a = none) →
      codeAny (model P w) callerA (.call (.ref fa) ⟨[.ref a], []⟩) (fun r s' => r = .ok (.ret (.bool true)) ∧ OldK s₁.heap s'.heap ∧ s'.os = s₁.os ∧ AllBare s'.gens) s₁ := by
    intro H hO hS hok hA hK
    have base_of : ∀ {b : Addr} {o : Obj}, s₁.heap.get? b = some o → H b = none → (hidT s₁.heap H).get? b = some o := fun e n => hidT_get e n
    have noA : ∀ {b : Addr} {o : Obj} {es : Array DictEntry} {ep : Nat}, s₁.heap.get? b = some o → o.data = .dict es ep → H b = none := fun {b o es ep} e d => by
      cases q : H b with
      | none => rfl
      | some u =>
        have e' : b = a := hA b (by rw [q]; simp)
        subst e'
        rw [ha] at e; cases e
        have d' : Data.seq vs.toArray _ = Data.dict es ep := d
        cases d'
    have nsK : ∀ {b : Addr} {m : Str → Option Value}, s₁.heap.Ns b m → (hidT s₁.heap H).Ns b m := fun {b m} ⟨o, es, ep, e, d, r⟩ => ⟨o, es, ep, base_of e (noA e d), d, r⟩
    have hKb : K.In (hidT s₁.heap H) := fun b o e => base_of (KX b o e) (by
      cases q : H b with
      | none => rfl
      | some u =>
        have e' : b = a := hA b (by rw [q]; simp)
        subst e'
        rw [hK (by rw [q]; simp)] at e; cases e)
    have hM : Mod K mg (hidT s₁.heap H) := ⟨hKb, nsK hns, ⟨mb, nsK hb, hbb⟩, let ⟨mc, h1, h2⟩ := hlim; ⟨mc, nsK h1, h2⟩⟩
    have e0 : Env0 P w K mg (hidT s₁.heap H) callerA [] s₁ H := ⟨rfl, hM, fun b o e => of_hidT e, Nat.le_of_eq (hidT_size _ _), trivial, fun b hb => absurd (show b ∈ ([] : List Addr) from hb) (by simp), hok, .of_eq hg⟩
    refine codeAny_mono ((F _ hKb (nsK hns)).run callerA [] s₁ H ⟨[.ref a], []⟩ [.ref a] [.ref a] _ _ hr e0 (hbind s₁ (.ref a)) (.cons rfl .nil) (hsp H hO hS)) fun r s' h => ?_
    cases r with
    | error e => exact (hCX H e s' h).elim
    | ok fl =>
      cases fl with
      | next => exact False.elim h
      | brk => exact False.elim h
      | cont => exact False.elim h
      | ret u =>
        obtain ⟨v, H', os, bare, un, hok', r', q⟩ := h
        have q' : v = .bl true := q
        subst q'
        obtain rfl : u = Value.bool true := r'
        refine ⟨rfl, OldK.of_keep fun b o e => ?_, os, bare⟩
        cases q : H b with
        | none => exact un.keep b o e q (by intro z; exact absurd (show b ∈ ([] : List Addr) from z) (by simp)) (by simp)
        | some u =>
          rcases hO b with z | ⟨ob, xs, z⟩
          · rw [q] at z; cases z
          · have z2 := un.frzs b ob _ z
            obtain ⟨e1, _⟩ := hok b _ z
            obtain ⟨e2, _⟩ := hok' b _ z2
            rw [e] at e1; cases e1
            exact e2
  cases hk : K.lookup a with
  | some o =>
    -- the script is one of the module's own objects
    have e := KX a o hk
    rw [ha] at e
    cases e
    refine core (fun _ => none) (fun _ => .inl rfl) (.inr ⟨_, vs.toArray, _, hk, rfl, rfl, rfl, by rw [List.size_toArray, lenV]; exact hl, by simpa using rv⟩) (fun b u z => by have z' : (none : Option HO) = some u := z; cases z') (fun b z => absurd rfl z) fun z => absurd rfl z
  | none =>
    refine core (fun b => if b = a then some (.frz { cls := .type "list", data := .seq vs.toArray } (.lst (ns.map V.int))) else none) (fun b => ?_) (.inl (.inr ⟨{ cls := .type "list", data := .seq vs.toArray }, if_pos rfl⟩)) (fun b u z => ?_) (fun b z => ?_) fun _ => hk
    · by_cases hb : b = a
      · exact .inr ⟨_, _, if_pos hb⟩
      · exact .inl (if_neg hb)
    · by_cases hb : b = a
      · have z' := (if_pos hb).symm.trans z
        cases z'
        subst hb
        exact ⟨ha, by rw [List.length_map]; exact hl, vs, _, rv, ha⟩
      · have z' := (if_neg hb).symm.trans z
        cases z'
    · by_cases hb : b = a
      · exact hb
      · exact absurd (if_neg hb) z
end L2

namespace L2
open PySem PySem.Spec PyProof.Rows

/-- the goal that k_head leaves (case hc), from the law's promise. F gives the function object fd (K's own) once, then the promise over every base -/
theorem walk_of {l : PySem.W.OpenLaw} {n k : Nat} {q : Program} {loose : List Str} {XP : (Str → Option Value) → Heap → Prop} {YP : World → Heap → Prop} {d : DefRec} {K : Params → PySem.W.Frag} {CX : World → CXT} {sp : World → Sp} {x : Str}
    (hn : l.most = some n) (hn2 : n ≤ sizeLine) (hdf : d.params.defaults = []) (hr : Room k callerA)
    (hY : ∀ (w : World) (h : Heap), YP w h → (K w.params).In h)
    (F : ∀ (w : World) (mg : Str → Option Value) (fa : Addr) (h : Heap), (K w.params).In h → h.Ns mainGlobals mg → mg d.name = some (.ref fa) →
      ∃ fd : FuncData, (∀ (s : Shared) (u : Value), BindsTo s fd ⟨[u], []⟩ [(x, u)]) ∧
        ∀ base : Heap, (K w.params).In base → base.Ns mainGlobals mg → FnOk l.prog w (K w.params) mg base (CX w) k fa fd [x] (sp w))
    (hsp : ∀ (w : World) (H : Hp) (a : Addr) (ns : List Int), ns.length ≤ n → Only H → SqL (K w.params) H a (ns.map V.int) → sp w [.ref a] H (fun v _ => v = .bl true) fun _ _ _ => False)
    (hCX : ∀ (w : World) (H : Hp) (s : Shared) (e : Value) (s' : Shared), CX w [] H s (fun _ _ _ => False) e s' → False) :
    PySem.W.WalkO q loose XP YP l.row.toRowW d [] (fun f vs => PySem.call f vs) := by
  refine Att.attach_call hn hdf fun w s₀ s₁ mg mb fa o pm cd doc a vs ns G Y ho hd hcd hmg hobj hints hlen hg => ?_
  have KX := hY w _ Y
  obtain ⟨fd, hb, hF⟩ := F w mg fa _ KX G.T.g hmg
  exact law_call KX G.T.g G.T.b G.T.builtins G.T.nolimit hg hobj hints (Nat.le_trans hlen hn2) hr hF hb (fun H hO hS => hsp w H a ns hlen hO hS) fun H e s' => hCX w H s₁ e s'
/-- the same where the promise hangs on the written part alone: (sp := My.sp_law), no hole under a binder -/
theorem walk_ofK {l : PySem.W.OpenLaw} {n k : Nat} {q : Program} {loose : List Str} {XP : (Str → Option Value) → Heap → Prop} {YP : World → Heap → Prop} {d : DefRec} {K : Params → PySem.W.Frag} {CX : CXT} {sp : PySem.W.Frag → Sp} {x : Str}
    (hn : l.most = some n) (hn2 : n ≤ sizeLine) (hdf : d.params.defaults = []) (hr : Room k callerA)
    (hY : ∀ (w : World) (h : Heap), YP w h → (K w.params).In h)
    (F : ∀ (w : World) (mg : Str → Option Value) (fa : Addr) (h : Heap), (K w.params).In h → h.Ns mainGlobals mg → mg d.name = some (.ref fa) →
      ∃ fd : FuncData, (∀ (s : Shared) (u : Value), BindsTo s fd ⟨[u], []⟩ [(x, u)]) ∧
        ∀ base : Heap, (K w.params).In base → base.Ns mainGlobals mg → FnOk l.prog w (K w.params) mg base CX k fa fd [x] (sp (K w.params)))
    (hsp : ∀ (K : PySem.W.Frag) (H : Hp) (a : Addr) (ns : List Int), ns.length ≤ n → Only H → SqL K H a (ns.map V.int) → sp K [.ref a] H (fun v _ => v = .bl true) fun _ _ _ => False)
    (hCX : ∀ (H : Hp) (s : Shared) (e : Value) (s' : Shared), CX [] H s (fun _ _ _ => False) e s' → False) :
    PySem.W.WalkO q loose XP YP l.row.toRowW d [] (fun f vs => PySem.call f vs) :=
  walk_of (K := K) (CX := fun _ => CX) (sp := fun w => sp (K w.params)) hn hn2 hdf hr hY F (fun w H a ns h1 h2 h3 => hsp (K w.params) H a ns h1 h2 h3) fun _ H s e s' => hCX H s e s'
end L2

/- THE LAST THEOREM (shape; LID, My.* are yours):
   My.Adr: a structure of the addresses that your layer names (classes, functions); My.Txt K t: a structure (Prop) of the equations over K;
   My.txt_mk : {K} {implicit addresses ..} (e1 : nsIn K mainGlobals "law" = some (some (.ref f))) (e2 : K.lookup f = some ⟨oc, od, .func (fnOf "law" "law" params body scope dV kV doc pm an cdv ct), sl⟩) (e3 : codeIn K cdv "law" = true) .. : ∃ t, My.Txt K t

(the tactic k_is has no namespace: write k_is) -/

/-! SHORT WORDS over the layer: a def of the text, its body, what a loop and a test want. -/
namespace L2
open PySem PySem.Spec PyProof.Rows

/-! ### the text by places -/
def defArgs (s : Stmt) : Arguments := match s with
  | .FunctionDef _ a _ _ _ _ _ _ _ _ => a
  | _ => { posonlyargs := [], args := [], vararg := none, kwonlyargs := [], kw_defaults := [], kwarg := none, defaults := [] }
def defBody (s : Stmt) : List Stmt := match s with
  | .FunctionDef _ _ b _ _ _ _ _ _ _ => b
  | _ => []
def defScope (s : Stmt) : Scope := match s with
  | .FunctionDef _ _ _ _ _ _ sc _ _ _ => sc
  | _ => { kind := .function, names := [], isGenerator := false, isCoroutine := false }

/-! ### no exception leaves a def -/
abbrev CX0 : CXT := fun _ _ _ _ _ _ => False
abbrev E0 : XK := fun _ _ _ => False
theorem pass0 {X : Cx} : Passes CX0 X E0 := fun _ _ _ _ _ _ _ h => h.elim

/-! ### a def (or method) of the text as it stands behind the top -/
structure Fun (K : PySem.W.Frag) (x qual : Str) (st : Stmt) (f : Addr) (fd : FuncData) : Prop where
  ex : ∃ (oc : Value) (od : Option Addr) (kV doc pm : Value) (an : Option Addr) (cdv ct : Value) (osl : Array (Option Value)),
    fd = PySem.W.fnOf x qual (defArgs st) (defBody st) (defScope st) .none kV doc pm an cdv ct ∧ K.lookup f = some ⟨oc, od, .func fd, osl⟩ ∧ PySem.W.codeIn K cdv qual = true
  kp : PySem.W.keepIn K (.ref f) = true
section
variable {P : Program} {w : World} {K : PySem.W.Frag} {mg : Str → Option Value} {base : Heap}
/-- THE RULE for a def: its body as a term of rules, and the reading of that term -/
theorem Fun.ok {x qual : Str} {st : Stmt} {f : Addr} {fd : FuncData} {N ps : List Str} {k : Nat} {sp : Sp} (F : Fun K x qual st f fd) (S : FnScope N ps (defScope st)) (len : ∀ vs H Q E, sp vs H Q E → vs.length = ps.length)
    (hbody : ∀ (cdv : Value) (A : Around) (outer : List Env) (s : Shared) (H : Hp) (vs : List V) (Q : VK) (E : XK), Room k (A.deeper (envOfC qual (defScope st) s.heap.objs.size f cdv)) → sp vs H Q E →
      ∃ t, PSs (cxOf CX0 P w K mg base N qual (defScope st) f cdv A outer s H E).nox (defBody st) t ∧ t { nx := fun _ H' => Q .non H', rt := Q } (start N vs) H) : FnOk P w K mg base CX0 (k + 1) f fd ps sp := by
  obtain ⟨oc, od, kV, doc, pm, an, cdv, ct, osl, rfl, lk, hcd⟩ := F.ex
  refine fn_of lk hcd S len fun A outer s H vs Q E hr hsp => ?_
  obtain ⟨t, h, q⟩ := hbody cdv A outer s H vs Q E hr hsp
  exact ⟨t, h.nox, q⟩
/-- how its arguments bind (no defaults): h is «fun _ _ _ _ _ _ us hl => match us, hl with | [_, _], _ => rfl», one _ a parameter -/
theorem Fun.binds {x qual : Str} {st : Stmt} {f : Addr} {fd : FuncData} {ps : List Str} (F : Fun K x qual st f fd)
    (h : ∀ (kV doc pm : Value) (an : Option Addr) (cdv ct : Value) (us : List Value), us.length = ps.length → bindArgs (PySem.W.fnOf x qual (defArgs st) (defBody st) (defScope st) .none kV doc pm an cdv ct) ⟨us, []⟩ = pure (ps.zip us)) : Binds K fd ps [] := by
  obtain ⟨oc, od, kV, doc, pm, an, cdv, ct, osl, rfl, lk, hcd⟩ := F.ex
  exact .all (h kV doc pm an cdv ct)
theorem fun_mk {x qual : Str} {st : Stmt} {f : Addr} {oc : Value} {od an : Option Addr} {osl : Array (Option Value)} {kV doc pm cdv ct : Value} (l : K.lookup f = some ⟨oc, od, .func (PySem.W.fnOf x qual (defArgs st) (defBody st) (defScope st) .none kV doc pm an cdv ct), osl⟩)
    (c : PySem.W.codeIn K cdv qual = true) (k : PySem.W.keepIn K (.ref f) = true) : Fun K x qual st f (PySem.W.fnOf x qual (defArgs st) (defBody st) (defScope st) .none kV doc pm an cdv ct) := ⟨⟨oc, od, kV, doc, pm, an, cdv, ct, osl, rfl, l, c⟩, k⟩
end
theorem hu_of {A : Around} {k : Nat} (hr : Room k A) : A.units + 1 < cLine := Nat.lt_of_le_of_lt (Nat.add_le_add_left (by decide : 1 ≤ 64) _) hr.units
theorem small1000 {n : Nat} (h : n ≤ 1000) : n < sizeLine := Nat.lt_of_le_of_lt h (by decide)

/-! ### expressions in short: the name that stands in the i-th slot -/
section
variable {X : Cx}
theorem pv (i : Nat) {x : Str} {pos : Pos} (hN : X.N[i]? = some x := by rfl) (hv : Vis X.env.scope x := by first | exact Or.inl rfl | exact Or.inr (Or.inl rfl) | exact Or.inr (Or.inr rfl)) (hd : (x == ("__debug__" : Str)) = false := by decide)
    (hcd : (x == ("__classdict__" : Str)) = false := by decide) : PE X (.Name x pos) (tVar i) := pe_var hN hv hd hcd
end

/-! ### tests -/
theorem iteF {A B : Prop} (h : B) : if false = true then A else B := by
  rw [if_neg Bool.false_ne_true]
  exact h
theorem iteT {A B : Prop} (h : A) : if true = true then A else B := by
  rw [if_pos rfl]
  exact h
theorem ite2 {c A B : Prop} [Decidable c] (h1 : c → A) (h2 : ¬ c → B) : if c then A else B := by
  by_cases h : c
  · rw [if_pos h]
    exact h1 h
  · rw [if_neg h]
    exact h2 h
theorem iteNS {c A B : Prop} [Decidable c] (hc : c) (h : B) : if (!decide c) = true then A else B := by
  rw [decide_eq_true hc]
  exact iteF h

/-! ### heaps -/
/-- all that was tracked is as it was -/
def Same (H H' : Hp) : Prop := ∀ b o, H b = some o → H' b = some o
theorem Same.refl (H : Hp) : Same H H := fun _ _ h => h
theorem Same.trans {H H1 H2 : Hp} (a : Same H H1) (b : Same H1 H2) : Same H H2 := fun c o h => b c o (a c o h)
theorem Same.free {H H' : Hp} (e : Same H H') {l : Addr} (h : H' l = Option.none) : H l = Option.none := by
  cases q : H l with
  | none => rfl
  | some o =>
    rw [e l o q] at h
    cases h
theorem Same.seq {K : PySem.W.Frag} {H H' : Hp} {a : Addr} {xs : List V} (e : Same H H') (h : SqL K H a xs) : SqL K H' a xs := by
  rcases h with (h | ⟨o, h⟩) | h
  · exact .inl (.inl (e _ _ h))
  · exact .inl (.inr ⟨o, e _ _ h⟩)
  · exact .inr h

end L2

set_option maxHeartbeats 4000000

namespace L2
open PySem PySem.Spec PyProof.Rows

/-! ### lists of pairs as tables -/
section
variable {κ : Type} [DecidableEq κ]
def valV (kvs : List (κ × V)) (k : κ) : Option V := (kvs.find? fun kv => decide (kv.1 = k)).map (·.2)
/-- in its place, or at the end -/
def putK (kvs : List (κ × V)) (k : κ) (v : V) : List (κ × V) :=
  if (kvs.any fun kv => decide (kv.1 = k)) = true then kvs.map (fun kv => if kv.1 = k then (kv.1, v) else kv) else kvs ++ [(k, v)]
theorem valV_pos {p : κ × V} {r : List (κ × V)} {k : κ} (e : p.1 = k) : valV (p :: r) k = some p.2 := by simp [valV, List.find?_cons, e]
theorem valV_neg {p : κ × V} {r : List (κ × V)} {k : κ} (e : ¬ p.1 = k) : valV (p :: r) k = valV r k := by simp [valV, List.find?_cons, e]
theorem valV_any (k : κ) : ∀ kvs : List (κ × V), (kvs.any fun kv => decide (kv.1 = k)) = (valV kvs k).isSome
  | [] => rfl
  | p :: r => by
    rw [List.any_cons]
    by_cases e : p.1 = k
    · simp only [valV_pos e, decide_eq_true e, Bool.true_or, Option.isSome_some]
    · rw [valV_neg e, decide_eq_false e, Bool.false_or]; exact valV_any k r
theorem valV_map (k j : κ) (y : V) : ∀ kvs : List (κ × V), valV (kvs.map fun kv => if kv.1 = k then (kv.1, y) else kv) j = (valV kvs j).map fun x => if j = k then y else x
  | [] => rfl
  | p :: r => by
    have ih := valV_map k j y r
    rw [List.map_cons]
    by_cases h : p.1 = k
    · rw [if_pos h]
      by_cases e : p.1 = j
      · rw [valV_pos (p := (p.1, y)) e, valV_pos e, Option.map_some, if_pos (e.symm.trans h)]
      · rw [valV_neg (p := (p.1, y)) e, valV_neg e, ih]
    · rw [if_neg h]
      by_cases e : p.1 = j
      · rw [valV_pos (p := p) e, valV_pos e, Option.map_some, if_neg (fun z => h (e.trans z))]
      · rw [valV_neg (p := p) e, valV_neg e, ih]
theorem valV_snoc (k j : κ) (y : V) : ∀ kvs : List (κ × V), valV kvs k = none → valV (kvs ++ [(k, y)]) j = if j = k then some y else valV kvs j
  | [], _ => by
    by_cases e : k = j
    · rw [if_pos e.symm]; exact valV_pos (p := (k, y)) e
    · rw [if_neg (fun z => e z.symm)]; exact valV_neg (p := (k, y)) e
  | p :: r, hn => by
    rw [List.cons_append]
    have hk : ¬ p.1 = k := fun z => by rw [valV_pos z] at hn; cases hn
    rw [valV_neg hk] at hn
    have ih := valV_snoc k j y r hn
    by_cases e : p.1 = j
    · rw [valV_pos e, valV_pos e, if_neg (fun z => hk (e.trans z))]
    · rw [valV_neg e, valV_neg e, ih]
theorem valV_put (kvs : List (κ × V)) (k j : κ) (y : V) : valV (putK kvs k y) j = if j = k then some y else valV kvs j := by
  unfold putK
  by_cases a : (kvs.any fun kv => decide (kv.1 = k)) = true
  · rw [if_pos a, valV_map]
    rw [valV_any] at a
    by_cases e : j = k
    · obtain ⟨x, hx⟩ := Option.isSome_iff_exists.mp a
      rw [if_pos e, e, hx, Option.map_some, if_pos rfl]
    · rw [if_neg e]
      cases valV kvs j with
      | none => rfl
      | some x => rw [Option.map_some, if_neg e]
  · rw [if_neg a]
    refine valV_snoc k j y kvs ?_
    rw [valV_any] at a
    cases q : valV kvs k with
    | none => rfl
    | some x => rw [q] at a; exact (a rfl).elim
theorem length_putK (kvs : List (κ × V)) (k : κ) (v : V) : (putK kvs k v).length ≤ kvs.length + 1 := by
  unfold putK
  split
  · rw [List.length_map]; omega
  · rw [List.length_append, List.length_cons, List.length_nil]; omega
theorem putK_new {kvs : List (κ × V)} {k : κ} (v : V) (h : valV kvs k = none) : putK kvs k v = kvs ++ [(k, v)] := by
  unfold putK
  rw [valV_any, h]
  exact if_neg (by decide)

theorem RelO.isSome_eq {o : Option V} {u : Option Value} (r : RelO o u) : o.isSome = u.isSome := by
  cases o with
  | none => cases u with
    | none => rfl
    | some _ => exact (show False from r).elim
  | some _ => cases u with
    | none => exact (show False from r).elim
    | some _ => rfl
/-- raw tables of the same keys -/
theorem KV.val {kvs : List (κ × V)} {vs : List (κ × Value)} (r : KV kvs vs) (k : κ) : RelO (valV kvs k) (valueAt vs k) := by
  unfold KV at r
  induction r with
  | nil => exact True.intro
  | @cons p q ps qs h t ih =>
    obtain ⟨h1, h2⟩ := h
    by_cases e : p.1 = k
    · have e' : q.1 = k := h1.symm.trans e
      have b : valueAt (q :: qs) k = some q.2 := by simp [valueAt, List.find?_cons, e']
      rw [valV_pos e, b]; exact h2
    · have e' : ¬ q.1 = k := fun z => e (h1.trans z)
      have b : valueAt (q :: qs) k = valueAt qs k := by simp [valueAt, List.find?_cons, e']
      rw [valV_neg e, b]; exact ih
theorem KV.any {kvs : List (κ × V)} {vs : List (κ × Value)} (r : KV kvs vs) (k : κ) : (kvs.any fun kv => decide (kv.1 = k)) = vs.any fun kv => decide (kv.1 = k) := by
  unfold KV at r
  induction r with
  | nil => rfl
  | cons h t ih => rw [List.any_cons, List.any_cons, ih, h.1]
theorem KV.repl {kvs : List (κ × V)} {vs : List (κ × Value)} (r : KV kvs vs) (k : κ) {y : V} {u : Value} (ry : RelV y u) :
    KV (kvs.map fun kv => if kv.1 = k then (kv.1, y) else kv) (vs.map fun kv => if kv.1 = k then (kv.1, u) else kv) := by
  unfold KV at r ⊢
  induction r with
  | nil => exact .nil
  | @cons p q ps qs h t ih =>
    rw [List.map_cons, List.map_cons]
    refine .cons ?_ ih
    obtain ⟨h1, h2⟩ := h
    by_cases e : p.1 = k
    · rw [if_pos e, if_pos (h1.symm.trans e)]; exact ⟨h1, ry⟩
    · rw [if_neg e, if_neg (fun z => e (h1.trans z))]; exact ⟨h1, h2⟩
theorem KV.put {kvs : List (κ × V)} {vs : List (κ × Value)} (r : KV kvs vs) (k : κ) {y : V} {u : Value} (ry : RelV y u) : KV (putK kvs k y) (stored vs k u) := by
  unfold putK stored
  rw [r.any k]
  by_cases e : (vs.any fun kv => decide (kv.1 = k)) = true
  · rw [if_pos e, if_pos e]; exact r.repl k ry
  · rw [if_neg e, if_neg e]; exact Paired.snoc r ⟨rfl, ry⟩
theorem KV.length {kvs : List (κ × V)} {vs : List (κ × Value)} (r : KV kvs vs) : kvs.length = vs.length := Paired.length r
end


/-! ### a tracked dict, its keys ints and texts or tuples of these -/
theorem kV_is {P : Program} {w : World} {k : Key} {u : Value} (r : RelV (kV k) u) : (mixKind P w).is k u = true := by
  cases k with
  | inl i => obtain ⟨t, e⟩ := (show ∃ t, u = Value.int i t from r); subst e; exact mixKind_int P w i t
  | inr x => obtain ⟨t, e⟩ := (show ∃ t, u = Value.str x t from r); subst e; exact mixKind_str P w x t
theorem items_are {P : Program} {w : World} : ∀ {ks : List Key} {us : List Value}, Vals (ks.map kV) us → ItemsAre (mixKind P w) ks us
  | [], _, r => by rw [List.map_nil] at r; cases r; exact .nil
  | k :: ks, _, r => by
    rw [List.map_cons] at r
    cases r with
    | cons h t => exact .cons (kV_is h) (items_are t)

/-- raw entries of a dict with tuple keys -/
abbrev KT (H : Hp) : List (List Key × V) → List (List Key × Addr × Value) → Prop := Paired fun p q => p.1 = q.1 ∧ H q.2.1 = some (.tup (p.1.map kV)) ∧ RelV p.2 q.2.2
theorem KT.val {H : Hp} {kvs : List (List Key × V)} {xs : List (List Key × Addr × Value)} (r : KT H kvs xs) (k : List Key) : RelO (valV kvs k) ((atKey xs k).map (·.2)) := by
  induction r with
  | nil => exact True.intro
  | @cons p q ps qs h t ih =>
    obtain ⟨h1, _, h2⟩ := h
    by_cases e : p.1 = k
    · have e' : q.1 = k := h1.symm.trans e
      have b : atKey (q :: qs) k = some q.2 := by simp [atKey, List.find?_cons, e']
      rw [valV_pos e, b]; exact h2
    · have e' : ¬ q.1 = k := fun z => e (h1.trans z)
      have b : atKey (q :: qs) k = atKey qs k := by simp [atKey, List.find?_cons, e']
      rw [valV_neg e, b]; exact ih
theorem KT.repl {H : Hp} {kvs : List (List Key × V)} {xs : List (List Key × Addr × Value)} (r : KT H kvs xs) (k : List Key) {y : V} {u : Value} (ry : RelV y u) :
    KT H (kvs.map fun kv => if kv.1 = k then (kv.1, y) else kv) (xs.map (putAt k u)) := by
  induction r with
  | nil => exact .nil
  | @cons p q ps qs h t ih =>
    rw [List.map_cons, List.map_cons]
    refine .cons ?_ ih
    obtain ⟨h1, h2, h3⟩ := h
    unfold putAt
    by_cases e : p.1 = k
    · rw [if_pos e, if_pos (h1.symm.trans e)]; exact ⟨h1, h2, ry⟩
    · rw [if_neg e, if_neg (fun z => e (h1.trans z))]; exact ⟨h1, h2, h3⟩
theorem KT.put {H : Hp} {kvs : List (List Key × V)} {xs : List (List Key × Addr × Value)} (r : KT H kvs xs) (k : List Key) {b : Addr} {y : V} {u : Value} (hb : H b = some (.tup (k.map kV))) (ry : RelV y u) :
    KT H (putK kvs k y) (storedH xs k b u) := by
  have e : (kvs.any fun kv => decide (kv.1 = k)) = (atKey xs k).isSome := by
    rw [valV_any, (r.val k).isSome_eq, Option.isSome_map]
  unfold putK storedH
  rw [e]
  by_cases q : (atKey xs k).isSome = true
  · rw [if_pos q, if_pos q]; exact r.repl k ry
  · rw [if_neg q, if_neg q]; exact Paired.snoc r ⟨rfl, hb, ry⟩
theorem KT.keeps {H H' : Hp} {kvs : List (List Key × V)} {xs : List (List Key × Addr × Value)} (r : KT H kvs xs) (ht : ∀ b ys, H b = some (.tup ys) → H' b = some (.tup ys)) : KT H' kvs xs :=
  Paired.mapP r fun _ _ z => ⟨z.1, ht _ _ z.2.1, z.2.2⟩

section
variable {P : Program} {w : World} {H : Hp} {h : Heap} {a : Addr}
theorem rd_of {u : HO} (ok : HOk P w H h) (e : Rd H a u) : ObjOk P w H h a u := e.ok ok
theorem dk_rd {kvs : List (Key × V)} (ok : HOk P w H h) (e : Rd H a (.dK kvs)) : kvs.length ≤ sizeLine ∧ (a == sysModules) = false ∧ ∃ vs, KV kvs vs ∧ h.DictOf (mixKind P w) a vs :=
  show ObjOk P w H h a (.dK kvs) from rd_of ok e
theorem dk_of {kvs : List (Key × V)} (ok : HOk P w H h) (e : H a = some (.dK kvs)) : kvs.length ≤ sizeLine ∧ (a == sysModules) = false ∧ ∃ vs, KV kvs vs ∧ h.DictOf (mixKind P w) a vs := dk_rd ok (.inl e)
/-- a tracked tuple of ints and texts is a key -/
theorem key_of {ks : List Key} (ok : HOk P w H h) (e : H a = some (.tup (ks.map kV))) : (tupleKind (mixKind P w)).is h ks a := by
  obtain ⟨_, its, r, o, h1, h2, n, h3⟩ := (show ObjOk P w H h a (.tup (ks.map kV)) from ok a _ e)
  exact ⟨o, its.toArray, n, h1, h2, h3, by simpa using items_are r⟩
theorem dt_rd {kvs : List (List Key × V)} (ok : HOk P w H h) (e : Rd H a (.dT kvs)) : kvs.length ≤ sizeLine ∧ (a == sysModules) = false ∧
    ∃ xs, KT H kvs xs ∧ h.DictOfH (tupleKind (mixKind P w)) a xs := by
  obtain ⟨z, y, xs, r, o, es, ep, h1, h2, h3, h4, h5⟩ := (show ObjOk P w H h a (.dT kvs) from rd_of ok e)
  refine ⟨z, y, xs, r, o, es, ep, h1, h2, h3, h4, fun x hx => ?_, h5⟩
  have all : ∀ {l : List (List Key × V)} {m : List (List Key × Addr × Value)}, KT H l m → ∀ x ∈ m, (tupleKind (mixKind P w)).is h x.1 x.2.1 := by
    intro l m q
    induction q with
    | nil => intro x hx; exact nomatch hx
    | @cons p q ps qs hq t ih =>
      intro x hx
      rcases List.mem_cons.mp hx with e | hx
      · subst e
        exact key_of ok (by rw [← hq.1]; exact hq.2.1)
      · exact ih x hx
  exact all r x hx
theorem dt_of {kvs : List (List Key × V)} (ok : HOk P w H h) (e : H a = some (.dT kvs)) : kvs.length ≤ sizeLine ∧ (a == sysModules) = false ∧
    ∃ xs, KT H kvs xs ∧ h.DictOfH (tupleKind (mixKind P w)) a xs := dt_rd ok (.inl e)
end

/-- what the dict at a holds at the key y -/
def DGet (H : Hp) (a : Addr) (y : V) (r : Option V) : Prop :=
  (∃ kvs k, Rd H a (.dK kvs) ∧ y = kV k ∧ r = valV kvs k) ∨ ∃ kvs k b, Rd H a (.dT kvs) ∧ y = .ref b ∧ H b = some (.tup (k.map kV)) ∧ r = valV kvs k
/-- the heap behind a[y] = v -/
def DPut (H : Hp) (a : Addr) (y v : V) (H' : Hp) : Prop :=
  (∃ kvs k, H a = some (.dK kvs) ∧ y = kV k ∧ kvs.length < sizeLine ∧ H' = upd H a (.dK (putK kvs k v))) ∨
  ∃ kvs k b, H a = some (.dT kvs) ∧ y = .ref b ∧ H b = some (.tup (k.map kV)) ∧ kvs.length < sizeLine ∧ H' = upd H a (.dT (putK kvs k v))
theorem DGet.k {H : Hp} {a : Addr} {kvs : List (Key × V)} {k : Key} (e : H a = some (.dK kvs)) : DGet H a (kV k) (valV kvs k) := .inl ⟨kvs, k, .inl e, rfl, rfl⟩
theorem DGet.t {H : Hp} {a b : Addr} {kvs : List (List Key × V)} {k : List Key} (e : H a = some (.dT kvs)) (eb : H b = some (.tup (k.map kV))) : DGet H a (.ref b) (valV kvs k) := .inr ⟨kvs, k, b, .inl e, rfl, eb, rfl⟩
theorem DPut.k {H : Hp} {a : Addr} {kvs : List (Key × V)} {k : Key} {v : V} (e : H a = some (.dK kvs)) (hl : kvs.length < sizeLine) : DPut H a (kV k) v (upd H a (.dK (putK kvs k v))) := .inl ⟨kvs, k, e, rfl, hl, rfl⟩
theorem DPut.t {H : Hp} {a b : Addr} {kvs : List (List Key × V)} {k : List Key} {v : V} (e : H a = some (.dT kvs)) (eb : H b = some (.tup (k.map kV))) (hl : kvs.length < sizeLine) :
    DPut H a (.ref b) v (upd H a (.dT (putK kvs k v))) := .inr ⟨kvs, k, b, e, rfl, eb, hl, rfl⟩


section
variable {X : Cx} {pins : List (Addr × Obj)} {σ : St} {H : Hp} {s : Shared} {a : Addr} {y v : V} {u r : Value} {o : Option V} {A : Around} {E : Value → Shared → Prop}

theorem Inv.big (I : Inv X pins σ H s) : sysModules < s.heap.objs.size := by
  have h : mainGlobals < s.heap.objs.size := (I.mod.glob.keeps I.bk).lt
  exact Nat.lt_trans (by decide) h

/-- d[y], there -/
theorem d_getItem {Q : Value → Shared → Prop} (hu : A.units + 1 < cLine) (I : Inv X pins σ H s) (g : DGet H a y (some v)) (ry : RelV y u) (h : ∀ w' s', Inv X pins σ H s' → RelV v w' → Q w' s') :
    wpAny (model X.prog X.w) A (getItem (.ref a) u) Q E s := by
  rcases g with ⟨kvs, k, e, ey, l⟩ | ⟨kvs, k, b, e, ey, eb, l⟩
  · subst ey
    obtain ⟨z, hd, vs, rel, dd⟩ := dk_rd I.hok e
    obtain ⟨w', hw, rw'⟩ := RelO.some_of (v := v) (o := valueAt vs k) (by rw [l]; exact rel.val k)
    exact wpAny_getItem_of (kV_is ry) dd.mapOf hw (h w' _ (I.tok _) rw')
  · subst ey
    cases (show u = Value.ref b from ry)
    obtain ⟨z, hd, xs, rel, dd⟩ := dt_rd I.hok e
    obtain ⟨w', hw, rw'⟩ := RelO.some_of (v := v) (o := (atKey xs k).map (·.2)) (by rw [l]; exact rel.val k)
    obtain ⟨p, hp, hp2⟩ := Option.map_eq_some_iff.mp hw
    refine wpAny_getItem_heap (tupleKind_room_in1 hu) (key_of I.hok eb) dd hp ?_
    rw [hp2]
    exact h w' _ (I.tok _) rw'
theorem d_notIn {Q : Value → Shared → Prop} (hu : A.units + 1 < cLine) (I : Inv X pins σ H s) (g : DGet H a y o) (ry : RelV y u) (h : ∀ s', Inv X pins σ H s' → Q (.bool (!o.isSome)) s') :
    wpAny (model X.prog X.w) A (compareOp .NotIn u (.ref a)) Q E s := by
  rcases g with ⟨kvs, k, e, ey, l⟩ | ⟨kvs, k, b, e, ey, eb, l⟩
  · subst ey
    obtain ⟨z, hd, vs, rel, dd⟩ := dk_rd I.hok e
    refine wpAny_notIn_of (kV_is ry) hd dd.mapOf ?_
    rw [← (rel.val k).isSome_eq, ← l]
    exact h _ (I.tok _)
  · subst ey
    cases (show u = Value.ref b from ry)
    obtain ⟨z, hd, xs, rel, dd⟩ := dt_rd I.hok e
    refine wpAny_notIn_heap (tupleKind_room_in1 hu) (key_of I.hok eb) hd dd ?_
    have q := (rel.val k).isSome_eq
    rw [Option.isSome_map] at q
    rw [← q, ← l]
    exact h _ (I.tok _)
/-- a dict's object is replaced -/
theorem d_write {h' : Heap} {t' : Nat} {ob : HO} (I : Inv X pins σ H s) (mu : Mut (H a)) (hs : Heap.SameBut a s.heap h') (he : ∃ q, h'.get? a = some q) (new : ObjOk X.prog X.w (upd H a ob) h' a ob) :
    Inv X pins σ (upd H a ob) { s with heap := h', toks := t' } :=
  I.write (x := a) (e := a) mu (.inl rfl) (fun b q hb z => (hs.2 b hb).trans z) he new
theorem dk_new {P : Program} {w : World} {H' : Hp} {h' : Heap} {kvs : List (Key × V)} {vs : List (Key × Value)} (z : kvs.length ≤ sizeLine) (hd : (a == sysModules) = false) (rel : KV kvs vs) (dd : h'.DictOf (mixKind P w) a vs) :
    ObjOk P w H' h' a (.dK kvs) := ⟨z, hd, vs, rel, dd⟩
/-- d[y] = v -/
theorem d_setItem {H' : Hp} {Q : Unit → Shared → Prop} (hu : A.units + 1 < cLine) (I : Inv X pins σ H s) (g : DPut H a y v H') (ry : RelV y u) (rv : RelV v r) (h : ∀ s', Inv X pins σ H' s' → Q () s') :
    wpAny (model X.prog X.w) A (setItem (.ref a) u r) Q E s := by
  rcases g with ⟨kvs, k, e, ey, l, eH⟩ | ⟨kvs, k, b, e, ey, eb, l, eH⟩
  · subst ey eH
    obtain ⟨z, hd, vs, rel, dd⟩ := dk_of I.hok e
    have hz : vs.length ≤ sizeLine := by rw [← rel.length]; exact z
    have hl : (putK kvs k v).length ≤ sizeLine := by have := length_putK kvs k v; omega
    refine wpAny_setItem_pairs (hsz := hz) (kV_is ry) dd fun h' dd' hs => h _ ?_
    have he : ∃ q, h'.get? a = some q := let ⟨q, _, _, hq, _⟩ := dd'; ⟨q, hq⟩
    exact d_write I (by rw [e]; exact True.intro) hs he (dk_new hl hd (rel.put k rv) dd')
  · subst ey eH
    cases (show u = Value.ref b from ry)
    obtain ⟨z, hd, xs, rel, dd⟩ := dt_of I.hok e
    have hz : xs.length ≤ sizeLine := by rw [← Paired.length rel]; exact z
    have hl : (putK kvs k v).length ≤ sizeLine := by have := length_putK kvs k v; omega
    refine wpAny_setItem_heap (hsz := hz) (tupleKind_room_in1 hu) (key_of I.hok eb) dd fun h' dd' hs => h _ ?_
    obtain ⟨q, es, ep, hq, h2, h3, h4, _, h5⟩ := dd'
    refine d_write I (by rw [e]; exact True.intro) hs ⟨q, hq⟩ ⟨hl, hd, _, (rel.put k eb rv).keeps fun c ys ec => ?_, q, es, ep, hq, h2, h3, h4, h5⟩
    rw [upd_ne (ne_of ec e (fun z => nomatch z))]
    exact ec
end

section
variable {X : Cx} {pins : List (Addr × Obj)} {σ : St} {H : Hp} {s : Shared} {a : Addr} {kvs : List (Key × V)} {k : Key} {u : Value} {A : Around} {E : Value → Shared → Prop}
end


/-! ### readings and rules -/
/-- the element of a subscription, not a slice -/
def NoSl (i : Expr) : Prop := ∀ ov iv, subscripted i false ov iv = operate [ov, iv] (getItem ov iv)
theorem subD_of {prog : Program} {w : World} {A : Around} {E : Value → Shared → Prop} {s : Shared} {env : Env} {value slice : Expr} {pos : Pos} {T id : String} {Q : Value → Shared → Prop}
    (hl : typeLookup (.type T) "__getitem__" = pure (some (.builtin id))) (hs : NoSl slice)
    (h : wpAny (model prog w) A (eval value env) (fun o s₁ => wpAny (model prog w) A (eval slice env) (fun i s₂ => s₂.TypeIs o T ∧ wpAny (model prog w) A (getItem o i) Q E s₂) E s₁) E s) :
    wpAny (model prog w) A (eval (.Subscript value slice pos) env) Q E s := by
  refine Subscript_ (wpAny_mono h (fun o s₁ h₁ => wpAny_mono h₁ (fun i s₂ h₂ => ?_) fun _ _ x => x) fun _ _ x => x)
  obtain ⟨hT, h₂⟩ := h₂
  unfold subscriptTail
  refine wpAny_bind ?_
  rw [getitemInPython_of_ne hT.not_modules]
  refine wpAny_bind (wpAny_specialOf hT hl ?_)
  have fin : wpAny (model prog w) A (subscripted slice false o i) (fun r s₃ => wpAny (model prog w) A (letTemporaryGo value o r >>= fun _ => pure r) Q E s₃) E s₂ := by
    rw [hs o i]
    exact wpAny_operating (wpAny_mono h₂ (fun r s₃ h₃ => wpAny_bind (wpAny_letTemporaryGo (wpAny_pure h₃))) fun _ _ x => x)
  first
    | exact wpAny_pure (wpAny_bind fin)
    | exact wpAny_bind (wpAny_pure (wpAny_bind fin))
    | exact wpAny_bind fin

theorem dict_typeIs {X : Cx} {pins : List (Addr × Obj)} {σ : St} {H : Hp} {s : Shared} {a : Addr} {y : V} {o : Option V} (I : Inv X pins σ H s) (g : DGet H a y o) : s.TypeIs (.ref a) "dict" := by
  rcases g with ⟨kvs, k, e, _, _⟩ | ⟨kvs, k, b, e, _, _, _⟩
  · obtain ⟨_, _, vs, _, dd⟩ := dk_rd I.hok e
    exact dd.typeIs
  · obtain ⟨_, _, xs, _, dd⟩ := dt_rd I.hok e
    exact dd.typeIs
/-- d[y] -/
def tDGet (td ty : TE) : TE := fun σ H Q => td σ H fun x H1 => ty σ H1 fun y H2 => ∃ a v, x = .ref a ∧ DGet H2 a y (some v) ∧ Q v H2
def tDNotIn (ty td : TE) : TE := fun σ H Q => ty σ H fun y H1 => td σ H1 fun x H2 => ∃ a o, x = .ref a ∧ DGet H2 a y o ∧ Q (.bl (!o.isSome)) H2
/-- d[y] = v -/
def sDPut (td ty tv : TE) : TS := fun D σ H => tv σ H fun v H1 => td σ H1 fun x H2 => ty σ H2 fun y H3 => ∃ a H4, x = .ref a ∧ DPut H3 a y v H4 ∧ D.nx σ H4
section
variable {X : Cx} {o i e value : Expr} {pos pos' tpos : Pos} {td ty tv : TE}
theorem pe_dget (hu : X.A.units + 1 < cLine) (ho : PE X o td) (hi : PE X i ty) (hs : NoSl i) : PE X (.Subscript o i pos) (tDGet td ty) := by
  intro pins s σ H Q I h
  refine subD_of PySem.F.slot_dict_getitem.lookup hs (thn (ho pins s σ H _ I h) fun u s1 ⟨x, H1, I1, rx, q1⟩ => thn (hi pins s1 σ H1 _ I1 q1) fun iv s2 ⟨y, H2, I2, ry, a, v, ex, g, q2⟩ => ?_)
  subst ex
  obtain rfl : u = Value.ref a := rx
  exact ⟨dict_typeIs I2 g, d_getItem hu I2 g ry fun w' s3 I3 rw' => ⟨v, H2, I3, rw', q2⟩⟩
theorem pc_dnotin (hu : X.A.units + 1 < cLine) (hi : PE X i ty) (ho : PE X o td) : PC X .NotIn i o (tDNotIn ty td) := by
  intro pins s σ H Q I h
  refine thn (hi pins s σ H _ I h) fun iv s1 ⟨y, H1, I1, ry, q1⟩ => thn (ho pins s1 σ H1 _ I1 q1) fun u s2 ⟨x, H2, I2, rx, a, ov, ex, g, q2⟩ => ?_
  subst ex
  obtain rfl : u = Value.ref a := rx
  exact d_notIn hu I2 g ry fun s3 I3 => ⟨.bl (!ov.isSome), H2, I3, rfl, q2⟩
theorem ps_dput (hu : X.A.units + 1 < cLine) (ho : PE X o td) (hi : PE X i ty) (hv : PE X value tv) (hs : swapsWith value (some (.Subscript o i pos')) pos.line X.env = pure false) :
    PS X (.Assign [.Subscript o i pos'] value pos) (sDPut td ty tv) := by
  intro pins s σ H D I h
  refine wpAny_Assign_Subscript (thn (hv pins s σ H _ I h) fun r s1 ⟨v, H1, I1, rv, q1⟩ => thn (ho pins s1 σ H1 _ I1 q1) fun u s2 ⟨x, H2, I2, rx, q2⟩ => thn (hi pins s2 σ H2 _ I2 q2) fun iv s3 ⟨y, H3, I3, ry, a, H4, ex, g, q3⟩ => ?_) hs
  subst ex
  obtain rfl : u = Value.ref a := rx
  exact d_setItem hu I3 g ry rv fun s4 I4 => ⟨σ, H4, I4, q3⟩
end


/-! ### displays -/
theorem dk_empty {P : Program} {w : World} {H : Hp} (h : Heap) (hb : sysModules < h.objs.size) : ObjOk P w H (h.push { cls := .type "dict", data := .dict #[] }) h.objs.size (.dK []) :=
  ⟨Nat.zero_le _, beq_eq_false_iff_ne.mpr (Ne.symm (Nat.ne_of_lt hb)), [], .nil, Heap.DictOf.new h⟩
theorem dt_empty {P : Program} {w : World} {H : Hp} (h : Heap) (hb : sysModules < h.objs.size) : ObjOk P w H (h.push { cls := .type "dict", data := .dict #[] }) h.objs.size (.dT []) :=
  ⟨Nat.zero_le _, beq_eq_false_iff_ne.mpr (Ne.symm (Nat.ne_of_lt hb)), [], .nil, _, #[], 0, Heap.get?_push_size _ rfl, ⟨rfl, rfl, rfl⟩, rfl, rfl, List.nodup_nil⟩
/-- {}, to be a dict of the kind that is wanted -/
def tDNewK : TE := fun _ H Q => ∀ p, H p = none → Q (.ref p) (upd H p (.dK []))
def tDNewT : TE := fun _ H Q => ∀ p, H p = none → Q (.ref p) (upd H p (.dT []))
section
variable {X : Cx} {pos : Pos}
theorem pe_dnewK : PE X (.Dict [] [] pos) tDNewK := fun pins s σ H Q I h =>
  wpAny_Dict_empty ⟨.ref s.heap.objs.size, _, I.laid (a := s.heap.objs.size) (o := .dK []) (t' := s.toks) (fun _ _ q => Heap.get?_push_of_some _ q) (Nat.le_refl _) (dk_empty s.heap I.big), rfl, h _ (I.hok.fresh (Nat.le_refl _))⟩
theorem pe_dnewT : PE X (.Dict [] [] pos) tDNewT := fun pins s σ H Q I h =>
  wpAny_Dict_empty ⟨.ref s.heap.objs.size, _, I.laid (a := s.heap.objs.size) (o := .dT []) (t' := s.toks) (fun _ _ q => Heap.get?_push_of_some _ q) (Nat.le_refl _) (dt_empty s.heap I.big), rfl, h _ (I.hok.fresh (Nat.le_refl _))⟩
end

/-- the pairs of a display, from the left -/
def tPairs : List (TE × TE) → St → Hp → (List (V × V) → Hp → Prop) → Prop
  | [], _, H, Q => Q [] H
  | (tk, tv) :: r, σ, H, Q => tk σ H fun x H1 => tv σ H1 fun y H2 => tPairs r σ H2 fun ps H3 => Q ((x, y) :: ps) H3
abbrev VV : List (V × V) → List (Value × Value) → Prop := Paired fun p q => RelV p.1 q.1 ∧ RelV p.2 q.2
def PPs (X : Cx) (pos : Pos) (keys : List (Option Expr)) (values : List Expr) (trs : List (TE × TE)) : Prop :=
  ∀ (pins : List (Addr × Obj)) (s : Shared) (σ : St) (H : Hp) (Q : List (V × V) → Hp → Prop), Inv X pins σ H s → tPairs trs σ H Q →
    wpAny (model X.prog X.w) X.A (evalPairs (pairTrees keys values X.env pos)) (fun vs s' => ∃ ps H', Inv X pins σ H' s' ∧ VV ps vs ∧ Q ps H') X.xe s
theorem pps_nil {X : Cx} {pos : Pos} : PPs X pos [] [] [] := fun pins s σ H Q I h => pairTrees_nil_walk ⟨[], H, I, .nil, h⟩
theorem pps_cons {X : Cx} {pos : Pos} {k v : Expr} {ks : List (Option Expr)} {vs : List Expr} {tk tv : TE} {trs : List (TE × TE)} (hk : PE X k tk) (hv : PE X v tv) (hr : PPs X pos ks vs trs) :
    PPs X pos (some k :: ks) (v :: vs) ((tk, tv) :: trs) := fun pins s σ H Q I h =>
  pairTrees_cons_walk (thn (hk pins s σ H _ I h) fun u s1 ⟨x, H1, I1, rx, q1⟩ => thn (hv pins s1 σ H1 _ I1 q1) fun w2 s2 ⟨y, H2, I2, ry, q2⟩ =>
    thn (hr pins s2 σ H2 _ I2 q2) fun ws s3 ⟨ps, H3, I3, rel, q3⟩ => ⟨(x, y) :: ps, H3, I3, .cons ⟨rx, ry⟩ rel, q3⟩)

end L2

namespace Own
open PySem PySem.Spec PyProof.Rows L2

/-! ### a def of the text by its name; a def that keeps a promise -/
structure Def (K : PySem.W.Frag) (mg : Str → Option Value) (x : Str) (st : Stmt) (ps : List Str) : Prop where
  ex : ∃ f fd, Fun K x x st f fd ∧ mg x = some (.ref f) ∧ Binds K fd ps []
structure Callee (P : Program) (w : World) (K : PySem.W.Frag) (mg : Str → Option Value) (base : Heap) (CX : CXT) (k : Nat) (x : Str) (ps : List Str) (sp : Sp) : Prop where
  ex : ∃ f fd, FnOk P w K mg base CX k f fd ps sp ∧ mg x = some (.ref f) ∧ PySem.W.keepIn K (.ref f) = true ∧ (∃ o : Obj, K.lookup f = some o ∧ o.data = .func fd) ∧ Binds K fd ps []
section
variable {P : Program} {w : World} {K : PySem.W.Frag} {mg : Str → Option Value} {base : Heap}
/-- the promise of the very def that stands under the name -/
theorem Callee.at {CX : CXT} {x : Str} {st : Stmt} {f : Addr} {fd : FuncData} {k : Nat} {ps : List Str} {sp : Sp} (C : Callee P w K mg base CX k x ps sp) (hm : mg x = some (.ref f)) (F : Fun K x x st f fd) (_ : Def K mg x st ps) : FnOk P w K mg base CX k f fd ps sp := by
  obtain ⟨f', fd', Fo, hm', _, hl, _⟩ := C.ex
  rw [hm] at hm'
  cases hm'
  obtain ⟨oc, od, kV, doc, pm, an, cdv, ct, osl, _, lk, _⟩ := F.ex
  obtain ⟨o', lk', hd'⟩ := hl
  rw [lk] at lk'
  cases lk'
  cases hd'
  exact Fo
theorem Def.ok {x : Str} {st : Stmt} {N ps : List Str} {k : Nat} {sp : Sp} (D : Def K mg x st ps) (S : FnScope N ps (defScope st)) (len : ∀ vs H Q E, sp vs H Q E → vs.length = ps.length)
    (hbody : ∀ (f : Addr) (cdv : Value) (A : Around) (outer : List Env) (s : Shared) (H : Hp) (vs : List V) (Q : VK) (E : XK), Room k (A.deeper (envOfC x (defScope st) s.heap.objs.size f cdv)) → sp vs H Q E →
      ∃ t, PSs (cxOf CX0 P w K mg base N x (defScope st) f cdv A outer s H E).nox (defBody st) t ∧ t { nx := fun _ H' => Q .non H', rt := Q } (start N vs) H) : Callee P w K mg base CX0 (k + 1) x ps sp := by
  obtain ⟨f, fd, F, hm, hb⟩ := D.ex
  refine ⟨f, fd, F.ok S len fun cdv A outer s H vs Q E hr h => hbody f cdv A outer s H vs Q E hr h, hm, F.kp, ?_, hb⟩
  obtain ⟨oc, od, kV, doc, pm, an, cdv, ct, osl, _, lk, _⟩ := F.ex
  exact ⟨_, lk, rfl⟩
end
section
variable {X : Cx} {CX : CXT} {k : Nat} {ps : List Str} {sp : Sp} {E : XK} {x : Str} {p pos : Pos} {e : Expr} {es : List Expr} {t : TA}
/-- f(e, ..), f a def of the text -/
theorem pe_fn (C : Callee X.prog X.w X.K X.mg X.base CX k x ps sp) (hr : Room k X.A) (hx : Passes CX X E) (ha : PA X (e :: es) t) (hg : Gl X x := by rfl)
    (hdb : (x == ("__debug__" : Str)) = false := by decide) (he : starEach (e :: es) X.env = (false, eval e X.env) :: starEach es X.env := by rfl) (hpl : (backTo pos (starEach es X.env)).any (·.1) = false := by rfl) :
    PE X (.Call (.Name x p) (e :: es) [] pos) (tCall sp [] E t) := by
  obtain ⟨f, fd, F, hm, hk, _, hb⟩ := C.ex
  exact pe_call F hr hg hm hk hb .nil hx ha hdb he hpl
/-- isinstance(x, T), T a type of Python's own -/
theorem call_isi : CallR X (.builtin "isinstance") (fun xs H Q => ∃ x n t b, xs = [x, .ty n] ∧ TyOf X.K H x t ∧ PySem.W.kitOne X.K t (.type n) = some b ∧ Q (.bl b) H) := by
  intro pins s σ H xs us Q I rv h
  obtain ⟨x, n, t, b, rfl, ty, e, q⟩ := h
  cases rv with
  | cons r rr =>
    cases rr with
    | cons r' rr' =>
      cases rr'
      obtain rfl : _ = Value.type n := r'
      exact isinst_ok I r ty e fun tk => ⟨.bl b, H, I.tok tk, rfl, q⟩
/-- a list or a tuple by its place -/
theorem ix_lt : IxR X (fun x y H Q => rIxL X.K x y H Q ∨ rIxT X.K x y H Q) := ix_list.or ix_tup
end
/-- two ways that meet: J is what holds where they do -/
noncomputable def tJoin (t u : TS) : TS := fun D σ H => ∃ J : L2.St → Hp → Prop, t { D with nx := J } σ H ∧ ∀ σ' H', J σ' H' → u D σ' H'
theorem pss_join {X : Cx} {st : Stmt} {rest : List Stmt} {t u : TS} (h1 : PS X st t) (h2 : PSs X rest u) : PSs X (st :: rest) (tJoin t u) := by
  intro pins s σ H D I h
  obtain ⟨J, h, k⟩ := h
  refine wpAny_execs_cons (thn (h1 pins s σ H { D with nx := J } I h) fun f s1 q => ?_)
  cases f with
  | next =>
    obtain ⟨σ', H', I', q⟩ := q
    exact h2 pins s1 σ' H' D I' (k σ' H' q)
  | ret v => exact q
  | brk => exact q
  | cont => exact q
theorem kit_same (K : PySem.W.Frag) (n : String) : PySem.W.kitOne K (.type n) (.type n) = some true := by
  unfold PySem.W.kitOne
  rw [if_pos (by simp)]
theorem kit_int_bool (K : PySem.W.Frag) : PySem.W.kitOne K (.type "int") (.type "bool") = some false := by rfl
/-! ### small words over lists -/
theorem atI_map {α β : Type} {f : α → β} {xs : List α} {i : Int} {v : α} (h : atI xs i = some v) : atI (xs.map f) i = some (f v) := by
  unfold atI at h ⊢
  rw [List.length_map]
  cases e : ixN xs.length i with
  | none => rw [e] at h; cases h
  | some j =>
    rw [e] at h
    have h' : xs[j]? = some v := h
    show (xs.map f)[j]? = some (f v)
    rw [List.getElem?_map, h']
    rfl
theorem atI_pos {α : Type} {xs : List α} {i : Int} {v : α} (h0 : 0 ≤ i) (h : xs[i.toNat]? = some v) : atI xs i = some v := by
  have e : ((i.toNat : Nat) : Int) = i := by omega
  have := atI_nat h
  rwa [e] at this
/-- new objects stand apart from the old -/
theorem same_upd {H : Hp} {a : Addr} {o : HO} (h : H a = none) : Same H (upd H a o) := fun b u e => by rw [upd_ne (ne_of_none e h)]; exact e
theorem Same.upd {H H' : Hp} {a : Addr} {o : HO} (S : Same H H') (h : H a = none) : Same H (upd H' a o) := fun b u e => by rw [upd_ne (ne_of_none e h)]; exact S b u e
theorem Same.new {H H' : Hp} {a : Addr} {o : HO} (S : Same H H') (h : H' a = none) : Same H (L2.upd H' a o) := Own.Same.upd S (S.free h)
theorem Same.tup {K : PySem.W.Frag} {H H' : Hp} {a : Addr} {xs : List V} (e : Same H H') (h : SqT K H a xs) : SqT K H' a xs := by
  rcases h with (h | ⟨o, h⟩) | h
  · exact .inl (.inl (e _ _ h))
  · exact .inl (.inr ⟨o, e _ _ h⟩)
  · exact .inr h
end Own

namespace Own
open PySem PySem.Spec PyProof.Rows L2
theorem closure_list {env : Env} (names : List (Str × NameKind)) (hall : ∀ x ∈ names, x.2 = .free → ∃ c, env.cells.lookup x.1 = some c) : ∀ cs0 : List (Str × Addr), (∀ x c, cs0.lookup x = some c → env.cells.lookup x = some c) →
    ∃ cl : List (Str × Addr), (forIn names cs0 (fun (x : Str × NameKind) (cs : List (Str × Addr)) => if (x.2 == .free) = true then (do let c ← cellOf env x.1; pure (ForInStep.yield ((x.1, c) :: cs))) else pure (ForInStep.yield cs)) : Sem (List (Str × Addr))) = pure cl ∧
      (∀ x c, cl.lookup x = some c → env.cells.lookup x = some c) ∧ (∀ x, (∃ c, cs0.lookup x = some c) → ∃ c, cl.lookup x = some c) ∧ ∀ x ∈ names, x.2 = .free → ∃ c, cl.lookup x.1 = some c := by
  induction names with
  | nil =>
    intro cs0 h0
    exact ⟨cs0, rfl, h0, fun _ h => h, fun x hx => by cases hx⟩
  | cons y r ih =>
    intro cs0 h0
    have ih' := ih fun x hx => hall x (List.mem_cons_of_mem _ hx)
    obtain ⟨n, k⟩ := y
    by_cases hk : k = .free
    · subst hk
      obtain ⟨c, hc⟩ := hall (n, .free) List.mem_cons_self rfl
      have h1 : ∀ x d, List.lookup x ((n, c) :: cs0) = some d → env.cells.lookup x = some d := fun x d e => by
        rw [List.lookup_cons] at e
        by_cases hx : x = n
        · subst hx
          simp at e
          subst e
          exact hc
        · have : (x == n) = false := by simpa using hx
          rw [this] at e
          exact h0 x d e
      obtain ⟨cl, e, p1, p2, p3⟩ := ih' ((n, c) :: cs0) h1
      refine ⟨cl, ?_, p1, fun x hx => p2 x ?_, fun x hx hf => ?_⟩
      · rw [List.forIn_cons]
        show ((if (NameKind.free == NameKind.free) = true then (do let c ← cellOf env n; pure (ForInStep.yield ((n, c) :: cs0))) else pure (ForInStep.yield cs0)) >>= _) = _
        rw [if_pos (show (NameKind.free == NameKind.free) = true by decide)]
        have ec : cellOf env n = pure c := by unfold cellOf; rw [hc]
        rw [ec]
        exact e
      · rw [List.lookup_cons]
        cases (x == n)
        · exact hx
        · exact ⟨c, rfl⟩
      · rcases List.mem_cons.mp hx with rfl | hx
        · exact p2 n ⟨c, by simp [List.lookup_cons]⟩
        · exact p3 x hx hf
    · obtain ⟨cl, e, p1, p2, p3⟩ := ih' cs0 h0
      refine ⟨cl, ?_, p1, p2, fun x hx hf => ?_⟩
      · rw [List.forIn_cons]
        have hb : (k == NameKind.free) = false := by simpa using hk
        show ((if (k == NameKind.free) = true then (do let c ← cellOf env n; pure (ForInStep.yield ((n, c) :: cs0))) else pure (ForInStep.yield cs0)) >>= _) = _
        rw [if_neg (by rw [hb]; decide)]
        exact e
      · rcases List.mem_cons.mp hx with rfl | hx
        · exact absurd hf hk
        · exact p3 x hx hf
theorem closure_of {env : Env} {sc : Scope} (hall : ∀ x ∈ sc.names, x.2 = .free → ∃ c, env.cells.lookup x.1 = some c) :
    ∃ cl : List (Str × Addr), closureFor sc env = pure cl ∧ (∀ x c, cl.lookup x = some c → env.cells.lookup x = some c) ∧ ∀ x ∈ sc.names, x.2 = .free → ∃ c, cl.lookup x.1 = some c := by
  obtain ⟨cl, e, p1, _, p3⟩ := closure_list sc.names hall [] (fun x c h => by cases h)
  refine ⟨cl, ?_, p1, p3⟩
  unfold closureFor
  show ((forIn sc.names ([] : List (Str × Addr)) (fun (x : Str × NameKind) (cs : List (Str × Addr)) => if (x.2 == .free) = true then (do let c ← cellOf env x.1; pure (ForInStep.yield ((x.1, c) :: cs))) else pure (ForInStep.yield cs)) : Sem (List (Str × Addr))) >>= fun cs => pure cs) = pure cl
  rw [e]
  rfl

/-! ### a comprehension's block -/
noncomputable def compX (X : Cx) (N' : List Str) (sc : Scope) (cl : List (Str × Addr)) (C : Addr) (s₃ : Shared) (H₃ : Hp) (ex : List Addr) : Cx :=
  { X with N := N', s₀ := s₃, H₀ := H₃, env := compEnvC sc cl C X.env, outer := X.stack, ex := ex, fn := fun _ => false, pn := [], xe := fun _ _ => False }
structure CompOk (X : Cx) (N' : List Str) (φ : List (Option Nat)) (sc : Scope) : Prop where
  kind : sc.kind = .function
  okind : X.env.scope.kind = .function
  nocell : ∀ y ∈ sc.names, y.2 ≠ .cell
  names : ∀ y ∈ sc.names, y.2 = .local → sc.names.lookup y.1 = some .local
  frees : ∀ y ∈ sc.names, y.2 = .free → X.env.scope.names.lookup y.1 = some .cell
  len : φ.length = N'.length
  pick : ∀ (i : Nat) (x : Str) (j : Nat), N'[i]? = some x → φ[i]? = some (some j) → X.N[j]? = some x ∧ sc.names.lookup x = some .free
/-- the block's names at each turn's start: those of the def by their slots, its own not known -/
noncomputable def atStart (φ : List (Option Nat)) (σ : L2.St) : L2.St := φ.map fun o => o.bind fun j => (σ[j]?).join
/-- what was known stays known -/
noncomputable def Sub (σ σ' : L2.St) : Prop := σ'.length = σ.length ∧ ∀ (i : Nat) (v : V), σ[i]? = some (some v) → σ'[i]? = some (some v)
theorem Sub.refl {σ : L2.St} : Sub σ σ := ⟨rfl, fun _ _ h => h⟩
theorem Sub.skip {σ σ' : L2.St} {x : Option V} (h : Sub σ σ') : Sub (none :: σ) (x :: σ') := by
  refine ⟨by simp [h.1], fun i v e => ?_⟩
  cases i with
  | zero => simp at e
  | succ i => simp at e ⊢; exact h.2 i v e
theorem Sub.keep {σ σ' : L2.St} {x : Option V} (h : Sub σ σ') : Sub (x :: σ) (x :: σ') := by
  refine ⟨by simp [h.1], fun i v e => ?_⟩
  cases i with
  | zero => simpa using e
  | succ i => simp at e ⊢; exact h.2 i v e
theorem relabel_free {env : Env} (hk : env.scope.kind = .function) : ∀ {names : List (Str × NameKind)} {x : Str}, names.lookup x = some .free → env.scope.names.lookup x = some .cell →
    (names.map fun (n, k) => if (k == NameKind.free && env.scope.kind == .function && env.kindOf n == some .cell) then (n, NameKind.cell) else (n, k)).lookup x = some .cell
  | [], _, h, _ => by simp at h
  | (n, k) :: r, x, h, hc => by
    have ih := @relabel_free env hk r x
    show List.lookup x ((if (k == NameKind.free && env.scope.kind == .function && env.kindOf n == some .cell) = true then (n, NameKind.cell) else (n, k)) :: _) = _
    cases hx : x == n with
    | true =>
      simp only [List.lookup_cons, hx] at h
      cases h
      have e : x = n := by simpa using hx
      subst e
      have hkk : env.kindOf x = some .cell := hc
      rw [hk, hkk]
      simp [List.lookup_cons]
    | false =>
      simp only [List.lookup_cons, hx] at h
      by_cases hcc : (k == NameKind.free && env.scope.kind == .function && env.kindOf n == some .cell) = true
      · rw [if_pos hcc]; simp only [List.lookup_cons, hx]; exact ih h hc
      · rw [if_neg hcc]; simp only [List.lookup_cons, hx]; exact ih h hc
/-- the kinds that a name of the block may have -/
theorem relabel_kind {env : Env} : ∀ {names : List (Str × NameKind)} {x : Str} {q : NameKind},
    (names.map fun (n, k) => if (k == NameKind.free && env.scope.kind == .function && env.kindOf n == some .cell) then (n, NameKind.cell) else (n, k)).lookup x = some q → ∃ k, (x, k) ∈ names ∧ (q = k ∨ k = .free)
  | [], _, _, h => by simp at h
  | (n, k) :: r, x, q, h => by
    have ih := @relabel_kind env r x q
    have h' : List.lookup x ((if (k == NameKind.free && env.scope.kind == .function && env.kindOf n == some .cell) = true then (n, NameKind.cell) else (n, k)) :: (r.map fun (n, k) => if (k == NameKind.free && env.scope.kind == .function && env.kindOf n == some .cell) then (n, NameKind.cell) else (n, k))) = some q := h
    cases hx : x == n with
    | true =>
      have e : x = n := by simpa using hx
      subst e
      by_cases hcc : (k == NameKind.free && env.scope.kind == .function && env.kindOf x == some .cell) = true
      · refine ⟨k, List.mem_cons_self, .inr ?_⟩
        have := (Bool.and_eq_true _ _ ▸ (Bool.and_eq_true _ _ ▸ hcc).1).1
        simpa using this
      · rw [if_neg hcc] at h'
        simp [List.lookup_cons] at h'
        exact ⟨k, List.mem_cons_self, .inl h'.symm⟩
    | false =>
      have h2 : List.lookup x (r.map fun (n, k) => if (k == NameKind.free && env.scope.kind == .function && env.kindOf n == some .cell) then (n, NameKind.cell) else (n, k)) = some q := by
        by_cases hcc : (k == NameKind.free && env.scope.kind == .function && env.kindOf n == some .cell) = true
        · rw [if_pos hcc] at h'; simp only [List.lookup_cons, hx] at h'; exact h'
        · rw [if_neg hcc] at h'; simp only [List.lookup_cons, hx] at h'; exact h'
      obtain ⟨k', hm, hq⟩ := ih h2
      exact ⟨k', List.mem_cons_of_mem _ hm, hq⟩

/-! ### the loop of a comprehension -/
theorem compLoop_go {prog : Program} {w : World} {A : Around} {R : Result → Shared → Prop} {s : Shared} {elt target iter : Expr} {ifs : List Expr} {scope : Scope} {pos : Pos} {it acc : Value} {env : Env} (I : Nat → Shared → Prop)
    (turn : ∀ n s, I n s → wpAny (model prog w) A (pyNext it) (fun r s₁ => match r with
      | none => R (.ok .next) s₁
      | some v => wpAny (model prog w) A (letOwnedTupleGo target it v) (fun _ s₁' => wpAny (model prog w) A (assign target env v) (fun _ s₂ =>
          wpAny (model prog w) A (forIn ifs true fun c r => if r = true then do let ok ← isTrue c env (eval c env); pure (ForInStep.yield ok) else pure (ForInStep.yield r)) (fun ok s₃ =>
            if ok = true then wpAny (model prog w) A (eval elt env) (fun x s₄ =>
              wpAny (model prog w) A (call (.builtin "list.append") [acc, x]) (fun _ s₅ => ∃ m, m < n ∧ I m s₅) (fun _ _ => False) s₄) (fun _ _ => False) s₃
            else ∃ m, m < n ∧ I m s₃) (fun _ _ => False) s₂) (fun _ _ => False) s₁') (fun _ _ => False) s₁) (fun _ _ => False) s)
    (n : Nat) (h : I n s) :
    codeAny (model prog w) A (.compLoop (.ListComp elt [⟨target, iter, ifs, 0⟩] scope pos) 0 it acc env) R s := by
  refine codeAny_loop rfl I (fun n s hI => ?_) n h
  show wpAny _ A ((compTurn (.ListComp elt [⟨target, iter, ifs, 0⟩] scope pos) 0 it acc env).onRaise (fun x => do noteFrame x env; theTreesLotGoes x)) _ _ s
  refine wpAny_noted ?_
  rw [compTurn_list]
  refine wpAny_bind (wpAny_standAt (wpAny_bind (wpAny_mono (turn n s hI) (fun r s₁ h₁ => ?_) fun _ _ h' => h'.elim)))
  cases r with
  | none => exact wpAny_pure h₁
  | some v =>
    refine wpAny_bind (wpAny_mono h₁ (fun _ s₁' h₁' => ?_) fun _ _ h' => h'.elim)
    refine wpAny_bind (wpAny_mono h₁' (fun _ s₂ h₂ => wpAny_bind (wpAny_mono h₂ (fun ok s₃ h₃ => ?_) fun _ _ h' => h'.elim)) fun _ _ h' => h'.elim)
    cases ok with
    | false => exact wpAny_pure ⟨rfl, h₃⟩
    | true =>
      exact wpAny_bind (wpAny_bind (wpAny_mono h₃ (fun x s₄ h₄ => wpAny_bind (wpAny_mono h₄ (fun _ s₅ h₅ => wpAny_pure (wpAny_pure ⟨rfl, h₅⟩)) fun _ _ h' => h'.elim)) fun _ _ h' => h'.elim))

/-- the tests of a comprehension -/
noncomputable def PIfs (X : Cx) (ifs : List Expr) (t : TT) : Prop :=
  ∀ (pins : List (Addr × Obj)) (s : Shared) (σ : L2.St) (H : Hp) (Q : Bool → Hp → Prop), Inv X pins σ H s → t σ H Q →
    wpAny (model X.prog X.w) X.A (forIn ifs true fun c r => if r = true then do let ok ← isTrue c X.env (eval c X.env); pure (ForInStep.yield ok) else pure (ForInStep.yield r)) (TP X pins σ Q) X.xe s
noncomputable def tNoIf : TT := fun _ H Q => Q true H
theorem pifs_nil {X : Cx} : PIfs X [] tNoIf := fun _ _ _ H _ I h => wpAny_pure ⟨H, I, h⟩
theorem pifs_one {X : Cx} {c : Expr} {t : TT} (hc : PT X c t) : PIfs X [c] t := by
  intro pins s σ H Q I h
  rw [List.forIn_cons]
  refine wpAny_bind ?_
  rw [if_pos rfl]
  exact wpAny_bind (thn (hc pins s σ H Q I h) fun b s1 q => wpAny_pure (wpAny_pure q))

/-- one turn's want: y is appended, or nothing is -/
noncomputable def tComp (φ : List (Option Nat)) (wi : TI) (g : TG) (tc : TT) (te : TE) : TE := fun σ H Q => wi σ H fun J H1 => ∀ D, H1 D = none → ∃ W : Nat → Nat → List V → Hp → Prop, (∃ m, W 0 m [] (upd H1 D (.lst []))) ∧
  ∀ i m ys H2, W i m ys H2 → (J.stop i H2 ∧ Q (.ref D) H2) ∨ (J.go i H2 ∧ ∀ x H3, J.yld i H2 x H3 → g x (atStart φ σ) H3 fun σ2 H4 => Sub (atStart φ σ) σ2 ∧ tc σ2 H4 fun b H5 =>
    if b = true then te σ2 H5 fun y H6 => H6 D = some (.lst ys) ∧ ys.length < sizeLine ∧ ∃ m', m' < m ∧ W (i + 1) m' (ys ++ [y]) (upd H6 D (.lst (ys ++ [y]))) else ∃ m', m' < m ∧ W (i + 1) m' ys H5)

theorem Inv.weak {X : Cx} {pins : List (Addr × Obj)} {σ σ' : L2.St} {H : Hp} {s : Shared} (I : Inv X pins σ' H s) (S : Sub σ σ') : Inv X pins σ H s :=
  ⟨I.ok, I.os, I.bare, I.base, let ⟨m, hn, hl⟩ := I.loc; ⟨m, hn, fun i x v h1 h2 h3 => hl i x v h1 (S.2 i v h2) h3⟩, I.cell, I.free, I.freeC, I.pin, I.hok, by rw [← S.1]; exact I.len⟩
theorem atStart_get {φ : List (Option Nat)} {σ : L2.St} {i : Nat} {v : V} (h : (atStart φ σ)[i]? = some (some v)) : ∃ j, φ[i]? = some (some j) ∧ σ[j]? = some (some v) := by
  unfold atStart at h
  rw [List.getElem?_map] at h
  cases e : φ[i]? with
  | none => rw [e] at h; cases h
  | some o =>
    rw [e] at h
    cases o with
    | none => simp at h
    | some j =>
      refine ⟨j, rfl, ?_⟩
      simp at h
      cases e2 : σ[j]? with
      | none => rw [e2] at h; simp at h
      | some w => rw [e2] at h; simp at h; rw [h]
/-- what is wanted where the block is left: the list at D, the block's names at C -/
noncomputable def CompEnd (X : Cx) (pins : List (Addr × Obj)) (σ : L2.St) (Q : VK) (use : Option (Value → Sem Unit)) (QQ : Value → Shared → Prop) : Prop :=
  ∀ (D C : Addr) (H5 : Hp) (s6 : Shared), Q (.ref D) H5 → Inv X pins σ H5 s6 → (∃ m, s6.heap.Ns C m) → H5 C = none → C ≠ X.env.locals → X.s₀.heap.objs.size ≤ C → (∀ x c, X.env.cells.lookup x = some c → c ≠ C) → (∀ p ∈ X.pn ++ pins, p.1 ≠ C) → C ∉ X.fs →
    compPost (model X.prog X.w) X.A X.xe use QQ (.ref D) C (.ok .next) s6
theorem comp_run {X : Cx} {N' : List Str} {φ : List (Option Nat)} {sc : Scope} {elt iter tg : Expr} {ifs : List Expr} {pos pos' : Pos} {wi : TI} {g : TG} {tc : TT} {te : TE} {use : Option (Value → Sem Unit)} {QQ : Value → Shared → Prop} (hcalm : X.calm = true) (S : CompOk X N' φ sc) (hi : PI X tg iter wi)
    (hin : ∀ cl C s₃ H₃ ex, PG (compX X N' sc cl C s₃ H₃ ex) tg g ∧ PIfs (compX X N' sc cl C s₃ H₃ ex) ifs tc ∧ PE (compX X N' sc cl C s₃ H₃ ex) elt te) (hs : ∀ x, foldedSetIterable iter X.env x = pure x)
    {pins : List (Addr × Obj)} {s : Shared} {σ : L2.St} {H : Hp} {Q : VK} (I : Inv X pins σ H s) (h : tComp φ wi g tc te σ H Q) (fin : CompEnd X pins σ Q use QQ) :
    wpAny (model X.prog X.w) X.A (comprehension (.ListComp elt [⟨tg, iter, ifs, 0⟩] sc pos) sc X.env pos' (newList []) false (eval iter X.env) use) QQ X.xe s := by
  obtain ⟨cl, hcl, p1, p3⟩ := closure_of (env := X.env) (sc := sc) fun x hx hf => I.ok.has x.1 (.inl (S.frees x hx hf))
  refine wpAny_comprehension_free (use := use) rfl hs hcl S.kind S.names ?_
  refine thn (hi pins s σ H _ I h) fun v s1 h1 => thn h1 fun itv s2 h2 => ?_
  obtain ⟨it, fp, tn, J, H2, e, I2, T, st2, f2, hR⟩ := h2
  subst e
  refine wpAny_newObj_type ?_
  -- the list that is built
  have hf : H2 s2.heap.objs.size = none := I2.hok.fresh (Nat.le_refl _)
  obtain ⟨W, ⟨m0, w0⟩, turn⟩ := hR s2.heap.objs.size hf
  generalize eD : s2.heap.objs.size = D at *
  have I3 : Inv X pins σ (upd H2 D (.lst [])) { s2 with heap := s2.heap.push { cls := .type "list", dict := none, data := .seq ([] : List Value).toArray } } :=
    I2.laid (t' := s2.toks) (fun b u e => Heap.get?_push_of_some _ e) (Nat.le_of_eq eD) ⟨Nat.zero_le _, [], 0, .nil, by rw [← eD]; exact Heap.get?_push_size _ rfl⟩
  have st3 : tn 0 (s2.heap.push { cls := .type "list", dict := none, data := .seq ([] : List Value).toArray }) := T.keep _ _ _ st2 fun b _ o e => Heap.get?_push_of_some _ e
  have hfpD : ∀ b ∈ fp, b ≠ D := fun b hb z => by
    obtain ⟨o, ho, _⟩ := T.obj _ _ st2 b hb
    have := Heap.lt_size ho
    rw [z, ← eD] at this
    exact Nat.lt_irrefl _ this
  have f3 : ∀ b ∈ fp, FpOk X pins (upd H2 D (.lst [])) b := fun b hb => ⟨by rw [upd_ne (hfpD b hb)]; exact (f2 b hb).1, (f2 b hb).2⟩
  generalize es3 : ({ s2 with heap := s2.heap.push { cls := .type "list", dict := none, data := .seq ([] : List Value).toArray } } : Shared) = s3 at *
  have st3' : tn 0 s3.heap := by rw [← es3]; exact st3
  generalize eH3 : upd H2 D (.lst []) = H3 at *
  refine wpAny_newFunctionEnv S.nocell (by intro y hy; simp at hy) (fun h₁ hns₁ hsb₁ => ?_) S.kind
  have hh3 : s3.heap = s2.heap.push { cls := .type "list", dict := none, data := .seq ([] : List Value).toArray } := by rw [← es3]
  rw [hh3] at hns₁ hsb₁
  rw [← hh3] at hns₁ hsb₁
  have old : ∀ b o, s3.heap.get? b = some o → h₁.get? b = some o := fun b o e => hsb₁.extBut b o (Nat.ne_of_lt (Heap.lt_size e)) (Heap.get?_push_of_some _ e)
  have hC0 : s3.heap.get? s3.heap.objs.size = none := by
    cases e : s3.heap.get? s3.heap.objs.size with
    | none => rfl
    | some o => exact absurd (Heap.lt_size e) (Nat.lt_irrefl _)
  generalize eC : s3.heap.objs.size = C at *
  have hH3C : H3 C = none := I3.hok.fresh (Nat.le_of_eq eC)
  -- the block's context
  have OK : (compX X N' sc cl C s3 H3 fp).Ok := by
    refine ⟨I.ok.mod, ?_, I.ok.glob, I.ok.blt, Nat.le_of_eq eC, fun x y c h1 h2 => I.ok.inj x y c (p1 x c h1) (p1 y c h2), ?_, (fun x c hx => by cases hx), I.ok.hd, I.ok.frames, .inl rfl, ?_, I3.bs, Nat.le_trans I.ok.bsz I3.sz, ?_, ?_, I3.stack, I3.stkFree⟩
    · exact S.kind
    · intro x hx
      have hx' : (∃ k, (x, k) ∈ sc.names ∧ (NameKind.cell = k ∨ k = .free)) ∨ ∃ k, (x, k) ∈ sc.names ∧ (NameKind.free = k ∨ k = .free) := hx.imp relabel_kind relabel_kind
      have hfr : (x, NameKind.free) ∈ sc.names := by
        rcases hx' with ⟨k, hm, rfl | rfl⟩ | ⟨k, hm, rfl | rfl⟩
        · exact absurd rfl (S.nocell _ hm)
        · exact hm
        · exact hm
        · exact hm
      exact p3 _ hfr rfl
    · intro b hb
      refine ⟨fun z => ?_, fun x c hx => (f3 b hb).2.2.2.2.1 x c (p1 x c hx)⟩
      obtain ⟨o, ho, _⟩ := T.obj _ _ st3' b hb
      have z' : b = C := z
      rw [z', hC0] at ho
      cases ho
    · intro b o hb hx
      obtain ⟨_, _, _, q, _, _⟩ := f3 b hx
      rcases q with q | q
      · exact I.ok.noex b o hb q
      · have := Nat.lt_of_lt_of_le (Heap.lt_size hb) (Nat.le_trans I.ok.bsz q)
        exact Nat.lt_irrefl _ this
    · intro b hb hz
      rcases List.mem_cons.mp (I.stkSub b hz) with q | q
      · exact (f3 b hb).2.1 q
      · exact (f3 b hb).2.2.1 q
  have hlen0 : (atStart φ σ).length = N'.length := by unfold atStart; rw [List.length_map]; exact S.len
  have I4 : Inv (compX X N' sc cl C s3 H3 fp) [] (atStart φ σ) H3 { s3 with heap := h₁, toks := s3.toks + ([] : List (Str × Value)).length } := by
    refine ⟨OK, rfl, I3.bare, Un.kept old, ⟨_, hns₁, fun i x v h1 h2 h3 => ?_⟩, fun x c hx => ?_, hH3C, fun x c hx => I3.freeC x c (p1 x c hx), fun p hp => ?_, I3.hok.kept old, hlen0⟩
    · obtain ⟨j, hj, hv⟩ := atStart_get h2
      obtain ⟨hN, hfr⟩ := S.pick i x j h1 hj
      obtain ⟨m, _, hl⟩ := I3.loc
      have hm : (x, NameKind.free) ∈ sc.names := PySem.mem_of_lookup hfr
      have hcell := S.frees _ hm rfl
      obtain ⟨u, ru, lk⟩ := hl j x v hN hv (.inr (.inl hcell))
      refine ⟨u, ru, .inr ⟨.inl (relabel_free S.okind hfr hcell), ?_⟩⟩
      obtain ⟨c, hc⟩ := p3 _ hm rfl
      rcases lk with ⟨hk, _⟩ | ⟨_, c', hc', hcl'⟩
      · have hk' : X.env.scope.names.lookup x = some .local := hk
        rw [hcell] at hk'
        cases hk'
      · have e := p1 _ _ hc
        rw [hc'] at e
        cases e
        obtain ⟨o, ho, hd⟩ := hcl'
        exact ⟨_, hc, o, old _ o ho, hd⟩
    · obtain ⟨v, hv⟩ := I3.cell x c (p1 x c hx)
      obtain ⟨o, ho, hd⟩ := hv
      exact ⟨v, o, old _ o ho, hd⟩
    · exact absurd hp (by simp [compX])
  have st4 : tn 0 h₁ := T.keep _ _ _ st3' fun b _ o e => old b o e
  have stat : ∀ {H' : Hp}, (∀ b ∈ fp, H' b = none) → ∀ b ∈ fp, FpOk (compX X N' sc cl C s3 H3 fp) [] H' b := fun hn b hb =>
    ⟨hn b hb, (OK.exf b hb).1, OK.exfs b hb, .inl hb, (OK.exf b hb).2, fun p hp => absurd hp (by simp [compX])⟩
  obtain ⟨hPG, hPI, hPE⟩ := hin cl C s3 H3 fp
  have loop : codeAny (model X.prog X.w) X.A (.compLoop (.ListComp elt [⟨tg, iter, ifs, 0⟩] sc pos) 0 (.ref it) (.ref D) (compEnvC sc cl C X.env)) (compPost (model X.prog X.w) X.A X.xe use QQ (.ref D) C) { s3 with heap := h₁, toks := s3.toks + ([] : List (Str × Value)).length } := by
    refine compLoop_go (fun n s' => ∃ i ys σ' H', Inv (compX X N' sc cl C s3 H3 fp) [] σ' H' s' ∧ Sub (atStart φ σ) σ' ∧ tn i s'.heap ∧ (∀ b ∈ fp, H' b = none) ∧ W i n ys H') ?_ m0 ⟨0, [], _, _, I4, Sub.refl, st4, fun b hb => (f3 b hb).1, w0⟩
    rintro n s5 ⟨i, ys, σ5, H5, I5, sub5, st5, fr5, w5⟩
    have I5' := Own.Inv.weak I5 sub5
    rcases turn i n ys H5 w5 with ⟨stop, qn⟩ | ⟨go, step⟩
    · refine thn (T.done (compX X N' sc cl C s3 H3 fp) rfl rfl rfl hcalm i [] s5 _ H5 _ I5' (stat fr5) st5 stop) fun r s6 ⟨hr, I6⟩ => ?_
      subst hr
      obtain ⟨m, hn, _⟩ := I6.loc
      obtain ⟨hh, gg, dd, tt, oo⟩ := s6
      obtain rfl : oo = s3.os := I6.os
      have R : Inv X pins σ H5 { s3 with heap := hh, gens := gg, drawn := dd, toks := tt } := I3.call (ch := fp) (h' := hh) (g' := gg) (d' := dd) (t' := tt) I6.base I6.hok I6.bare fun b hb => ⟨(f3 b hb).2.2.2.1, (f3 b hb).2.1, (f3 b hb).2.2.2.2.1, (f3 b hb).2.2.2.2.2⟩
      have hC3 : s3.heap.objs.size ≤ C := Nat.le_of_eq eC
      obtain ⟨q0, q1, q2, q3, q4, q5⟩ := I3.fpOk (b := C) (H' := H3) hC3 hH3C
      refine fin D C H5 _ qn R ⟨m, hn⟩ I6.free q1 (Nat.le_trans I3.sz hC3) q4 q5 q2
    · refine thn (T.item (compX X N' sc cl C s3 H3 fp) rfl rfl rfl hcalm i [] s5 _ H5 _ I5' (stat fr5) st5 go) fun r s6 ⟨u, hr, h6⟩ => ?_
      subst hr
      refine thn h6 fun _ s7 ⟨x, H7, I7, r7, y7, st7, fr7⟩ => ?_
      have I7' := I7.pinned (stat fr7) (T.obj _ _ st7)
      refine thn (hPG _ s7 _ H7 x u _ I7' r7 (step x H7 y7)) fun _ s8 ⟨σ8, H8, I8, sub8, q8⟩ => ?_
      refine thn (hPI _ s8 σ8 H8 _ I8 q8) fun ok s9 ⟨H9, I9, q9⟩ => ?_
      have again : ∀ {s10 : Shared} {H10 : Hp} {ys' : List V} {m' : Nat}, Inv (compX X N' sc cl C s3 H3 fp) ([] ++ pinsAt fp s7.heap) σ8 H10 s10 → W (i + 1) m' ys' H10 → ∃ i ys σ' H', Inv (compX X N' sc cl C s3 H3 fp) [] σ' H' s10 ∧ Sub (atStart φ σ) σ' ∧ tn i s10.heap ∧ (∀ b ∈ fp, H' b = none) ∧ W i m' ys H' := fun {s10 H10 ys' m'} J10 w10 => by
        refine ⟨i + 1, ys', σ8, H10, J10.unpinned, sub8, T.keep _ _ _ st7 fun b hb o e => (J10.pin (b, o) (List.mem_append_right _ (List.mem_append_right _ (mem_pinsAt hb e)))).1, fun b hb => ?_, w10⟩
        obtain ⟨o, e, d⟩ := T.obj _ _ st7 b hb
        exact (J10.pin (b, o) (List.mem_append_right _ (List.mem_append_right _ (mem_pinsAt hb e)))).2.1
      cases ok with
      | false =>
        obtain ⟨m', hm, w'⟩ := q9
        exact ⟨m', hm, again I9 w'⟩
      | true =>
        refine thn (hPE _ s9 σ8 H9 _ I9 q9) fun xv s10 ⟨y, H10, I10, r10, hD, hl, m', hm, w'⟩ => ?_
        refine thn (mt_append _ s10 σ8 H10 (.ref D) [y] (.ref D) [xv] (fun _ H11 => H11 = upd H10 D (.lst (ys ++ [y]))) I10 rfl (.cons r10 .nil) ⟨D, ys, y, rfl, rfl, hD, hl, rfl⟩) fun _ s11 ⟨_, H11, I11, _, e11⟩ => ?_
        subst e11
        exact ⟨m', hm, again I11 w'⟩
  refine codeAny_compStart_list loop (T.self _ 0 _ _ _ st4 loop)
/-- a comprehension as a value -/
theorem pe_comp {X : Cx} {N' : List Str} {φ : List (Option Nat)} {sc : Scope} {elt iter tg : Expr} {ifs : List Expr} {pos : Pos} {wi : TI} {g : TG} {tc : TT} {te : TE} (hcalm : X.calm = true) (S : CompOk X N' φ sc) (hi : PI X tg iter wi)
    (hin : ∀ cl C s₃ H₃ ex, PG (compX X N' sc cl C s₃ H₃ ex) tg g ∧ PIfs (compX X N' sc cl C s₃ H₃ ex) ifs tc ∧ PE (compX X N' sc cl C s₃ H₃ ex) elt te)
    (hs : ∀ x, foldedSetIterable iter X.env x = pure x := by intro _; rfl) : PE X (.ListComp elt [⟨tg, iter, ifs, 0⟩] sc pos) (tComp φ wi g tc te) := by
  intro pins s σ H Q I h
  rw [eval_ListComp]
  refine comp_run (use := none) hcalm S hi hin hs I h fun D C H5 s6 q R hm c0 c1 c2 c3 c4 c5 => ?_
  obtain ⟨m, hn⟩ := hm
  exact ⟨m, hn, fun h' sb => ⟨.ref D, H5, R.turned (it := C) (t' := s6.toks) (fun b o hb e => sb.extBut b o hb e) c0 c1 (.inr c2) c3 c4, rfl, q⟩⟩
/-- name = [..], the name a plain local of the def: stored ahead of the letting go of the block's names -/
theorem ps_setComp {X : Cx} {N' : List Str} {φ : List (Option Nat)} {sc : Scope} {elt iter tg : Expr} {ifs : List Expr} {pos spos py : Pos} {wi : TI} {g : TG} {tc : TT} {te : TE} {i : Nat} {y : Str} (hN : X.N.Nodup) (hy : X.N[i]? = some y) (hl : X.env.scope.names.lookup y = some .local)
    (hcalm : X.calm = true) (S : CompOk X N' φ sc) (hi : PI X tg iter wi)
    (hin : ∀ cl C s₃ H₃ ex, PG (compX X N' sc cl C s₃ H₃ ex) tg g ∧ PIfs (compX X N' sc cl C s₃ H₃ ex) ifs tc ∧ PE (compX X N' sc cl C s₃ H₃ ex) elt te)
    (hs : ∀ x, foldedSetIterable iter X.env x = pure x := by intro _; rfl) (hsw : swapsWith (.ListComp elt [⟨tg, iter, ifs, 0⟩] sc pos) (some (.Name y py)) spos.line X.env = pure true := by rfl) :
    PS X (.Assign [.Name y py] (.ListComp elt [⟨tg, iter, ifs, 0⟩] sc pos) spos) (tAsg (tComp φ wi g tc te) (gName i)) := by
  intro pins s σ H D0 I h
  rw [exec_Assign_Name_used _ _ _ _ hsw]
  refine wpAny_bind (wpAny_standAt (wpAny_bind ?_))
  show wpAny _ X.A (do let _ ← comprehension (.ListComp elt [⟨tg, iter, ifs, 0⟩] sc pos) sc X.env _ (newList []) false (eval iter X.env) (some (assign (.Name y py) X.env))) _ _ s
  refine wpAny_bind (wpAny_mono (comp_run (use := some (assign (.Name y py) X.env)) (QQ := fun _ s' => SP X pins D0 .next s') hcalm S hi hin hs I h fun D C H5 s6 q R hm c0 c1 c2 c3 c4 c5 => ?_) (fun _ s' z => wpAny_pure (wpAny_pure z)) fun _ _ e => e)
  obtain ⟨m, oC, es, ep, hoC, hdC, rC⟩ := hm
  have R2 : Inv X (pins ++ [(C, oC)]) σ H5 s6 := R.pins_of fun p hp => (List.mem_append.mp hp).elim (fun z => R.pin p (List.mem_append_right _ z)) fun z => by
    rw [List.mem_singleton.mp z]
    exact ⟨hoC, c0, c1, c5, fun v e => by rw [hdC] at e; cases e⟩
  show wpAny _ X.A (assign (.Name y py) X.env (.ref D)) _ _ _
  refine wpAny_assign_Name (store_ok R2 hN hy (.inl hl) (v := .ref D) (u := .ref D) rfl (fun s7 I7 => ?_) (.inr hl))
  have hC7 := (I7.pin (C, oC) (List.mem_append_right _ (List.mem_append_right _ (List.mem_singleton.mpr rfl)))).1
  refine ⟨m, ⟨oC, es, ep, hC7, hdC, rC⟩, fun h' sb => ?_⟩
  have I8 : Inv X pins (σ.set i (some (.ref D))) H5 s7 := I7.unpinned
  exact ⟨_, H5, I8.turned (it := C) (t' := s7.toks) (fun b o hb e => sb.extBut b o hb e) c0 c1 (.inr c2) c3 c4, q⟩
/-- what a comprehension's scope must be, as one look -/
noncomputable def compChk (sc osc : Scope) (N N' : List Str) (φ : List (Option Nat)) : Bool :=
  sc.kind == .function && osc.kind == .function && (sc.names.all fun y => y.2 != .cell && (y.2 != .local || sc.names.lookup y.1 == some .local) && (y.2 != .free || osc.names.lookup y.1 == some .cell)) &&
    φ.length == N'.length && ((N'.zip φ).all fun p => match p.2 with | none => true | some j => N[j]? == some p.1 && sc.names.lookup p.1 == some .free)
theorem CompOk.of {X : Cx} {N' : List Str} {φ : List (Option Nat)} {sc : Scope} (h : compChk sc X.env.scope X.N N' φ = true) : CompOk X N' φ sc := by
  unfold compChk at h
  simp only [Bool.and_eq_true, beq_iff_eq, List.all_eq_true, Bool.or_eq_true, bne_iff_ne, ne_eq] at h
  obtain ⟨⟨⟨⟨h1, h2⟩, h3⟩, h4⟩, h5⟩ := h
  refine ⟨h1, h2, fun y hy => (h3 y hy).1.1, fun y hy hl => ?_, fun y hy hf => ?_, h4, fun i x j hi hj => ?_⟩
  · rcases (h3 y hy).1.2 with z | z
    · exact absurd hl z
    · exact z
  · rcases (h3 y hy).2 with z | z
    · exact absurd hf z
    · exact z
  · have hz : (N'.zip φ)[i]? = some (x, some j) := by rw [List.getElem?_zip_eq_some]; exact ⟨hi, hj⟩
    have := h5 _ (List.mem_of_getElem? hz)
    simpa using this
end Own

namespace SetR
open PySem PySem.Spec PyProof.Rows L2
/-! ### rising places -/
noncomputable def Ris (xs : Array Nat) : Prop := ∀ i j, i < j → j < xs.size → xs.getD i 0 < xs.getD j 0
theorem getD_any {xs : Array Nat} {i a b : Nat} (h : i < xs.size) : xs.getD i a = xs.getD i b := by simp [Array.getD, h]
theorem below_go {xs : Array Nat} (R : Ris xs) (j : Nat) : ∀ (fuel lo hi : Nat), hi - lo ≤ fuel → lo ≤ hi → hi ≤ xs.size → (∀ k, k < lo → xs.getD k 0 < j) → (∀ k, hi ≤ k → k < xs.size → j ≤ xs.getD k 0) →
    let r := SetTable.below.go xs j fuel lo hi
    r ≤ xs.size ∧ (∀ k, k < r → xs.getD k 0 < j) ∧ ∀ k, r ≤ k → k < xs.size → j ≤ xs.getD k 0 := by
  intro fuel
  induction fuel with
  | zero =>
    intro lo hi h1 h2 h3 h4 h5
    have e : lo = hi := by omega
    subst e
    exact ⟨h3, h4, h5⟩
  | succ fuel ih =>
    intro lo hi h1 h2 h3 h4 h5
    show (let r := (if lo < hi then (if xs.getD ((lo + hi) / 2) j < j then SetTable.below.go xs j fuel ((lo + hi) / 2 + 1) hi else SetTable.below.go xs j fuel lo ((lo + hi) / 2)) else lo); r ≤ xs.size ∧ (∀ k, k < r → xs.getD k 0 < j) ∧ ∀ k, r ≤ k → k < xs.size → j ≤ xs.getD k 0)
    by_cases hl : lo < hi
    · rw [if_pos hl]
      have hm : (lo + hi) / 2 < xs.size := by omega
      by_cases hc : xs.getD ((lo + hi) / 2) j < j
      · rw [if_pos hc]
        refine ih _ _ (by omega) (by omega) h3 (fun k hk => ?_) h5
        rw [getD_any (b := 0) hm] at hc
        by_cases e : k = (lo + hi) / 2
        · rw [e]; exact hc
        · exact Nat.lt_trans (R k _ (by omega) hm) hc
      · rw [if_neg hc]
        refine ih _ _ (by omega) (by omega) (by omega) h4 (fun k hk hk2 => ?_)
        rw [getD_any (b := 0) hm] at hc
        by_cases e : k = (lo + hi) / 2
        · rw [e]; omega
        · have := R _ k (show (lo + hi) / 2 < k by omega) hk2
          omega
    · rw [if_neg hl]
      have e : lo = hi := by omega
      subst e
      exact ⟨h3, h4, h5⟩
theorem below_ok {xs : Array Nat} (R : Ris xs) (j : Nat) : SetTable.below xs j ≤ xs.size ∧ (∀ k, k < SetTable.below xs j → xs.getD k 0 < j) ∧ ∀ k, SetTable.below xs j ≤ k → k < xs.size → j ≤ xs.getD k 0 :=
  below_go R j xs.size 0 xs.size (by omega) (by omega) (by omega) (fun k hk => by omega) (fun k h1 h2 => by omega)
/-- the next place behind the i-th -/
theorem below_next {xs : Array Nat} (R : Ris xs) {i : Nat} (hi : i ≤ xs.size) {slot : Nat} (h1 : ∀ k, k < i → xs.getD k 0 < slot) (h2 : ∀ k, i ≤ k → k < xs.size → slot ≤ xs.getD k 0) : SetTable.below xs slot = i := by
  obtain ⟨a, b, c⟩ := below_ok R slot
  rcases Nat.lt_trichotomy (SetTable.below xs slot) i with h | h | h
  · have := c _ (Nat.le_refl _) (by omega)
    have := h1 _ h
    omega
  · exact h
  · have := b i h
    have := h2 i (Nat.le_refl _) (by omega)
    omega
/-- the places rise -/
noncomputable def Rise (xs : Array Nat) : Prop := xs.toList.Pairwise (· < ·)
theorem Rise.ris {xs : Array Nat} (h : Rise xs) : Ris xs := by
  intro i j hij hj
  have hi : i < xs.size := by omega
  have := (List.pairwise_iff_getElem.mp h) i j (by simpa using hi) (by simpa using hj) hij
  simpa [Array.getD, hi, hj] using this
theorem rise_insert {xs : Array Nat} {j : Nat} (h : Rise xs) (hn : xs[SetTable.below xs j]? ≠ some j) : Rise (SetTable.insertAt xs (SetTable.below xs j) j) := by
  obtain ⟨a, b, c⟩ := below_ok h.ris j
  generalize SetTable.below xs j = p at *
  unfold Rise
  rw [SetTable.toList_insertAt]
  refine List.pairwise_append.mpr ⟨h.sublist (List.take_sublist _ _), List.pairwise_cons.mpr ⟨fun y hy => ?_, h.sublist (List.drop_sublist _ _)⟩, fun x hx y hy => ?_⟩
  · obtain ⟨k, hk, e⟩ := List.mem_drop_iff_getElem.mp hy
    have hk' : p + k < xs.size := by
      simp only [Array.length_toList] at hk
      omega
    have h1 := c (p + k) (by omega) hk'
    have e' : xs.getD (p + k) 0 = y := by simpa [Array.getD, hk'] using e
    rw [e'] at h1
    rcases Nat.lt_or_ge j y with h2 | h2
    · exact h2
    · have ey : y = j := by omega
      exfalso
      rcases Nat.eq_zero_or_pos k with rfl | hk0
      · apply hn
        rw [Array.getElem?_eq_getElem (by omega)]
        have : xs[p] = y := by simpa using e
        rw [this, ey]
      · have h3 := h.ris p (p + k) (by omega) hk'
        have h4 := c p (Nat.le_refl _) (by omega)
        omega
  · have hx' : x < j := by
      obtain ⟨k, hk, e⟩ := List.mem_take_iff_getElem.mp hx
      have hk1 : k < p := by omega
      have hk2 : k < xs.size := by omega
      have := b k hk1
      have e' : xs.getD k 0 = x := by simpa [Array.getD, hk2] using e
      omega
    rcases List.mem_cons.mp hy with rfl | hy
    · exact hx'
    · obtain ⟨k, hk, e⟩ := List.mem_drop_iff_getElem.mp hy
      have hk' : p + k < xs.size := by
        simp only [Array.length_toList] at hk
        omega
      have h1 := c (p + k) (by omega) hk'
      have e' : xs.getD (p + k) 0 = y := by simpa [Array.getD, hk'] using e
      omega
/-! ### what stays true of a set's table -/
structure Tb (b : Bool) (t : SetTable) : Prop where
  led : t.led = b
  dum : t.dummies = #[]
  ris : Rise t.place
theorem has_nil (j : Nat) : SetTable.has #[] j = false := by
  unfold SetTable.has
  simp
theorem Tb.fresh (b : Bool) : Tb b (.fresh 0 0 b) := ⟨rfl, rfl, List.Pairwise.nil⟩
theorem rise_range (n : Nat) : Rise (Array.range n) := by
  unfold Rise
  rw [Array.toList_range]
  exact List.pairwise_lt_range
theorem Tb.stand {b : Bool} {t : SetTable} (h : Tb b t) (n : Nat) : Tb b (t.standIn n) := ⟨h.led, rfl, rise_range n⟩
theorem Tb.orStand {b : Bool} {t : SetTable} (h : Tb b t) (n : Nat) : Tb b (t.orStandIn n) := by
  unfold SetTable.orStandIn
  split
  · exact h
  · exact h.stand n
theorem Tb.plainOff {b : Bool} {t : SetTable} (h : Tb b t) : Tb b { t with plain := false } := ⟨h.led, h.dum, h.ris⟩
theorem Tb.put {b : Bool} {t : SetTable} (h : Tb b t) {j : Nat} (hn : t.place[SetTable.below t.place j]? ≠ some j) : Tb b (t.put j).1 := by
  refine ⟨h.led, ?_, rise_insert h.ris hn⟩
  show (if SetTable.has t.dummies j = true then _ else t.dummies) = #[]
  rw [h.dum, has_nil]
  rfl
theorem probe_empty {b : Bool} {t : SetTable} (h : Tb b t) (f : Nat → Int) (z : Int) : ∀ (fuel : Nat) (p : SetTable.Probe) (j : Nat) (d : Option Nat), p.dummy = none → SetTable.probe.go t f z fuel p = some (.empty j d) → d = none ∧ t.place[SetTable.below t.place j]? ≠ some j := by
  intro fuel
  induction fuel with
  | zero => intro p j d _ e; cases e
  | succ fuel ih =>
    intro p j d hp e
    unfold SetTable.probe.go at e
    have hadv : ∀ q : SetTable.Probe, q.dummy = none → (t.advance q).dummy = none := fun q hq => by
      unfold SetTable.advance
      split
      · exact hq
      · exact hq
    cases es : t.slot p.j with
    | empty =>
      rw [es] at e
      have e' := Option.some.inj e
      injection e' with e1 e2
      subst e1
      refine ⟨e2.symm.trans hp, fun hz => ?_⟩
      unfold SetTable.slot at es
      dsimp only at es
      rw [hz] at es
      simp at es
    | dummy =>
      exfalso
      unfold SetTable.slot at es
      dsimp only at es
      split at es
      · cases es
      · rw [h.dum, has_nil] at es
        simp at es
    | live i =>
      rw [es] at e
      dsimp only at e
      split at e
      · cases e
      · exact ih _ j d (hadv p hp) e
theorem Tb.layNew {b : Bool} {t : SetTable} (h : Tb b t) (es : Array (Int × Value)) (z : Int) (x : Value) : Tb b (PySem.layNew t es z x).2.1 := by
  unfold PySem.layNew
  split
  · rename_i slot wasDummy e
    have hn : t.place[SetTable.below t.place slot]? ≠ some slot := by
      unfold SetTable.freeSlot SetTable.probe at e
      split at e
      · rename_i j dummy e'
        obtain ⟨h1, h2⟩ := probe_empty h _ _ _ _ _ _ rfl e'
        subst h1
        have := Option.some.inj e
        have hj : j = slot := congrArg Prod.fst this
        rw [← hj]
        exact h2
      · cases e
    exact (h.put hn).orStand _
  · exact h.stand _
theorem rise_filter (n : Nat) (f : Nat → Option Nat) : ((List.range n).filterMap fun j => (f j).map (j, ·)).Pairwise (fun a b => a.1 < b.1) := by
  refine List.Pairwise.filterMap _ ?_ List.pairwise_lt_range
  intro a a' haa b hb b' hb'
  cases e : f a with
  | none => rw [e] at hb; cases hb
  | some v =>
    cases e' : f a' with
    | none => rw [e'] at hb'; cases hb'
    | some v' =>
      rw [e] at hb
      rw [e'] at hb'
      cases hb
      cases hb'
      exact haa
theorem Tb.relayAll {b : Bool} {t : SetTable} (h : Tb b t) (es : Array (Int × Value)) (n : Nat) : Tb b (PySem.relayAll t es n).2.1 := by
  unfold PySem.relayAll
  split
  · rename_i t' order e
    dsimp only
    split
    · unfold SetTable.relaid SetTable.laid at e
      cases e2 : SetTable.layClean (SetTable.sizeAbove n - 1) (es.map (·.1)) with
      | none => rw [e2] at e; cases e
      | some owner =>
        rw [e2] at e
        have e' := congrArg Prod.fst (Option.some.inj e)
        subst e'
        refine ⟨h.led, rfl, ?_⟩
        show (List.map (fun x : Nat × Nat => x.fst) ((List.range (SetTable.sizeAbove n - 1 + 1)).filterMap fun j => (owner.getD j none).map (j, ·))).toArray.toList.Pairwise (· < ·)
        rw [List.toList_toArray, List.pairwise_map]
        exact rise_filter _ _
    · exact h.stand _
  · exact h.stand _
/-! ### a set of ints whose table is known -/
noncomputable def keyOf (e : Int × Value) : Int := match e.2 with
  | .int k _ => k
  | _ => 0
noncomputable def Ent (e : Int × Value) : Prop := ∃ (k : Int) (t : Tok), e = (hashInt k, .int k t)
section
variable (prog : Program) (w : World)
noncomputable def byText (w : World) : Bool := w.params.followText "set-order"
structure SetAt (h : Heap) (a : Addr) (js : List Int) (es : Array (Int × Value)) (ep : Nat) (t : SetTable) : Prop where
  obj : ∃ o, h.get? a = some o ∧ o.ExactSet ∧ o.data = .set es ep t
  ent : ∀ e ∈ es.toList, Ent e
  per : (es.toList.map keyOf).Perm js
  nod : js.Nodup
  few : es.size < scanBound
  fit : t.fits es.size = true
  tab : Tb (!byText w) t
noncomputable def SetB (h : Heap) (a : Addr) (js : List Int) : Prop := ∃ es ep t, SetAt w h a js es ep t
end
section
variable {prog : Program} {w : World} {A : Around} {E : Value → Shared → Prop} {s : Shared}
theorem Ent.elems {l : List (Int × Value)} (h : ∀ e ∈ l, Ent e) : ElemsOf (intKind prog w) l := fun e he => by
  obtain ⟨k, t, rfl⟩ := h e he
  exact ⟨⟨k, intKind_is _ _ _ _, rfl⟩, rfl⟩
theorem is_key {e : Int × Value} (h : Ent e) (k : Int) : (intKind prog w).is k e.2 = decide (k = keyOf e) := by
  obtain ⟨k', t, rfl⟩ := h
  show Value.isInt k (.int k' t) = decide (k = k')
  by_cases e : k = k'
  · subst e; simp [Value.isInt]
  · rw [decide_eq_false e]
    simp [Value.isInt]
    exact fun z => e z.symm
theorem SetB.len {h : Heap} {a : Addr} {js : List Int} {es : Array (Int × Value)} {ep : Nat} {t : SetTable} (S : SetAt w h a js es ep t) : es.size = js.length := by
  have := S.per.length_eq
  simpa using this
theorem SetB.at {h h' : Heap} {a : Addr} {js : List Int} (S : SetB w h a js) (k : ∀ o, h.get? a = some o → h'.get? a = some o) : SetB w h' a js := by
  obtain ⟨es, ep, t, ⟨o, ho, r⟩, b, c, d, e, f, g⟩ := S
  exact ⟨es, ep, t, ⟨o, k o ho, r⟩, b, c, d, e, f, g⟩
/-- a store over a known set -/
theorem SetAt.store {h : Heap} {a : Addr} {js js' : List Int} {es es' : Array (Int × Value)} {ep : Nat} {t t' : SetTable} (S : SetAt w h a js es ep t) (h1 : ∀ e ∈ es'.toList, Ent e) (h2 : (es'.toList.map keyOf).Perm js') (h3 : js'.Nodup) (h4 : es'.size < scanBound)
    (h5 : t'.fits es'.size = true) (h6 : Tb (!byText w) t') : SetAt w (h.update a (Obj.putSet es' t')) a js' es' (ep + 1) t' := by
  obtain ⟨o, ho, hx, hd⟩ := S.obj
  refine ⟨⟨{ o with data := .set es' (ep + 1) t' }, ?_, hx, rfl⟩, h1, h2, h3, h4, h5, h6⟩
  have q := Heap.get?_update_self (Obj.putSet es' t') ho (by rw [putSet_of es' t' hd]; rfl)
  rwa [putSet_of es' t' hd] at q
theorem add_tail {g : Bool → Sem Unit} (hg : ∀ (b : Bool) (s' : Shared) (R' : Unit → Shared → Prop), R' () s' → wpAny (model prog w) A (g b) R' E s') {a : Addr} {js js' : List Int} {es es' : Array (Int × Value)} {ep : Nat} {t t' : SetTable} (S : SetAt w s.heap a js es ep t)
    (h1 : ∀ e ∈ es'.toList, Ent e) (h2 : (es'.toList.map keyOf).Perm js') (h3 : js'.Nodup) (h4 : es'.size < scanBound) (h5 : t'.fits es'.size = true) (h6 : Tb (!byText w) t') {d : Bool} {R : Option Bool → Shared → Prop}
    (fin : ∀ h', Heap.SameBut a s.heap h' → SetB w h' a js' → R (some true) { s with heap := h' }) :
    wpAny (model prog w) A (do
        storeSet a es' t'
        if (!d && t'.tooFull) = true then do
            g (relayAll t' es' (SetTable.grown es'.size)).2.2
            storeSet a (relayAll t' es' (SetTable.grown es'.size)).1 (relayAll t' es' (SetTable.grown es'.size)).2.1
            pure (some true)
          else pure (some true)) R E s := by
  obtain ⟨o, ho, hx, hd⟩ := S.obj
  have S1 := S.store h1 h2 h3 h4 h5 h6
  obtain ⟨o1, ho1, hx1, hd1⟩ := S1.obj
  have B1 := Heap.SameBut.update s.heap a (Obj.putSet es' t')
  refine wpAny_bind (wpAny_storeSet_of ho hd ?_ (fits_of_scanBound h4))
  split
  · have pp := relayAll_perm t' es' (SetTable.grown es'.size)
    have ff := relayAll_fits t' es' (SetTable.grown es'.size)
    have tt := h6.relayAll es' (SetTable.grown es'.size)
    generalize relayAll t' es' (SetTable.grown es'.size) = y at pp ff tt ⊢
    obtain ⟨es2, t2, g2⟩ := y
    dsimp only at pp ff tt ⊢
    have z : es2.size = es'.size := by rw [← Array.length_toList, pp.length_eq, Array.length_toList]
    refine wpAny_bind (hg _ _ _ (wpAny_bind (wpAny_storeSet_of ho1 hd1 ?_ (fits_of_scanBound (by rw [z]; exact h4)))))
    exact wpAny_pure (fin _ (B1.trans (Heap.SameBut.update _ a _)) ⟨_, _, _, S1.store (fun e he => h1 e (pp.mem_iff.mp he)) ((pp.map keyOf).trans h2) h3 (by rw [z]; exact h4) ff tt⟩)
  · exact wpAny_pure (fin _ B1 ⟨_, _, _, S1⟩)
noncomputable def addJ (js : List Int) (k : Int) : List Int := if k ∈ js then js else js ++ [k]
theorem add_ok {a : Addr} {js : List Int} {k : Int} {tk : Tok} {R : Bool → Shared → Prop} (S : SetB w s.heap a js) (room : js.length + 1 < scanBound) (fin : ∀ (r : Bool) h', Heap.SameBut a s.heap h' → SetB w h' a (addJ js k) → R r { s with heap := h' }) :
    wpAny (model prog w) A (setAddHashed a (.int k tk) (hashInt k)) R E s := by
  obtain ⟨es, ep, t, S⟩ := S
  obtain ⟨o, ho, hx, hd⟩ := S.obj
  have el := Ent.elems (prog := prog) (w := w) S.ent
  have hz : es.size = js.length := SetB.len S
  unfold setAddHashed setAddHashedIn
  refine wpAny_holding (wpAny_bind (wpAny_setState_of ho hd S.fit ?_))
  dsimp only
  rw [byScan_of (x := .int k tk) rfl S.few el]
  simp only [↓reduceIte]
  unfold setAddByScan
  refine wpAny_bind (wpAny_bind (wpAny_rule (wpAny_bind (wpAny_setScan_of (knd := intKind prog w) (k := k) (intKind_is _ _ _ _) ho hd S.fit el ?_))))
  have mem : ∀ z : Int, z ∈ js ↔ ∃ e ∈ es.toList, keyOf e = z := fun z => by rw [← S.per.mem_iff, List.mem_map]
  cases q : List.findIdx? (fun e => (intKind prog w).is k e.2) es.toList with
  | some j =>
    dsimp only
    obtain ⟨hj, pj, _⟩ := List.findIdx?_eq_some_iff_getElem.mp q
    have hk : k ∈ js := by
      rw [is_key (S.ent _ (List.getElem_mem hj))] at pj
      exact (mem k).mpr ⟨_, List.getElem_mem hj, (of_decide_eq_true pj).symm⟩
    refine wpAny_pure (wpAny_pure ?_)
    have f := fin false s.heap (Heap.SameBut.refl a s.heap)
    unfold addJ at f
    rw [if_pos hk] at f
    exact f ⟨_, _, _, S⟩
  | none =>
    dsimp only
    have hk : ¬ k ∈ js := fun hz => by
      obtain ⟨e, he, hke⟩ := (mem k).mp hz
      have := List.findIdx?_eq_none_iff.mp q e he
      rw [is_key (S.ent e he), decide_eq_true hke.symm] at this
      cases this
    have P := layNew_perm t es (hashInt k) (.int k tk)
    have F := layNew_fits t es (hashInt k) (.int k tk)
    have T := S.tab.layNew es (hashInt k) (.int k tk)
    change wpAny (model prog w) A (match layNew t es (hashInt k) (.int k tk) with | (es, t, wasDummy, gave) => _) _ _ _
    generalize layNew t es (hashInt k) (.int k tk) = y at P F T ⊢
    obtain ⟨es1, t1, d1, g1⟩ := y
    dsimp only at P F T ⊢
    rw [Array.toList_push] at P
    have e1 : ∀ e ∈ es1.toList, Ent e := fun e he => by
      rcases List.mem_append.mp (P.mem_iff.mp he) with he | he
      · exact S.ent e he
      · rw [List.mem_singleton.mp he]; exact ⟨k, tk, rfl⟩
    have e2 : (es1.toList.map keyOf).Perm (js ++ [k]) := by
      refine (P.map keyOf).trans ?_
      rw [List.map_append]
      exact S.per.append_right _
    have e3 : (js ++ [k]).Nodup := List.nodup_append.mpr ⟨S.nod, by simp, fun x hx y hy => by rw [List.mem_singleton.mp hy]; rintro rfl; exact hk hx⟩
    have e4 : es1.size < scanBound := by
      rw [← Array.length_toList, P.length_eq, List.length_append, Array.length_toList, hz]
      exact room
    have fin' : ∀ h', Heap.SameBut a s.heap h' → SetB w h' a (js ++ [k]) → R true { s with heap := h' } := fun h' sb q' => by
      have f := fin true h' sb
      unfold addJ at f
      rw [if_neg hk] at f
      exact f q'
    have gw : ∀ (b : Bool) {s' : Shared} {R' : Unit → Shared → Prop}, R' () s' → wpAny (model prog w) A (match b with | true => rule "set.scan.the-table-gave-way" | false => pure ()) R' E s' := fun b s' R' r' => by cases b <;> first | exact wpAny_pure r' | exact wpAny_rule r'
    refine wpAny_bind (gw _ ?_)
    split
    · refine wpAny_bind ?_
      rw [hashByValue_scannable 8 (x := .int k tk) rfl]
      refine wpAny_pure (add_tail (fun b s' R' r' => gw b r') S e1 e2 e3 e4 ?_ ?_ fun h' sb q' => wpAny_pure (fin' h' sb q'))
      · split
        · exact F
        · exact SetTable.fits_plain_off F
      · split
        · exact T
        · exact T.plainOff
    · refine wpAny_bind (wpAny_pure ?_)
      simp only [↓reduceIte]
      exact add_tail (fun b s' R' r' => gw b r') S e1 e2 e3 e4 F T fun h' sb q' => wpAny_pure (fin' h' sb q')
/-! ### the loop of set(xs) -/
theorem upd_loop {R : Result → Shared → Prop} {I : Addr} {fp wr : List Addr} {P : Nat → Value → Prop} {St : Nat → Heap → Prop} {ns : List Int} (W : Walks prog w A.in1 I fp wr ns.length P St) (S : Addr) (hS : S ∉ fp)
    (hv : ∀ i v, P i v → ∃ t, v = .int (ns.getD i 0) t) (room : ns.length + 1 < scanBound) : ∀ (k i : Nat) (s : Shared) (js : List Int), ns.length - i = k → i ≤ ns.length → St i s.heap → SetB w s.heap S js → js.length ≤ i →
      (∀ h' tk, (∀ b o, b ∉ S :: wr → s.heap.get? b = some o → h'.get? b = some o) → SetB w h' S ((ns.drop i).foldl addJ js) → R (.ok (.ret .none)) { s with heap := h', toks := tk }) →
      codeAny (model prog w) A (.builtin "set.update.loop" ⟨[.ref S, .ref I], []⟩) R s := by
  have hSw : S ∉ wr := fun z => hS (W.sub _ z)
  intro k
  induction k with
  | zero =>
    intro i s js hk hi st B hj fin
    have ei : i = ns.length := by omega
    refine codeAny_builtin PyProof.Rows.F.entry_set_update_loop ?_
    rw [Around.under_plainId PyProof.Rows.F.plain_set_update_loop _]
    show wpAny _ A.in1 (pyNext (.ref I) >>= _) _ _ s
    refine wpAny_bind (W.done s _ _ (ei ▸ st) fun h' tk keep => ?_)
    show wpAny _ A.in1 (ret Value.none) _ _ _
    refine wpAny_pure (fin h' tk (fun b o hb e => keep b o (fun z => hb (List.mem_cons_of_mem _ z)) e) ?_)
    rw [ei, List.drop_length]
    exact B.at fun o e => keep S o hSw e
  | succ k ih =>
    intro i s js hk hi st B hj fin
    have hlt : i < ns.length := by omega
    refine codeAny_builtin PyProof.Rows.F.entry_set_update_loop ?_
    rw [Around.under_plainId PyProof.Rows.F.plain_set_update_loop _]
    show wpAny _ A.in1 (pyNext (.ref I) >>= _) _ _ s
    refine wpAny_bind (W.item i s _ _ hlt st fun v h1 tk1 pv st1 keep1 => ?_)
    obtain ⟨t, rfl⟩ := hv i v pv
    have B1 : SetB w h1 S js := B.at fun o e => keep1 S o hSw e
    show wpAny _ A.in1 (holding [Value.int (ns.getD i 0) t] (setAdd S (.int (ns.getD i 0) t)) >>= _) _ _ _
    unfold setAdd
    refine wpAny_bind (wpAny_holding (wpAny_holding (wpAny_bind ((intKind prog w).pyHash (k := ns.getD i 0) (intKind_is _ _ _ _) ?_))))
    refine add_ok (k := ns.getD i 0) B1 (by omega) fun r h2 sb B2 => ?_
    have el : (addJ js (ns.getD i 0)).length ≤ i + 1 := by
      unfold addJ
      split
      · omega
      · simp; omega
    refine wpAny_pure ⟨plainId_quiet PyProof.Rows.F.plain_set_update_loop _, ih (i + 1) _ _ (by omega) hlt (W.frame _ h1 _ st1 fun b hb o e => ?_) B2 el fun h' tk keep B' => ?_⟩
    · rw [sb.2 b (fun z : b = S => hS (by rw [← z]; exact hb))]; exact e
    · refine fin h' tk (fun b o hb e => keep b o hb ?_) ?_
      · rw [sb.2 b (fun z : b = S => hb (by rw [z]; exact List.mem_cons_self))]
        exact keep1 b o (fun z => hb (List.mem_cons_of_mem _ z)) e
      · have e1 : ns.drop i = ns.getD i 0 :: ns.drop (i + 1) := by
          rw [List.drop_eq_getElem_cons hlt, List.getD_eq_getElem?_getD, List.getElem?_eq_getElem hlt]
          rfl
        rw [e1]
        exact B'
theorem set_made (a : Value) {Q : Value → Shared → Prop} (fin : Q (.ref s.heap.objs.size) { s with heap := s.heap.push { cls := .type "set", dict := none, data := .set #[] 0 (.fresh 0 0 (!byText w)) } }) :
    codeAny (model prog w) A (.call (.builtin "set.__new__") ⟨[.type "set", a], []⟩) (wants Q E) s := by
  refine codeAny_of_tree (show wpAny _ A.in1 (do checkBuiltinCall "set.__new__" ⟨[.type "set", a], []⟩; again (.builtin "set.__new__" ⟨[.type "set", a], []⟩)) _ _ s from ?_)
  refine wpAny_bind (wpAny_of_eq (F.newCall_set_1 a) (wpAny_pure ⟨plainId_quiet F.plain_set_new _, codeAny_builtin F.entry_set_new ?_⟩))
  have und := Around.under_plainId (A := A) F.plain_set_new ⟨[.type "set", a], []⟩
  rw [und]
  unfold Builtin.«set.__new__» Builtin.Frozenset.newClass
  have q1 := sub_set_self
  obtain ⟨hh, gg, dd, tt, oo⟩ := s
  dsimp only
  wp_walk
  refine wpAny_askSetting (wpAny_pure (show wpAny _ _ _ _ _ _ from ?_))
  dsimp only
  simp only [newObj]
  exact wpAny_bind (wpAny_alloc (wpAny_pure (wpAny_pure fin)))
set_option maxHeartbeats 4000000 in
/-- set(xs) of a list of ints -/
theorem set_of {l : Addr} {its : Array Value} {ns : List Int} {Q : Value → Shared → Prop} (hh : A.handled = none) (hl : s.heap.IsList l its) (hi : IntsAre its.toList ns) (room : ns.length + 1 < scanBound)
    (fin : ∀ (h' : Heap) (tk : Nat), SetB w h' s.heap.objs.size (ns.foldl addJ []) → (∀ b o, b < s.heap.objs.size → s.heap.get? b = some o → h'.get? b = some o) → Q (.ref s.heap.objs.size) { s with heap := h', toks := tk }) :
    wpAny (model prog w) A (call (.type "set") [.ref l]) Q E s := by
  have hn : its.size = ns.length := by have := IntsAre.length hi; simpa using this
  obtain ⟨mroC, mroT, mro⟩ := F.called_set.mro
  have made := F.called_set.made
  have subs := F.called_set.sub
  refine wpAny_call (codeAny_of_tree (show wpAny _ _ (callAny (.type "set") _) _ _ _ from ?_))
  refine wpAny_pure ⟨Code.quiet_builtin _ (by decide +kernel), codeAny_builtin F.entry_type_call ?_⟩
  have wt := Around.under_plain (A := A) (weight_type_call_type "set" [.ref l] []) rfl
  rw [wt]
  have nt := F.called_set.notType
  have cc := F.called_set.canCreate
  have tc := F.typeCall_set_1 (.ref l)
  repeat (any_goals (first | assumption | wp_step))
  refine codeAny_mono (set_made (.ref l) (E := E) (Q := fun obj s1 => obj = .ref s.heap.objs.size ∧ s1 = { s with heap := s.heap.push { cls := .type "set", dict := none, data := .set #[] 0 (.fresh 0 0 (!byText w)) } }) ⟨rfl, rfl⟩) fun r s1 hr => ?_
  cases r with
  | error e => exact hr
  | ok fl =>
    cases fl with
    | next => exact hr.elim
    | brk => exact hr.elim
    | cont => exact hr.elim
    | ret obj =>
      obtain ⟨rfl, rfl⟩ := hr
      generalize eH : s.heap.push { cls := .type "set", dict := none, data := .set #[] 0 (.fresh 0 0 (!byText w)) } = H1
      have g1 : H1.get? s.heap.objs.size = some { cls := .type "set", dict := none, data := .set #[] 0 (.fresh 0 0 (!byText w)) } := by rw [← eH]; exact Heap.get?_push_size _ rfl
      have hT : Shared.TypeIs { s with heap := H1 } (.ref s.heap.objs.size) "set" := ⟨_, g1, rfl⟩
      have ini := F.called_set.init.lookup
      have inb := F.called_set.init.bind (.ref s.heap.objs.size)
      repeat (any_goals (first | assumption | wp_step))
      refine codeAny_mono (codeAny_call_builtin (R := wants (fun r s2 => r = .none ∧ ∃ h' tk, s2 = { s with heap := h', toks := tk } ∧ SetB w h' s.heap.objs.size (ns.foldl addJ []) ∧ (∀ b o, b < s.heap.objs.size → s.heap.get? b = some o → h'.get? b = some o)) E)
        F.called_set.init.plain F.entry_set_init (check_set_init_1 hT ?_)) fun r2 s2 hr2 => ?_
      · obtain ⟨ob, hob, hcl, nl, hdl⟩ := hl
        obtain ⟨c1, d1, dt1, sl1⟩ := ob
        simp only at hcl hdl
        subst hcl
        subst hdl
        have hob1 : H1.get? l = some { cls := .type "list", dict := d1, data := .seq its nl, slots := sl1 } := by rw [← eH]; exact Heap.get?_push_of_some _ hob
        have sz1 : H1.objs.size = s.heap.objs.size + 1 := by rw [← eH, Heap.size_push]
        have no1 := F.sub_list_set
        have no2 := F.sub_list_frozenset
        have no3 : (Value.type "list" == Value.type "dict") = false := by decide
        have L1 : H1.IsList l its := ⟨_, hob1, rfl, nl, rfl⟩
        unfold Builtin.«set.__init__» noKeywords Builtin.Frozenset.updateFrom
        generalize eP : pyIter = PI
        wp_walk
        subst eP
        refine wpAny_pyIter_list L1 (wpAny_bind (wpAny_runValue ?_))
        have lt1 : l < s.heap.objs.size := Heap.lt_size hob
        have hd3 : A.in1.in1.in1.handled = none := by simp [hh]
        have ne1 : l ≠ H1.objs.size := by rw [sz1]; exact Nat.ne_of_lt (Nat.lt_succ_of_lt lt1)
        have no4 : s.heap.objs.size ∉ [H1.objs.size, l] := by
          rw [sz1]
          simp only [List.mem_cons, List.not_mem_nil, or_false, not_or]
          exact ⟨Nat.ne_of_lt (Nat.lt_succ_self _), Nat.ne_of_gt lt1⟩
        have W0 := Walks.list (prog := prog) (w := w) hd3 H1.objs.size l ne1 its
        rw [hn] at W0
        refine upd_loop (ns := ns) W0 s.heap.objs.size no4 (fun i v hv => IntsAre.int_at hi i v (by rw [Array.getElem?_toList]; exact hv)) room (ns.length - 0) 0 _ [] rfl (Nat.zero_le _) ⟨⟨_, Heap.get?_push_size _ rfl, rfl, rfl⟩, L1.push _⟩ ?_ (Nat.zero_le _) fun h' tk keep B => ?_
        · exact ⟨#[], 0, _, ⟨_, Heap.get?_push_of_some _ g1, ⟨rfl, rfl, rfl⟩, rfl⟩, fun e he => by simp at he, by simp, List.nodup_nil, by show (0 : Nat) < 4096; decide, rfl, Tb.fresh _⟩
        · show wpAny _ _ _ _ _ _
          refine wpAny_pure (show wpAny _ _ (ret Value.none) _ _ _ from wpAny_pure ⟨rfl, h', tk, rfl, B, fun b o hb e => ?_⟩)
          refine keep b o ?_ (Heap.get?_push_of_some _ (by rw [← eH]; exact Heap.get?_push_of_some _ e))
          rw [sz1]
          simp only [List.mem_cons, List.not_mem_nil, or_false, not_or]
          exact ⟨Nat.ne_of_lt hb, Nat.ne_of_lt (Nat.lt_succ_of_lt hb)⟩
      · cases r2 with
        | error e => exact hr2
        | ok f2 =>
          cases f2 with
          | next => exact hr2.elim
          | brk => exact hr2.elim
          | cont => exact hr2.elim
          | ret r =>
            obtain ⟨rfl, h', tk, rfl, B, keep⟩ := hr2
            repeat (any_goals (first | assumption | wp_step))
            exact fin _ _ B keep
end
end SetR

namespace SetR
open PySem PySem.Spec PyProof.Rows L2
theorem si_slot : Slot "set_iterator" "__next__" "set_iterator.__next__" :=
  Slot.of (owner := "set_iterator") (n := "__next__") (by rw [typeLookup_type, builtinLookup_eq_fast]; kernel_rfl) (by decide +kernel) (by decide +kernel) (by decide +kernel)
    (by first | exact Or.inl (by decide +kernel) | exact Or.inr (by decide +kernel)) (by rw [isSubtype_type]; kernel_rfl)
theorem si_entry : entryFor table "set_iterator.__next__" = some Builtin.«set_iterator.__next__» := entryFor_of_tree (by kernel_rfl)
theorem si_args (a : Value) : argsOk "set_iterator.__next__" ⟨[a], []⟩ := by unfold argsOk; kernel_rfl
theorem it_entry : entryFor table "set.__iter__" = some Builtin.«frozenset.__iter__» := entryFor_alias (id' := "frozenset.__iter__") (by kernel_rfl) rfl (by decide +kernel) (by kernel_rfl)
theorem si_self_slot : Slot "set_iterator" "__iter__" "set_iterator.__iter__" :=
  Slot.of (owner := "set_iterator") (n := "__iter__") (by rw [typeLookup_type, builtinLookup_eq_fast]; kernel_rfl) (by decide +kernel) (by decide +kernel) (by decide +kernel)
    (by first | exact Or.inl (by decide +kernel) | exact Or.inr (by decide +kernel)) (by rw [isSubtype_type]; kernel_rfl)
theorem si_self_entry : entryFor table "set_iterator.__iter__" = some Builtin.«dict_keyiterator.__iter__» := entryFor_alias (id' := "dict_keyiterator.__iter__") (by kernel_rfl) rfl (by decide +kernel) (by kernel_rfl)
theorem si_self_args (a : Value) : argsOk "set_iterator.__iter__" ⟨[a], []⟩ := by unfold argsOk; kernel_rfl
noncomputable def SI (h : Heap) (I a : Addr) (first : Value) (i n ep : Nat) : Prop := ∃ o, h.get? I = some o ∧ o.cls = .type "set_iterator" ∧ o.data = .fields #[first, .int i 0, .ref a, .int n 0, .int ep 0]
section
variable {prog : Program} {w : World} {A : Around} {E : Value → Shared → Prop} {s : Shared} {I a : Addr} {first : Value} {i n ep : Nat} {js : List Int} {es : Array (Int × Value)} {t : SetTable}
theorem SI.typ (h : SI s.heap I a first i n ep) : s.TypeIs (.ref I) "set_iterator" := let ⟨o, ho, hc, _⟩ := h; ⟨o, ho, hc⟩
theorem SI.at {h h' : Heap} (x : SI h I a first i n ep) (k : ∀ o, h.get? I = some o → h'.get? I = some o) : SI h' I a first i n ep := let ⟨o, ho, r⟩ := x; ⟨o, k o ho, r⟩
/-- a turn of the iterator, behind its first looks -/
noncomputable def siStep (first : Value) (a I : Addr) (i ep : Int) : Sem PySem.Fin :=
  match first with
  | Value.int slot _ => do
    match ← setNext a slot.toNat i.toNat ep.toNat with
    | some (x, next) =>
      setField (.ref I) 0 (rawInt next)
      setField (.ref I) 1 (rawInt (i + 1))
      ret x
    | none =>
      setField (.ref I) 2 .none
      raiseNew (← newExc (.type "StopIteration") [])
  | _ => do
    let some places ← seqItems? first | unsupported "internal:set_iterator"
    match places[i.toNat]? with
    | some (.int place _) =>
      let x ← setNextDrawn a place.toNat ep.toNat
      setField (.ref I) 1 (rawInt (i + 1))
      ret x
    | some _ => unsupported "internal:set_iterator"
    | none =>
      setField (.ref I) 0 (rawInt 0)
      setField (.ref I) 2 .none
      raiseNew (← newExc (.type "StopIteration") [])
theorem si_next {Q : Option Value → Shared → Prop} (hit : SI s.heap I a first i es.size ep) (S : SetAt w s.heap a js es ep t)
    (body : wpAny (model prog w) A.in1 (siStep first a I i ep) (fun fin s' => ∃ v, fin = .done (.ret v) ∧ Q (some v) s')
      (fun e s' => wpAny (model prog w) A (isInstance e (.type "StopIteration")) (fun b s'' => b = true ∧ Q none s'') E s') s) :
    wpAny (model prog w) A (pyNext (.ref I)) Q E s := by
  obtain ⟨o, ho, hc, hd⟩ := id hit
  obtain ⟨ob, hob, hx, hdd⟩ := S.obj
  unfold pyNext
  refine wpAny_bind (wpAny_attempt (wpAny_callSpecial?_slot (name := Str.ofString "__next__") hit.typ si_slot (wpAny_call_entry si_slot hit.typ si_entry ?_ (si_args _))))
  unfold Builtin.«set_iterator.__next__»
  refine wpAny_bind (wpAny_pure (wpAny_bind (wpAny_fieldsOf ho hd ?_)))
  show wpAny _ _ (setEntries a >>= fun x => if ((x.size : Int) != (es.size : Int)) = true then _ else siStep first a I i ep) _ _ s
  refine wpAny_bind (wpAny_setEntries_of hob hdd S.fit ?_)
  rw [if_neg (by simp)]
  refine wpAny_mono body (fun fin s' h => ?_) fun e s' h => ?_
  · obtain ⟨v, e, q⟩ := h
    exact ⟨v, e, wpAny_pure q⟩
  · refine wpAny_bind (wpAny_mono h (fun b s'' h2 => ?_) fun _ _ z => z)
    obtain ⟨rfl, q⟩ := h2
    exact wpAny_pure q
/-- the walk is over -/
theorem si_stop {Q : Option Value → Shared → Prop} {o : Obj} {vs : Array Value} (hh : A.handled = none) (ho : s.heap.get? I = some o) (hd : o.data = .fields vs) (h2 : 2 < vs.size) (fin : ∀ h', Heap.ExtBut I s.heap h' → Q none { s with heap := h' }) {R : PySem.Fin → Shared → Prop} :
    wpAny (model prog w) A.in1 (do setField (.ref I) 2 .none; raiseNew (← newExc (.type "StopIteration") [])) R (fun e s' => wpAny (model prog w) A (isInstance e (.type "StopIteration")) (fun b s'' => b = true ∧ Q none s'') E s') s := by
  refine wpAny_bind (wpAny_setField ho hd h2 (wpAny_bind ?_))
  simp only [newExc, newTuple]
  refine wpAny_bind (wpAny_newObj_type ?_ (by size_fits))
  refine wpAny_bind (m := firstArgMember _ _) (wpAny_of_eq (a := Value.none) (by first | rfl | (simp only [firstArgMember]; rfl)) (wpAny_newObj_type ?_ (by size_fits)))
  simp only [raiseNew]
  refine wpAny_bind (wpAny_handled ?_)
  have e1 : A.in1.handled = none := hh
  rw [e1]
  refine wpAny_bind (wpAny_pure (wpAny_throw ?_))
  refine wpAny_isInstance (T := "StopIteration") (b := true) ⟨_, Heap.get?_push_size _ rfl, rfl⟩ isSubtype_stop ?_
  exact ⟨rfl, fin _ (((Heap.SameBut.update ..).extBut.push _).push _)⟩
theorem SI.step1 {o : Obj} {x : Value} (ho : s.heap.get? I = some o) (hc : o.cls = .type "set_iterator") (hd : o.data = .fields #[first, .int i 0, .ref a, .int n 0, .int ep 0]) :
    SI (s.heap.update I (Obj.mapFields (·.setIfInBounds 1 (rawInt ((i : Int) + 1))))) I a first (i + 1) n ep :=
  ⟨_, Heap.get?_update_self _ ho (Obj.isFreed_of_fields (Obj.data_mapFields hd _)), (Obj.cls_mapFields ..).trans hc, by rw [Obj.data_mapFields hd]; simp [rawInt]⟩
theorem by_text {Q : Bool → Shared → Prop} (h : Q (byText w) s) : wpAny (model prog w) A setsByText Q E s := by
  unfold setsByText
  exact wpAny_bind (wpAny_askSetting (wpAny_pure h))
theorem next_text {Q : Option (Value × Nat) → Shared → Prop} {slot : Nat} (S : SetAt w s.heap a js es ep t) (hb : byText w = true) (h : Q (((pickOrder (w.params.setOrder a ep) es)[i]?).map fun e => (e.2, slot)) s) :
    wpAny (model prog w) A (setNext a slot i ep) Q E s := by
  obtain ⟨ob, hob, hx, hdd⟩ := S.obj
  unfold setNext
  refine wpAny_bind (wpAny_setState_of hob hdd S.fit (wpAny_bind (by_text ?_)))
  rw [hb, if_pos rfl]
  dsimp only
  rw [if_neg (by simp)]
  refine wpAny_bind ?_
  unfold setWalk
  refine wpAny_bind (wpAny_setState_of hob hdd S.fit (wpAny_bind (by_text ?_)))
  rw [hb, if_pos rfl]
  exact wpAny_bind (wpAny_askSetting (wpAny_pure (wpAny_pure h)))
theorem next_plain {Q : Option (Value × Nat) → Shared → Prop} {slot : Nat} (S : SetAt w s.heap a js es ep t) (hb : byText w = false) (hp : (!t.plain && decide (es.size > 1)) = false)
    (h : Q (match es[SetTable.below t.place slot]?, t.place[SetTable.below t.place slot]? with | some (_, x), some j => some (x, j + 1) | _, _ => none) s) : wpAny (model prog w) A (setNext a slot i ep) Q E s := by
  obtain ⟨ob, hob, hx, hdd⟩ := S.obj
  unfold setNext
  refine wpAny_bind (wpAny_setState_of hob hdd S.fit (wpAny_bind (by_text ?_)))
  rw [hb, if_neg (by decide)]
  dsimp only
  show wpAny _ _ (if (!t.plain && decide (es.size > 1)) = true then _ else _) _ _ _
  rw [hp, if_neg (by decide)]
  refine wpAny_bind (?_ : wpAny _ _ (if (!t.led && !es.isEmpty) = true then unsupported "set:maker-not-led" else pure ()) _ _ _)
  have hl : t.led = true := by rw [S.tab.led, hb]; rfl
  rw [hl, if_neg (by simp)]
  exact wpAny_pure (wpAny_pure h)
theorem next_drawn {Q : Value → Shared → Prop} {p : Nat} {e : Int × Value} (S : SetAt w s.heap a js es ep t) (he : es[p]? = some e) (h : Q e.2 s) : wpAny (model prog w) A (setNextDrawn a p ep) Q E s := by
  obtain ⟨ob, hob, hx, hdd⟩ := S.obj
  unfold setNextDrawn
  refine wpAny_bind (wpAny_setState_of hob hdd S.fit ?_)
  dsimp only
  rw [if_neg (by simp), he]
  exact wpAny_pure h
theorem choose_any {Q : Nat → Shared → Prop} {src : Source} {m : Nat} (hm : m ≠ 0) (h : ∀ k d, k < m → Q k { s with drawn := d }) : wpAny (model prog w) A (choose src m) Q E s := by
  intro Γ p hΓ
  unfold choose
  rw [Sem.wp_choose]
  exact ⟨hm, h _ _ (Nat.mod_lt _ (Nat.pos_of_ne_zero hm))⟩
theorem erase_perm {α : Type} : ∀ (xs : List α) (k : Nat) (h : k < xs.length), (xs[k] :: xs.eraseIdx k).Perm xs
  | x :: r, 0, _ => List.Perm.refl _
  | x :: r, k + 1, h => by
    have hk : k < r.length := by simpa using h
    have ih := erase_perm r k hk
    show (r[k] :: x :: r.eraseIdx k).Perm (x :: r)
    exact (List.Perm.swap _ _ _).trans (List.Perm.cons _ ih)
theorem draw_order {α : Type} : ∀ (m : Nat) (xs : List α) (s : Shared) {Q : List α → Shared → Prop}, xs.length = m → (∀ ys d, ys.Perm xs → Q ys { s with drawn := d }) → wpAny (model prog w) A (drawOrder m xs) Q E s := by
  intro m
  induction m with
  | zero =>
    intro xs s Q hl h
    have e : xs = [] := List.length_eq_zero_iff.mp hl
    subst e
    exact wpAny_pure (h [] s.drawn (List.Perm.refl _))
  | succ m ih =>
    intro xs s Q hl h
    cases xs with
    | nil => simp at hl
    | cons x r =>
      unfold drawOrder
      refine wpAny_bind (choose_any (by simp) fun k d hk => ?_)
      rw [List.getElem?_eq_getElem hk]
      refine wpAny_bind (ih _ _ (by rw [List.length_eraseIdx_of_lt hk]; simpa using hl) fun ys d2 hp => wpAny_pure ?_)
      exact h _ d2 ((List.Perm.cons _ hp).trans (erase_perm _ _ hk))
theorem SetAt.keep {h h' : Heap} (S : SetAt w h a js es ep t) (k : ∀ o, h.get? a = some o → h'.get? a = some o) : SetAt w h' a js es ep t := by
  obtain ⟨⟨o, ho, r⟩, b, c, d, e, f, g⟩ := S
  exact ⟨⟨o, k o ho, r⟩, b, c, d, e, f, g⟩
theorem si_self {Q : Value → Shared → Prop} (hit : SI s.heap I a first i n ep) (h : Q (.ref I) s) : wpAny (model prog w) A (pyIter (.ref I)) Q E s := by
  refine wpAny_pyIter_slot hit.typ si_self_slot (wpAny_call_entry si_self_slot hit.typ si_self_entry ?_ (si_self_args _))
  show wpAny _ _ (ret (.ref I)) _ _ s
  exact wpAny_pure ⟨_, rfl, "set_iterator", _, hit.typ, si_slot.lookup, h⟩
/-- the iterator that goes by a number -/
theorem walk_int (hh : A.handled = none) (I a : Addr) (hne : a ≠ I) (vs : List Value) (hl : vs.length = es.size) (sl : Nat → Nat)
    (nx : ∀ (A : Around) (E : Value → Shared → Prop) (s : Shared) (i : Nat) (Q : Option (Value × Nat) → Shared → Prop), i ≤ es.size → SetAt w s.heap a js es ep t → Q ((vs[i]?).map fun v => (v, sl (i + 1))) s → wpAny (model prog w) A (setNext a (sl i) i ep) Q E s) :
    Walks prog w A I [I, a] [I] es.size (fun i v => vs[i]? = some v) (fun i h => SI h I a (.int (sl i) 0) i es.size ep ∧ SetAt w h a js es ep t) where
  sub := fun b hb => by simp at hb; simp [hb]
  frame := fun _ _ _ st k => ⟨st.1.at fun o e => k I (by simp) o e, st.2.keep fun o e => k a (by simp) o e⟩
  item := fun i s Q E hi st fin => by
    obtain ⟨o, ho, hc, hd⟩ := id st.1
    refine si_next st.1 st.2 ?_
    unfold siStep
    dsimp only
    rw [Int.toNat_natCast, Int.toNat_natCast, Int.toNat_natCast]
    refine wpAny_bind (nx _ _ s i _ (Nat.le_of_lt hi) st.2 ?_)
    have hi2 : i < vs.length := by omega
    rw [List.getElem?_eq_getElem hi2]
    show wpAny _ _ (do setField (.ref I) 0 (rawInt (sl (i + 1))); setField (.ref I) 1 (rawInt ((i : Int) + 1)); ret vs[i]) _ _ s
    refine wpAny_bind (wpAny_setField ho hd (by simp) ?_)
    have g1 := Heap.get?_update_self (Obj.mapFields (·.setIfInBounds 0 (rawInt (sl (i + 1) : Int)))) ho (Obj.isFreed_of_fields (Obj.data_mapFields hd _))
    have d1 : (Obj.mapFields (·.setIfInBounds 0 (rawInt (sl (i + 1) : Int))) o).data = .fields #[.int (sl (i + 1)) 0, .int i 0, .ref a, .int es.size 0, .int ep 0] := by rw [Obj.data_mapFields hd]; simp [rawInt]
    refine wpAny_bind (wpAny_setField g1 d1 (by simp) ?_)
    have sb := (Heap.SameBut.update s.heap I (Obj.mapFields (·.setIfInBounds 0 (rawInt (sl (i + 1) : Int))))).trans (Heap.SameBut.update _ I (Obj.mapFields (·.setIfInBounds 1 (rawInt ((i : Int) + 1)))))
    refine wpAny_pure ⟨_, rfl, fin vs[i] _ s.toks (List.getElem?_eq_getElem hi2) ⟨?_, st.2.keep fun o e => sb.extBut a o hne e⟩ fun b o hb e => sb.extBut b o (fun z => hb (by simp [z])) e⟩
    exact SI.step1 (s := { s with heap := _ }) (x := .none) g1 ((Obj.cls_mapFields ..).trans hc) d1
  done := fun s Q E st fin => by
    obtain ⟨o, ho, hc, hd⟩ := id st.1
    refine si_next st.1 st.2 ?_
    unfold siStep
    dsimp only
    rw [Int.toNat_natCast, Int.toNat_natCast, Int.toNat_natCast]
    refine wpAny_bind (nx _ _ s es.size _ (Nat.le_refl _) st.2 ?_)
    rw [List.getElem?_eq_none (by omega)]
    exact si_stop hh ho hd (by simp) fun h' eb => fin h' s.toks fun b o hb e => eb b o (fun z => hb (by simp [z])) e
  self := fun _ _ _ _ st fin => si_self st.1 fin
/-- the iterator that goes by a drawn order -/
theorem walk_drawn (hh : A.handled = none) (I a T : Addr) (hne : a ≠ I) (hT : T ≠ I) (ps : List Nat) (hl : ps.length = es.size) (hps : ∀ p ∈ ps, p < es.size) (vs : List Value) (hvs : vs = ps.map fun p => ((es[p]?).map (·.2)).getD .none) :
    Walks prog w A I [I, a, T] [I] es.size (fun i v => vs[i]? = some v) (fun i h => SI h I a (.ref T) i es.size ep ∧ SetAt w h a js es ep t ∧ ∃ o, h.get? T = some o ∧ ∃ c, o.data = .seq (ps.map fun (p : Nat) => rawInt p).toArray c) where
  sub := fun b hb => by simp at hb; simp [hb]
  frame := fun _ _ _ st k => ⟨st.1.at fun o e => k I (by simp) o e, st.2.1.keep fun o e => k a (by simp) o e, let ⟨o, ho, c⟩ := st.2.2; ⟨o, k T (by simp) o ho, c⟩⟩
  item := fun i s Q E hi st fin => by
    obtain ⟨o, ho, hc, hd⟩ := id st.1
    obtain ⟨oT, hoT, c, hdT⟩ := st.2.2
    refine si_next st.1 st.2.1 ?_
    unfold siStep
    dsimp only
    refine wpAny_bind (wpAny_seqItems hoT hdT ?_)
    have hi2 : i < ps.length := by omega
    have e1 : (ps.map fun (p : Nat) => rawInt p).toArray[(i : Int).toNat]? = some (.int ps[i] 0) := by
      rw [Int.toNat_natCast, List.getElem?_toArray, List.getElem?_map, List.getElem?_eq_getElem hi2]
      rfl
    have hp := hps _ (List.getElem_mem hi2)
    dsimp only
    rw [e1]
    dsimp only
    have e2 : es[ps[i]]? = some es[ps[i]] := Array.getElem?_eq_getElem hp
    have e3 : vs[i]? = some (es[ps[i]]).2 := by rw [hvs, List.getElem?_map, List.getElem?_eq_getElem hi2]; simp [hp]
    rw [Int.toNat_natCast, Int.toNat_natCast]
    refine wpAny_bind (next_drawn st.2.1 e2 (wpAny_bind (wpAny_setField ho hd (by simp) ?_)))
    have sb := Heap.SameBut.update s.heap I (Obj.mapFields (·.setIfInBounds 1 (rawInt ((i : Int) + 1))))
    exact wpAny_pure ⟨_, rfl, fin _ _ s.toks e3 ⟨SI.step1 (x := .none) ho hc hd, st.2.1.keep fun o e => sb.extBut a o hne e, oT, sb.extBut T oT hT hoT, c, hdT⟩ fun b o hb e => sb.extBut b o (fun z => hb (by simp [z])) e⟩
  done := fun s Q E st fin => by
    obtain ⟨o, ho, hc, hd⟩ := id st.1
    obtain ⟨oT, hoT, c, hdT⟩ := st.2.2
    refine si_next st.1 st.2.1 ?_
    unfold siStep
    dsimp only
    refine wpAny_bind (wpAny_seqItems hoT hdT ?_)
    have e1 : (ps.map fun (p : Nat) => rawInt p).toArray[(es.size : Int).toNat]? = none := by
      rw [Int.toNat_natCast, List.getElem?_toArray, List.getElem?_map, List.getElem?_eq_none (by omega)]
      rfl
    dsimp only
    rw [e1]
    dsimp only
    refine wpAny_bind (wpAny_setField ho hd (by simp) ?_)
    have g1 := Heap.get?_update_self (Obj.mapFields (·.setIfInBounds 0 (rawInt 0))) ho (Obj.isFreed_of_fields (Obj.data_mapFields hd _))
    have sb := Heap.SameBut.update s.heap I (Obj.mapFields (·.setIfInBounds 0 (rawInt 0)))
    refine si_stop (s := { s with heap := _ }) hh g1 (Obj.data_mapFields hd _) (by simp) fun h' eb => fin h' s.toks fun b o hb e => eb b o (fun z => hb (by simp [z])) (sb.extBut b o (fun z => hb (by simp [z])) e)
  self := fun _ _ _ _ st fin => si_self st.1 fin
theorem pick_go {α : Type} (nx : Nat → Nat) : ∀ (m k : Nat) (left : List α) (out : Array α), left.length = m → (pickOrder.go nx m k left out).toList.Perm (out.toList ++ left) := by
  intro m
  induction m with
  | zero =>
    intro k left out hl
    have e : left = [] := List.length_eq_zero_iff.mp hl
    subst e
    show out.toList.Perm (out.toList ++ [])
    rw [List.append_nil]
  | succ m ih =>
    intro k left out hl
    have hlt : nx k % left.length < left.length := Nat.mod_lt _ (by omega)
    unfold pickOrder.go
    rw [List.getElem?_eq_getElem hlt]
    dsimp only
    refine (ih _ _ _ (by rw [List.length_eraseIdx_of_lt hlt]; omega)).trans ?_
    rw [Array.toList_push, List.append_assoc]
    exact (erase_perm left _ hlt).append_left _
theorem pick_perm {α : Type} (nx : Nat → Nat) (xs : Array α) : (pickOrder nx xs).toList.Perm xs.toList := by
  have := pick_go nx xs.size 0 xs.toList #[] (by simp)
  simpa [pickOrder] using this
/-- places by turn -/
noncomputable def slotAt (t : SetTable) (i : Nat) : Nat := if i = 0 then 0 else t.place.getD (i - 1) 0 + 1
theorem fits_size {m : Nat} (h : t.fits m = true) : t.place.size = m := by
  simp only [SetTable.fits, Bool.and_eq_true, beq_iff_eq] at h
  exact h.1
theorem slot_below (S : SetAt w s.heap a js es ep t) {i : Nat} (hi : i ≤ es.size) : SetTable.below t.place (slotAt t i) = i := by
  have hz := fits_size S.fit
  have R := S.tab.ris.ris
  refine below_next R (by omega) (fun k hk => ?_) fun k h1 h2 => ?_
  · unfold slotAt
    rw [if_neg (by omega)]
    by_cases e : k = i - 1
    · rw [e]; omega
    · have := R k (i - 1) (by omega) (by omega)
      omega
  · unfold slotAt
    by_cases h0 : i = 0
    · rw [if_pos h0]; omega
    · rw [if_neg h0]
      have := R (i - 1) k (by omega) h2
      omega
/-- the set's iterator has come: what it will yield is a rearrangement of the members -/
theorem iter_ok {Q : Value → Shared → Prop} {A' : Around} (hh : A'.handled = none) (S : SetAt w s.heap a js es ep t)
    (fin : ∀ (I : Addr) (fp : List Addr) (vs : List Value) (St : Nat → Heap → Prop) (h1 : Heap) (d1 : Drawn), Walks prog w A' I fp [I] es.size (fun i v => vs[i]? = some v) St → St 0 h1 → (∀ b ∈ fp, b = a ∨ s.heap.get? b = none) → vs.length = es.size → vs.Perm (es.toList.map (·.2)) →
      s.heap.get? I = none → (∀ b o, s.heap.get? b = some o → h1.get? b = some o) → Q (.ref I) { s with heap := h1, drawn := d1 }) :
    wpAny (model prog w) A (pyIter (.ref a)) Q E s := by
  obtain ⟨ob, hob, hx, hdd⟩ := S.obj
  have hT : s.TypeIs (.ref a) "set" := ⟨ob, hob, hx.1⟩
  have ha : a < s.heap.objs.size := Heap.lt_size hob
  have new : ∀ b, s.heap.objs.size ≤ b → s.heap.get? b = none := fun b hb => by
    cases e : s.heap.get? b with
    | none => rfl
    | some o => exact absurd (Heap.lt_size e) (Nat.not_lt.mpr hb)
  refine wpAny_pyIter_slot hT F.slot_set_iter (wpAny_call_entry F.slot_set_iter hT it_entry ?_ (F.args_set_iter_1 _))
  unfold Builtin.«frozenset.__iter__»
  show wpAny _ _ (Builtin.Frozenset.sizeOf a >>= _) _ _ s
  unfold Builtin.Frozenset.sizeOf
  refine wpAny_bind (wpAny_bind (wpAny_setEntries_of hob hdd S.fit (wpAny_pure ?_)))
  refine wpAny_bind ?_
  unfold setDrawn
  refine wpAny_bind (wpAny_setState_of hob hdd S.fit (wpAny_bind (by_text (wpAny_pure ?_))))
  dsimp only
  change wpAny _ _ (if (!byText w && (!t.plain && decide (es.size > 1))) = true then _ else _) _ _ _
  cases hd : (!byText w && (!t.plain && decide (es.size > 1))) with
  | false =>
    rw [if_neg (by decide)]
    refine wpAny_bind (wpAny_pure (wpAny_bind (wpAny_setEpoch_of hob hdd S.fit (wpAny_bind (wpAny_newObj_type (wpAny_pure ⟨_, rfl, "set_iterator", _, ⟨_, Heap.get?_push_size _ rfl, rfl⟩, si_slot.lookup, ?_⟩))))))
    have hne : a ≠ s.heap.objs.size := Nat.ne_of_lt ha
    have S1 : SetAt w (s.heap.push { cls := .type "set_iterator", data := .fields [rawInt 0, rawInt 0, .ref a, rawInt es.size, rawInt ep].toArray }) a js es ep t := S.keep fun o e => Heap.get?_push_of_some _ e
    have lt : ∀ b ∈ [s.heap.objs.size, a], b = a ∨ s.heap.get? b = none := fun b hb => by
      rcases List.mem_cons.mp hb with rfl | hb
      · exact .inr (new _ (Nat.le_refl _))
      · exact .inl (List.mem_singleton.mp hb)
    cases hb : byText w with
    | true =>
      have hl : ((pickOrder (w.params.setOrder a ep) es).toList.map (·.2)).length = es.size := by
        rw [List.length_map, (pick_perm _ _).length_eq]; simp
      refine fin _ _ _ _ _ s.drawn (walk_int (t := t) (js := js) (ep := ep) hh s.heap.objs.size a hne ((pickOrder (w.params.setOrder a ep) es).toList.map (·.2)) hl (fun _ => 0) fun A E s i Q hi S' q => next_text S' hb ?_) ⟨⟨_, Heap.get?_push_size _ rfl, rfl, rfl⟩, S1⟩ lt hl ((pick_perm _ _).map _) (new _ (Nat.le_refl _)) fun b o e => Heap.get?_push_of_some _ e
      rw [List.getElem?_map] at q
      rw [← Array.getElem?_toList]
      cases e : (pickOrder (w.params.setOrder a ep) es).toList[i]? with
      | none => rw [e] at q; exact q
      | some x => rw [e] at q; exact q
    | false =>
      have hp : (!t.plain && decide (es.size > 1)) = false := by rw [hb] at hd; simpa using hd
      refine fin _ _ _ _ _ s.drawn (walk_int (t := t) (js := js) (ep := ep) hh s.heap.objs.size a hne (es.toList.map (·.2)) (by simp) (slotAt t) fun A E s i Q hi S' q => next_plain S' hb hp ?_) ⟨⟨_, Heap.get?_push_size _ rfl, rfl, rfl⟩, S1⟩ lt (by simp) (List.Perm.refl _) (new _ (Nat.le_refl _)) fun b o e => Heap.get?_push_of_some _ e
      rw [slot_below S' hi]
      have hz := fits_size S'.fit
      rw [List.getElem?_map] at q
      by_cases hlt : i < es.size
      · have e1 : es[i]? = some es[i] := Array.getElem?_eq_getElem hlt
        have e2 : t.place[i]? = some t.place[i] := Array.getElem?_eq_getElem (by omega)
        have e3 : es.toList[i]? = some es[i] := by rw [Array.getElem?_toList]; exact e1
        rw [e3] at q
        rw [e1, e2]
        have e4 : slotAt t (i + 1) = t.place[i] + 1 := by
          unfold slotAt
          rw [if_neg (by omega)]
          have : i < t.place.size := by omega
          simp [Array.getD, this]
        have q' : Q (some (es[i].2, slotAt t (i + 1))) s := q
        rw [e4] at q'
        exact q'
      · have e1 : es[i]? = none := Array.getElem?_eq_none (by omega)
        have e3 : es.toList[i]? = none := by rw [Array.getElem?_toList]; exact e1
        rw [e3] at q
        rw [e1]
        exact q
  | true =>
    rw [if_pos rfl]
    refine wpAny_bind (draw_order _ _ s (by simp) fun ps d hp => ?_)
    have hl : ps.length = es.size := by rw [hp.length_eq]; simp
    have hps : ∀ p ∈ ps, p < es.size := fun p hm => List.mem_range.mp (hp.mem_iff.mp hm)
    refine wpAny_bind (wpAny_newObj_type ?_ (by show (ps.map fun (i : Nat) => rawInt i).toArray.size ≤ sizeLine; rw [List.size_toArray, List.length_map, hl]; exact fits_of_scanBound S.few))
    have hob1 := Heap.get?_push_of_some { cls := .type "tuple", data := .seq (ps.map fun (i : Nat) => rawInt i).toArray } hob
    refine wpAny_bind (wpAny_setEpoch_of hob1 hdd S.fit (wpAny_bind (wpAny_newObj_type (wpAny_pure ⟨_, rfl, "set_iterator", _, ⟨_, Heap.get?_push_size _ rfl, rfl⟩, si_slot.lookup, ?_⟩))))
    have zT : (s.heap.push { cls := .type "tuple", data := .seq (ps.map fun (i : Nat) => rawInt i).toArray }).objs.size = s.heap.objs.size + 1 := Heap.size_push ..
    have eq1 : (List.range es.size).map (fun p => ((es[p]?).map (·.2)).getD Value.none) = es.toList.map (·.2) := by
      apply List.ext_getElem?
      intro k
      by_cases hk : k < es.size
      · simp [hk]
      · have : es.size ≤ k := by omega
        simp [this]
    refine fin _ _ _ _ _ d (walk_drawn (t := t) (js := js) (ep := ep) hh _ a s.heap.objs.size ?_ ?_ ps hl hps _ rfl) ⟨⟨_, Heap.get?_push_size _ rfl, rfl, rfl⟩, S.keep fun o e => Heap.get?_push_of_some _ (Heap.get?_push_of_some _ e), _, Heap.get?_push_of_some _ (Heap.get?_push_size _ rfl), 0, rfl⟩ (fun b hb => ?_) (by rw [List.length_map]; exact hl) ?_ (new _ ?_) fun b o e => Heap.get?_push_of_some _ (Heap.get?_push_of_some _ e)
    · show a ≠ _
      rw [zT]
      exact Nat.ne_of_lt (Nat.lt_succ_of_lt ha)
    · show s.heap.objs.size ≠ _
      rw [zT]
      exact Nat.ne_of_lt (Nat.lt_succ_self _)
    · rcases List.mem_cons.mp hb with rfl | hb
      · refine .inr (new _ ?_)
        show s.heap.objs.size ≤ _
        rw [zT]
        exact Nat.le_succ _
      · rcases List.mem_cons.mp hb with rfl | hb
        · exact .inl rfl
        · rw [List.mem_singleton.mp hb]
          exact .inr (new _ (Nat.le_refl _))
    · rw [← eq1]
      exact hp.map _
    · show s.heap.objs.size ≤ _
      rw [zT]
      exact Nat.le_succ _
theorem hint_set {Q : Bool → Shared → Prop} (hT : s.TypeIs (.ref a) "set") (h : Q false s) : wpAny (model prog w) A (Builtin.List.listLengthHint (.ref a)) Q E s := by
  unfold Builtin.List.listLengthHint
  refine wpAny_bind (wpAny_specialOf hT F.slot_set_len.lookup ?_)
  generalize eid : ("set.__len__" : String) = z
  wp_delta
  have sp : splitId z = some ("set", "__len__") := by subst eid; decide +kernel
  rw [sp]
  subst eid
  refine wpAny_bind (wpAny_isInstance (T := "set") (b := true) hT (by rw [isSubtype_type]; kernel_rfl) (wpAny_ite_split (fun z => absurd z (by decide)) fun _ => ?_))
  exact wpAny_ite_split (fun _ => wpAny_bind (wpAny_typeOf hT (wpAny_pure h))) fun z => absurd (by decide +kernel) z
/-- list.extend of an empty list by a set -/
theorem extend_set {R : Result → Shared → Prop} (hh : A.handled = none) (S : SetAt w s.heap a js es ep t) (D : Addr) (c : Nat) (res : Value) (hD : s.heap.get? D = some { cls := .type "list", data := .seq #[] c }) (hne : D ≠ a)
    (fin : ∀ (h' : Heap) (tk : Nat) (d : Drawn) (vs : List Value) (c' : Nat), vs.Perm (es.toList.map (·.2)) → h'.get? D = some { cls := .type "list", dict := none, data := .seq vs.toArray c', slots := #[] } → (∀ b o, b ≠ D → s.heap.get? b = some o → h'.get? b = some o) → R (.ok (.ret res)) { s with heap := h', toks := tk, drawn := d }) :
    wpAny (model prog w) A.in1 (Builtin.List.listExtendWith (.ref D) (.ref a) res) (fun f s' => match f with | .done f => R (.ok f) s' | .again c' => c'.quiet = true ∧ codeAny (model prog w) A c' R s') (fun e s' => R (.error e) s') s := by
  obtain ⟨ob, hob, hx, hdd⟩ := S.obj
  have hT : s.TypeIs (.ref a) "set" := ⟨ob, hob, hx.1⟩
  unfold Builtin.List.listExtendWith
  refine wpAny_bind (wpAny_typeOf (T := "set") hT ?_)
  have n1 : Builtin.List.listSameRef (.ref D) (.ref a) = false := by simp [Builtin.List.listSameRef, hne]
  have n2 : (Value.type "set" == Value.type "list") = false := by decide
  have n3 : (Value.type "set" == Value.type "tuple") = false := by decide
  simp only [n1, n2, n3, Bool.or_false, Bool.false_eq_true, if_false]
  refine wpAny_bind (iter_ok (A' := A.in1) hh S fun I fp vs St h1 d1 W st0 flt hl hp hI keep => ?_)
  have hDI : D ≠ I := fun z => by rw [← z, hD] at hI; cases hI
  have loop : ∀ (h : Heap) (tk c1 : Nat), St 0 h → (∀ b o, b ≠ D → s.heap.get? b = some o → h.get? b = some o) → h.get? D = some { cls := .type "list", data := .seq #[] c1 } → D ∉ fp →
      codeAny (model prog w) A (.builtin "list.extend.loop" ⟨[.ref D, .ref I, res], []⟩) R { s with heap := h, toks := tk, drawn := d1 } := fun h tk c1 st hk hD1 hDf => by
    refine codeAny_extend_loopS W.toS (fits_of_scanBound S.few) D hDf res es.size 0 _ #[] c1 rfl (Nat.zero_le _) st hD1 (ItemsOf.nil _) fun s' acc c' hm hD' hacc => ?_
    have ev : acc.toList = vs := by
      apply List.ext_getElem?
      intro k
      by_cases hk2 : k < acc.size
      · have e1 : acc[k]? = some acc[k] := Array.getElem?_eq_getElem hk2
        rw [Array.getElem?_toList, e1]
        exact (hacc.2 k _ e1).symm
      · rw [Array.getElem?_toList, Array.getElem?_eq_none (by omega), List.getElem?_eq_none (by have := hacc.1; omega)]
    have e2 : acc = vs.toArray := by rw [← ev]
    rw [e2] at hD'
    rw [Moved.eq_with hm]
    refine fin s'.heap s'.toks d1 vs c' hp hD' fun b o hb e => hm.heap b o (fun hmem => ?_) (hk b o hb e)
    rcases List.mem_cons.mp hmem with z | z
    · exact hb z
    · rw [List.mem_singleton.mp z, hI] at e
      cases e
  have hDf : D ∉ fp := fun hm => by
    rcases flt D hm with z | z
    · exact hne z
    · rw [hD] at z; cases z
  have hT1 : Shared.TypeIs { s with heap := h1, drawn := d1 } (.ref a) "set" := ⟨ob, keep _ _ hob, hx.1⟩
  refine wpAny_bind (wpAny_holding (hint_set hT1 ?_))
  have hD1 := keep _ _ hD
  refine wpAny_ite_split (fun _ => ?_) fun _ => wpAny_pure ⟨plainId_quiet F.plain_extend_loop _, loop _ _ c st0 (fun b o _ e => keep b o e) hD1 hDf⟩
  refine wpAny_bind (wpAny_rule (wpAny_bind (?_ : wpAny _ _ (updateSeq D (·.push .none) >>= fun _ => updateSeq D (·.pop)) _ _ _)))
  refine wpAny_bind (wpAny_updateSeq hD1 rfl ?_)
  have hD2 := Heap.get?_update_self (Obj.mapSeq (·.push Value.none)) hD1 rfl
  refine wpAny_updateSeq (hz := by seq_fits) hD2 rfl ?_
  have hD3 := Heap.get?_update_self (Obj.mapSeq (·.pop)) hD2 rfl
  have oth : ∀ b o, b ≠ D → h1.get? b = some o → ((h1.update D (Obj.mapSeq (·.push Value.none))).update D (Obj.mapSeq (·.pop))).get? b = some o := fun b o hb e =>
    (Heap.get?_update_other _ _ (Ne.symm hb)).trans ((Heap.get?_update_other _ _ (Ne.symm hb)).trans e)
  exact wpAny_pure ⟨plainId_quiet F.plain_extend_loop _, loop _ _ _ (W.frame 0 _ _ st0 fun b hb o e => oth b o (fun z => hDf (z ▸ hb)) e) (fun b o hb e => oth b o hb (keep b o e)) hD3 hDf⟩
theorem collect_set {R : List Value → Shared → Prop} (hh : A.handled = none) (S : SetAt w s.heap a js es ep t)
    (fin : ∀ (h' : Heap) (tk : Nat) (d : Drawn) (vs : List Value), vs.Perm (es.toList.map (·.2)) → (∀ b o, s.heap.get? b = some o → h'.get? b = some o) → s.heap.objs.size < h'.objs.size → R vs { s with heap := h', toks := tk, drawn := d }) :
    wpAny (model prog w) A (collect (.ref a)) R E s := by
  obtain ⟨ob, hob, hx, hdd⟩ := S.obj
  have hne : s.heap.objs.size ≠ a := Nat.ne_of_gt (Heap.lt_size hob)
  unfold collect
  refine wpAny_bind (wpAny_runValue (codeAny_builtin entry_proto_collect' ?_))
  have u1 := Around.under_plainId (A := A) PySem.F.plain_proto_collect ⟨[.ref a], []⟩
  rw [u1]
  refine (show wpAny _ A.in1 (newList [] >>= fun l => again (.builtin "list.__iadd__" ⟨[l, .ref a], []⟩)) _ _ s from wpAny_bind (wpAny_newObj_type (wpAny_pure ⟨plainId_quiet PySem.F.plain_list_iadd _, codeAny_builtin entry_list_iadd' ?_⟩)))
  have u2 := Around.under_plainId (A := A) PySem.F.plain_list_iadd ⟨[.ref s.heap.objs.size, .ref a], []⟩
  rw [u2]
  have g1 : (s.heap.push { cls := .type "list", data := .seq ([] : List Value).toArray }).get? s.heap.objs.size = some { cls := .type "list", data := .seq #[] } := Heap.get?_push_size _ rfl
  show wpAny _ A.in1 (Builtin.List.listExtendWith (.ref s.heap.objs.size) (.ref a) (.ref s.heap.objs.size)) _ _ _
  have key := extend_set (prog := prog) (A := A) (s := { s with heap := s.heap.push { cls := .type "list", data := .seq ([] : List Value).toArray } })
    (R := fun q s' => ∃ h' tk d vs c', q = .ok (.ret (.ref s.heap.objs.size)) ∧ s' = { s with heap := h', toks := tk, drawn := d } ∧ vs.Perm (es.toList.map (·.2)) ∧ (∀ b o, s.heap.get? b = some o → h'.get? b = some o) ∧
      h'.get? s.heap.objs.size = some { cls := .type "list", dict := none, data := .seq vs.toArray c', slots := #[] }) hh (S.keep fun o e => Heap.get?_push_of_some _ e) s.heap.objs.size 0 (.ref s.heap.objs.size) g1 hne
    fun h' tk d vs c' hp hD hk => ⟨h', tk, d, vs, c', rfl, rfl, hp, fun b o e => hk b o (Nat.ne_of_lt (Heap.lt_size e)) (Heap.get?_push_of_some _ e), hD⟩
  refine wpAny_mono key (fun f s' x => ?_) fun e s' x => ?_
  · cases f with
    | done f =>
      obtain ⟨h', tk, d, vs, c', e, rfl, hp, hk, hD⟩ := x
      cases e
      refine (show wpAny _ A (load s.heap.objs.size >>= _) _ _ _ from wpAny_bind (wpAny_load hD (wpAny_pure ?_)))
      exact fin h' tk d vs hp hk (Heap.lt_size hD)
    | again c1 =>
      refine ⟨x.1, codeAny_mono x.2 fun q s2 y => ?_⟩
      obtain ⟨h', tk, d, vs, c', rfl, rfl, hp, hk, hD⟩ := y
      refine (show wpAny _ A (load s.heap.objs.size >>= _) _ _ _ from wpAny_bind (wpAny_load hD (wpAny_pure ?_)))
      exact fin h' tk d vs hp hk (Heap.lt_size hD)
  · obtain ⟨_, _, _, _, _, e', _⟩ := x
    cases e'
theorem ints_of_ents : ∀ {l : List (Int × Value)}, (∀ e ∈ l, Ent e) → IntsAre (l.map (·.2)) (l.map keyOf)
  | [], _ => .nil
  | e :: r, h => by
    obtain ⟨k, t, rfl⟩ := h e List.mem_cons_self
    exact .cons k t (ints_of_ents fun x hx => h x (List.mem_cons_of_mem _ hx))
theorem ints_perm {vs us : List Value} (p : vs.Perm us) : ∀ {ns : List Int}, IntsAre us ns → ∃ ms, IntsAre vs ms ∧ ms.Perm ns := by
  induction p with
  | nil => intro ns h; cases h; exact ⟨[], .nil, List.Perm.refl _⟩
  | cons x _ ih =>
    intro ns h
    cases h with
    | cons n t r =>
      obtain ⟨ms, h1, h2⟩ := ih r
      exact ⟨n :: ms, .cons n t h1, List.Perm.cons _ h2⟩
  | swap x y l =>
    intro ns h
    cases h with
    | cons n t r =>
      cases r with
      | cons n' t' r' => exact ⟨n' :: n :: _, .cons n' t' (.cons n t r'), List.Perm.swap _ _ _⟩
  | trans _ _ ih1 ih2 =>
    intro ns h
    obtain ⟨ms, h1, h2⟩ := ih2 h
    obtain ⟨ks, h3, h4⟩ := ih1 h1
    exact ⟨ks, h3, h4.trans h2⟩
/-- sorted of a set of ints -/
theorem sorted_set {Q : Value → Shared → Prop} (hh : A.handled = none) (B : SetB w s.heap a js) (h64 : js.length < 64)
    (fin : ∀ (l : Addr) (h' : Heap) (tk : Nat) (d : Drawn) (out : List Value) (ns : List Int) (e : Nat), IntsAre out ns → ns.Perm js → ns.Pairwise (· ≤ ·) → s.heap.get? l = none → s.heap.objs.size ≤ l → h'.get? l = some { cls := .type "list", data := .seq out.toArray e } →
      (∀ b o, s.heap.get? b = some o → h'.get? b = some o) → Q (.ref l) { s with heap := h', toks := tk, drawn := d }) :
    wpAny (model prog w) A (call (.builtin "sorted") [.ref a]) Q E s := by
  obtain ⟨es, ep, t, S⟩ := B
  refine Calls.call_function_entry kind_sorted plain_sorted entry_sorted (args_sorted1 _) ?_
  unfold Builtin.«sorted»
  refine wpAny_bind (m := checkCount "sorted" 1 1 _) (wpAny_pure (wpAny_bind (collect_set (A := A.in1) hh S fun h1 tk d vs hp keep big => ?_)))
  obtain ⟨ms, hI, hms⟩ := ints_perm hp (ints_of_ents S.ent)
  have hms2 : ms.Perm js := hms.trans S.per
  have hl : vs.length < 64 := by rw [IntsAre.length hI, hms2.length_eq]; exact h64
  refine wpAny_bind (wpAny_newList ?_ (by have : (64 : Nat) ≤ sizeLine := by decide
                                          omega))
  have g1 : (h1.push (seqObj "list" vs.toArray 0)).get? h1.objs.size = some (seqObj "list" vs.toArray 0) := Heap.get?_push_size _ rfl
  refine wpAny_bind (wpAny_holding (wpAny_call_entry slot_list_sort ⟨_, g1, rfl⟩ entry_list_sort (list_sort_tree g1 hI hl fun out ns a1 a2 a3 => ⟨_, rfl, ?_⟩) (args_list_sort _)))
  obtain ⟨e, he⟩ := sortedHeap_at (out := out) g1
  have hsz : s.heap.objs.size ≤ h1.objs.size := Nat.le_of_lt big
  refine wpAny_pure ⟨_, rfl, fin h1.objs.size _ tk d out.toList ns e a1 (a2.trans hms2) a3 ?_ hsz (by simpa [seqObj] using he) fun b o q => ?_⟩
  · cases q : s.heap.get? h1.objs.size with
    | none => rfl
    | some o => exact absurd (Heap.lt_size (keep _ _ q)) (Nat.lt_irrefl _)
  · have hlt := Heap.lt_size (keep b o q)
    rw [sortedHeap_old (Nat.ne_of_lt hlt) (by rw [size_push']; exact Nat.lt_succ_of_lt hlt)]
    exact Heap.get?_push_of_some _ (keep b o q)
end
end SetR

namespace Own
open PySem PySem.Spec PyProof.Rows L2
/-- a set of ints, by its members in the order in which they came -/
noncomputable def SetH (w : World) (l : Addr) (js : List Int) : HO := .ext fun h => SetR.SetB w h l js
section
variable {X : Cx}
theorem setH_ok {P : Program} {w : World} {H : Hp} {h : Heap} {l : Addr} {js : List Int} (B : SetR.SetB w h l js) : ObjOk P w H h l (SetH w l js) := by
  refine ⟨B, ?_, fun h1 h2 B1 k => B1.at k⟩
  obtain ⟨es, ep, t, S⟩ := B
  obtain ⟨o, ho, _⟩ := S.obj
  exact ⟨o, ho⟩
theorem call_set (hc : X.calm = true) : CallR X (.type "set") (fun xs H Q => ∃ (p : Addr) (ns : List Int), xs = [.ref p] ∧ SqL X.K H p (ns.map V.int) ∧ ns.length + 1 < 4096 ∧ ∀ l, H l = none → Q (.ref l) (upd H l (SetH X.w l (ns.foldl SetR.addJ [])))) := by
  intro pins s σ H xs us Q I rv h
  obtain ⟨p, ns, rfl, hS, hz, q⟩ := h
  obtain ⟨u, rfl, ru⟩ := rv.one
  obtain rfl : u = Value.ref p := ru
  obtain ⟨its, r, pl, _⟩ := I.list hS
  refine SetR.set_of (I.ok.hd hc) pl.isList (by simpa using intsAre_of r) hz fun h' tk B keep => ?_
  have hf : H s.heap.objs.size = none := I.hok.fresh (Nat.le_refl _)
  exact ⟨.ref s.heap.objs.size, upd H s.heap.objs.size (SetH X.w s.heap.objs.size _), I.laid (t' := tk) (fun b o e => keep b o (Heap.lt_size e) e) (Nat.le_refl _) (setH_ok B), rfl, q _ hf⟩
/-- sorted of a list or of a set of ints -/
theorem call_sorted (hc : X.calm = true) : CallR X (.builtin "sorted") (fun xs H Q => ∃ (p : Addr) (js : List Int), xs = [.ref p] ∧ js.length < 64 ∧ (SqL X.K H p (js.map V.int) ∨ H p = some (SetH X.w p js)) ∧
    ∀ (l : Addr) (ns : List Int), H l = none → ns.Perm js → ns.Pairwise (· ≤ ·) → Q (.ref l) (upd H l (.lst (ns.map V.int)))) := by
  intro pins s σ H xs us Q I rv h
  obtain ⟨p, js, rfl, hz, hS, q⟩ := h
  obtain ⟨u, rfl, ru⟩ := rv.one
  obtain rfl : u = Value.ref p := ru
  have big : ∀ {ns : List Int}, ns.Perm js → (ns.map V.int).length ≤ sizeLine := fun hp => by
    rw [List.length_map, hp.length_eq]
    have : (64 : Nat) ≤ sizeLine := by decide
    omega
  rcases hS with hS | hS
  · obtain ⟨its, r, pl, _⟩ := I.list hS
    have hI : IntsAre its js := by simpa using intsAre_of r
    refine sorted_ints pl.isList hI (by rw [IntsAre.length hI]; exact hz) fun out ns a1 a2 a3 => ?_
    obtain ⟨e, he⟩ := sortedAll_at s.heap its out
    have hf : H (s.heap.objs.size + 1) = none := I.hok.fresh (Nat.le_succ _)
    refine ⟨.ref (s.heap.objs.size + 1), upd H (s.heap.objs.size + 1) (.lst (ns.map V.int)), I.laid (t' := s.toks) (fun b o e => sortedAll_old e) (Nat.le_succ _) ⟨big a2, out.toList, e, vals_ints a1, ?_⟩, rfl, q _ ns hf a2 a3⟩
    simpa [seqObj] using he
  · have B : SetR.SetB X.w s.heap p js := (show ObjOk X.prog X.w H s.heap p (SetH X.w p js) from I.hok p _ hS).1
    refine SetR.sorted_set (I.ok.hd hc) B hz fun l h' tk d out ns e a1 a2 a3 nl hl he keep => ?_
    have hf : H l = none := I.hok.fresh hl
    refine ⟨.ref l, upd H l (.lst (ns.map V.int)), ?_, rfl, q l ns hf a2 a3⟩
    have ok : HOk X.prog X.w (upd H l (.lst (ns.map V.int))) h' := I.hok.laid keep hl ⟨big a2, out, e, vals_ints a1, he⟩
    exact I.call (ch := []) (h' := h') (g' := s.gens) (d' := d) (t' := tk) (Un.laid keep hl hf) ok I.bare (fun b z => absurd z (by simp))
end
/-! ### rules for a block within a block: the written part by its name -/
section
variable {X : Cx} {K : PySem.W.Frag}
theorem ix_ltK (hK : X.K = K := by rfl) : IxR X (fun x y H Q => rIxL K x y H Q ∨ rIxT K x y H Q) := by subst hK; exact ix_lt
theorem call_lenK (hK : X.K = K := by rfl) : CallR X (.builtin "len") (fun xs H Q => ∃ x n, xs = [x] ∧ LenV K x H n ∧ Q (.int n) H) := by subst hK; exact call_len
theorem op_inK (hK : X.K = K := by rfl) : OpR X (compareOp .In) (rIn K false) := by subst hK; exact op_in_seq
theorem op_notInK (hK : X.K = K := by rfl) : OpR X (compareOp .NotIn) (rIn K true) := by subst hK; exact op_notIn_seq
theorem pg_tupK {pos : Pos} {es : List Expr} {k : Nat} {t : TGs} {n : Nat} (hc : X.calm = true) (h : PGs X es t) (hK : X.K = K := by rfl)
    (hn : (assignEach es X.env).length = n := by rfl) (hst : (assignEach es X.env).findIdx? (·.1) = none := by rfl) : PG X (.Tuple es k pos) (gTup K n t) := by subst hK; exact pg_tup hc h hn hst
end
/-! ### the comprehensions one uses -/
section
variable {α : Type} {R : Hp → V → α → Prop} {φ : List (Option Nat)} {g : TG} {tc : TT} {te : TE} {σ : L2.St} {H1 : Hp} {F : Hp → Prop} {D : Addr}
/-- over a list, its elements without new objects -/
theorem comp_list {K : PySem.W.Frag} {a : Addr} {xs : List V} {ds : List α} (f : α → Option V) (hS : SqL K H1 a xs) (hd : xs.length = ds.length) (hD : H1 D = none) (hz : ds.length ≤ sizeLine)
    (turn : ∀ (i : Nat) (x : V) (d : α) (H2 : Hp), xs[i]? = some x → ds[i]? = some d → Same H1 H2 → ∀ k : Option V → Hp → Prop, k (f d) H2 → g x (atStart φ σ) H2 fun σ2 H4 => Sub (atStart φ σ) σ2 ∧ tc σ2 H4 fun b H5 => if b = true then te σ2 H5 fun y H6 => k (some y) H6 else k none H5)
    (done : F (upd H1 D (.lst (ds.filterMap f)))) :
    ∃ W : Nat → Nat → List V → Hp → Prop, (∃ m, W 0 m [] (upd H1 D (.lst []))) ∧
      ∀ i m ys H2, W i m ys H2 → ((Itl K a).stop i H2 ∧ F H2) ∨ ((Itl K a).go i H2 ∧ ∀ x H3, (Itl K a).yld i H2 x H3 → g x (atStart φ σ) H3 fun σ2 H4 => Sub (atStart φ σ) σ2 ∧ tc σ2 H4 fun b H5 =>
        if b = true then te σ2 H5 fun y H6 => H6 D = some (.lst ys) ∧ ys.length < sizeLine ∧ ∃ m', m' < m ∧ W (i + 1) m' (ys ++ [y]) (upd H6 D (.lst (ys ++ [y]))) else ∃ m', m' < m ∧ W (i + 1) m' ys H5) := by
  refine ⟨fun i m ys H2 => m = ds.length - i ∧ i ≤ ds.length ∧ ys = (ds.take i).filterMap f ∧ H2 = upd H1 D (.lst ys), ⟨ds.length, by simp, Nat.zero_le _, by simp, rfl⟩, ?_⟩
  rintro i m ys H2 ⟨rfl, hi, rfl, rfl⟩
  have S2 : Same H1 (upd H1 D (.lst ((ds.take i).filterMap f))) := same_upd hD
  by_cases hlt : i < ds.length
  · refine .inr ⟨⟨xs, xs[i]'(by omega), S2.seq hS, by simp [hd, hlt]⟩, fun x H3 y => ?_⟩
    obtain ⟨e, y⟩ := y
    subst e
    have hx := y xs (S2.seq hS)
    have ed : ds[i]? = some ds[i] := List.getElem?_eq_getElem hlt
    refine turn i x ds[i] _ hx ed S2 (fun o H' => match o with
      | some y => H' D = some (.lst ((ds.take i).filterMap f)) ∧ ((ds.take i).filterMap f).length < sizeLine ∧ ∃ m', m' < ds.length - i ∧ (m' = ds.length - (i + 1) ∧ i + 1 ≤ ds.length ∧ (ds.take i).filterMap f ++ [y] = (ds.take (i + 1)).filterMap f ∧ upd H' D (.lst ((ds.take i).filterMap f ++ [y])) = upd H1 D (.lst ((ds.take i).filterMap f ++ [y])))
      | none => ∃ m', m' < ds.length - i ∧ (m' = ds.length - (i + 1) ∧ i + 1 ≤ ds.length ∧ (ds.take i).filterMap f = (ds.take (i + 1)).filterMap f ∧ H' = upd H1 D (.lst ((ds.take i).filterMap f)))) ?_
    have et : ds.take (i + 1) = ds.take i ++ [ds[i]] := List.take_succ_eq_append_getElem hlt
    cases ef : f ds[i] with
    | some y =>
      refine ⟨upd_same, ?_, ds.length - (i + 1), by omega, rfl, hlt, ?_, upd_upd⟩
      · have h1 := List.length_filterMap_le f (ds.take i)
        rw [List.length_take] at h1
        omega
      · rw [et, List.filterMap_append]
        simp [ef]
    | none =>
      refine ⟨ds.length - (i + 1), by omega, rfl, hlt, ?_, rfl⟩
      rw [et, List.filterMap_append]
      simp [ef]
  · have e : i = ds.length := by omega
    subst e
    refine .inl ⟨⟨xs, S2.seq hS, by omega⟩, ?_⟩
    rw [List.take_length]
    exact done
/-- over a range -/
theorem comp_range {lo : Int} {n : Nat} (f : Nat → Option V) (hD : H1 D = none) (hz : n ≤ sizeLine)
    (turn : ∀ (i : Nat) (H2 : Hp), i < n → Same H1 H2 → ∀ k : Option V → Hp → Prop, k (f i) H2 → g (.int (lo + i)) (atStart φ σ) H2 fun σ2 H4 => Sub (atStart φ σ) σ2 ∧ tc σ2 H4 fun b H5 => if b = true then te σ2 H5 fun y H6 => k (some y) H6 else k none H5)
    (done : F (upd H1 D (.lst ((List.range n).filterMap f)))) :
    ∃ W : Nat → Nat → List V → Hp → Prop, (∃ m, W 0 m [] (upd H1 D (.lst []))) ∧
      ∀ i m ys H2, W i m ys H2 → ((Itr lo n).stop i H2 ∧ F H2) ∨ ((Itr lo n).go i H2 ∧ ∀ x H3, (Itr lo n).yld i H2 x H3 → g x (atStart φ σ) H3 fun σ2 H4 => Sub (atStart φ σ) σ2 ∧ tc σ2 H4 fun b H5 =>
        if b = true then te σ2 H5 fun y H6 => H6 D = some (.lst ys) ∧ ys.length < sizeLine ∧ ∃ m', m' < m ∧ W (i + 1) m' (ys ++ [y]) (upd H6 D (.lst (ys ++ [y]))) else ∃ m', m' < m ∧ W (i + 1) m' ys H5) := by
  refine ⟨fun i m ys H2 => m = n - i ∧ i ≤ n ∧ ys = (List.range i).filterMap f ∧ H2 = upd H1 D (.lst ys), ⟨n, by simp, Nat.zero_le _, by simp, rfl⟩, ?_⟩
  rintro i m ys H2 ⟨rfl, hi, rfl, rfl⟩
  have S2 : Same H1 (upd H1 D (.lst ((List.range i).filterMap f))) := same_upd hD
  by_cases hlt : i < n
  · refine .inr ⟨hlt, fun x H3 y => ?_⟩
    obtain ⟨e, rfl⟩ := y
    subst e
    refine turn i _ hlt S2 (fun o H' => match o with
      | some y => H' D = some (.lst ((List.range i).filterMap f)) ∧ ((List.range i).filterMap f).length < sizeLine ∧ ∃ m', m' < n - i ∧ (m' = n - (i + 1) ∧ i + 1 ≤ n ∧ (List.range i).filterMap f ++ [y] = (List.range (i + 1)).filterMap f ∧ upd H' D (.lst ((List.range i).filterMap f ++ [y])) = upd H1 D (.lst ((List.range i).filterMap f ++ [y])))
      | none => ∃ m', m' < n - i ∧ (m' = n - (i + 1) ∧ i + 1 ≤ n ∧ (List.range i).filterMap f = (List.range (i + 1)).filterMap f ∧ H' = upd H1 D (.lst ((List.range i).filterMap f)))) ?_
    cases ef : f i with
    | some y =>
      refine ⟨upd_same, ?_, n - (i + 1), by omega, rfl, hlt, ?_, upd_upd⟩
      · have h1 := List.length_filterMap_le f (List.range i)
        rw [List.length_range] at h1
        omega
      · rw [List.range_succ, List.filterMap_append]
        simp [ef]
    | none =>
      refine ⟨n - (i + 1), by omega, rfl, hlt, ?_, rfl⟩
      rw [List.range_succ, List.filterMap_append]
      simp [ef]
  · have e : i = n := by omega
    subst e
    exact .inl ⟨Nat.le_refl _, done⟩
end
end Own

namespace Own
open PySem PySem.Spec PyProof.Rows L2
/-! ### == and != of lists of flat values -/
noncomputable def eqL (xs ys : List V) : Bool := decide (xs.length = ys.length) && (List.range xs.length).all fun j => eqV (xs.getD j .non) (ys.getD j .non)
noncomputable def rEqL (K : PySem.W.Frag) (neg : Bool) : R2 := fun x y H Q => ∃ (p q : Addr) (xs ys : List V), x = .ref p ∧ y = .ref q ∧ SqL K H p xs ∧ SqL K H q ys ∧ xs.all flatV = true ∧ ys.all flatV = true ∧ Q (.bl (if neg then !eqL xs ys else eqL xs ys)) H
section
variable {X : Cx}
theorem eqs_at {A : Around} {s : Shared} {xs ys : List V} {us ws : List Value} (r1 : Vals xs us) (r2 : Vals ys ws) (f1 : xs.all flatV = true) (f2 : ys.all flatV = true) (j : Nat) (h1 : j < us.toArray.size) (h2 : j < ws.toArray.size) :
    SeqAt.EqAt A s us.toArray[j] ws.toArray[j] (eqV (xs.getD j .non) (ys.getD j .non)) := by
  have l1 := r1.length
  have l2 := r2.length
  have g1 : j < us.length := by simpa using h1
  have g2 : j < ws.length := by simpa using h2
  have k1 : xs[j]? = some (xs[j]'(by omega)) := List.getElem?_eq_getElem _
  have k2 : ys[j]? = some (ys[j]'(by omega)) := List.getElem?_eq_getElem _
  obtain ⟨u, eu, ru⟩ := r1.get k1
  obtain ⟨w, ew, rw'⟩ := r2.get k2
  have e1 : us.toArray[j] = u := by
    have : us[j]? = some us[j] := List.getElem?_eq_getElem g1
    rw [this] at eu
    simpa using Option.some.inj eu
  have e2 : ws.toArray[j] = w := by
    have : ws[j]? = some ws[j] := List.getElem?_eq_getElem g2
    rw [this] at ew
    simpa using Option.some.inj ew
  have d1 : xs.getD j .non = xs[j]'(by omega) := by rw [List.getD_eq_getElem?_getD, k1]; rfl
  have d2 : ys.getD j .non = ys[j]'(by omega) := by rw [List.getD_eq_getElem?_getD, k2]; rfl
  rw [e1, e2, d1, d2]
  exact eqAt_V ru rw' (List.all_eq_true.mp f1 _ (List.getElem_mem _)) (List.all_eq_true.mp f2 _ (List.getElem_mem _))
theorem op_eqL (hu : X.A.units < cLine) : OpR X (compareOp .Eq) (rEqL X.K false) := by
  intro pins s σ H x y v u Q I rx ry h
  obtain ⟨p, q, xs, ys, rfl, rfl, hp, hq, f1, f2, k⟩ := h
  obtain rfl : v = Value.ref p := rx
  obtain rfl : u = Value.ref q := ry
  obtain ⟨us, r1, p1, _⟩ := I.list hp
  obtain ⟨ws, r2, p2, _⟩ := I.list hq
  have l1 := r1.length
  have l2 := r2.length
  have k' : Q (.bl (eqL xs ys)) H := k
  by_cases e : xs.length = ys.length
  · refine SeqAt.eq_listAt p1.isList p2.isList (by simp; omega) hu (fun j h1 h2 => eqs_at r1 r2 f1 f2 j h1 h2) ⟨.bl (eqL xs ys), H, I, ?_, k'⟩
    show _ = Value.bool (eqL xs ys)
    unfold eqL
    rw [decide_eq_true e, Bool.true_and, List.size_toArray, ← l1]
  · refine SeqAt.eq_list_lengthsAt p1.isList p2.isList (by simp; omega) hu ⟨.bl (eqL xs ys), H, I, ?_, k'⟩
    show _ = Value.bool (eqL xs ys)
    unfold eqL
    rw [decide_eq_false e]
    rfl
theorem op_neL (hu : X.A.units < cLine) : OpR X (compareOp .NotEq) (rEqL X.K true) := by
  intro pins s σ H x y v u Q I rx ry h
  obtain ⟨p, q, xs, ys, rfl, rfl, hp, hq, f1, f2, k⟩ := h
  obtain rfl : v = Value.ref p := rx
  obtain rfl : u = Value.ref q := ry
  obtain ⟨us, r1, p1, _⟩ := I.list hp
  obtain ⟨ws, r2, p2, _⟩ := I.list hq
  have l1 := r1.length
  have l2 := r2.length
  have k' : Q (.bl (!eqL xs ys)) H := k
  by_cases e : xs.length = ys.length
  · refine SeqAt.RcNeAt.lists p1.isList p2.isList (by simp; omega) hu (fun j h1 h2 => eqs_at r1 r2 f1 f2 j h1 h2) _ _ _ _ ⟨.bl (!eqL xs ys), H, I, ?_, k'⟩
    show _ = Value.bool (!eqL xs ys)
    unfold eqL
    rw [decide_eq_true e, Bool.true_and, List.size_toArray, ← l1]
  · refine SeqAt.RcNeAt.lists_lengths p1.isList p2.isList (by simp; omega) hu _ _ _ _ ⟨.bl (!eqL xs ys), H, I, ?_, k'⟩
    show _ = Value.bool (!eqL xs ys)
    unfold eqL
    rw [decide_eq_false e]
    rfl
/-! ### xs.index(z), xs.remove(z), z an int -/
theorem isInt_map {xs : List Int} {us : List Value} (r : Vals (xs.map V.int) us) (z : Int) : ∀ (j : Nat) (h1 : j < us.length) (h2 : j < xs.length), Value.isInt z us[j] = (xs[j] == z) := by
  intro j h1 h2
  obtain ⟨u, eu, t, rfl⟩ := r.get (x := V.int xs[j]) (i := j) (by rw [List.getElem?_map, List.getElem?_eq_getElem h2]; rfl)
  rw [List.getElem?_eq_getElem h1] at eu
  rw [Option.some.inj eu]
  simp [Value.isInt]
theorem eq_is {xs : List Int} {us : List Value} (r : Vals (xs.map V.int) us) (z : Int) (t : Tok) : ∀ y, y ∈ us.toArray → MeetsSeq.EqGives y (.int z t) (Value.isInt z y) := by
  intro y hy
  obtain ⟨j, hj, rfl⟩ := List.mem_iff_getElem.mp (by simpa using hy : y ∈ us)
  have l1 := r.length
  rw [List.length_map] at l1
  rw [isInt_map r z j hj (by omega)]
  obtain ⟨u, eu, t', rfl⟩ := r.get (x := V.int (xs[j]'(by omega))) (i := j) (by rw [List.getElem?_map, List.getElem?_eq_getElem (show j < xs.length by omega)]; rfl)
  rw [List.getElem?_eq_getElem hj] at eu
  rw [Option.some.inj eu]
  exact MeetsSeq.EqGives.int _ _ _ _
noncomputable def rIndex (K : PySem.W.Frag) : V → List V → Hp → VK → Prop := fun x vs H Q => ∃ (l : Addr) (xs : List Int) (z : Int), x = .ref l ∧ vs = [.int z] ∧ SqL K H l (xs.map V.int) ∧ z ∈ xs ∧ Q (.int (xs.idxOf z : Nat)) H
theorem mt_index : MtM X "list.index" (rIndex X.K) := by
  intro pins s σ H x vs v us Q I rx rv h
  obtain ⟨l, xs, z, rfl, rfl, hS, hz, q⟩ := h
  cases rx
  obtain ⟨u, rfl, t, rfl⟩ := rv.one
  obtain ⟨its, r, p1, hsz⟩ := I.list hS
  obtain ⟨o, n, ho, hc, hdn, hd⟩ := p1
  obtain ⟨c1, d1, dt1, sl1⟩ := o
  simp only at hc hdn hd
  subst hc hdn hd
  have l1 := r.length
  rw [List.length_map] at l1
  have hj : xs.idxOf z < xs.length := List.idxOf_lt_length_iff.mpr hz
  have hb : xs.length ≤ 2 ^ 24 := by rw [List.length_map] at hsz; exact hsz
  refine call_meets PySem.F.slot_list_index ⟨_, ho, rfl⟩ PySem.F.entry_list_index (PySem.F.args_list_index_2 _ _)
    (SeqAt.list_indexAt l its.toArray n none sl1 (.int z t) (Value.isInt z) (xs.idxOf z) (by simpa [← l1] using hj) (by omega) ?_ ?_) ⟨ho, fun y hy => (eq_is r z t y hy).at _ _, ⟨.int (xs.idxOf z : Nat), H, I.tok _, ⟨_, rfl⟩, q⟩⟩
  · have e := isInt_map r z (xs.idxOf z) (by omega) hj
    show Value.isInt z its[xs.idxOf z] = true
    rw [e]
    simpa using List.getElem_idxOf hj
  · intro m hm hlt
    have hm' : m < its.length := by simpa using hm
    have e := isInt_map r z m hm' (by omega)
    show Value.isInt z its[m] = false
    rw [e]
    have := List.not_of_lt_findIdx (p := (· == z)) (xs := xs) (i := m) hlt
    simpa using this
end
/-! ### enumerate of a list, its pairs unpacked -/
/-! ### methods within a block -/
section
variable {X : Cx} {K : PySem.W.Frag}
theorem mt_indexK (hK : X.K = K := by rfl) : MtM X "list.index" (rIndex K) := by subst hK; exact mt_index
theorem pe_bmK {o e : Expr} {es : List Expr} {to : TE} {t : TA} {name : Str} {apos cpos : Pos} {T id : String} {r : V → List V → Hp → VK → Prop} (pa : PlainAttrs T) (slot : Slot T name id) (hty : typeOf (.builtin id) = pure (.type "method_descriptor")) (hm : MtM X id r) (ho : PE X o to) (ha : PA X (e :: es) t)
    (hK : X.K = K := by rfl) (hbase : attributeBase o name X.env (eval o X.env) = eval o X.env := by rfl)
    (hfew : ((backTo cpos (starEach (e :: es) X.env)).all (fun x => !x.1) && (backToKw cpos (keywordEach [] X.env)).all (fun x => x.1.isSome)
      && decide ((e :: es).length + ([] : List Keyword).length + (if ([] : List Keyword).isEmpty then 0 else 1) < 30)) = true := by rfl)
    (hline : (apos.endLine == cpos.line) = true := by rfl) (hs : starEach (e :: es) X.env = (false, eval e X.env) :: starEach es X.env := by rfl) (hplain : (backTo cpos (starEach es X.env)).any (·.1) = false := by rfl) :
    PE X (.Call (.Attribute o name apos) (e :: es) [] cpos) (tBM K T r to t) := by
  subst hK
  exact pe_bm pa slot hty hm ho ha hbase hfew hline hs hplain
end
theorem eqL_ints (xs ys : List Int) : eqL (xs.map V.int) (ys.map V.int) = decide (xs = ys) := by
  unfold eqL
  rw [List.length_map, List.length_map]
  by_cases e : xs = ys
  · subst e
    rw [decide_eq_true rfl, decide_eq_true rfl, Bool.true_and, List.all_eq_true]
    intro j hj
    have hj' : j < xs.length := by simpa using hj
    rw [List.getD_eq_getElem?_getD, List.getElem?_map, List.getElem?_eq_getElem hj']
    show (xs[j] == xs[j]) = true
    simp
  · rw [decide_eq_false e]
    by_cases hl : xs.length = ys.length
    · rw [decide_eq_true hl, Bool.true_and, Bool.eq_false_iff]
      intro hall
      apply e
      apply List.ext_getElem hl
      intro j h1 h2
      have := List.all_eq_true.mp hall j (by simpa using h1)
      rw [List.getD_eq_getElem?_getD, List.getElem?_map, List.getElem?_eq_getElem h1, List.getD_eq_getElem?_getD, List.getElem?_map, List.getElem?_eq_getElem h2] at this
      have h3 : (xs[j] == ys[j]) = true := this
      simpa using h3
    · rw [decide_eq_false hl]
      rfl
theorem flat_ints (xs : List Int) : (xs.map V.int).all flatV = true := by
  rw [List.all_map]
  exact List.all_eq_true.mpr fun _ _ => rfl
end Own

namespace M
open PySem PySem.Spec PyProof.Rows L2 Own

/-! ### lists of data on the abstract heap -/
/-- the values vs stand for the data xs, item by item -/
noncomputable def LV {α : Type} (R : Hp → V → α → Prop) (H : Hp) (vs : List V) (xs : List α) : Prop :=
  vs.length = xs.length ∧ ∀ (i : Nat) (x : α), xs[i]? = some x → ∃ v, vs[i]? = some v ∧ R H v x
noncomputable def LAt {α : Type} (R : Hp → V → α → Prop) (H : Hp) (l : Addr) (xs : List α) : Prop := ∃ vs, H l = some (.lst vs) ∧ LV R H vs xs
noncomputable def PairR (H : Hp) (v : V) (q : Int × Int) : Prop := ∃ a, v = .ref a ∧ H a = some (.tup [.int q.1, .int q.2])
noncomputable def IntR (_ : Hp) (v : V) (i : Int) : Prop := v = .int i
/-- a relation that new objects leave -/
noncomputable def Mono {α : Type} (R : Hp → V → α → Prop) : Prop := ∀ H H' v x, Same H H' → R H v x → R H' v x
theorem PairR.mono : Mono PairR := fun _ _ _ _ S ⟨a, e, h⟩ => ⟨a, e, S _ _ h⟩
theorem IntR.mono : Mono IntR := fun _ _ _ _ _ h => h
section
variable {α : Type} {R : Hp → V → α → Prop} {H H' : Hp} {vs : List V} {xs : List α} {l : Addr}
theorem LV.mono (m : Mono R) (S : Same H H') (h : LV R H vs xs) : LV R H' vs xs :=
  ⟨h.1, fun i x e => let ⟨v, e', r⟩ := h.2 i x e; ⟨v, e', m _ _ _ _ S r⟩⟩
theorem LAt.mono (m : Mono R) (S : Same H H') (h : LAt R H l xs) : LAt R H' l xs :=
  let ⟨vs, e, r⟩ := h; ⟨vs, S _ _ e, r.mono m S⟩
theorem LV.nil : LV R H [] ([] : List α) := ⟨rfl, fun i x e => by simp at e⟩
theorem LV.snoc {v : V} {x : α} (h : LV R H vs xs) (r : R H v x) : LV R H (vs ++ [v]) (xs ++ [x]) := by
  refine ⟨by simp [h.1], fun i y e => ?_⟩
  by_cases hi : i < xs.length
  · rw [List.getElem?_append_left hi] at e
    obtain ⟨v', e', r'⟩ := h.2 i y e
    exact ⟨v', by rw [List.getElem?_append_left (by rw [h.1]; exact hi)]; exact e', r'⟩
  · have hi' : xs.length ≤ i := by omega
    rw [List.getElem?_append_right hi'] at e
    have h0 : i - xs.length = 0 := by
      cases q : i - xs.length with
      | zero => rfl
      | succ k => rw [q] at e; simp at e
    rw [h0] at e
    have e2 : x = y := by simpa using e
    subst e2
    refine ⟨v, ?_, r⟩
    rw [List.getElem?_append_right (by rw [h.1]; exact hi'), h.1, h0]
    rfl
theorem LV.get {i : Nat} {v : V} (h : LV R H vs xs) (e : vs[i]? = some v) : ∃ x, xs[i]? = some x ∧ R H v x := by
  have hi : i < xs.length := by rw [← h.1]; exact (List.getElem?_eq_some_iff.mp e).1
  obtain ⟨v', e', r⟩ := h.2 i xs[i] (by simp [hi])
  rw [e] at e'; cases e'
  exact ⟨_, by simp [hi], r⟩
end
/-- the menu's five numbers -/
noncomputable def Menu (m : List Int) : Prop := ∃ a b c d e : Int, m = [a, b, c, d, e] ∧ (1 ≤ a ∧ a ≤ 10) ∧ (1 ≤ b ∧ b ≤ 9 ∧ (b = 1 ∨ b = 3 ∨ b = 7 ∨ b = 9)) ∧ (0 ≤ c ∧ c ≤ 9) ∧ (1 ≤ d ∧ d ≤ 1000) ∧ (1 ≤ e ∧ e + d ≤ 1001)
/-- a field: holders 1 to 10, widths 1 to 1000 -/
noncomputable def Field (ps : List (Int × Int)) : Prop := ∀ q ∈ ps, 1 ≤ q.1 ∧ q.1 ≤ 10 ∧ 1 ≤ q.2 ∧ q.2 ≤ 1000
/-! ### members, in the order in which they came; sorted -/
theorem addJ_mem (js : List Int) (k z : Int) : z ∈ SetR.addJ js k ↔ z ∈ js ∨ z = k := by
  unfold SetR.addJ
  split
  · rename_i h
    constructor
    · exact fun x => .inl x
    · rintro (x | rfl)
      · exact x
      · exact h
  · simp
theorem addAll_mem : ∀ (ns js : List Int) (z : Int), z ∈ ns.foldl SetR.addJ js ↔ z ∈ js ∨ z ∈ ns
  | [], js, z => by simp
  | n :: r, js, z => by
    rw [List.foldl_cons, addAll_mem r, addJ_mem, List.mem_cons]
    constructor
    · rintro ((h | h) | h)
      · exact .inl h
      · exact .inr (.inl h)
      · exact .inr (.inr h)
    · rintro (h | h | h)
      · exact .inl (.inl h)
      · exact .inl (.inr h)
      · exact .inr h
theorem addJ_nodup {js : List Int} (k : Int) (h : js.Nodup) : (SetR.addJ js k).Nodup := by
  unfold SetR.addJ
  split
  · exact h
  · rename_i hk
    exact List.nodup_append.mpr ⟨h, by simp, fun x hx y hy => by rw [List.mem_singleton.mp hy]; rintro rfl; exact hk hx⟩
theorem addAll_nodup : ∀ (ns : List Int) {js : List Int}, js.Nodup → (ns.foldl SetR.addJ js).Nodup
  | [], _, h => h
  | n :: r, js, h => addAll_nodup r (addJ_nodup n h)
theorem addAll_len : ∀ (ns js : List Int), (ns.foldl SetR.addJ js).length ≤ js.length + ns.length
  | [], js => by simp
  | n :: r, js => by
    have h1 := addAll_len r (SetR.addJ js n)
    have h2 : (SetR.addJ js n).length ≤ js.length + 1 := by
      unfold SetR.addJ
      split
      · omega
      · simp
    rw [List.foldl_cons, List.length_cons]
    omega
theorem lt_of_le_nodup {l : List Int} (h : l.Pairwise (· ≤ ·)) (n : l.Nodup) : l.Pairwise (· < ·) := by
  have := h.and n
  exact this.imp fun {a b} h => by have := h.1; have := h.2; omega
/-- two rising lists with the same members are one -/
theorem same_rising {l₁ l₂ : List Int} (h1 : l₁.Pairwise (· < ·)) (h2 : l₂.Pairwise (· < ·)) (h : ∀ z, z ∈ l₁ ↔ z ∈ l₂) : l₁ = l₂ := by
  have n1 : l₁.Nodup := h1.imp fun {a b} h => by omega
  have n2 : l₂.Nodup := h2.imp fun {a b} h => by omega
  have p : l₁.Perm l₂ := (List.perm_ext_iff_of_nodup n1 n2).mpr h
  exact p.eq_of_pairwise (le := (· < ·)) (fun a b _ _ x y => by omega) h1 h2
noncomputable def tenL : List Int := [1, 2, 3, 4, 5, 6, 7, 8, 9, 10]
theorem mem_tenL {z : Int} : z ∈ tenL ↔ 1 ≤ z ∧ z ≤ 10 := by
  unfold tenL
  constructor
  · intro h
    simp only [List.mem_cons, List.not_mem_nil, or_false] at h
    omega
  · rintro ⟨h1, h2⟩
    simp only [List.mem_cons, List.not_mem_nil, or_false]
    omega
/-- the holders with strips, rising -/
noncomputable def holdM (ps : List (Int × Int)) : List Int := tenL.filter fun h => decide (h ∈ ps.map (·.1))
theorem holdM_rising (ps : List (Int × Int)) : (holdM ps).Pairwise (· < ·) := List.Pairwise.filter _ (by unfold tenL; decide)
theorem mem_holdM {ps : List (Int × Int)} (hF : Field ps) {z : Int} : z ∈ holdM ps ↔ z ∈ ps.map (·.1) := by
  unfold holdM
  rw [List.mem_filter, decide_eq_true_eq, mem_tenL]
  constructor
  · exact fun h => h.2
  · intro h
    obtain ⟨q, hq, rfl⟩ := List.mem_map.mp h
    have := hF q hq
    exact ⟨⟨this.1, this.2.1⟩, h⟩
theorem holdM_len (ps : List (Int × Int)) : (holdM ps).length ≤ 10 := by
  have := List.length_filter_le (fun h => decide (h ∈ ps.map (·.1))) tenL
  exact this
theorem sorted_hold {ps : List (Int × Int)} {ns : List Int} (hF : Field ps) (p : ns.Perm ((ps.map (·.1)).foldl SetR.addJ [])) (h : ns.Pairwise (· ≤ ·)) : ns = holdM ps := by
  have nd : ns.Nodup := p.symm.nodup (addAll_nodup _ List.nodup_nil)
  refine same_rising (lt_of_le_nodup h nd) (holdM_rising ps) fun z => ?_
  rw [p.mem_iff, addAll_mem, mem_holdM hF]
  simp
theorem in_ints (z : Int) (xs : List Int) : inV (.int z) (xs.map V.int) = decide (z ∈ xs) := by
  unfold inV
  rw [List.any_map]
  induction xs with
  | nil => simp
  | cons x r ih =>
    rw [List.any_cons, ih]
    show ((x == z) || _) = _
    by_cases e : x = z
    · subst e; simp
    · have : (x == z) = false := by simpa using e
      rw [this]
      simp only [Bool.false_or]
      by_cases h : z ∈ r
      · rw [decide_eq_true h, decide_eq_true (List.mem_cons_of_mem _ h)]
      · rw [decide_eq_false h, decide_eq_false]
        intro hz
        rcases List.mem_cons.mp hz with hz | hz
        · exact e hz.symm
        · exact h hz
/-! ### orders -/
theorem tenL_range : tenL = (List.range 10).map fun (i : Nat) => (1 : Int) + (i : Int) := by decide
theorem holdM_range (ps : List (Int × Int)) : (List.range 10).filterMap (fun (i : Nat) => if decide ((1 : Int) + (i : Int) ∈ ps.map (·.1)) = true then some (V.int (1 + (i : Int))) else none) = (holdM ps).map V.int := by
  unfold holdM
  rw [tenL_range]
  generalize List.range 10 = l
  induction l with
  | nil => rfl
  | cons i r ih =>
    rw [List.filterMap_cons, List.map_cons, List.filter_cons]
    by_cases h : (1 : Int) + (i : Int) ∈ ps.map (·.1)
    · rw [decide_eq_true h, if_pos rfl, if_pos rfl, List.map_cons, ← ih]
    · rw [decide_eq_false h, if_neg (by decide), if_neg (by decide), ← ih]
/-! ### what an order costs, strip by strip and holder by holder -/
section
variable (ps : List (Int × Int))
noncomputable def tpM (y : Int) : Nat → Int
  | 0 => 0
  | j + 1 => tpM y j + (if (ps.getD j (0, 0)).1 = y then (ps.getD j (0, 0)).2 else 0)
/-- the pair cost over the first k strips -/
noncomputable def pcM (x y : Int) : Nat → Int
  | 0 => 0
  | k + 1 => pcM x y k + (if x ≠ y ∧ (ps.getD k (0, 0)).1 = x then tpM ps y k * (ps.getD k (0, 0)).2 else 0)
/-- an order's cost over the first n strips: each holder against those behind it -/
noncomputable def ordM (n : Nat) : List Int → Int
  | [] => 0
  | a :: r => (r.map fun b => pcM ps a b n).sum + ordM n r
/-- the widths of the strips whose holder stands behind h -/
noncomputable def aftM (n : Nat) (h : Int) : List Int → Int
  | [] => 0
  | a :: r => if a = h then (r.map fun b => tpM ps b n).sum else aftM n h r
/-- strip by strip: those of the first j that stand behind h by the order -/
noncomputable def rsM (os : List Int) (h : Int) : Nat → Int
  | 0 => 0
  | j + 1 => rsM os h j + (if os.idxOf h < os.idxOf (ps.getD j (0, 0)).1 then (ps.getD j (0, 0)).2 else 0)
/-- the products of the two strips that the order turns about -/
noncomputable def priM (os : List Int) : Nat → Int
  | 0 => 0
  | k + 1 => priM os k + rsM ps os (ps.getD k (0, 0)).1 k * (ps.getD k (0, 0)).2
end
theorem idx_ne {a b : Int} {r : List Int} (h : a ≠ b) : (a :: r).idxOf b = r.idxOf b + 1 := by
  rw [List.idxOf_cons]
  have : (a == b) = false := by simpa using h
  rw [this]
  rfl
theorem sum_zip_add (f g : Int → Int) (l : List Int) : (l.map fun b => f b + g b).sum = (l.map f).sum + (l.map g).sum := by
  induction l with
  | nil => rfl
  | cons b r ih =>
    simp only [List.map_cons, List.sum_cons]
    rw [ih]
    omega
theorem sum_congr {f g : Int → Int} {l : List Int} (h : ∀ b ∈ l, f b = g b) : (l.map f).sum = (l.map g).sum := by
  rw [List.map_congr_left h]
theorem sum_zero (l : List Int) : (l.map fun _ => (0 : Int)).sum = 0 := by
  induction l with
  | nil => rfl
  | cons b r ih => simp only [List.map_cons, List.sum_cons, ih]; rfl
theorem sum_mul_right (f : Int → Int) (w : Int) (l : List Int) : (l.map fun b => f b * w).sum = (l.map f).sum * w := by
  induction l with
  | nil => simp
  | cons b r ih =>
    simp only [List.map_cons, List.sum_cons]
    rw [ih, Int.add_mul]
/-- one member met once -/
theorem sum_one {l : List Int} (h : Int) (w : Int) (nd : l.Nodup) : (l.map fun b => if h = b then w else 0).sum = if h ∈ l then w else 0 := by
  induction l with
  | nil => simp
  | cons b r ih =>
    simp only [List.map_cons, List.sum_cons]
    have hb := (List.nodup_cons.mp nd).1
    rw [ih (List.nodup_cons.mp nd).2]
    by_cases e : h = b
    · subst e
      rw [if_pos rfl, if_neg hb, if_pos List.mem_cons_self]
      omega
    · rw [if_neg e]
      by_cases hm : h ∈ r
      · rw [if_pos hm, if_pos (List.mem_cons_of_mem _ hm)]
        omega
      · rw [if_neg hm, if_neg]
        · omega
        · intro z
          rcases List.mem_cons.mp z with z | z
          · exact e z
          · exact hm z
section
variable {ps : List (Int × Int)}
theorem ordM_out {n : Nat} : ∀ {os : List Int}, (ps.getD n (0, 0)).1 ∉ os → ordM ps (n + 1) os = ordM ps n os
  | [], _ => rfl
  | a :: r, h => by
    have h1 : (ps.getD n (0, 0)).1 ≠ a := fun z => h (by rw [z]; exact List.mem_cons_self)
    have h2 : (ps.getD n (0, 0)).1 ∉ r := fun z => h (List.mem_cons_of_mem _ z)
    simp only [ordM]
    rw [ordM_out h2]
    congr 1
    apply sum_congr
    intro b _
    simp only [pcM]
    rw [if_neg (fun z => h1 z.2)]
    omega
theorem ordM_in {n : Nat} : ∀ {os : List Int}, os.Nodup → (ps.getD n (0, 0)).1 ∈ os → ordM ps (n + 1) os = ordM ps n os + aftM ps n (ps.getD n (0, 0)).1 os * (ps.getD n (0, 0)).2
  | [], _, h => by cases h
  | a :: r, nd, h => by
    obtain ⟨na, nr⟩ := List.nodup_cons.mp nd
    simp only [ordM, aftM]
    by_cases e : a = (ps.getD n (0, 0)).1
    · rw [if_pos e]
      have hr : (ps.getD n (0, 0)).1 ∉ r := by rw [← e]; exact na
      rw [ordM_out hr, ← sum_mul_right]
      have e2 : (r.map fun b => pcM ps a b (n + 1)).sum = (r.map fun b => pcM ps a b n + tpM ps b n * (ps.getD n (0, 0)).2).sum := by
        apply sum_congr
        intro b hb
        simp only [pcM]
        rw [if_pos ⟨fun z => na (by rw [z]; exact hb), e.symm⟩]
      rw [e2, sum_zip_add]
      omega
    · rw [if_neg e]
      have hr : (ps.getD n (0, 0)).1 ∈ r := by
        rcases List.mem_cons.mp h with z | z
        · exact absurd z.symm e
        · exact z
      rw [ordM_in nr hr]
      have e2 : (r.map fun b => pcM ps a b (n + 1)).sum = (r.map fun b => pcM ps a b n).sum := by
        apply sum_congr
        intro b _
        simp only [pcM]
        rw [if_neg (fun z => e z.2.symm)]
        omega
      rw [e2]
      omega
theorem aftM_out {n : Nat} {h : Int} : ∀ {os : List Int}, (ps.getD n (0, 0)).1 ∉ os → aftM ps (n + 1) h os = aftM ps n h os
  | [], _ => rfl
  | a :: r, hn => by
    have h2 : (ps.getD n (0, 0)).1 ∉ r := fun z => hn (List.mem_cons_of_mem _ z)
    simp only [aftM]
    rw [aftM_out h2]
    have e2 : (r.map fun b => tpM ps b (n + 1)).sum = (r.map fun b => tpM ps b n).sum := by
      apply sum_congr
      intro b hb
      simp only [tpM]
      rw [if_neg (fun z => h2 (by rw [z]; exact hb))]
      omega
    rw [e2]
theorem aftM_step {n : Nat} {h : Int} : ∀ {os : List Int}, os.Nodup → h ∈ os → (ps.getD n (0, 0)).1 ∈ os →
    aftM ps (n + 1) h os = aftM ps n h os + (if os.idxOf h < os.idxOf (ps.getD n (0, 0)).1 then (ps.getD n (0, 0)).2 else 0)
  | [], _, hh, _ => by cases hh
  | a :: r, nd, hh, hm => by
    obtain ⟨na, nr⟩ := List.nodup_cons.mp nd
    generalize eg : (ps.getD n (0, 0)).1 = g at hm ⊢
    generalize ew : (ps.getD n (0, 0)).2 = w at ⊢
    simp only [aftM]
    by_cases e : a = h
    · subst e
      rw [if_pos rfl, if_pos rfl]
      have e2 : (r.map fun b => tpM ps b (n + 1)).sum = (r.map fun b => tpM ps b n + (if g = b then w else 0)).sum := by
        apply sum_congr
        intro b _
        simp only [tpM]
        rw [eg, ew]
      rw [e2, sum_zip_add, sum_one g w nr]
      have i0 : (a :: r).idxOf a = 0 := by simp
      rw [i0]
      by_cases eq : g = a
      · subst eq
        rw [i0, if_neg na, if_neg (by omega)]
      · have gr : g ∈ r := by
          rcases List.mem_cons.mp hm with z | z
          · exact absurd z eq
          · exact z
        have : (a :: r).idxOf g = r.idxOf g + 1 := idx_ne (Ne.symm eq)
        rw [this, if_pos gr, if_pos (by omega)]
    · rw [if_neg e, if_neg e]
      have hr : h ∈ r := by
        rcases List.mem_cons.mp hh with z | z
        · exact absurd z.symm e
        · exact z
      have ih1 : (a :: r).idxOf h = r.idxOf h + 1 := idx_ne e
      by_cases eq : g = a
      · subst eq
        have i0 : (g :: r).idxOf g = 0 := by simp
        rw [aftM_out (by rw [eg]; exact na), i0, if_neg (by omega)]
        omega
      · have gr : g ∈ r := by
          rcases List.mem_cons.mp hm with z | z
          · exact absurd z eq
          · exact z
        have ih2 : (a :: r).idxOf g = r.idxOf g + 1 := idx_ne (Ne.symm eq)
        rw [aftM_step nr hr (by rw [eg]; exact gr), eg, ew, ih1, ih2]
        congr 1
        by_cases hlt : r.idxOf h < r.idxOf g
        · rw [if_pos hlt, if_pos (by omega)]
        · rw [if_neg hlt, if_neg (by omega)]
theorem aftM_rs {os : List Int} {h : Int} (nd : os.Nodup) (hh : h ∈ os) : ∀ (n : Nat), (∀ j, j < n → (ps.getD j (0, 0)).1 ∈ os) → aftM ps n h os = rsM ps os h n
  | 0, _ => by
    have : ∀ l : List Int, aftM ps 0 h l = 0 := by
      intro l
      induction l with
      | nil => rfl
      | cons a r ih =>
        simp only [aftM, tpM]
        rw [sum_zero, ih]
        split <;> rfl
    rw [this]
    rfl
  | n + 1, hm => by
    rw [aftM_step nd hh (hm n (by omega)), aftM_rs nd hh n fun j hj => hm j (by omega)]
    rfl
/-- both reckonings agree -/
theorem ord_pri {os : List Int} (nd : os.Nodup) : ∀ (n : Nat), (∀ j, j < n → (ps.getD j (0, 0)).1 ∈ os) → ordM ps n os = priM ps os n
  | 0, _ => by
    have : ∀ l : List Int, ordM ps 0 l = 0 := by
      intro l
      induction l with
      | nil => rfl
      | cons a r ih =>
        simp only [ordM, pcM]
        rw [sum_zero, ih]
        rfl
    rw [this]
    rfl
  | n + 1, hm => by
    rw [ordM_in nd (hm n (by omega)), ord_pri nd n (fun j hj => hm j (by omega)), aftM_rs nd (hm n (by omega)) n fun j hj => hm j (by omega)]
    rfl
end
end M

namespace ExcR
open PySem PySem.Spec PyProof.Rows L2
/-! ### an exception's record and its newest traceback entry -/
/-- what passes leaves: the callers' frames may get slots; the records at ex may turn -/
structure KeepX (fs ex : List Addr) (h h' : Heap) : Prop where
  keep : ∀ b o, h.get? b = some o → b ∉ fs → b ∉ ex → h'.get? b = some o
  slot : ∀ b o, h.get? b = some o → b ∉ ex → ∃ sl, h'.get? b = some { o with slots := sl }
  size : h.objs.size ≤ h'.objs.size
theorem KeepX.trans {fs ex : List Addr} {h1 h2 h3 : Heap} (a : KeepX fs ex h1 h2) (b : KeepX fs ex h2 h3) : KeepX fs ex h1 h3 :=
  ⟨fun c o e n m => b.keep c o (a.keep c o e n m) n m, fun c o e m => by
    obtain ⟨s1, e1⟩ := a.slot c o e m
    obtain ⟨s2, e2⟩ := b.slot c _ e1 m
    exact ⟨s2, e2⟩, Nat.le_trans a.size b.size⟩
theorem KeepX.mono {fs fs' ex ex' : List Addr} {h1 h2 : Heap} (a : KeepX fs ex h1 h2) (hf : ∀ b ∈ fs, b ∈ fs') (hx : ∀ b ∈ ex, b ∈ ex') : KeepX fs' ex' h1 h2 :=
  ⟨fun c o e n m => a.keep c o e (fun z => n (hf c z)) (fun z => m (hx c z)), fun c o e m => a.slot c o e fun z => m (hx c z), a.size⟩
section
variable {M : Model} {A : Around} {E : Value → Shared → Prop} {s : Shared} {base : Heap} {env : Env} {outer : List Env} {L e : Addr}
end
end ExcR

namespace ExcR
open PySem PySem.Spec PyProof.Rows L2
section
variable {P : Program} {w : World} {H H' : Hp} {h h' : Heap} {a : Addr} {o : HO} {fs ex : List Addr}
/-- what is tracked is there -/
theorem has (x : ObjOk P w H h a o) : ∃ u, h.get? a = some u := by
  cases o with
  | lst xs => exact let ⟨_, _, _, _, e⟩ := x; ⟨_, e⟩
  | tup xs => exact let ⟨_, _, _, u, e, _⟩ := x; ⟨u, e⟩
  | dK kvs => exact let ⟨_, _, _, _, u, _, _, e, _⟩ := x; ⟨u, e⟩
  | dT kvs => exact let ⟨_, _, _, _, u, _, _, e, _⟩ := x; ⟨u, e⟩
  | set S n => exact let ⟨u, _, _, _, e, _⟩ := x; ⟨u, e⟩
  | ins C dx fs => exact let ⟨_, _, _, e, _⟩ := x; ⟨_, e⟩
  | own y => exact x
  | xd fs => exact let ⟨_, ⟨u, _, _, e, _⟩, _⟩ := x; ⟨u, e⟩
  | rng lo hi => exact let ⟨_, _, _, e⟩ := x; ⟨_, e⟩
  | frz ob u => exact ⟨_, x.1⟩
  | tbl ps => exact ⟨_, x⟩
  | met f y => exact ⟨_, x⟩
  | ext φ => exact x.2.1
end
section
variable {X : Cx} {pins : List (Addr × Obj)} {σ : L2.St} {H H' : Hp} {s s' : Shared} {a T C : Addr}
variable {E : Value → Shared → Prop}
end
/-! ### a class of errors of the text -/
/-- what the object of the class is -/
structure ErrCls (K : PySem.W.Frag) (C : Addr) : Prop where
  q : PySem.W.excIn K C [.type "ValueError", .type "Exception", .type "BaseException", .type "object"] "ValueError.__new__" = true
end ExcR

namespace ExcR
open PySem PySem.Spec PyProof.Rows L2
/-! ### texts with braces -/
noncomputable abbrev TF := L2.St → Hp → Str → (Str → Hp → Prop) → Prop
section
variable {X : Cx} {e e1 e2 : Expr} {es : List Expr} {t : TF} {tv : TE} {pos : Pos}
end
/-! ### raise C(..) -/
section
variable {X : Cx} {x : Str} {C : Addr} {E : XK} {e : Expr} {es : List Expr} {t : TA} {p cpos pos : Pos}
end
/-! ### the body of a def that lets exceptions out -/
section
variable {P : Program} {w : World} {K : PySem.W.Frag} {mg : Str → Option Value} {base : Heap} {N ps : List Str} {qual x : Str} {scope : Scope} {f : Addr} {cd : Value} {A : Around} {outer : List Env} {s : Shared} {H : Hp} {E : XK}
end
end ExcR

namespace ExcR
open PySem PySem.Spec PyProof.Rows L2
open Sem (wp)
/-- what is read of a class of errors by isinstance -/
structure ErrGet (K : PySem.W.Frag) (C : Addr) : Prop where
  c : ErrCls K C
  ga : PySem.W.findIn K (.ref C) "__getattribute__" = some (some (.builtin "BaseException.__getattribute__"))
  gt : PySem.W.findIn K (.ref C) "__getattr__" = some none
  cl : PySem.W.findIn K (.ref C) "__class__" = some (some (.builtin "object.__class__"))
  is : (PySem.W.clsIn K C).isSome = true
section
variable {prog : Program} {w : World} {A : Around} {E : Value → Shared → Prop} {h : Heap} {g : Array GenState} {d : Drawn} {t : Nat} {os : OsState} {a C : Addr} {o : Obj} {K : PySem.W.Frag}
end
end ExcR

namespace ExcR
open PySem PySem.Spec PyProof.Rows L2
/-! ### isinstance(e, C), e caught -/
/-- a caught error of the class at C -/
noncomputable def ErrH (a C : Addr) : HO := .ext fun h => ∃ o, h.get? a = some o ∧ o.cls = .ref C ∧ ∃ vs, o.data = .fields vs
section
variable {X : Cx}
end
/-! ### try -/
section
variable {X : Cx} {pins pins1 : List (Addr × Obj)} {σ : L2.St} {H H' : Hp} {s s' : Shared} {a T C : Addr} {D : Ends} {h0 : ExceptHandler}
end
/-- ends of an except suite, whose name goes -/
noncomputable def sufD (i : Nat) (D : Ends) : Ends := { nx := fun σ H => D.nx (σ.set i none) H, rt := D.rt, bk := fun σ H => D.bk (σ.set i none) H, ct := fun σ H => D.ct (σ.set i none) H }
/-- what a caught error must find: the clause's class at C0, its name in the i-th slot, the suite's reading -/
noncomputable def hx (K : PySem.W.Frag) (C0 : Addr) (i : Nat) (ts : TS) (D : Ends) : L2.St → XK := fun σ c _ H => ∃ C, c = .ref C ∧ ErrGet K C ∧ PySem.W.exmOne K (.ref C) (.ref C0) = some true ∧
  ∀ a, H a = none → ts (sufD i D) (σ.set i (some (.ref a))) (upd H a (ErrH a C))
section
variable {X : Cx} {CX : CXT} {k : Nat} {ps : List Str} {sp : Sp} {E : L2.St → XK} {x : Str} {p pos : Pos} {e : Expr} {es : List Expr} {t : TA}
end
section
variable {X : Cx} {pins : List (Addr × Obj)} {D : Ends} {x n : Str} {np hpos pos : Pos} {b0 : Stmt} {suite body : List Stmt} {C0 : Addr} {i : Nat} {ts : TS}
end
/-! ### names of the module -/
/-- the class that stands under the name -/
noncomputable def clsOf (mg : Str → Option Value) (x : Str) : Addr := match mg x with
  | some (.ref C) => C
  | _ => 0
end ExcR

namespace Own
open PySem PySem.Spec PyProof.Rows L2 M
section
variable {X : Cx} {pins : List (Addr × Obj)} {σ : L2.St} {H : Hp} {s : Shared}
/-! ### pairs of ints: ==, in -/
theorem pair_vals {p : Int × Int} {its : List Value} (r : Vals [V.int p.1, V.int p.2] its) : ∃ t1 t2, its = [.int p.1 t1, .int p.2 t2] := by
  cases r with
  | cons r1 rr =>
    cases rr with
    | cons r2 r3 =>
      cases r3
      obtain ⟨t1, rfl⟩ := r1
      obtain ⟨t2, rfl⟩ := r2
      exact ⟨t1, t2, rfl⟩
theorem pair_eqAt {A : Around} {x y : V} {p q : Int × Int} {u v : Value} (I : Inv X pins σ H s) (hu : A.units < cLine) (rx : RelV x u) (ry : RelV y v) (hp : PairR H x p) (hq : PairR H y q) : SeqAt.EqAt A s u v (decide (p = q)) := by
  obtain ⟨a, rfl, ha⟩ := hp
  obtain ⟨b, rfl, hb⟩ := hq
  obtain rfl : u = Value.ref a := rx
  obtain rfl : v = Value.ref b := ry
  by_cases hab : a = b
  · subst hab
    rw [ha] at hb
    have e : p = q := by
      injection hb with hb
      injection hb with hb
      injection hb with h1 h2
      injection h2 with h2 _
      exact Prod.ext (V.int.inj h1) (V.int.inj h2)
    rw [decide_eq_true e]
    exact SeqAt.EqAt.same _
  · obtain ⟨_, its, r1, t1⟩ := (show ObjOk X.prog X.w H s.heap a (.tup [.int p.1, .int p.2]) from I.hok a _ ha)
    obtain ⟨_, jts, r2, t2⟩ := (show ObjOk X.prog X.w H s.heap b (.tup [.int q.1, .int q.2]) from I.hok b _ hb)
    obtain ⟨k1, k2, rfl⟩ := pair_vals r1
    obtain ⟨k3, k4, rfl⟩ := pair_vals r2
    have h := SeqAt.RcAt.tuples (A := A) (s := s) (e := fun j => if j = 0 then p.1 == q.1 else p.2 == q.2) t1 t2 hu (fun j h1 h2 => by
      have hj : j = 0 ∨ j = 1 := by
        have h1' : j < 2 := h1
        omega
      rcases hj with rfl | rfl
      · exact SeqAt.EqAt.int_int _ _ _ _
      · exact SeqAt.EqAt.int_int _ _ _ _)
    have e : ((List.range (min ([Value.int p.1 k1, Value.int p.2 k2].toArray).size ([Value.int q.1 k3, Value.int q.2 k4].toArray).size)).all (fun j => if j = 0 then p.1 == q.1 else p.2 == q.2) && ([Value.int p.1 k1, Value.int p.2 k2].toArray).size == ([Value.int q.1 k3, Value.int q.2 k4].toArray).size) = decide (p = q) := by
      show ((List.range 2).all (fun j => if j = 0 then p.1 == q.1 else p.2 == q.2) && true) = decide (p = q)
      rw [Bool.and_true]
      have e2 : (List.range 2).all (fun j => if j = 0 then p.1 == q.1 else p.2 == q.2) = ((p.1 == q.1) && (p.2 == q.2)) := by simp [List.range, List.range.loop]
      rw [e2]
      by_cases h1 : p.1 = q.1
      · by_cases h2 : p.2 = q.2
        · rw [decide_eq_true (Prod.ext h1 h2)]; simp [h1, h2]
        · rw [decide_eq_false (fun z => h2 (by rw [z]))]; simp [h2]
      · rw [decide_eq_false (fun z => h1 (by rw [z]))]; simp [h1]
    rw [e] at h
    exact SeqAt.EqAt.of_refs hab h
/-- which pair a value is -/
noncomputable def eP (H : Hp) (q : Int × Int) (u : Value) : Bool := match u with
  | .ref a => (match H a with
    | some (.tup [.int i, .int j]) => decide ((i, j) = q)
    | _ => false)
  | _ => false
theorem eP_of {v : V} {u : Value} {p q : Int × Int} (h : PairR H v p) (r : RelV v u) : eP H q u = decide (p = q) := by
  obtain ⟨a, rfl, ha⟩ := h
  obtain rfl : u = Value.ref a := r
  unfold eP
  simp only [ha]
theorem any_eP {q : Int × Int} : ∀ {vs : List V} {us : List Value} {ps : List (Int × Int)}, Vals vs us → LV PairR H vs ps → us.any (eP H q) = decide (q ∈ ps)
  | _, _, [], .nil, _ => rfl
  | _, _, _ :: _, .nil, h => absurd h.1 (by simp)
  | v :: vs, u :: us, [], .cons _ _, h => absurd h.1 (by simp)
  | v :: vs, u :: us, p :: ps, .cons r t, h => by
    obtain ⟨v', e, hv⟩ := h.2 0 p rfl
    cases e
    have ht : LV PairR H vs ps := ⟨by simpa using h.1, fun i x e => h.2 (i + 1) x e⟩
    rw [List.any_cons, eP_of hv r, any_eP t ht]
    by_cases e1 : p = q
    · subst e1; simp
    · by_cases e2 : q ∈ ps
      · simp [e1, e2]
      · have : ¬ q = p := fun z => e1 z.symm
        simp [e1, e2, this]
noncomputable def rInP (neg : Bool) : R2 := fun x y H Q => ∃ (l : Addr) (ps : List (Int × Int)) (q : Int × Int), y = .ref l ∧ PairR H x q ∧ LAt PairR H l ps ∧ Q (.bl (if neg then !decide (q ∈ ps) else decide (q ∈ ps))) H
theorem mem_eP {A : Around} {x : V} {v : Value} {q : Int × Int} (I : Inv X pins σ H s) (hu : A.units < cLine) (rx : RelV x v) (hx : PairR H x q) : ∀ {vs : List V} {us : List Value} {ps : List (Int × Int)}, Vals vs us → LV PairR H vs ps → ∀ u ∈ us, SeqAt.EqAt A s u v (eP H q u)
  | _, _, _, .nil, _, u, hu' => by cases hu'
  | w :: vs, u :: us, [], .cons _ _, h, _, _ => absurd h.1 (by simp)
  | w :: vs, u :: us, p :: ps, .cons r t, h, u', hu' => by
    obtain ⟨w', e, hw⟩ := h.2 0 p rfl
    cases e
    have ht : LV PairR H vs ps := ⟨by simpa using h.1, fun i x e => h.2 (i + 1) x e⟩
    rcases List.mem_cons.mp hu' with rfl | hu'
    · rw [eP_of hw r]
      exact pair_eqAt I hu r rx hw hx
    · exact mem_eP I hu rx hx t ht u' hu'
theorem op_inP (hu : X.A.in1.units < cLine) : OpR X (compareOp .In) (rInP false) := by
  intro pins s σ H x y v u Q I rx ry h
  obtain ⟨l, ps, q, rfl, hx, ⟨vs, hl, hv⟩, k⟩ := h
  cases ry
  obtain ⟨its, r, pl, hz⟩ := I.list (SqL.of hl)
  refine SeqAt.in_listAt (eP H q) pl.isList (fun w hw => mem_eP I hu rx hx r hv w (by simpa using hw)) ⟨.bl _, H, I, rfl, ?_⟩
  rw [show its.toArray.any (eP H q) = its.any (eP H q) by simp, any_eP r hv]
  exact k
theorem op_notInP (hu : X.A.in1.units < cLine) : OpR X (compareOp .NotIn) (rInP true) := by
  intro pins s σ H x y v u Q I rx ry h
  obtain ⟨l, ps, q, rfl, hx, ⟨vs, hl, hv⟩, k⟩ := h
  cases ry
  obtain ⟨its, r, pl, hz⟩ := I.list (SqL.of hl)
  refine SeqAt.notIn_listAt (eP H q) pl.isList (fun w hw => mem_eP I hu rx hx r hv w (by simpa using hw)) ⟨.bl _, H, I, rfl, ?_⟩
  rw [show its.toArray.any (eP H q) = its.any (eP H q) by simp, any_eP r hv]
  exact k
/-! ### xs.count(z) -/
end
end Own
namespace M
open PySem PySem.Spec PyProof.Rows L2 Own
section
variable {α : Type} {R : Hp → V → α → Prop} {H : Hp}
theorem LV.cons_iff {v : V} {vs : List V} {x : α} {xs : List α} : LV R H (v :: vs) (x :: xs) ↔ R H v x ∧ LV R H vs xs := by
  constructor
  · intro h
    obtain ⟨v', e, r⟩ := h.2 0 x rfl
    cases e
    exact ⟨r, by simpa using h.1, fun i y e => h.2 (i + 1) y e⟩
  · rintro ⟨r, h⟩
    refine ⟨by simp [h.1], fun i y e => ?_⟩
    cases i with
    | zero => cases e; exact ⟨v, rfl, r⟩
    | succ i => exact h.2 i y e
/-- the items that a test lets by, as they are -/
noncomputable def pick (c : α → Bool) (d : V × α) : Option V := if c d.2 = true then some d.1 else none
theorem LV.pick (c : α → Bool) : ∀ {vs : List V} {xs : List α}, LV R H vs xs → LV R H ((vs.zip xs).filterMap (pick c)) (xs.filter c)
  | [], [], _ => LV.nil
  | [], _ :: _, h => absurd h.1 (by simp)
  | _ :: _, [], h => absurd h.1 (by simp)
  | v :: vs, x :: xs, h => by
    obtain ⟨r, h⟩ := LV.cons_iff.mp h
    have ih := LV.pick c h
    rw [List.zip_cons_cons]
    by_cases e : c x = true
    · rw [List.filterMap_cons_some (show M.pick c (v, x) = some v from if_pos e), List.filter_cons_of_pos e]
      exact LV.cons_iff.mpr ⟨r, ih⟩
    · rw [List.filterMap_cons_none (show M.pick c (v, x) = none from if_neg e), List.filter_cons_of_neg e]
      exact ih
theorem LV.zip_get {vs : List V} {xs : List α} (h : LV R H vs xs) {i : Nat} {v : V} {d : V × α} (e1 : vs[i]? = some v) (e2 : (vs.zip xs)[i]? = some d) : d.1 = v ∧ R H v d.2 := by
  obtain ⟨x, ex, r⟩ := h.get e1
  rw [List.getElem?_zip_eq_some] at e2
  rw [e1] at e2
  rw [ex] at e2
  obtain ⟨a, b⟩ := e2
  cases a
  cases b
  exact ⟨rfl, r⟩
theorem LV.zip_len {vs : List V} {xs : List α} (h : LV R H vs xs) : (vs.zip xs).length = xs.length := by
  rw [List.length_zip, h.1, Nat.min_self]
end
end M


namespace Own
open PySem PySem.Spec PyProof.Rows L2 M
section
variable {X : Cx}
/-! ### range(i, j) as a thing, list of it -/
end
end Own
namespace M
open PySem PySem.Spec PyProof.Rows L2 Own
end M


namespace Own
open PySem PySem.Spec PyProof.Rows L2
section
variable {X : Cx} {K : PySem.W.Frag}
/-! ### sum, min, max, any of a list -/
theorem call_sumL (hc : X.calm = true) (hK : X.K = K := by rfl) : CallR X (.builtin "sum") (fun xs H Q => ∃ (p : Addr) (ns : List Int), xs = [.ref p] ∧ SqL K H p (ns.map V.int) ∧ Q (.int ns.sum) H) := by
  subst hK
  intro pins s σ H xs us Q I rv h
  obtain ⟨p, ns, rfl, hS, q⟩ := h
  obtain ⟨u, rfl, ru⟩ := rv.one
  obtain rfl : u = Value.ref p := ru
  obtain ⟨its, r, pl, _⟩ := I.list hS
  have hi : IntsAre its ns := by simpa using intsAre_of r
  obtain ⟨ys, hx⟩ := hi.allInts.items
  have hl := pl.isList
  rw [hx] at hl
  refine sum_intListG (I.ok.hd hc) hl fun h' tk t' hk => ?_
  have e1 : ns = ys.toList.map (·.1) := by
    rw [← nums_intItems, ← hx]
    exact (show numsOf its.toArray.toList = ns from hi.numsOf).symm
  have e2 : preSum (numAt ys) ys.size = ns.sum := by
    rw [preSum_eq, List.take_of_length_le (by simp), e1]
  rw [e2]
  exact ⟨.int ns.sum, H, I.kept (t' := tk) hk, ⟨_, rfl⟩, q⟩
theorem call_minL (hc : X.calm = true) (hK : X.K = K := by rfl) : CallR X (.builtin "min") (fun xs H Q => ∃ (p : Addr) (ns : List Int), xs = [.ref p] ∧ SqL K H p (ns.map V.int) ∧ 0 < ns.length ∧ ∀ M, M ∈ ns → (∀ a ∈ ns, M ≤ a) → Q (.int M) H) := by
  subst hK
  intro pins s σ H xs us Q I rv h
  obtain ⟨p, ns, rfl, hS, hne, q⟩ := h
  obtain ⟨u, rfl, ru⟩ := rv.one
  obtain rfl : u = Value.ref p := ru
  obtain ⟨its, r, pl, _⟩ := I.list hS
  have hi : IntsAre its ns := by simpa using intsAre_of r
  obtain ⟨ys, e⟩ := hi.allInts.items
  have hl := pl.isList
  rw [e] at hl
  have hns : ns = ys.toList.map (·.1) := by rw [← hi.numsOf, ← nums_intItems, ← e]
  have hsz : 0 < ys.size := by
    have h3 := hne; rw [hns, List.length_map, Array.length_toList] at h3; exact h3
  refine min_intList (I.ok.hd hc) hl hsz fun v h' tk hv hk => ?_
  obtain ⟨t, rfl⟩ := intItems_at hv
  obtain ⟨h1, h2⟩ := argBest_lt (numAt ys) (ys.size - 1)
  refine ⟨.int _, H, I.kept (t' := tk) hk, ⟨_, rfl⟩, q _ ?_ fun a ha => ?_⟩
  · rw [hns, numAt_eq]; exact getD_mem (by rw [List.length_map, Array.length_toList]; omega)
  · rw [hns] at ha
    obtain ⟨j, hj, rfl⟩ := List.mem_iff_getElem.mp ha
    rw [List.length_map, Array.length_toList] at hj
    have := h2 j (by omega)
    rw [numAt_eq ys j] at this
    rw [List.getD_eq_getElem?_getD, List.getElem?_eq_getElem (by rw [List.length_map, Array.length_toList]; exact hj)] at this
    exact this
theorem bools_of : ∀ {bs : List Bool} {us : List Value}, Vals (bs.map V.bl) us → LSm.BoolsAre us bs
  | [], _, .nil => .nil
  | b :: r, _, .cons h t => by
    cases (show _ = Value.bool b from h)
    exact .cons b (bools_of t)
theorem call_anyL (hc : X.calm = true) (hK : X.K = K := by rfl) : CallR X (.builtin "any") (fun xs H Q => ∃ (p : Addr) (bs : List Bool), xs = [.ref p] ∧ SqL K H p (bs.map V.bl) ∧ Q (.bl (bs.any id)) H) := by
  subst hK
  intro pins s σ H xs us Q I rv h
  obtain ⟨p, bs, rfl, hS, q⟩ := h
  obtain ⟨u, rfl, ru⟩ := rv.one
  obtain rfl : u = Value.ref p := ru
  obtain ⟨its, r, pl, _⟩ := I.list hS
  have hb := bools_of r
  have hl := pl.isList
  have hlt : p < s.heap.objs.size := by obtain ⟨_, e, _⟩ := hl; exact Heap.lt_size e
  refine call_any_walk (wpAny_pyIter_list hl ?_)
  refine ⟨s.heap.objs.size, [s.heap.objs.size, p], [s.heap.objs.size], its.toArray.size, _, _, fun i => (bs[i]?).getD false, rfl, Walks.list (A := X.A.in1) (I.ok.hd hc) _ p (Nat.ne_of_lt hlt) its.toArray,
    ⟨⟨_, Heap.get?_push_size _ rfl, rfl, rfl⟩, hl.push _⟩, fun i v s' Q' E' hP hQ => ?_, fun h' tk hk => ?_⟩
  · obtain ⟨b, e, rfl⟩ := hb.get i v (by simpa using hP)
    simp only [e, Option.getD_some] at hQ
    exact wpAny_truthy_bool hQ
  · have e : ((List.range its.toArray.size).any fun i => (bs[i]?).getD false) = bs.any id := by
      rw [List.size_toArray, hb.length]; exact LSm.range_any bs
    rw [e]
    exact ⟨.bl (bs.any id), H, I.kept (t' := tk) (LSm.kept_iter hk), rfl, q⟩
/-! ### == [] and != [], whatever the list holds -/
noncomputable def rEqE (K : PySem.W.Frag) (neg : Bool) : R2 := fun x y H Q => ∃ (p q : Addr) (xs : List V), x = .ref p ∧ y = .ref q ∧ SqL K H p xs ∧ SqL K H q [] ∧ Q (.bl (if neg then !xs.isEmpty else xs.isEmpty)) H
theorem op_eqE (hu : X.A.units < cLine) (hK : X.K = K := by rfl) : OpR X (compareOp .Eq) (rEqE K false) := by
  subst hK
  intro pins s σ H x y v u Q I rx ry h
  obtain ⟨p, q, xs, rfl, rfl, hp, hq, k⟩ := h
  obtain rfl : v = Value.ref p := rx
  obtain rfl : u = Value.ref q := ry
  obtain ⟨us, r1, p1, _⟩ := I.list hp
  obtain ⟨ws, r2, p2, _⟩ := I.list hq
  have l1 := r1.length
  have l2 : 0 = ws.length := r2.length
  have k' : Q (.bl xs.isEmpty) H := k
  by_cases e : xs.length = 0
  · refine SeqAt.eq_listAt (e := fun _ => true) p1.isList p2.isList (by simp; omega) hu (fun j h1 h2 => by simp at h2; omega) ⟨.bl xs.isEmpty, H, I, ?_, k'⟩
    show _ = Value.bool xs.isEmpty
    have : xs = [] := List.length_eq_zero_iff.mp e
    subst this
    rw [List.size_toArray, ← l1]
    rfl
  · refine SeqAt.eq_list_lengthsAt p1.isList p2.isList (by simp; omega) hu ⟨.bl xs.isEmpty, H, I, ?_, k'⟩
    show _ = Value.bool xs.isEmpty
    cases xs with
    | nil => exact absurd rfl e
    | cons a r => rfl
end
end Own

namespace M
open PySem PySem.Spec PyProof.Rows L2 Own
/-! ### rings of wishes -/
/-- the wishes between two of these -/
noncomputable def insideM (ws : List (Int × Int)) (ls : List Int) : List (Int × Int) := ws.filter fun q => decide (q.1 ∈ ls) && decide (q.2 ∈ ls)
/-- those of ls that are wished behind another one of ls -/
noncomputable def peelM (ws : List (Int × Int)) (ls : List Int) : List Int := ls.filter fun h => decide (h ∈ (insideM ws ls).map (·.2))
noncomputable def peelsM (ws : List (Int × Int)) (ls : List Int) : Nat → List Int
  | 0 => ls
  | n + 1 => peelM ws (peelsM ws ls n)
/-- a chain: each is wished ahead of the next -/
noncomputable def Chain (ws : List (Int × Int)) (r : List Int) : Prop := ∀ (i : Nat) (x y : Int), r[i]? = some x → r[i + 1]? = some y → (x, y) ∈ ws
structure Ring (hs : List Int) (ws : List (Int × Int)) (r : List Int) : Prop where
  two : 2 ≤ r.length
  nodup : r.Nodup
  sub : ∀ x ∈ r, x ∈ hs
  chain : Chain ws r
  last : ∀ x y, r[0]? = some x → r[r.length - 1]? = some y → (y, x) ∈ ws
/-- each of a ring has one of it ahead -/
theorem Ring.ahead {hs : List Int} {ws : List (Int × Int)} {r : List Int} (R : Ring hs ws r) {x : Int} (hx : x ∈ r) : ∃ y ∈ r, (y, x) ∈ ws := by
  obtain ⟨i, hi, e⟩ := List.mem_iff_getElem.mp hx
  have two := R.two
  cases i with
  | zero =>
    have hl : r.length - 1 < r.length := by omega
    exact ⟨r[r.length - 1], List.getElem_mem hl, R.last x _ (by rw [List.getElem?_eq_getElem hi, e]) (List.getElem?_eq_getElem hl)⟩
  | succ i =>
    have hl : i < r.length := by omega
    exact ⟨r[i], List.getElem_mem hl, R.chain i _ x (List.getElem?_eq_getElem hl) (by rw [List.getElem?_eq_getElem hi, e])⟩
theorem mem_peel {ws : List (Int × Int)} {ls : List Int} {x : Int} : x ∈ peelM ws ls ↔ x ∈ ls ∧ ∃ y ∈ ls, (y, x) ∈ ws := by
  unfold peelM insideM
  rw [List.mem_filter]
  constructor
  · rintro ⟨h1, h2⟩
    obtain ⟨q, hq, e⟩ := List.mem_map.mp (of_decide_eq_true h2)
    obtain ⟨h3, h4⟩ := List.mem_filter.mp hq
    rw [Bool.and_eq_true] at h4
    refine ⟨h1, q.1, of_decide_eq_true h4.1, ?_⟩
    rw [← e]
    exact h3
  · rintro ⟨h1, y, h2, h3⟩
    refine ⟨h1, decide_eq_true (List.mem_map.mpr ⟨(y, x), List.mem_filter.mpr ⟨h3, ?_⟩, rfl⟩)⟩
    rw [decide_eq_true h2, decide_eq_true h1]
    rfl
theorem ring_stays {hs : List Int} {ws : List (Int × Int)} {r : List Int} (R : Ring hs ws r) : ∀ (n : Nat) (x : Int), x ∈ r → x ∈ peelsM ws hs n
  | 0, x, hx => R.sub x hx
  | n + 1, x, hx => by
    obtain ⟨y, hy, h⟩ := R.ahead hx
    exact mem_peel.mpr ⟨ring_stays R n x hx, y, ring_stays R n y hy, h⟩
theorem peel_sub (ws : List (Int × Int)) (ls : List Int) : (peelM ws ls).Sublist ls := List.filter_sublist
theorem peels_sub (ws : List (Int × Int)) (hs : List Int) : ∀ n, (peelsM ws hs n).Sublist hs
  | 0 => List.Sublist.refl _
  | n + 1 => (peel_sub ws _).trans (peels_sub ws hs n)
/-- a peeling that takes nothing away comes, or all goes -/
theorem peels_end (ws : List (Int × Int)) (hs : List Int) : ∀ n, (∃ k, k < n ∧ peelM ws (peelsM ws hs k) = peelsM ws hs k) ∨ (peelsM ws hs n).length + n ≤ hs.length
  | 0 => .inr (Nat.le_refl _)
  | n + 1 => by
    rcases peels_end ws hs n with ⟨k, hk, e⟩ | h
    · exact .inl ⟨k, by omega, e⟩
    · by_cases e : peelM ws (peelsM ws hs n) = peelsM ws hs n
      · exact .inl ⟨n, by omega, e⟩
      · have hl : (peelM ws (peelsM ws hs n)).length < (peelsM ws hs n).length := by
          have h1 := (peel_sub ws (peelsM ws hs n)).length_le
          rcases Nat.lt_or_ge (peelM ws (peelsM ws hs n)).length (peelsM ws hs n).length with h2 | h2
          · exact h2
          · exact absurd ((peel_sub ws (peelsM ws hs n)).eq_of_length (by omega)) e
        refine .inr ?_
        show (peelM ws (peelsM ws hs n)).length + (n + 1) ≤ hs.length
        omega
theorem peels_stay (ws : List (Int × Int)) (hs : List Int) {k : Nat} (e : peelM ws (peelsM ws hs k) = peelsM ws hs k) : ∀ n, peelsM ws hs (k + n) = peelsM ws hs k
  | 0 => rfl
  | n + 1 => by
    show peelM ws (peelsM ws hs (k + n)) = _
    rw [peels_stay ws hs e n, e]
theorem len_of_sub : ∀ {xs ys : List Int}, xs.Nodup → (∀ x ∈ xs, x ∈ ys) → xs.length ≤ ys.length
  | [], _, _, _ => Nat.zero_le _
  | x :: xs, ys, nd, h => by
    obtain ⟨h1, h2⟩ := List.nodup_cons.mp nd
    have hx : x ∈ ys := h x (List.mem_cons_self ..)
    have ih := len_of_sub (ys := ys.erase x) h2 fun z hz => (List.mem_erase_of_ne (fun e : z = x => h1 (e ▸ hz))).mpr (h z (List.mem_cons_of_mem _ hz))
    rw [List.length_erase_of_mem hx] at ih
    have : 0 < ys.length := List.length_pos_of_mem hx
    rw [List.length_cons]
    omega
/-- where each has one of them ahead, there is a ring -/
theorem ring_of {ws : List (Int × Int)} {ls : List Int} (hu : ∀ q ∈ ws, q.1 ≠ q.2) (hne : ls ≠ []) (h : ∀ x ∈ ls, ∃ y ∈ ls, (y, x) ∈ ws) : ∃ r, Ring ls ws r := by
  -- chains that grow to the left
  have grow : ∀ (n : Nat) (r : List Int), r ≠ [] → r.Nodup → (∀ x ∈ r, x ∈ ls) → Chain ws r → ls.length < r.length + n → ∃ r, Ring ls ws r := by
    intro n
    induction n with
    | zero =>
      intro r hr nd sub ch hl
      have := len_of_sub nd sub
      omega
    | succ n ih =>
      intro r hr nd sub ch hl
      cases r with
      | nil => exact absurd rfl hr
      | cons x t =>
        obtain ⟨y, hy, hw⟩ := h x (sub x (List.mem_cons_self ..))
        by_cases hm : y ∈ x :: t
        · obtain ⟨i, hi, e⟩ := List.mem_iff_getElem.mp hm
          have hi0 : i ≠ 0 := fun z => by
            subst z
            have e' : x = y := e
            exact hu _ hw e'.symm
          have hlen : ((x :: t).take (i + 1)).length = i + 1 := by
            rw [List.length_take]
            omega
          refine ⟨(x :: t).take (i + 1), by omega, nd.sublist (List.take_sublist _ _), fun z hz => sub z (List.mem_of_mem_take hz), fun k a b h1 h2 => ?_, fun a b h1 h2 => ?_⟩
          · have hk : k + 1 < i + 1 := by
              have := (List.getElem?_eq_some_iff.mp h2).1
              omega
            rw [List.getElem?_take_of_lt (by omega)] at h1
            rw [List.getElem?_take_of_lt hk] at h2
            exact ch k a b h1 h2
          · rw [hlen, Nat.add_sub_cancel, List.getElem?_take_of_lt (by omega), List.getElem?_eq_getElem hi, e] at h2
            rw [List.getElem?_take_of_lt (by omega)] at h1
            cases h1
            cases h2
            exact hw
        · refine ih (y :: x :: t) (by simp) (List.nodup_cons.mpr ⟨hm, nd⟩) (fun z hz => ?_) (fun k a b h1 h2 => ?_) (by rw [List.length_cons]; omega)
          · rcases List.mem_cons.mp hz with rfl | hz
            · exact hy
            · exact sub z hz
          · cases k with
            | zero =>
              cases h1
              cases h2
              exact hw
            | succ k => exact ch k a b h1 h2
  obtain ⟨x, hx⟩ := List.exists_mem_of_ne_nil ls hne
  exact grow (ls.length + 1) [x] (by simp) (by simp) (fun y hy => by rw [List.mem_singleton.mp hy]; exact hx) (fun i a b h1 h2 => by simp at h2) (by show ls.length < 1 + (ls.length + 1); omega)
theorem peel_iff {ws : List (Int × Int)} {hs : List Int} (hu : ∀ q ∈ ws, q.1 ≠ q.2) : peelsM ws hs hs.length = [] ↔ ¬ ∃ r, Ring hs ws r := by
  constructor
  · rintro h ⟨r, R⟩
    have two := R.two
    have h0 : 0 < r.length := by omega
    have := ring_stays R hs.length r[0] (List.getElem_mem h0)
    rw [h] at this
    cases this
  · intro h
    rcases peels_end ws hs hs.length with ⟨k, hk, e⟩ | hl
    · have e2 := peels_stay ws hs e (hs.length - k)
      rw [show k + (hs.length - k) = hs.length by omega] at e2
      rw [e2]
      by_cases hne : peelsM ws hs k = []
      · exact hne
      · obtain ⟨r, R⟩ := ring_of hu hne (fun x hx => by
          rw [← e] at hx
          exact (mem_peel.mp hx).2)
        exact absurd ⟨r, R.two, R.nodup, fun x hx => (peels_sub ws hs k).subset (R.sub x hx), R.chain, R.last⟩ h
    · exact List.length_eq_zero_iff.mp (by omega)
end M

namespace M
/-! ### rows of wishes, step by step; the first of the shortest that come round -/
/-- strictly ahead by the numbers from the left, of as many -/
noncomputable def sl : List Int → List Int → Prop
  | x :: xs, y :: ys => x < y ∨ (x = y ∧ sl xs ys)
  | _, _ => False
theorem sl_cons {l : Int} {a b : List Int} : sl (l :: a) (l :: b) ↔ sl a b := by
  show (l < l ∨ (l = l ∧ sl a b)) ↔ sl a b
  constructor
  · rintro (h | ⟨_, h⟩)
    · omega
    · exact h
  · exact fun h => .inr ⟨rfl, h⟩
theorem sl_snoc : ∀ {a b : List Int} (x y : Int), sl a b → sl (a ++ [x]) (b ++ [y])
  | [], [], _, _, h => by unfold sl at h; exact h.elim
  | [], _ :: _, _, _, h => by unfold sl at h; exact h.elim
  | _ :: _, [], _, _, h => by unfold sl at h; exact h.elim
  | p :: a, q :: b, x, y, h => by
    rw [List.cons_append, List.cons_append]
    unfold sl at h ⊢
    rcases h with h | ⟨h1, h2⟩
    · exact .inl h
    · exact .inr ⟨h1, sl_snoc x y h2⟩
theorem sl_same : ∀ {a : List Int} {x y : Int}, x < y → sl (a ++ [x]) (a ++ [y])
  | [], x, y, h => .inl h
  | p :: a, x, y, h => by
    rw [List.cons_append, List.cons_append]
    exact .inr ⟨rfl, sl_same h⟩
theorem sl_trans : ∀ {a b c : List Int}, sl a b → sl b c → sl a c
  | [], b, c, h, _ => by unfold sl at h; exact h.elim
  | _ :: _, [], _, h, _ => by unfold sl at h; exact h.elim
  | _ :: _, _ :: _, [], _, h => by unfold sl at h; exact h.elim
  | x :: a, y :: b, z :: c, h1, h2 => by
    unfold sl at h1 h2 ⊢
    rcases h1 with h1 | ⟨h1, k1⟩
    · rcases h2 with h2 | ⟨h2, k2⟩
      · exact .inl (by omega)
      · exact .inl (by omega)
    · rcases h2 with h2 | ⟨h2, k2⟩
      · exact .inl (by omega)
      · exact .inr ⟨by omega, sl_trans k1 k2⟩
noncomputable def lastI (g : Int) : List Int → Int
  | [] => g
  | x :: t => lastI x t
theorem last_app (g : Int) : ∀ (a b : List Int), lastI g (a ++ b) = lastI (lastI g a) b
  | [], b => rfl
  | x :: a, b => last_app x a b
theorem last_get (g : Int) : ∀ (t : List Int), (g :: t)[t.length]? = some (lastI g t)
  | [] => rfl
  | x :: t => by
    rw [List.length_cons, List.getElem?_cons_succ]
    exact last_get x t
/-- a way from g over members of C -/
noncomputable def Path (C : Int → Prop) (ws : List (Int × Int)) : Int → List Int → Prop
  | _, [] => True
  | g, x :: t => C x ∧ (g, x) ∈ ws ∧ Path C ws x t
section
variable {C : Int → Prop} {ws : List (Int × Int)}
theorem path_app : ∀ {g : Int} {a b : List Int}, Path C ws g (a ++ b) ↔ Path C ws g a ∧ Path C ws (lastI g a) b
  | g, [], b => ⟨fun h => ⟨trivial, h⟩, fun h => h.2⟩
  | g, x :: a, b => by
    rw [List.cons_append]
    constructor
    · rintro ⟨h1, h2, h3⟩
      have := path_app.mp h3
      exact ⟨⟨h1, h2, this.1⟩, this.2⟩
    · rintro ⟨⟨h1, h2, h3⟩, h4⟩
      exact ⟨h1, h2, path_app.mpr ⟨h3, h4⟩⟩
theorem path_mem : ∀ {g : Int} {t : List Int}, Path C ws g t → ∀ x ∈ t, C x
  | g, [], _, x, h => by cases h
  | g, y :: t, ⟨h1, _, h3⟩, x, h => by
    rcases List.mem_cons.mp h with rfl | h
    · exact h1
    · exact path_mem h3 x h
theorem path_chain : ∀ {g : Int} {t : List Int}, Path C ws g t → Chain ws (g :: t)
  | g, [], _ => fun i x y h1 h2 => by simp at h2
  | g, z :: t, ⟨h1, h2, h3⟩ => fun i x y k1 k2 => by
    cases i with
    | zero =>
      cases k1
      cases k2
      exact h2
    | succ i => exact path_chain h3 i x y k1 k2
theorem chain_path : ∀ {g : Int} {t : List Int}, Chain ws (g :: t) → (∀ x ∈ t, C x) → Path C ws g t
  | g, [], _, _ => trivial
  | g, z :: t, h, hc => ⟨hc z List.mem_cons_self, h 0 g z rfl rfl, chain_path (fun i x y k1 k2 => h (i + 1) x y k1 k2) fun x hx => hc x (List.mem_cons_of_mem _ hx)⟩
end
/-- what comes round from l, over greater ones of hs -/
noncomputable def Gr (hs : List Int) (l : Int) : Int → Prop := fun x => x ∈ hs ∧ l < x
noncomputable def Closed (hs : List Int) (ws : List (Int × Int)) (l : Int) (t : List Int) : Prop := Path (Gr hs l) ws l t ∧ (lastI l t, l) ∈ ws
/-- what is told of l: nothing where nothing comes round, else the first of the shortest -/
noncomputable def RF (hs : List Int) (ws : List (Int × Int)) (l : Int) (r : List Int) : Prop :=
  (r = [] ∧ ∀ t, ¬ Closed hs ws l t) ∨ ∃ t, r = l :: t ∧ Closed hs ws l t ∧ ∀ u, Closed hs ws l u → t.length < u.length ∨ (t.length = u.length ∧ (t = u ∨ sl t u))
/-- the k-th step: ps the ways that lead to somebody new, ls those that are left -/
structure Lev (hs : List Int) (ws : List (Int × Int)) (l : Int) (k : Nat) (ps : List (List Int)) (ls : List Int) : Prop where
  way : ∀ p ∈ ps, p.length = k ∧ Path (Gr hs l) ws l p
  srt : ps.Pairwise sl
  lin : ∀ h ∈ ls, Gr hs l h
  lsrt : ls.Pairwise (· < ·)
  cover : ∀ t, t.length ≤ k → Path (Gr hs l) ws l t → lastI l t ∉ ls
  first : ∀ t, t.length = k → Path (Gr hs l) ws l t → (∃ p ∈ ps, lastI l p = lastI l t ∧ (p = t ∨ sl p t)) ∨ ∃ u, u.length < k ∧ Path (Gr hs l) ws l u ∧ lastI l u = lastI l t
  none : ∀ t, t.length < k → ¬ Closed hs ws l t
  comp : ∀ h, Gr hs l h → h ∉ ls → ∃ t, t.length ≤ k ∧ Path (Gr hs l) ws l t ∧ lastI l t = h
section
variable {hs : List Int} {ws : List (Int × Int)} {l : Int} {k : Nat} {ps : List (List Int)} {ls : List Int}
theorem Lev.start (hl : ls.Pairwise (· < ·)) (hm : ∀ h, h ∈ ls ↔ Gr hs l h) : Lev hs ws l 0 [[]] ls := by
  have nil : ∀ t : List Int, t.length = 0 → t = [] := fun t h => List.length_eq_zero_iff.mp h
  refine ⟨fun p hp => ?_, by simp, fun h hh => (hm h).mp hh, hl, fun t ht _ h => ?_, fun t ht _ => .inl ⟨[], by simp, by rw [nil t ht], .inl (nil t ht).symm⟩, fun t ht => by omega, fun h hh hn => absurd ((hm h).mpr hh) hn⟩
  · rw [List.mem_singleton.mp hp]
    exact ⟨rfl, trivial⟩
  · rw [nil t (by omega)] at h
    have := ((hm _).mp h).2
    exact absurd this (by show ¬ l < l; omega)
/-- one that comes round at this step: the first of them is the one -/
theorem Lev.found (L : Lev hs ws l k ps ls) {p : List Int} {i : Nat} (hi : i < ps.length) (ep : ps[i] = p) (hc : (lastI l p, l) ∈ ws) (hf : ∀ j (hj : j < ps.length), j < i → (lastI l ps[j], l) ∉ ws) : RF hs ws l (l :: p) := by
  have hp : p ∈ ps := by rw [← ep]; exact List.getElem_mem hi
  obtain ⟨w1, w2⟩ := L.way p hp
  refine .inr ⟨p, rfl, ⟨w2, hc⟩, fun u hu => ?_⟩
  by_cases h1 : u.length < k
  · exact absurd hu (L.none u h1)
  · by_cases h2 : u.length = k
    · rcases L.first u h2 hu.1 with ⟨q, hq, e1, e2⟩ | ⟨v, v1, v2, v3⟩
      · refine .inr ⟨by omega, ?_⟩
        obtain ⟨j, hj, ej⟩ := List.mem_iff_getElem.mp hq
        have hcq : (lastI l ps[j], l) ∈ ws := by rw [ej, e1]; exact hu.2
        have hij : i ≤ j := Nat.le_of_not_lt fun z => hf j hj z hcq
        have hpq : p = q ∨ sl p q := by
          by_cases e : i = j
          · subst e
            exact .inl (ep.symm.trans ej)
          · have := List.pairwise_iff_getElem.mp L.srt i j hi hj (by omega)
            rw [ep, ej] at this
            exact .inr this
        rcases hpq with rfl | hpq
        · exact e2
        · rcases e2 with rfl | e2
          · exact .inr hpq
          · exact .inr (sl_trans hpq e2)
      · exact absurd ⟨v2, by rw [v3]; exact hu.2⟩ (L.none v v1)
    · exact .inl (by omega)
theorem Lev.none_here (L : Lev hs ws l k ps ls) (h : ∀ p ∈ ps, (lastI l p, l) ∉ ws) : ∀ t, t.length < k + 1 → ¬ Closed hs ws l t := fun t ht hc => by
  by_cases h1 : t.length < k
  · exact L.none t h1 hc
  · rcases L.first t (by omega) hc.1 with ⟨q, hq, e1, e2⟩ | ⟨v, v1, v2, v3⟩
    · exact h q hq (by rw [e1]; exact hc.2)
    · exact L.none v v1 ⟨v2, by rw [v3]; exact hc.2⟩
/-- nobody new: nothing comes round -/
theorem Lev.over (L : Lev hs ws l k [] ls) : RF hs ws l [] := by
  refine .inl ⟨rfl, ?_⟩
  -- whoever is reached is reached early
  have early : ∀ (n : Nat) (t : List Int), t.length = n → Path (Gr hs l) ws l t → ∃ u, u.length < k ∧ Path (Gr hs l) ws l u ∧ lastI l u = lastI l t := by
    intro n
    induction n with
    | zero =>
      intro t ht hp
      by_cases hk : 0 < k
      · exact ⟨t, by omega, hp, rfl⟩
      · rcases L.first t (by omega) hp with ⟨q, hq, _⟩ | ⟨v, v1, _⟩
        · cases hq
        · omega
    | succ n ih =>
      intro t ht hp
      have ne : t ≠ [] := fun z => by rw [z] at ht; cases ht
      have et : t = t.dropLast ++ [t.getLast ne] := (List.dropLast_concat_getLast ne).symm
      generalize t.getLast ne = x at et
      generalize t.dropLast = s at et
      subst et
      obtain ⟨p1, p2⟩ := path_app.mp hp
      obtain ⟨u, u1, u2, u3⟩ := ih s (by simpa using ht) p1
      have pu : Path (Gr hs l) ws l (u ++ [x]) := path_app.mpr ⟨u2, by rw [u3]; exact p2⟩
      have lu : lastI l (u ++ [x]) = lastI l (s ++ [x]) := by rw [last_app, last_app]; rfl
      by_cases h1 : (u ++ [x]).length < k
      · exact ⟨_, h1, pu, lu⟩
      · rcases L.first (u ++ [x]) (by rw [List.length_append] at h1 ⊢; simp at h1 ⊢; omega) pu with ⟨q, hq, _⟩ | ⟨v, v1, v2, v3⟩
        · cases hq
        · exact ⟨v, v1, v2, v3.trans lu⟩
  intro t hc
  obtain ⟨u, u1, u2, u3⟩ := early t.length t rfl hc.1
  exact L.none u u1 ⟨u2, by rw [u3]; exact hc.2⟩
/-- the longer ways: P says which two have been looked at -/
structure LG (ws : List (Int × Int)) (l : Int) (P : List Int → Int → Prop) (lg : List (List Int)) : Prop where
  mem : ∀ q ∈ lg, ∃ p h, P p h ∧ q = p ++ [h] ∧ (lastI l p, h) ∈ ws
  srt : lg.Pairwise sl
  has : ∀ p h, P p h → (lastI l p, h) ∈ ws → ∃ p', p' ++ [h] ∈ lg ∧ (p' = p ∨ sl p' p)
theorem Lev.next {lg : List (List Int)} {ls' : List Int} (L : Lev hs ws l k ps ls) (hn : ∀ p ∈ ps, (lastI l p, l) ∉ ws) (G : LG ws l (fun p h => p ∈ ps ∧ h ∈ ls) lg)
    (e : ls' = ls.filter fun h => decide (¬ h ∈ lg.map (lastI l))) : Lev hs ws l (k + 1) lg ls' := by
  have mem' : ∀ h, h ∈ ls' ↔ h ∈ ls ∧ ¬ h ∈ lg.map (lastI l) := fun h => by rw [e, List.mem_filter, decide_eq_true_eq]
  have way' : ∀ q ∈ lg, q.length = k + 1 ∧ Path (Gr hs l) ws l q := fun q hq => by
    obtain ⟨p, h, ⟨h1, h2⟩, rfl, h3⟩ := G.mem q hq
    obtain ⟨w1, w2⟩ := L.way p h1
    exact ⟨by simp [w1], path_app.mpr ⟨w2, L.lin h h2, h3, trivial⟩⟩
  -- a way of one step more to somebody left
  have reach : ∀ (s : List Int) (x : Int), s.length = k → Path (Gr hs l) ws l s → Gr hs l x → (lastI l s, x) ∈ ws → x ∈ ls → ∃ p ∈ ps, lastI l p = lastI l s ∧ (p = s ∨ sl p s) := fun s x h1 h2 h3 h4 h5 => by
    rcases L.first s h1 h2 with z | ⟨v, v1, v2, v3⟩
    · exact z
    · have := L.cover (v ++ [x]) (by simp; omega) (path_app.mpr ⟨v2, h3, by rw [v3]; exact h4, trivial⟩)
      rw [last_app] at this
      exact absurd h5 this
  refine ⟨way', G.srt, fun h hh => L.lin h ((mem' h).mp hh).1, ?_, fun t ht hp hl => ?_, fun t ht hp => ?_, L.none_here hn, fun h hg hnl => ?_⟩
  · rw [e]
    exact L.lsrt.filter _
  · obtain ⟨m1, m2⟩ := (mem' _).mp hl
    by_cases h1 : t.length ≤ k
    · exact L.cover t h1 hp m1
    · have ne : t ≠ [] := fun z => by rw [z] at h1; simp at h1
      have et : t = t.dropLast ++ [t.getLast ne] := (List.dropLast_concat_getLast ne).symm
      generalize t.getLast ne = x at et
      generalize t.dropLast = s at et
      subst et
      obtain ⟨p1, p2, p3, _⟩ := path_app.mp hp
      rw [last_app] at m1 m2
      obtain ⟨p, hp', e1, _⟩ := reach s x (by simp at ht h1; omega) p1 p2 p3 m1
      obtain ⟨p', k1, _⟩ := G.has p x ⟨hp', m1⟩ (by rw [e1]; exact p3)
      exact m2 (List.mem_map.mpr ⟨_, k1, by rw [last_app]; rfl⟩)
  · have ne : t ≠ [] := fun z => by rw [z] at ht; simp at ht
    have et : t = t.dropLast ++ [t.getLast ne] := (List.dropLast_concat_getLast ne).symm
    generalize t.getLast ne = x at et
    generalize t.dropLast = s at et
    subst et
    obtain ⟨p1, p2, p3, _⟩ := path_app.mp hp
    have hs' : s.length = k := by simpa using ht
    by_cases hx : x ∈ ls
    · obtain ⟨p, hp', e1, e2⟩ := reach s x hs' p1 p2 p3 hx
      obtain ⟨p', k1, k2⟩ := G.has p x ⟨hp', hx⟩ (by rw [e1]; exact p3)
      refine .inl ⟨_, k1, by rw [last_app, last_app]; rfl, ?_⟩
      have : p' = s ∨ sl p' s := by
        rcases k2 with rfl | k2
        · exact e2
        · rcases e2 with rfl | e2
          · exact .inr k2
          · exact .inr (sl_trans k2 e2)
      rcases this with rfl | h
      · exact .inl rfl
      · exact .inr (sl_snoc x x h)
    · obtain ⟨u, u1, u2, u3⟩ := L.comp x p2 hx
      exact .inr ⟨u, by omega, u2, by rw [u3, last_app]; rfl⟩
  · by_cases hx : h ∈ ls
    · have : h ∈ lg.map (lastI l) := Classical.byContradiction fun z => hnl ((mem' h).mpr ⟨hx, z⟩)
      obtain ⟨q, hq, e1⟩ := List.mem_map.mp this
      obtain ⟨w1, w2⟩ := way' q hq
      exact ⟨q, by omega, w2, e1⟩
    · obtain ⟨u, u1, u2, u3⟩ := L.comp h hg hx
      exact ⟨u, by omega, u2, u3⟩
end
end M
namespace M
/-- the first of the shortest that come round, [] where none does -/
noncomputable def FR (hs : List Int) (ws : List (Int × Int)) (r : List Int) : Prop :=
  (r = [] ∧ ∀ l ∈ hs, ∀ t, ¬ Closed hs ws l t) ∨ ∃ l t, r = l :: t ∧ l ∈ hs ∧ Closed hs ws l t ∧ ∀ m ∈ hs, ∀ u, Closed hs ws m u → t.length < u.length ∨ (t.length = u.length ∧ (l < m ∨ (l = m ∧ (t = u ∨ sl t u))))
theorem least_at : ∀ (r : List Int), r ≠ [] → ∃ i, ∃ h : i < r.length, ∀ x ∈ r, r[i] ≤ x
  | [], h => absurd rfl h
  | [a], _ => ⟨0, by simp, fun x hx => by rw [List.mem_singleton.mp hx]; exact Int.le_refl _⟩
  | a :: b :: r, _ => by
    obtain ⟨i, hi, h⟩ := least_at (b :: r) (by simp)
    by_cases c : a ≤ (b :: r)[i]
    · refine ⟨0, by simp, fun x hx => ?_⟩
      rcases List.mem_cons.mp hx with rfl | hx
      · exact Int.le_refl _
      · exact Int.le_trans c (h x hx)
    · refine ⟨i + 1, by simpa using hi, fun x hx => ?_⟩
      have e : (a :: b :: r)[i + 1]'(by simpa using hi) = (b :: r)[i] := rfl
      rw [e]
      rcases List.mem_cons.mp hx with rfl | hx
      · omega
      · exact h x hx
theorem rot_get (r : List Int) {i j : Nat} (hi : i ≤ r.length) : (r.drop i ++ r.take i)[j]? = if i + j < r.length then r[i + j]? else if j < r.length then r[i + j - r.length]? else none := by
  rw [List.getElem?_append, List.length_drop, List.getElem?_drop]
  by_cases h : i + j < r.length
  · rw [if_pos (by omega), if_pos h]
  · rw [if_neg (by omega), if_neg h, List.getElem?_take]
    by_cases h2 : j < r.length
    · rw [if_pos (by omega), if_pos h2]
      congr 1
      omega
    · rw [if_neg (by omega), if_neg h2]
/-- a ring from its least on -/
theorem ring_closed {hs : List Int} {ws : List (Int × Int)} {r : List Int} (R : Ring hs ws r) : ∃ l ∈ hs, ∃ t, Closed hs ws l t ∧ t.length + 1 = r.length := by
  have two := R.two
  obtain ⟨i, hi, hmin⟩ := least_at r (fun z => by rw [z] at two; simp at two)
  have erot : r.drop i ++ r.take i = r[i] :: (r.drop (i + 1) ++ r.take i) := by rw [List.drop_eq_getElem_cons hi]; rfl
  have hlen : (r.drop (i + 1) ++ r.take i).length + 1 = r.length := by rw [List.length_append, List.length_drop, List.length_take]; omega
  have ch : Chain ws (r[i] :: (r.drop (i + 1) ++ r.take i)) := by
    rw [← erot]
    intro j x y h1 h2
    rw [rot_get r (by omega)] at h1 h2
    by_cases c1 : i + (j + 1) < r.length
    · rw [if_pos c1] at h2
      rw [if_pos (by omega)] at h1
      exact R.chain (i + j) x y h1 h2
    · rw [if_neg c1] at h2
      by_cases c2 : j + 1 < r.length
      · rw [if_pos c2] at h2
        by_cases c3 : i + j < r.length
        · rw [if_pos c3] at h1
          have e1 : i + j = r.length - 1 := by omega
          have e2 : i + (j + 1) - r.length = 0 := by omega
          rw [e1] at h1
          rw [e2] at h2
          exact R.last y x h2 h1
        · rw [if_neg c3, if_pos (by omega)] at h1
          have e : i + (j + 1) - r.length = (i + j - r.length) + 1 := by omega
          rw [e] at h2
          exact R.chain _ x y h1 h2
      · rw [if_neg c2] at h2
        cases h2
  refine ⟨r[i], R.sub _ (List.getElem_mem hi), r.drop (i + 1) ++ r.take i, ⟨chain_path ch fun x hx => ?_, ?_⟩, hlen⟩
  · have hxr : x ∈ r := (List.mem_append.mp hx).elim List.mem_of_mem_drop List.mem_of_mem_take
    refine ⟨R.sub x hxr, Int.lt_iff_le_and_ne.mpr ⟨hmin x hxr, fun z => ?_⟩⟩
    have nd : (r.drop i ++ r.take i).Nodup := by
      have : (r.take i ++ r.drop i).Perm (r.drop i ++ r.take i) := List.perm_append_comm
      rw [← this.nodup_iff, List.take_append_drop]
      exact R.nodup
    rw [erot] at nd
    exact (List.nodup_cons.mp nd).1 (by rw [z]; exact hx)
  · have e1 := last_get r[i] (r.drop (i + 1) ++ r.take i)
    rw [← erot, rot_get r (by omega)] at e1
    have e2 : (r.drop (i + 1) ++ r.take i).length = r.length - 1 := by omega
    rw [e2] at e1
    by_cases c : i = 0
    · subst c
      rw [if_pos (by omega)] at e1
      exact R.last _ _ (List.getElem?_eq_getElem hi) (by simpa using e1)
    · rw [if_neg (by omega), if_pos (by omega)] at e1
      have e3 : i + (r.length - 1) - r.length = i - 1 := by omega
      rw [e3] at e1
      exact R.chain (i - 1) _ _ e1 (by rw [show i - 1 + 1 = i by omega]; exact List.getElem?_eq_getElem hi)
theorem not_nodup : ∀ {t : List Int}, ¬ t.Nodup → ∃ a x b c, t = a ++ x :: (b ++ x :: c)
  | [], h => absurd List.nodup_nil h
  | y :: t, h => by
    by_cases hy : y ∈ t
    · obtain ⟨b, c, e⟩ := List.append_of_mem hy
      exact ⟨[], y, b, c, by rw [e]; rfl⟩
    · obtain ⟨a, x, b, c, e⟩ := not_nodup (t := t) fun z => h (List.nodup_cons.mpr ⟨hy, z⟩)
      exact ⟨y :: a, x, b, c, by rw [e]; rfl⟩
/-- the shortest that come round are rings -/
theorem closed_ring {hs : List Int} {ws : List (Int × Int)} {l : Int} {t : List Int} (hu : ∀ q ∈ ws, q.1 ≠ q.2) (hl : l ∈ hs) (hc : Closed hs ws l t) (hmin : ∀ u, Closed hs ws l u → t.length ≤ u.length) : Ring hs ws (l :: t) := by
  have hne : t ≠ [] := fun z => by
    have h2 := hc.2
    rw [z] at h2
    exact hu _ h2 rfl
  have hg := path_mem hc.1
  refine ⟨by have := List.length_pos_iff.mpr hne; simp; omega, List.nodup_cons.mpr ⟨fun z => absurd (hg l z).2 (by omega), ?_⟩, fun x hx => ?_, path_chain hc.1, fun x y h1 h2 => ?_⟩
  · refine Classical.byContradiction fun z => ?_
    obtain ⟨a, x, b, c, e⟩ := not_nodup z
    have h1 := hc.1
    rw [e] at h1
    obtain ⟨p1, p2⟩ := path_app.mp h1
    have p3 := (path_app (a := x :: b) (b := x :: c) (g := lastI l a)).mp p2
    have cl : Closed hs ws l (a ++ x :: c) := by
      refine ⟨path_app.mpr ⟨p1, p2.1, p2.2.1, p3.2.2.2⟩, ?_⟩
      have e2 : lastI l (a ++ x :: c) = lastI l t := by
        rw [e, last_app, last_app]
        show lastI x c = lastI x (b ++ x :: c)
        rw [last_app]
        rfl
      rw [e2]
      exact hc.2
    have := hmin _ cl
    rw [e] at this
    simp at this
    omega
  · rcases List.mem_cons.mp hx with rfl | hx
    · exact hl
    · exact (hg x hx).1
  · cases h1
    have e := last_get l t
    simp only [List.length_cons, Nat.add_sub_cancel] at h2
    rw [e] at h2
    cases h2
    exact hc.2
theorem FR.none_iff {hs : List Int} {ws : List (Int × Int)} {r : List Int} (hu : ∀ q ∈ ws, q.1 ≠ q.2) (F : FR hs ws r) : r = [] ↔ ¬ ∃ r, Ring hs ws r := by
  constructor
  · rintro rfl ⟨r, R⟩
    obtain ⟨l, hl, t, hc, _⟩ := ring_closed R
    rcases F with ⟨_, F⟩ | ⟨_, _, e, _⟩
    · exact F l hl t hc
    · cases e
  · intro h
    rcases F with ⟨e, _⟩ | ⟨l, t, rfl, hl, hc, hm⟩
    · exact e
    · refine absurd ⟨_, closed_ring hu hl hc fun u hu' => ?_⟩ h
      rcases hm l hl u hu' with z | ⟨z, _⟩ <;> omega
noncomputable def Wishes (ws : List (Int × Int)) : Prop := ws.length ≤ 20 ∧ ws.Nodup ∧ ∀ q ∈ ws, (1 ≤ q.1 ∧ q.1 ≤ 10 ∧ 1 ≤ q.2 ∧ q.2 ≤ 10) ∧ q.1 ≠ q.2
end M

namespace M
open Own
/-! ### exchanges of neighbours -/
end M

namespace Pu
open PySem PySem.Spec PyProof.Rows L2 Own
/-! ### values without a heap -/
inductive D where
  | int (i : Int) | bl (b : Bool) | non | str (x : Str) | ty (n : String) | tup (ds : List D) | lst (ds : List D) | scr (ns : List Int) | dK (kvs : List (Key × V)) | dT (kvs : List (List Key × V)) | loc (a : Addr) (d : D) | err (C : Addr) | ref (a : Addr) | ins (C : Addr) (xs : List Str) (ds : List D)
mutual
inductive Rp (K : PySem.W.Frag) (H : Hp) : D → V → Prop
  | int (i : Int) : Rp K H (.int i) (.int i)
  | bl (b : Bool) : Rp K H (.bl b) (.bl b)
  | non : Rp K H .non .non
  | str (x : Str) : Rp K H (.str x) (.str x)
  | ty (n : String) : Rp K H (.ty n) (.ty n)
  | tup {ds : List D} {vs : List V} {a : Addr} : H a = some (.tup vs) → Rps K H ds vs → Rp K H (.tup ds) (.ref a)
  | lst {ds : List D} {vs : List V} {a : Addr} : H a = some (.lst vs) → Rps K H ds vs → Rp K H (.lst ds) (.ref a)
  | scr {ns : List Int} {a : Addr} : SqL K H a (ns.map V.int) → Rp K H (.scr ns) (.ref a)
  | dK {kvs : List (Key × V)} {a : Addr} : H a = some (.dK kvs) → Rp K H (.dK kvs) (.ref a)
  | dT {kvs : List (List Key × V)} {a : Addr} : H a = some (.dT kvs) → Rp K H (.dT kvs) (.ref a)
  | loc {d : D} {a : Addr} : Rp K H d (.ref a) → Rp K H (.loc a d) (.ref a)
  | err {C a : Addr} : H a = some (ExcR.ErrH a C) → Rp K H (.err C) (.ref a)
  | ref (a : Addr) : Rp K H (.ref a) (.ref a)
  | ins {C a dx : Addr} {xs : List Str} {ds : List D} {vs : List V} : H a = some (.ins C dx (xs.zip vs)) → xs.length = vs.length → Rps K H ds vs → Rp K H (.ins C xs ds) (.ref a)
inductive Rps (K : PySem.W.Frag) (H : Hp) : List D → List V → Prop
  | nil : Rps K H [] []
  | cons {d : D} {v : V} {ds : List D} {vs : List V} : Rp K H d v → Rps K H ds vs → Rps K H (d :: ds) (v :: vs)
end
section
variable {K : PySem.W.Frag} {H H' : Hp}
mutual
theorem Rp.mono (S : Same H H') : ∀ {d : D} {v : V}, Rp K H d v → Rp K H' d v
  | _, _, .int i => .int i
  | _, _, .bl b => .bl b
  | _, _, .non => .non
  | _, _, .str x => .str x
  | _, _, .ty n => .ty n
  | _, _, .tup h r => .tup (S _ _ h) (Rps.mono S r)
  | _, _, .lst h r => .lst (S _ _ h) (Rps.mono S r)
  | _, _, .scr h => .scr (S.seq h)
  | _, _, .dK h => .dK (S _ _ h)
  | _, _, .dT h => .dT (S _ _ h)
  | _, _, .loc h => .loc (Rp.mono S h)
  | _, _, .err h => .err (S _ _ h)
  | _, _, .ref a => .ref a
  | _, _, .ins h e r => .ins (S _ _ h) e (Rps.mono S r)
theorem Rps.mono (S : Same H H') : ∀ {ds : List D} {vs : List V}, Rps K H ds vs → Rps K H' ds vs
  | _, _, .nil => .nil
  | _, _, .cons h r => .cons (Rp.mono S h) (Rps.mono S r)
end
theorem Rps.len : ∀ {ds : List D} {vs : List V}, Rps K H ds vs → vs.length = ds.length
  | _, _, .nil => rfl
  | _, _, .cons _ r => congrArg (· + 1) (Rps.len r)
theorem Rps.get : ∀ {ds : List D} {vs : List V} {i : Nat} {d : D}, Rps K H ds vs → ds[i]? = some d → ∃ v, vs[i]? = some v ∧ Rp K H d v
  | _, _, _, _, .nil, e => by simp at e
  | _, _, 0, _, .cons h _, e => by simp at e; subst e; exact ⟨_, rfl, h⟩
  | _, _, i + 1, d, .cons _ r, e => by
    obtain ⟨v, h1, h2⟩ := Rps.get (i := i) (d := d) r (by simpa using e)
    exact ⟨v, by simpa using h1, h2⟩
theorem Rps.append : ∀ {ds es : List D} {vs us : List V}, Rps K H ds vs → Rps K H es us → Rps K H (ds ++ es) (vs ++ us)
  | _, _, _, _, .nil, s => s
  | _, _, _, _, .cons h r, s => .cons h (Rps.append r s)
theorem Rps.drop : ∀ {ds : List D} {vs : List V} (n : Nat), Rps K H ds vs → Rps K H (ds.drop n) (vs.drop n)
  | _, _, 0, r => r
  | _, _, _ + 1, .nil => .nil
  | _, _, n + 1, .cons _ r => Rps.drop n r
theorem Rps.take : ∀ {ds : List D} {vs : List V} (n : Nat), Rps K H ds vs → Rps K H (ds.take n) (vs.take n)
  | _, _, 0, _ => .nil
  | _, _, _ + 1, .nil => .nil
  | _, _, n + 1, .cons h r => .cons h (Rps.take n r)
end
mutual
/-- nothing in it can change -/
noncomputable def imm : D → Bool
  | .tup ds => imms ds
  | .lst _ => false
  | .scr _ => false
  | .dK _ => false
  | .dT _ => false
  | .loc _ _ => false
  | .err _ => false
  | .ins _ _ _ => false
  | _ => true
noncomputable def imms : List D → Bool
  | [] => true
  | d :: r => imm d && imms r
end

/-! ### a part of a heap -/
open Classical in
noncomputable def off (Z : Addr → Prop) (H : Hp) : Hp := fun b => if Z b then none else H b
section
variable {K : PySem.W.Frag} {H H' : Hp} {Z Z' : Addr → Prop}
theorem off_in {b : Addr} {o : HO} (h : off Z H b = some o) : H b = some o ∧ ¬ Z b := by
  unfold off at h
  by_cases z : Z b
  · rw [if_pos z] at h; cases h
  · rw [if_neg z] at h; exact ⟨h, z⟩
theorem off_of {b : Addr} {o : HO} (h : H b = some o) (z : ¬ Z b) : off Z H b = some o := by
  unfold off
  rw [if_neg z]
  exact h
theorem off_mono (S : Same H H') (hz : ∀ b o, H b = some o → ¬ Z b → ¬ Z' b) : Same (off Z H) (off Z' H') := fun b o h => by
  obtain ⟨h1, h2⟩ := off_in h
  exact off_of (S b o h1) (hz b o h1 h2)
theorem off_sub : Same (off Z H) H := fun _ _ h => (off_in h).1
mutual
theorem Rp.off (hm : ∀ b, Z b → Mut (H b)) : ∀ {d : D} {v : V}, Rp K H d v → imm d = true → Rp K (off Z H) d v
  | _, _, .int i, _ => .int i
  | _, _, .bl b, _ => .bl b
  | _, _, .non, _ => .non
  | _, _, .str x, _ => .str x
  | _, _, .ty n, _ => .ty n
  | _, _, .tup h r, e => .tup (off_of h fun z => by have := hm _ z; rw [h] at this; exact this) (Rps.off hm r (by unfold imm at e; exact e))
  | _, _, .lst _ _, e => by unfold imm at e; cases e
  | _, _, .scr _, e => by unfold imm at e; cases e
  | _, _, .dK _, e => by unfold imm at e; cases e
  | _, _, .dT _, e => by unfold imm at e; cases e
  | _, _, .loc _, e => by unfold imm at e; cases e
  | _, _, .err _, e => by unfold imm at e; cases e
  | _, _, .ref a, _ => .ref a
  | _, _, .ins _ _ _, e => by unfold imm at e; cases e
theorem Rps.off (hm : ∀ b, Z b → Mut (H b)) : ∀ {ds : List D} {vs : List V}, Rps K H ds vs → imms ds = true → Rps K (off Z H) ds vs
  | _, _, .nil, _ => .nil
  | _, _, .cons h r, e => by
    unfold imms at e
    rw [Bool.and_eq_true] at e
    exact .cons (Rp.off hm h e.1) (Rps.off hm r e.2)
end
end

/-! ### what a slot or an expression holds: lent by the caller, shared for good, one's own list, a look at one's own list, a passing look -/
inductive O where
  | lst (ds : List D) | dK (kvs : List (Key × V)) | dT (kvs : List (List Key × V)) | ins (a C : Addr) (xs : List Str) (cs : List (Addr × List D))
instance : Coe (List D) O := ⟨O.lst⟩
noncomputable def O.d : O → D
  | .lst ds => .lst ds | .dK kvs => .dK kvs | .dT kvs => .dT kvs | .ins _ C xs cs => .ins C xs (cs.map fun c => .lst c.2)
/-- the places that belong to it -/
noncomputable def O.adr (a : Addr) : O → Addr → Prop
  | .lst _ => fun b => b = a
  | .dK _ => fun b => b = a
  | .dT _ => fun b => b = a
  | .ins x _ _ cs => fun b => b = x ∨ ∃ c ∈ cs, b = c.1
/-- the thing at a, its parts in F -/
noncomputable def OR (K : PySem.W.Frag) (F H : Hp) (a : Addr) : O → Prop
  | .lst ds => ∃ vs, H a = some (.lst vs) ∧ Rps K F ds vs
  | .dK kvs => H a = some (.dK kvs)
  | .dT kvs => H a = some (.dT kvs)
  | .ins x C xs cs => a = x ∧ xs.length = cs.length ∧ (∃ dx, H a = some (.ins C dx (xs.zip (cs.map fun c => V.ref c.1)))) ∧ (∀ c ∈ cs, ∃ vs, H c.1 = some (.lst vs) ∧ Rps K F c.2 vs) ∧ (cs.map (·.1)).Nodup
theorem OR.mono {K : PySem.W.Frag} {F F' H H' : Hp} {a : Addr} {o : O} (S1 : Same F F') (S2 : ∀ b, o.adr a b → ∀ x, H b = some x → H' b = some x) (h : OR K F H a o) : OR K F' H' a o := by
  cases o with
  | lst ds => obtain ⟨vs, h1, h2⟩ := h; exact ⟨vs, S2 _ rfl _ h1, Rps.mono S1 h2⟩
  | dK kvs => exact S2 _ rfl _ h
  | dT kvs => exact S2 _ rfl _ h
  | ins x C xs cs =>
    obtain ⟨e, l, ⟨dx, h1⟩, h2, h3⟩ := h
    exact ⟨e, l, ⟨dx, S2 _ (.inl e) _ h1⟩, fun c hc => let ⟨vs, q1, q2⟩ := h2 c hc; ⟨vs, S2 _ (.inr ⟨c, hc, rfl⟩) _ q1, Rps.mono S1 q2⟩, h3⟩
theorem rps_cells {K : PySem.W.Frag} {F : Hp} : ∀ {cs : List (Addr × List D)}, (∀ c ∈ cs, ∃ vs, F c.1 = some (.lst vs) ∧ Rps K F c.2 vs) → Rps K F (cs.map fun c => .lst c.2) (cs.map fun c => V.ref c.1)
  | [], _ => .nil
  | c :: cs, h => let ⟨_, q1, q2⟩ := h c List.mem_cons_self; .cons (.lst q1 q2) (rps_cells fun c' hc => h c' (List.mem_cons_of_mem _ hc))
theorem OR.rpIn {K : PySem.W.Frag} {F F' H : Hp} {a : Addr} {o : O} (S1 : Same F F') (S2 : ∀ b, o.adr a b → ∀ x, H b = some x → F' b = some x) (h : OR K F H a o) : Rp K F' o.d (.ref a) := by
  cases o with
  | lst ds => obtain ⟨vs, h1, h2⟩ := h; exact .lst (S2 _ rfl _ h1) (Rps.mono S1 h2)
  | dK kvs => exact .dK (S2 _ rfl _ h)
  | dT kvs => exact .dT (S2 _ rfl _ h)
  | ins x C xs cs =>
    obtain ⟨e, l, ⟨dx, h1⟩, h2, h3⟩ := h
    exact .ins (S2 _ (.inl e) _ h1) (by rw [List.length_map]; exact l) (rps_cells fun c hc => let ⟨vs, q1, q2⟩ := h2 c hc; ⟨vs, S2 _ (.inr ⟨c, hc, rfl⟩) _ q1, Rps.mono S1 q2⟩)
theorem OR.rp {K : PySem.W.Frag} {F H : Hp} {a : Addr} {o : O} (S1 : Same F H) (h : OR K F H a o) : Rp K H o.d (.ref a) := h.rpIn S1 fun _ _ _ e => e
theorem OR.mut {K : PySem.W.Frag} {F H : Hp} {a : Addr} {o : O} (h : OR K F H a o) : ∀ b, o.adr a b → Mut (H b) := by
  cases o with
  | lst ds => obtain ⟨vs, h1, h2⟩ := h; intro b e; rw [show b = a from e, h1]; trivial
  | dK kvs => intro b e; rw [show b = a from e, show H a = some (.dK kvs) from h]; trivial
  | dT kvs => intro b e; rw [show b = a from e, show H a = some (.dT kvs) from h]; trivial
  | ins x C xs cs =>
    obtain ⟨e, l, ⟨dx, h1⟩, h2, h3⟩ := h
    intro b hb
    rcases hb with hb | ⟨c, hc, hb⟩
    · rw [show b = a from hb.trans e.symm, h1]; trivial
    · obtain ⟨vs, q1, _⟩ := h2 c hc
      rw [hb, q1]; trivial
inductive S where
  | bor (d : D) | sh (d : D) | own (o : O) | view (o : O) | tmp (d : D)
noncomputable abbrev Γ := List (Option S)
/-- without the place that it is said to have -/
noncomputable def D.strip : D → D
  | .loc _ d => d | d => d
theorem Rp.strip {K : PySem.W.Frag} {H : Hp} {d : D} {v : V} (h : Rp K H d v) : Rp K H d.strip v := by
  cases h with
  | loc h => exact h
  | int i => exact .int i
  | bl b => exact .bl b
  | non => exact .non
  | str x => exact .str x
  | ty n => exact .ty n
  | tup h r => exact .tup h r
  | lst h r => exact .lst h r
  | scr h => exact .scr h
  | dK h => exact .dK h
  | dT h => exact .dT h
  | err h => exact .err h
  | ref a => exact .ref a
  | ins h e r => exact .ins h e r
noncomputable def S.d : S → D
  | .bor d => d.strip | .sh d => d | .own o => o.d | .view o => o.d | .tmp d => d
noncomputable def arg (d : D) : S := match imm d with | true => .sh d | false => .bor d
noncomputable def argT (d : D) : S := match imm d with | true => .sh d | false => .tmp d
/-- a part of it -/
noncomputable def S.sub : S → D → S
  | .bor _, e => arg e | .tmp _, e => argT e | _, e => .sh e
/-- as a part of something new -/
noncomputable def S.shd : S → Option D
  | .sh d => some d | .own o => some o.d
  | .bor d => match imm d with | true => some d | false => none
  | .tmp d => match imm d with | true => some d | false => none
  | .view _ => none
/-- as a name's value -/
noncomputable def S.slot : S → Option S
  | .view _ => none | .bor d => some (.bor d) | .sh d => some (.sh d) | .own ds => some (.own ds)
  | .tmp d => match imm d with | true => some (.sh d) | false => none
noncomputable def isOwn (γ : Γ) (σ : L2.St) (b : Addr) : Prop := ∃ (i : Nat) (ds : O) (a : Addr), γ[i]? = some (some (.own ds)) ∧ σ[i]? = some (some (.ref a)) ∧ ds.adr a b
noncomputable def zof (B : Addr → Prop) (γ : Γ) (σ : L2.St) : Addr → Prop := fun b => B b ∨ isOwn γ σ b
noncomputable def SV (K : PySem.W.Frag) (Z : Addr → Prop) (H0 H : Hp) : S → V → Prop
  | .bor d, v => Rp K H0 d v
  | .sh d, v => Rp K (off Z H) d v
  | .own o, v => ∃ a, v = .ref a ∧ (∀ b, o.adr a b → H0 b = none) ∧ OR K (off Z H) H a o
  | _, _ => False
noncomputable def TV (K : PySem.W.Frag) (Z : Addr → Prop) (H0 H H' : Hp) : S → V → Prop
  | .bor d, v => Rp K H0 d v
  | .sh d, v => Rp K (off Z H') d v
  | .own o, v => ∃ a, v = .ref a ∧ (∀ b, o.adr a b → H b = none) ∧ OR K (off (fun b => Z b ∨ o.adr a b) H') H' a o
  | .view o, v => ∃ a, v = .ref a ∧ OR K (off Z H') H' a o
  | .tmp d, v => Rp K H' d v
structure EnvR (K : PySem.W.Frag) (H0 : Hp) (B : Addr → Prop) (H : Hp) (σ : L2.St) (γ : Γ) : Prop where
  same : Same H0 H
  len : σ.length = γ.length
  bm : ∀ b, B b → Mut (H b)
  own : ∀ (i j : Nat) (a a' : Addr) (ds es : O) (b : Addr), γ[i]? = some (some (.own ds)) → γ[j]? = some (some (.own es)) → σ[i]? = some (some (.ref a)) → σ[j]? = some (some (.ref a')) → ds.adr a b → es.adr a' b → i = j
  slot : ∀ (i : Nat) (s : S), γ[i]? = some (some s) → ∃ v, σ[i]? = some (some v) ∧ SV K (zof B γ σ) H0 H s v
section
variable {K : PySem.W.Frag} {H0 H H1 H' : Hp} {B Z Z' : Addr → Prop} {σ : L2.St} {γ : Γ}
theorem mut_same (S : Same H H') {b : Addr} (h : Mut (H b)) : Mut (H' b) := by
  cases e : H b with
  | none => rw [e] at h; exact h.elim
  | some o => rw [S b o e, ← e]; exact h
theorem mut_some {b : Addr} (h : Mut (H b)) : ∃ o, H b = some o := by
  cases e : H b with
  | none => rw [e] at h; exact h.elim
  | some o => exact ⟨o, rfl⟩
theorem EnvR.grow (E : EnvR K H0 B H σ γ) (S : Same H H') : EnvR K H0 B H' σ γ where
  same := E.same.trans S
  len := E.len
  bm b h := mut_same S (E.bm b h)
  own := E.own
  slot i s h := by
    obtain ⟨v, h1, h2⟩ := E.slot i s h
    refine ⟨v, h1, ?_⟩
    cases s with
    | bor d => exact h2
    | sh d => exact Rp.mono (off_mono S fun _ _ _ z => z) h2
    | own ds =>
      obtain ⟨a, e1, e3, e4⟩ := h2
      exact ⟨a, e1, e3, e4.mono (off_mono S fun _ _ _ z => z) fun b _ x => S b x⟩
    | view ds => exact h2
    | tmp d => exact h2
theorem EnvR.zm (E : EnvR K H0 B H σ γ) : ∀ b, zof B γ σ b → Mut (H b) := fun b h => by
  rcases h with h | ⟨i, ds, x, h1, h2, hb⟩
  · exact E.bm b h
  · obtain ⟨v, e1, a, e2, e3, e4⟩ := E.slot i _ h1
    rw [h2] at e1
    cases e1
    cases e2
    exact e4.mut b hb
theorem TV.rp {s : S} {v : V} (h0 : Same H0 H') (h : TV K Z H0 H H' s v) : Rp K H' s.d v := by
  cases s with
  | bor d => exact (Rp.mono h0 h).strip
  | sh d => exact Rp.mono off_sub h
  | own ds =>
    obtain ⟨a, rfl, _, r⟩ := h
    exact r.rp off_sub
  | view ds =>
    obtain ⟨a, rfl, r⟩ := h
    exact r.rp off_sub
  | tmp d => exact h
/-- a value stays what it is while the heap grows -/
theorem TV.grow {s : S} {v : V} (S1 : Same H' H1) (h : TV K Z H0 H H' s v) : TV K Z H0 H H1 s v := by
  cases s with
  | bor d => exact h
  | sh d => exact Rp.mono (off_mono S1 fun _ _ _ z => z) h
  | own ds =>
    obtain ⟨a, rfl, e0, r⟩ := h
    exact ⟨a, rfl, e0, r.mono (off_mono S1 fun _ _ _ z => z) fun b _ x => S1 b x⟩
  | view ds =>
    obtain ⟨a, rfl, r⟩ := h
    exact ⟨a, rfl, r.mono (off_mono S1 fun _ _ _ z => z) fun b _ x => S1 b x⟩
  | tmp d => exact Rp.mono S1 h
/-- counted from an earlier heap, apart from less -/
theorem TV.weak {s : S} {v : V} (S1 : Same H H1) (hz : ∀ b, Z b → Z' b) (h : TV K Z' H0 H1 H' s v) : TV K Z H0 H H' s v := by
  cases s with
  | bor d => exact h
  | sh d => exact Rp.mono (off_mono (Same.refl _) fun b _ _ z y => z (hz b y)) h
  | own ds =>
    obtain ⟨a, rfl, e0, r⟩ := h
    exact ⟨a, rfl, fun b hb => S1.free (e0 b hb), r.mono (off_mono (Same.refl _) fun b _ _ z y => z (y.imp (hz b) id)) fun _ _ _ q => q⟩
  | view ds =>
    obtain ⟨a, rfl, r⟩ := h
    exact ⟨a, rfl, r.mono (off_mono (Same.refl _) fun b _ _ z y => z (hz b y)) fun _ _ _ q => q⟩
  | tmp d => exact h
theorem TV.shd {s : S} {v : V} {d : D} (h0 : Same H0 H') (hm : ∀ b, Z b → Mut (H b)) (S1 : Same H H') (h : TV K Z H0 H H' s v) (e : s.shd = some d) : Rp K (off Z H') d v := by
  have hm' : ∀ b, Z b → Mut (H' b) := fun b z => mut_same S1 (hm b z)
  cases s with
  | bor d' =>
    unfold S.shd at e
    cases q : imm d' with
    | false => simp [q] at e
    | true =>
      simp [q] at e
      subst e
      exact Rp.off hm' (Rp.mono h0 h) q
  | sh d' => cases e; exact h
  | own ds =>
    cases e
    obtain ⟨a, rfl, e0, r⟩ := h
    exact r.rpIn (off_mono (Same.refl _) fun b _ _ z y => z (.inl y)) fun b hb x e => off_of e fun z => by have := hm _ z; rw [e0 b hb] at this; exact this
  | view ds => cases e
  | tmp d' =>
    unfold S.shd at e
    cases q : imm d' with
    | false => simp [q] at e
    | true =>
      simp [q] at e
      subst e
      exact Rp.off hm' h q
theorem argR {d : D} {v : V} (hm : ∀ b, Z b → Mut (H' b)) (h0 : Same H0 H') (h : Rp K H0 d v) : TV K Z H0 H H' (arg d) v := by
  unfold arg
  cases q : imm d with
  | true => exact Rp.off hm (Rp.mono h0 h) q
  | false => exact h
theorem argTR {d : D} {v : V} (hm : ∀ b, Z b → Mut (H' b)) (h : Rp K H' d v) : TV K Z H0 H H' (argT d) v := by
  unfold argT
  cases q : imm d with
  | true => exact Rp.off hm h q
  | false => exact h
theorem Rp.lst_inv {ds : List D} {v : V} (h : Rp K H (.lst ds) v) : ∃ a vs, v = .ref a ∧ H a = some (.lst vs) ∧ Rps K H ds vs := by
  cases h with
  | lst h r => exact ⟨_, _, rfl, h, r⟩
theorem Rp.tup_inv {ds : List D} {v : V} (h : Rp K H (.tup ds) v) : ∃ a vs, v = .ref a ∧ H a = some (.tup vs) ∧ Rps K H ds vs := by
  cases h with
  | tup h r => exact ⟨_, _, rfl, h, r⟩
/-- how a list or a tuple is seen through a value -/
theorem TV.part {s : S} {v : V} (h0 : Same H0 H') (hm : ∀ b, Z b → Mut (H b)) (S1 : Same H H') (h : TV K Z H0 H H' s v) :
    (∀ ds, s.d = .lst ds → ∃ a vs, v = .ref a ∧ H' a = some (.lst vs) ∧ vs.length = ds.length ∧ ∀ (i : Nat) d, ds[i]? = some d → ∃ u, vs[i]? = some u ∧ TV K Z H0 H H' (s.sub d) u) ∧
    (∀ ds, s.d = .tup ds → ∃ a vs, v = .ref a ∧ H' a = some (.tup vs) ∧ vs.length = ds.length ∧ ∀ (i : Nat) d, ds[i]? = some d → ∃ u, vs[i]? = some u ∧ TV K Z H0 H H' (s.sub d) u) := by
  have hm' : ∀ b, Z b → Mut (H' b) := fun b z => mut_same S1 (hm b z)
  cases s with
  | bor d =>
    have h := Rp.strip h
    refine ⟨fun ds e => ?_, fun ds e => ?_⟩ <;> rw [show d.strip = _ from e] at h
    · obtain ⟨a, vs, rfl, h, r⟩ := Rp.lst_inv h
      exact ⟨_, _, rfl, h0 _ _ h, r.len, fun i d e => let ⟨u, h1, h2⟩ := r.get e; ⟨u, h1, argR hm' h0 h2⟩⟩
    · obtain ⟨a, vs, rfl, h, r⟩ := Rp.tup_inv h
      exact ⟨_, _, rfl, h0 _ _ h, r.len, fun i d e => let ⟨u, h1, h2⟩ := r.get e; ⟨u, h1, argR hm' h0 h2⟩⟩
  | sh d =>
    refine ⟨fun ds e => ?_, fun ds e => ?_⟩ <;> (have e' : d = _ := e; subst e')
    · obtain ⟨a, vs, rfl, h, r⟩ := Rp.lst_inv h
      exact ⟨_, _, rfl, off_sub _ _ h, r.len, fun i d e => r.get e⟩
    · obtain ⟨a, vs, rfl, h, r⟩ := Rp.tup_inv h
      exact ⟨_, _, rfl, off_sub _ _ h, r.len, fun i d e => r.get e⟩
  | own es =>
    cases es with
    | lst es =>
      refine ⟨fun ds e => ?_, fun ds e => by cases e⟩
      cases e
      obtain ⟨a, rfl, e0, vs, e, r⟩ := h
      exact ⟨a, vs, rfl, e, r.len, fun i d e => let ⟨u, h1, h2⟩ := r.get e; ⟨u, h1, Rp.mono (off_mono (Same.refl _) fun b _ _ z y => z (.inl y)) h2⟩⟩
    | dK es => exact ⟨(fun ds e => by cases e), (fun ds e => by cases e)⟩
    | dT es => exact ⟨(fun ds e => by cases e), (fun ds e => by cases e)⟩
    | ins x C xs cs => exact ⟨(fun ds e => by cases e), (fun ds e => by cases e)⟩
  | view es =>
    cases es with
    | lst es =>
      refine ⟨fun ds e => ?_, fun ds e => by cases e⟩
      cases e
      obtain ⟨a, rfl, vs, e, r⟩ := h
      exact ⟨a, vs, rfl, e, r.len, fun i d e => r.get e⟩
    | dK es => exact ⟨(fun ds e => by cases e), (fun ds e => by cases e)⟩
    | dT es => exact ⟨(fun ds e => by cases e), (fun ds e => by cases e)⟩
    | ins x C xs cs => exact ⟨(fun ds e => by cases e), (fun ds e => by cases e)⟩
  | tmp d =>
    refine ⟨fun ds e => ?_, fun ds e => ?_⟩ <;> (have e' : d = _ := e; subst e')
    · obtain ⟨a, vs, rfl, h, r⟩ := Rp.lst_inv h
      exact ⟨_, _, rfl, h, r.len, fun i d e => let ⟨u, h1, h2⟩ := r.get e; ⟨u, h1, argTR hm' h2⟩⟩
    · obtain ⟨a, vs, rfl, h, r⟩ := Rp.tup_inv h
      exact ⟨_, _, rfl, h, r.len, fun i d e => let ⟨u, h1, h2⟩ := r.get e; ⟨u, h1, argTR hm' h2⟩⟩
/-- what stays when a name gets a value: all that was apart from one's own -/
noncomputable def Fr (B : Addr → Prop) (H : Hp) (σ : L2.St) (γ : Γ) (H' : Hp) (σ' : L2.St) (γ' : Γ) : Prop := ∀ b o, H b = some o → ¬ zof B γ σ b → H' b = some o ∧ ¬ zof B γ' σ' b
theorem Fr.refl : Fr B H σ γ H σ γ := fun _ _ h z => ⟨h, z⟩
theorem Fr.trans {H1 H2 : Hp} {σ1 σ2 : L2.St} {γ1 γ2 : Γ} (a : Fr B H σ γ H1 σ1 γ1) (b : Fr B H1 σ1 γ1 H2 σ2 γ2) : Fr B H σ γ H2 σ2 γ2 := fun x o h z => let ⟨h1, z1⟩ := a x o h z; b x o h1 z1
theorem Fr.grow (S1 : Same H H') : Fr B H σ γ H' σ γ := fun _ _ h z => ⟨S1 _ _ h, z⟩
theorem Fr.off {H' : Hp} {σ' : L2.St} {γ' : Γ} (f : Fr B H σ γ H' σ' γ') : Same (off (zof B γ σ) H) (Pu.off (zof B γ' σ') H') := fun b o h => by
  obtain ⟨h1, h2⟩ := off_in h
  obtain ⟨h3, h4⟩ := f b o h1 h2
  exact off_of h3 h4
theorem set_get {α : Type} {l : List α} {i j : Nat} {x y : α} (h : (l.set i x)[j]? = some y) : (j = i ∧ x = y ∧ i < l.length) ∨ (j ≠ i ∧ l[j]? = some y) := by
  rw [List.getElem?_set] at h
  by_cases e : i = j
  · subst e
    rw [if_pos rfl] at h
    by_cases e2 : i < l.length
    · rw [if_pos e2] at h
      exact .inl ⟨rfl, Option.some.inj h, e2⟩
    · rw [if_neg e2] at h; cases h
  · rw [if_neg e] at h
    exact .inr ⟨fun z => e z.symm, h⟩
theorem set_at {α : Type} {l : List α} {i : Nat} {x : α} (h : i < l.length) : (l.set i x)[i]? = some x := by rw [List.getElem?_set_self h]
theorem set_ne {α : Type} {l : List α} {i j : Nat} {x : α} (h : j ≠ i) : (l.set i x)[j]? = l[j]? := List.getElem?_set_ne fun z => h z.symm
/-- names that are let go: what is known of the i-th is forgotten -/
theorem EnvR.drop (E : EnvR K H0 B H σ γ) (i : Nat) : EnvR K H0 B H σ (γ.set i none) ∧ Fr B H σ γ H σ (γ.set i none) := by
  have hz : ∀ b, zof B (γ.set i none) σ b → zof B γ σ b := fun b z => z.imp id fun ⟨j, ds, a, h1, h2, h3⟩ => by
    rcases set_get h1 with ⟨_, e, _⟩ | ⟨_, e⟩
    · cases e
    · exact ⟨j, ds, a, e, h2, h3⟩
  refine ⟨⟨E.same, by rw [List.length_set]; exact E.len, E.bm, fun k j a a' ds es b h1 h2 => ?_, fun k s h => ?_⟩, fun b o h z => ⟨h, fun y => z (hz b y)⟩⟩
  · rcases set_get h1 with ⟨_, e, _⟩ | ⟨_, e1⟩
    · cases e
    · rcases set_get h2 with ⟨_, e, _⟩ | ⟨_, e2⟩
      · cases e
      · exact E.own k j a a' ds es b e1 e2
  · rcases set_get h with ⟨_, e, _⟩ | ⟨_, e⟩
    · cases e
    · obtain ⟨v, h1, h2⟩ := E.slot k s e
      refine ⟨v, h1, ?_⟩
      have S1 : Same (Pu.off (zof B γ σ) H) (Pu.off (zof B (γ.set i none) σ) H) := off_mono (Same.refl _) fun b _ _ z y => z (hz b y)
      cases s with
      | bor d => exact h2
      | sh d => exact Rp.mono S1 h2
      | own ds =>
        obtain ⟨a, e1, e3, e4⟩ := h2
        exact ⟨a, e1, e3, e4.mono S1 fun _ _ _ q => q⟩
      | view ds => exact h2
      | tmp d => exact h2
/-- a name gets a value -/
theorem EnvR.put {i : Nat} {s s' : S} {v : V} (E : EnvR K H0 B H σ γ) (S1 : Same H H') (h : TV K (zof B γ σ) H0 H H' s v) (e : s.slot = some s') (hi : i < γ.length) :
    EnvR K H0 B H' (σ.set i (some v)) (γ.set i (some s')) ∧ Fr B H σ γ H' (σ.set i (some v)) (γ.set i (some s')) := by
  have hiσ : i < σ.length := by rw [E.len]; exact hi
  have E' := E.grow S1
  -- the new part's own addresses
  have isown : ∀ ds, s' = .own ds → s = .own ds := fun ds q => by
    subst q
    cases s with
    | own es => cases e; rfl
    | bor d => cases e
    | sh d => cases e
    | view d => cases e
    | tmp d => unfold S.slot at e; cases q : imm d <;> simp [q] at e
  have hown : ∀ b, zof B (γ.set i (some s')) (σ.set i (some v)) b → zof B γ σ b ∨ ∃ ds a, s = .own ds ∧ v = .ref a ∧ ds.adr a b := fun b z => by
    rcases z with z | ⟨j, ds, a, h1, h2, h3⟩
    · exact .inl (.inl z)
    · rcases set_get h1 with ⟨ej, e1, _⟩ | ⟨nj, e1⟩
      · subst ej
        rw [set_at hiσ] at h2
        have : s' = .own ds := Option.some.inj e1
        exact .inr ⟨ds, a, isown ds this, Option.some.inj (Option.some.inj h2), h3⟩
      · rw [set_ne nj] at h2
        exact .inl (.inr ⟨j, ds, a, e1, h2, h3⟩)
  have fresh : ∀ ds a b, s = .own ds → v = .ref a → ds.adr a b → H b = none := fun ds a b es ev hb => by
    subst es
    obtain ⟨a', e1, e0, _⟩ := h
    rw [ev] at e1
    cases e1
    exact e0 b hb
  have hz : ∀ b o, H b = some o → ¬ zof B γ σ b → ¬ zof B (γ.set i (some s')) (σ.set i (some v)) b := fun b o hb z y => by
    rcases hown b y with y | ⟨ds, a, y1, y2, y3⟩
    · exact z y
    · rw [fresh ds a b y1 y2 y3] at hb
      cases hb
  have So : Same (off (zof B γ σ) H) (Pu.off (zof B (γ.set i (some s')) (σ.set i (some v))) H') := off_mono S1 hz
  refine ⟨⟨E'.same, by rw [List.length_set, List.length_set]; exact E.len, E'.bm, fun k j a a' ds es b h1 h2 h3 h4 h5 h6 => ?_, fun k u hk => ?_⟩, fun b o hb z => ⟨S1 b o hb, hz b o hb z⟩⟩
  · have old : ∀ (k : Nat) (ds : O) (a b : Addr), γ[k]? = some (some (.own ds)) → σ[k]? = some (some (.ref a)) → ds.adr a b → ∃ o, H b = some o := fun k ds a b e1 e2 e3 => by
      obtain ⟨u, q1, a', q2, _, q3⟩ := E.slot k _ e1
      rw [e2] at q1
      cases q1
      cases q2
      exact mut_some (q3.mut b e3)
    rcases set_get h1 with ⟨ek, e1, _⟩ | ⟨nk, e1⟩
    · rcases set_get h2 with ⟨ej, e2, _⟩ | ⟨nj, e2⟩
      · rw [ek, ej]
      · subst ek
        rw [set_at hiσ] at h3
        rw [set_ne nj] at h4
        obtain ⟨o, ho⟩ := old j es a' b e2 h4 h6
        rw [fresh ds a b (isown ds (Option.some.inj e1)) (Option.some.inj (Option.some.inj h3)) h5] at ho
        cases ho
    · rcases set_get h2 with ⟨ej, e2, _⟩ | ⟨nj, e2⟩
      · subst ej
        rw [set_at hiσ] at h4
        rw [set_ne nk] at h3
        obtain ⟨o, ho⟩ := old k ds a b e1 h3 h5
        rw [fresh es a' b (isown es (Option.some.inj e2)) (Option.some.inj (Option.some.inj h4)) h6] at ho
        cases ho
      · rw [set_ne nk] at h3
        rw [set_ne nj] at h4
        exact E.own k j a a' ds es b e1 e2 h3 h4 h5 h6
  · rcases set_get hk with ⟨ek, e1, _⟩ | ⟨nk, e1⟩
    · subst ek
      have : u = s' := (Option.some.inj e1).symm
      subst this
      refine ⟨v, set_at hiσ, ?_⟩
      cases s with
      | own ds =>
        cases e
        obtain ⟨a, rfl, e0, r⟩ := h
        refine ⟨a, rfl, fun b hb => E.same.free (e0 b hb), r.mono (off_mono (Same.refl _) fun b o _ z y => ?_) fun _ _ _ q => q⟩
        rcases hown b y with y | ⟨_, _, y1, y, y2⟩
        · exact z (.inl y)
        · cases y; cases y1; exact z (.inr y2)
      | sh d =>
        cases e
        refine Rp.mono (off_mono (Same.refl _) fun b o _ z y => ?_) h
        rcases hown b y with y | ⟨_, _, y, _⟩
        · exact z y
        · cases y
      | bor d => cases e; exact h
      | view d => cases e
      | tmp d =>
        unfold S.slot at e
        cases q : imm d with
        | false => simp [q] at e
        | true =>
          simp [q] at e
          subst e
          refine Rp.off (fun b y => ?_) h q
          rcases hown b y with y | ⟨_, _, y, _⟩
          · exact mut_same S1 (E.zm b y)
          · cases y
    · obtain ⟨w, q1, q2⟩ := E.slot k u e1
      refine ⟨w, by rw [set_ne nk]; exact q1, ?_⟩
      cases u with
      | bor d => exact q2
      | sh d => exact Rp.mono So q2
      | own ds =>
        obtain ⟨a, e1, e3, e4⟩ := q2
        exact ⟨a, e1, e3, e4.mono So fun b _ x => S1 b x⟩
      | view ds => exact q2
      | tmp d => exact q2
/-- one's own list is shared from now on -/
noncomputable def frz (i : Nat) (γ : Γ) : Γ := match γ[i]? with
  | some (some (.own o)) => γ.set i (some (.sh o.d))
  | _ => γ
theorem EnvR.frz (E : EnvR K H0 B H σ γ) (hB : ∀ b, B b → ∃ o, H0 b = some o) (i : Nat) : EnvR K H0 B H σ (frz i γ) ∧ Fr B H σ γ H σ (Pu.frz i γ) := by
  unfold Pu.frz
  split
  · rename_i ds hi
    have hlt : i < γ.length := (List.getElem?_eq_some_iff.mp hi).1
    have hz : ∀ b, zof B (γ.set i (some (.sh ds.d))) σ b → zof B γ σ b := fun b z => z.imp id fun ⟨j, es, a, h1, h2, h3⟩ => by
      rcases set_get h1 with ⟨_, e, _⟩ | ⟨_, e⟩
      · cases e
      · exact ⟨j, es, a, e, h2, h3⟩
    have S1 : Same (Pu.off (zof B γ σ) H) (Pu.off (zof B (γ.set i (some (.sh ds.d))) σ) H) := off_mono (Same.refl _) fun b _ _ z y => z (hz b y)
    refine ⟨⟨E.same, by rw [List.length_set]; exact E.len, E.bm, fun k j a a' es es' b h1 h2 => ?_, fun k s h => ?_⟩, fun b o h z => ⟨h, fun y => z (hz b y)⟩⟩
    · rcases set_get h1 with ⟨_, e, _⟩ | ⟨_, e1⟩
      · cases e
      · rcases set_get h2 with ⟨_, e, _⟩ | ⟨_, e2⟩
        · cases e
        · exact E.own k j a a' es es' b e1 e2
    · rcases set_get h with ⟨ek, e, _⟩ | ⟨nk, e⟩
      · subst ek
        have := Option.some.inj e
        subst this
        obtain ⟨v, h1, a, rfl, h3, h4⟩ := E.slot k _ hi
        refine ⟨_, h1, h4.rpIn S1 fun b hb x h2 => off_of h2 fun z => ?_⟩
        rcases z with z | ⟨j, es, a', e1, e2, e3⟩
        · obtain ⟨o, ho⟩ := hB b z
          rw [h3 b hb] at ho
          cases ho
        · rcases set_get e1 with ⟨_, q, _⟩ | ⟨nj, q⟩
          · cases q
          · exact nj (E.own j k a' a es ds b q hi e2 h1 e3 hb)
      · obtain ⟨v, h1, h2⟩ := E.slot k s e
        refine ⟨v, h1, ?_⟩
        cases s with
        | bor d => exact h2
        | sh d => exact Rp.mono S1 h2
        | own ds =>
          obtain ⟨a, e1, e3, e4⟩ := h2
          exact ⟨a, e1, e3, e4.mono S1 fun _ _ _ q => q⟩
        | view ds => exact h2
        | tmp d => exact h2
  · exact ⟨E, Fr.refl⟩
/-- one's own thing changes, and may get new places -/
theorem EnvR.change {i : Nat} {a : Addr} {o o' : O} (E : EnvR K H0 B H σ γ) (hi : γ[i]? = some (some (.own o))) (ha : σ[i]? = some (some (.ref a)))
    (hH : ∀ b x, H b = some x → ¬ o.adr a b → H' b = some x) (hm : ∀ b, o.adr a b → Mut (H' b)) (hadr : ∀ b, o'.adr a b → o.adr a b ∨ H b = none) (r : OR K (Pu.off (zof B (γ.set i (some (.own o'))) σ) H') H' a o') :
    EnvR K H0 B H' σ (γ.set i (some (.own o'))) ∧ Fr B H σ γ H' σ (γ.set i (some (.own o'))) := by
  have hlt : i < γ.length := (List.getElem?_eq_some_iff.mp hi).1
  obtain ⟨v, h1, a', rfl, h3, h4⟩ := E.slot i _ hi
  rw [ha] at h1
  cases h1
  have za : ∀ b, o.adr a b → zof B γ σ b := fun b hb => .inr ⟨i, o, a, hi, ha, hb⟩
  have hz : ∀ b x, H b = some x → zof B (γ.set i (some (.own o'))) σ b → zof B γ σ b := fun b x hx z => by
    rcases z with z | ⟨j, fs, a', e1, e2, e3⟩
    · exact .inl z
    · rcases set_get e1 with ⟨ej, q, _⟩ | ⟨_, e⟩
      · subst ej
        cases q
        rw [ha] at e2
        cases e2
        rcases hadr b e3 with k | k
        · exact za b k
        · rw [k] at hx; cases hx
      · exact .inr ⟨j, fs, a', e, e2, e3⟩
  have S1 : Same (Pu.off (zof B γ σ) H) (Pu.off (zof B (γ.set i (some (.own o'))) σ) H') := fun b x h => by
    obtain ⟨q1, q2⟩ := off_in h
    exact off_of (hH b x q1 fun k => q2 (za b k)) fun z => q2 (hz b x q1 z)
  have old : ∀ (k : Nat) (ds : O) (a b : Addr), γ[k]? = some (some (.own ds)) → σ[k]? = some (some (.ref a)) → ds.adr a b → ∃ o, H b = some o := fun k ds a b e1 e2 e3 => by
    obtain ⟨u, q1, a', q2, _, q3⟩ := E.slot k _ e1
    rw [e2] at q1
    cases q1
    cases q2
    exact mut_some (q3.mut b e3)
  refine ⟨⟨fun b x h => ?_, by rw [List.length_set]; exact E.len, fun b hb => ?_, fun k j x x' fs fs' b e1 e2 e3 e4 e5 e6 => ?_, fun k s h => ?_⟩, fun b x h z => ⟨?_, fun y => z (hz b x h y)⟩⟩
  · exact hH b x (E.same b x h) fun k => by rw [h3 b k] at h; cases h
  · by_cases k : o.adr a b
    · exact hm b k
    · have := E.bm b hb
      obtain ⟨x, hx⟩ := mut_some this
      rw [hH b x hx k, ← hx]
      exact this
  · rcases set_get e1 with ⟨ek, q1, _⟩ | ⟨nk, q1⟩
    · rcases set_get e2 with ⟨ej, _, _⟩ | ⟨nj, q2⟩
      · rw [ek, ej]
      · subst ek
        cases q1
        rw [ha] at e3
        cases e3
        rcases hadr b e5 with w | w
        · exact E.own k j _ _ _ _ b hi q2 ha e4 w e6
        · obtain ⟨u, hu⟩ := old j fs' x' b q2 e4 e6
          rw [w] at hu; cases hu
    · rcases set_get e2 with ⟨ej, q2, _⟩ | ⟨nj, q2⟩
      · subst ej
        cases q2
        rw [ha] at e4
        cases e4
        rcases hadr b e6 with w | w
        · exact E.own k j _ _ _ _ b q1 hi e3 ha e5 w
        · obtain ⟨u, hu⟩ := old k fs x b q1 e3 e5
          rw [w] at hu; cases hu
      · exact E.own k j x x' fs fs' b q1 q2 e3 e4 e5 e6
  · rcases set_get h with ⟨ek, e, _⟩ | ⟨nk, e⟩
    · subst ek
      have := Option.some.inj e
      subst this
      exact ⟨_, ha, a, rfl, fun b hb => (hadr b hb).elim (h3 b) fun w => E.same.free w, r⟩
    · obtain ⟨v, q1, q2⟩ := E.slot k s e
      refine ⟨v, q1, ?_⟩
      cases s with
      | bor d => exact q2
      | sh d => exact Rp.mono S1 q2
      | own fs =>
        obtain ⟨x, rfl, e3, e4⟩ := q2
        exact ⟨x, rfl, e3, e4.mono S1 fun b hb y e2 => hH b y e2 fun w => nk (E.own k i x a fs o b e hi q1 ha hb w)⟩
      | view ds => exact q2
      | tmp d => exact q2
  · exact hH b x h fun k => z (za b k)
/-- one's own list changes -/
theorem EnvR.mutate {i : Nat} {a : Addr} {ds es : O} {us : HO} (E : EnvR K H0 B H σ γ) (hi : γ[i]? = some (some (.own ds))) (ha : σ[i]? = some (some (.ref a))) (hu : Mut (some us)) (r : ∀ F H' : Hp, Same (Pu.off (zof B γ σ) H) F → H' a = some us → OR K F H' a es)
    (k1 : ds.adr a = fun b => b = a := by rfl) (k2 : es.adr a = fun b => b = a := by rfl) :
    EnvR K H0 B (upd H a us) σ (γ.set i (some (.own es))) ∧ Fr B H σ γ (upd H a us) σ (γ.set i (some (.own es))) := by
  refine E.change (o := ds) (o' := es) hi ha (fun b x h n => by rw [upd_ne (fun z => n (by rw [k1]; exact z))]; exact h) (fun b h => by rw [k1] at h; rw [show b = a from h, upd_same]; exact hu) (fun b h => .inl (by rw [k1]; rw [k2] at h; exact h)) (r _ _ ?_ upd_same)
  intro b x h
  obtain ⟨q1, q2⟩ := off_in h
  have nb : b ≠ a := fun z => q2 (.inr ⟨i, ds, a, hi, ha, by rw [k1]; exact z⟩)
  refine off_of (by rw [upd_ne nb]; exact q1) fun z => q2 ?_
  rcases z with z | ⟨j, fs, a', e1, e2, e3⟩
  · exact .inl z
  · rcases set_get e1 with ⟨ej, q, _⟩ | ⟨_, e⟩
    · subst ej
      cases q
      rw [ha] at e2
      cases e2
      rw [k2] at e3
      exact absurd e3 nb
    · exact .inr ⟨j, fs, a', e, e2, e3⟩
end
end Pu

namespace Pu
open PySem PySem.Spec PyProof.Rows L2 Own
/-! ### readings without a heap, and what it is that they stand for the others -/
noncomputable abbrev XR := Str → Prop
noncomputable abbrev PTE := Γ → (S → Prop) → XR → Prop
noncomputable abbrev PTT := Γ → (Bool → Prop) → XR → Prop
noncomputable abbrev PTA := Γ → (List S → Prop) → XR → Prop
noncomputable abbrev PTO := Γ → (Option Int → Prop) → XR → Prop
structure PEnds where
  nx : Γ → Prop
  rt : S → Prop
  ex : Γ → Str → Prop
  bk : Γ → Prop := fun _ => False
  ct : Γ → Prop := fun _ => False
  rv : Γ → D → Prop := fun _ _ => False
noncomputable abbrev PTS := PEnds → Γ → Prop
noncomputable abbrev PTG := S → Γ → (Γ → Prop) → Prop
noncomputable abbrev PTGs := List S → Γ → (Γ → Prop) → Prop
inductive TVs (K : PySem.W.Frag) (Z : Addr → Prop) (H0 H H' : Hp) : List S → List V → Prop
  | nil : TVs K Z H0 H H' [] []
  | cons {s : S} {v : V} {ss : List S} {vs : List V} : TV K Z H0 H H' s v → TVs K Z H0 H H' ss vs → TVs K Z H0 H H' (s :: ss) (v :: vs)
section
variable (K : PySem.W.Frag) (mg : Str → Option Value) (E : L2.St → XK)
noncomputable def SndE (t : TE) (p : PTE) : Prop := ∀ (H0 : Hp) (B : Addr → Prop) (H : Hp) (σ : L2.St) (γ : Γ) (R : S → Prop) (X : XR) (Q : VK), EnvR K H0 B H σ γ → p γ R X →
  (∀ s v H', R s → Same H H' → TV K (zof B γ σ) H0 H H' s v → Q v H') → (∀ c H', X c → Same H H' → E σ (.ref (ExcR.clsOf mg c)) none H') → t σ H Q
noncomputable def SndT (t : TT) (p : PTT) : Prop := ∀ (H0 : Hp) (B : Addr → Prop) (H : Hp) (σ : L2.St) (γ : Γ) (R : Bool → Prop) (X : XR) (Q : Bool → Hp → Prop), EnvR K H0 B H σ γ → p γ R X →
  (∀ b H', R b → Same H H' → Q b H') → (∀ c H', X c → Same H H' → E σ (.ref (ExcR.clsOf mg c)) none H') → t σ H Q
noncomputable def SndA (t : TA) (p : PTA) : Prop := ∀ (H0 : Hp) (B : Addr → Prop) (H : Hp) (σ : L2.St) (γ : Γ) (R : List S → Prop) (X : XR) (Q : List V → Hp → Prop), EnvR K H0 B H σ γ → p γ R X →
  (∀ ss vs H', R ss → Same H H' → TVs K (zof B γ σ) H0 H H' ss vs → Q vs H') → (∀ c H', X c → Same H H' → E σ (.ref (ExcR.clsOf mg c)) none H') → t σ H Q
noncomputable def SndO (t : TO) (p : PTO) : Prop := ∀ (H0 : Hp) (B : Addr → Prop) (H : Hp) (σ : L2.St) (γ : Γ) (R : Option Int → Prop) (X : XR) (Q : Option Int → Hp → Prop), EnvR K H0 B H σ γ → p γ R X →
  (∀ o H', R o → Same H H' → Q o H') → (∀ c H', X c → Same H H' → E σ (.ref (ExcR.clsOf mg c)) none H') → t σ H Q
structure EndR (H0 : Hp) (B : Addr → Prop) (H : Hp) (σ : L2.St) (γ : Γ) (R : PEnds) (D : Ends) : Prop where
  nx : ∀ σ' γ' H', R.nx γ' → EnvR K H0 B H' σ' γ' → Fr B H σ γ H' σ' γ' → D.nx σ' H'
  rt : ∀ s v H', R.rt s → Same H0 H' → TV K B H0 H0 H' s v → D.rt v H'
  ex : ∀ σ' γ' c H', R.ex γ' c → EnvR K H0 B H' σ' γ' → Fr B H σ γ H' σ' γ' → E σ' (.ref (ExcR.clsOf mg c)) none H'
  bk : ∀ σ' γ' H', R.bk γ' → EnvR K H0 B H' σ' γ' → Fr B H σ γ H' σ' γ' → D.bk σ' H'
  ct : ∀ σ' γ' H', R.ct γ' → EnvR K H0 B H' σ' γ' → Fr B H σ γ H' σ' γ' → D.ct σ' H'
  rv : ∀ σ' γ' d v H', R.rv γ' d → EnvR K H0 B H' σ' γ' → Fr B H σ γ H' σ' γ' → Rp K (off (zof B γ' σ') H') d v → D.rt v H'
noncomputable def SndS (t : TS) (p : PTS) : Prop := ∀ (H0 : Hp) (B : Addr → Prop) (H : Hp) (σ : L2.St) (γ : Γ) (R : PEnds) (D : Ends), (∀ b, B b → ∃ o, H0 b = some o) → EnvR K H0 B H σ γ → p R γ → EndR K mg E H0 B H σ γ R D → t D σ H
end
section
variable {K : PySem.W.Frag} {mg : Str → Option Value} {E : L2.St → XK} {H0 H H1 H' : Hp} {B Z Z' : Addr → Prop} {σ : L2.St} {γ : Γ}
theorem TVs.weakG {H1 H2 : Hp} : ∀ {ss : List S} {vs : List V}, Same H H1 → TVs K Z H0 H1 H2 ss vs → TVs K Z H0 H H2 ss vs
  | _, _, _, .nil => .nil
  | _, _, S1, .cons h r => .cons (TV.weak S1 (fun _ z => z) h) (TVs.weakG S1 r)
theorem TVs.rps (h0 : Same H0 H') : ∀ {ss : List S} {vs : List V}, TVs K Z H0 H H' ss vs → Rps K H' (ss.map S.d) vs
  | _, _, .nil => .nil
  | _, _, .cons h r => .cons (h.rp h0) (TVs.rps h0 r)
theorem TVs.shd {ds : List D} (h0 : Same H0 H') (hm : ∀ b, Z b → Mut (H b)) (S1 : Same H H') : ∀ {ss : List S} {vs : List V} {ds : List D}, TVs K Z H0 H H' ss vs → ss.map S.shd = ds.map some → Rps K (off Z H') ds vs
  | _, _, [], .nil, _ => .nil
  | _, _, _ :: _, .nil, e => by cases e
  | _, _, [], .cons _ _, e => by cases e
  | _, _, d :: ds, .cons h r, e => by
    rw [List.map_cons, List.map_cons, List.cons.injEq] at e
    exact .cons (h.shd h0 hm S1 e.1) (TVs.shd (ds := ds) h0 hm S1 r e.2)
theorem Rp.int_inv {i : Int} {v : V} (h : Rp K H (.int i) v) : v = .int i := by cases h; rfl
theorem Rp.bl_inv {b : Bool} {v : V} (h : Rp K H (.bl b) v) : v = .bl b := by cases h; rfl
theorem Rp.str_inv {x : Str} {v : V} (h : Rp K H (.str x) v) : v = .str x := by cases h; rfl
theorem Rp.non_inv {v : V} (h : Rp K H .non v) : v = .non := by cases h; rfl
/-! ### expressions -/
noncomputable def pVar (i : Nat) : PTE := fun γ R _ => match γ[i]? with
  | some (some (.own ds)) => R (.view ds)
  | some (some s) => R s
  | _ => False
theorem se_var (i : Nat) : SndE K mg E (tVar i) (pVar i) := by
  intro H0 B H σ γ R X Q env h q _
  unfold pVar at h
  split at h
  · rename_i ds e
    obtain ⟨v, h1, a, rfl, h3, h4⟩ := env.slot i _ e
    exact ⟨_, h1, q _ _ H h (Same.refl _) ⟨a, rfl, h4⟩⟩
  · rename_i s ns e
    obtain ⟨v, h1, h2⟩ := env.slot i _ e
    refine ⟨v, h1, q _ _ H h (Same.refl _) ?_⟩
    cases s with
    | bor d => exact h2
    | sh d => exact h2
    | own ds => exact absurd rfl (ns ds)
    | view ds => exact h2.elim
    | tmp d => exact h2.elim
  · exact h.elim
noncomputable def pC (d : D) : PTE := fun _ R _ => R (.sh d)
theorem se_c {d : D} {v : V} (h : ∀ H, Rp K H d v) : SndE K mg E (tC v) (pC d) := by
  intro H0 B H σ γ R X Q env p q _
  exact q _ _ H p (Same.refl _) (h _)
theorem se_int {i : Int} : SndE K mg E (tC (.int i)) (pC (.int i)) := se_c fun _ => .int i
theorem se_bl {b : Bool} : SndE K mg E (tC (.bl b)) (pC (.bl b)) := se_c fun _ => .bl b
/-- two values, one behind the other -/
noncomputable def p2 (a b : PTE) (f : S → S → (S → Prop) → Prop) : PTE := fun γ R X => a γ (fun x => b γ (fun y => f x y R) X) X
theorem se_2 {r : R2} {ta tb : TE} {a b : PTE} {f : S → S → (S → Prop) → Prop} (ha : SndE K mg E ta a) (hb : SndE K mg E tb b)
    (hr : ∀ (H0 H H2 : Hp) (Z : Addr → Prop) (x y : S) (v u : V) (R : S → Prop) (Q : VK), Same H0 H2 → Same H H2 → (∀ b, Z b → Mut (H b)) → TV K Z H0 H H2 x v → TV K Z H0 H H2 y u → f x y R → (∀ s z H', R s → Same H2 H' → TV K Z H0 H H' s z → Q z H') → r v u H2 Q) :
    SndE K mg E (tOp r ta tb) (p2 a b f) := by
  intro H0 B H σ γ R X Q env p q qx
  refine ha H0 B H σ γ _ X _ env p (fun x v H1 h1 S1 t1 => ?_) qx
  have env1 := env.grow S1
  refine hb H0 B H1 σ γ _ X _ env1 h1 (fun y u H2 h2 S2 t2 => ?_) fun c H' hc S' => qx c H' hc (S1.trans S')
  exact hr H0 H H2 _ x y v u R Q (env1.same.trans S2) (S1.trans S2) env.zm (t1.grow S2) (TV.weak S1 (fun _ z => z) t2) h2 fun s z H' hs S3 t3 => q s z H' hs ((S1.trans S2).trans S3) t3
noncomputable def fI0 (g : Int → Int → D) : S → S → (S → Prop) → Prop := fun x y R => match x.d, y.d with
  | .int i, .int j => R (.sh (g i j))
  | _, _ => False
noncomputable def fI (C : Int → Int → Prop) (g : Int → Int → D) : S → S → (S → Prop) → Prop := fun x y R => match x.d, y.d with
  | .int i, .int j => C i j ∧ R (.sh (g i j))
  | _, _ => False
theorem se_I0 {g : Int → Int → V} {g' : Int → Int → D} {ta tb : TE} {a b : PTE} (hg : ∀ H i j, Rp K H (g' i j) (g i j)) (ha : SndE K mg E ta a) (hb : SndE K mg E tb b) : SndE K mg E (tOp (rI0 g) ta tb) (p2 a b (fI0 g')) := by
  refine se_2 ha hb fun H0 H H2 Z x y v u R Q s0 s1 hm tx ty h q => ?_
  unfold fI0 at h
  have rx := tx.rp s0
  have ry := ty.rp s0
  split at h
  · rename_i i j e1 e2
    rw [e1] at rx
    rw [e2] at ry
    exact ⟨i, j, rx.int_inv, ry.int_inv, q _ _ H2 h (Same.refl _) (hg _ i j)⟩
  · exact h.elim
theorem se_I {C : Int → Int → Prop} {g : Int → Int → V} {g' : Int → Int → D} {ta tb : TE} {a b : PTE} (hg : ∀ H i j, Rp K H (g' i j) (g i j)) (ha : SndE K mg E ta a) (hb : SndE K mg E tb b) : SndE K mg E (tOp (rI C g) ta tb) (p2 a b (fI C g')) := by
  refine se_2 ha hb fun H0 H H2 Z x y v u R Q s0 s1 hm tx ty h q => ?_
  unfold fI at h
  have rx := tx.rp s0
  have ry := ty.rp s0
  split at h
  · rename_i i j e1 e2
    rw [e1] at rx
    rw [e2] at ry
    exact ⟨i, j, rx.int_inv, ry.int_inv, h.1, q _ _ H2 h.2 (Same.refl _) (hg _ i j)⟩
  · exact h.elim
section
variable {ta tb tc : TE} {a b c : PTE}
theorem se_add (ha : SndE K mg E ta a) (hb : SndE K mg E tb b) : SndE K mg E (tOp (rI0 fun i j => .int (i + j)) ta tb) (p2 a b (fI0 fun i j => .int (i + j))) := se_I0 (fun _ _ _ => .int _) ha hb
theorem se_fdiv (ha : SndE K mg E ta a) (hb : SndE K mg E tb b) : SndE K mg E (tOp (rI CDiv fun i j => .int (i / j)) ta tb) (p2 a b (fI CDiv fun i j => .int (i / j))) := se_I (fun _ _ _ => .int _) ha hb
theorem se_mod (ha : SndE K mg E ta a) (hb : SndE K mg E tb b) : SndE K mg E (tOp (rI (fun _ j => 0 < j) fun i j => .int (i % j)) ta tb) (p2 a b (fI (fun _ j => 0 < j) fun i j => .int (i % j))) := se_I (fun _ _ _ => .int _) ha hb
theorem se_lt (ha : SndE K mg E ta a) (hb : SndE K mg E tb b) : SndE K mg E (tOp (rI0 fun i j => .bl (decide (i < j))) ta tb) (p2 a b (fI0 fun i j => .bl (decide (i < j)))) := se_I0 (fun _ _ _ => .bl _) ha hb
theorem se_gt (ha : SndE K mg E ta a) (hb : SndE K mg E tb b) : SndE K mg E (tOp (rI0 fun i j => .bl (decide (j < i))) ta tb) (p2 a b (fI0 fun i j => .bl (decide (j < i)))) := se_I0 (fun _ _ _ => .bl _) ha hb
noncomputable def fEq (neg : Bool) : S → S → (S → Prop) → Prop := fun x y R => match x.d, y.d with
  | .int i, .int j => R (.sh (.bl (if neg then !decide (i = j) else decide (i = j))))
  | .str i, .str j => R (.sh (.bl (if neg then !decide (i = j) else decide (i = j))))
  | .bl i, .bl j => R (.sh (.bl (if neg then !decide (i = j) else decide (i = j))))
  | _, _ => False
theorem dec_inj {α β : Type} [DecidableEq α] [DecidableEq β] {f : α → β} (hf : ∀ a b, f a = f b → a = b) (a b : α) : decide (f a = f b) = decide (a = b) := by
  by_cases e : a = b
  · rw [decide_eq_true e, decide_eq_true (congrArg f e)]
  · rw [decide_eq_false e, decide_eq_false fun z => e (hf a b z)]
/-- a place in a list or a tuple -/
noncomputable def fIx : S → S → (S → Prop) → Prop := fun x y R => match x.d, y.d with
  | .lst ds, .int k => ∃ d, atI ds k = some d ∧ R (x.sub d)
  | .tup ds, .int k => ∃ d, atI ds k = some d ∧ R (x.sub d)
  | .scr ns, .int k => ∃ i, atI ns k = some i ∧ R (.sh (.int i))
  | _, _ => False
theorem at_part {ds : List D} {vs : List V} {k : Int} {d : D} {P : D → V → Prop} (hl : vs.length = ds.length) (h : ∀ (i : Nat) d, ds[i]? = some d → ∃ u, vs[i]? = some u ∧ P d u) (e : atI ds k = some d) : ∃ u, atI vs k = some u ∧ P d u := by
  unfold atI at e ⊢
  rw [hl]
  cases q : ixN ds.length k with
  | none => rw [q] at e; cases e
  | some j =>
    rw [q] at e
    exact h j d e
theorem se_ix (ha : SndE K mg E ta a) (hb : SndE K mg E tb b) : SndE K mg E (tOp (fun x y H Q => rIxL K x y H Q ∨ rIxT K x y H Q) ta tb) (p2 a b fIx) := by
  refine se_2 ha hb fun H0 H H2 Z x y v u R Q s0 s1 hm tx ty h q => ?_
  unfold fIx at h
  have ry := ty.rp s0
  obtain ⟨pl, pt⟩ := tx.part s0 hm s1
  split at h
  · rename_i ds k e1 e2
    rw [e2] at ry
    obtain ⟨d, hd, hR⟩ := h
    obtain ⟨l, vs, rfl, hl, hn, hp⟩ := pl ds e1
    obtain ⟨z, hz, tz⟩ := at_part hn hp hd
    exact .inl ⟨l, vs, k, z, rfl, ry.int_inv, SqL.of hl, hz, q _ _ H2 hR (Same.refl _) tz⟩
  · rename_i ds k e1 e2
    rw [e2] at ry
    obtain ⟨d, hd, hR⟩ := h
    obtain ⟨l, vs, rfl, hl, hn, hp⟩ := pt ds e1
    obtain ⟨z, hz, tz⟩ := at_part hn hp hd
    exact .inr ⟨l, vs, k, z, rfl, ry.int_inv, SqT.of hl, hz, q _ _ H2 hR (Same.refl _) tz⟩
  · rename_i ns k e1 e2
    rw [e2] at ry
    obtain ⟨i, hi, hR⟩ := h
    have rx := tx.rp s0
    rw [e1] at rx
    cases rx with
    | scr hs => exact .inl ⟨_, _, k, .int i, rfl, ry.int_inv, hs, atI_map hi, q _ _ H2 hR (Same.refl _) (.int i)⟩
  · exact h.elim
/-- and, or, not as values; x if c else y -/
noncomputable def pAndV (a b : PTE) : PTE := fun γ R X => a γ (fun x => match x.d with | .bl c => if c = true then b γ R X else R (.sh (.bl false)) | _ => False) X
noncomputable def pNotV (a : PTE) : PTE := fun γ R X => a γ (fun x => match x.d with | .bl c => R (.sh (.bl (!c))) | _ => False) X
theorem se_andV (ha : SndE K mg E ta a) (hb : SndE K mg E tb b) : SndE K mg E (tAndV ta tb) (pAndV a b) := by
  intro H0 B H σ γ R X Q env p q qx
  refine ha H0 B H σ γ _ X _ env p (fun x v H1 h1 S1 t1 => ?_) qx
  have env1 := env.grow S1
  have rx := t1.rp env1.same
  split at h1
  · rename_i c e1
    rw [e1] at rx
    refine ⟨c, rx.bl_inv, ?_⟩
    split at h1
    · rename_i hc
      rw [if_pos hc]
      exact hb H0 B H1 σ γ _ X _ env1 h1 (fun y u H2 h2 S2 t2 => q y u H2 h2 (S1.trans S2) (TV.weak S1 (fun _ z => z) t2)) fun c H' hc S' => qx c H' hc (S1.trans S')
    · rename_i hc
      rw [if_neg hc]
      exact q _ _ H1 h1 S1 (.bl _)
  · exact h1.elim
theorem se_notV (ha : SndE K mg E ta a) : SndE K mg E (tNotV ta) (pNotV a) := by
  intro H0 B H σ γ R X Q env p q qx
  refine ha H0 B H σ γ _ X _ env p (fun x v H1 h1 S1 t1 => ?_) qx
  have rx := t1.rp (env.grow S1).same
  split at h1
  · rename_i c e1
    rw [e1] at rx
    exact ⟨c, rx.bl_inv, q _ _ H1 h1 S1 (.bl _)⟩
  · exact h1.elim
noncomputable def pNeg (a : PTE) : PTE := fun γ R X => a γ (fun x => match x.d with | .int i => R (.sh (.int (-i))) | _ => False) X
theorem se_neg (ha : SndE K mg E ta a) : SndE K mg E (tUn (rU fun i => .int (-i)) ta) (pNeg a) := by
  intro H0 B H σ γ R X Q env p q qx
  refine ha H0 B H σ γ _ X _ env p (fun x v H1 h1 S1 t1 => ?_) qx
  have rx := t1.rp (env.grow S1).same
  split at h1
  · rename_i c e1
    rw [e1] at rx
    exact ⟨c, rx.int_inv, q _ _ H1 h1 S1 (.int _)⟩
  · exact h1.elim
/-! ### tests -/
noncomputable def pTest (a : PTE) : PTT := fun γ R X => a γ (fun x => match x.d with | .bl c => R c | _ => False) X
theorem st_test (ha : SndE K mg E ta a) : SndT K mg E (tTest ta) (pTest a) := by
  intro H0 B H σ γ R X Q env p q qx
  refine ha H0 B H σ γ _ X _ env p (fun x v H1 h1 S1 t1 => ?_) qx
  have rx := t1.rp (env.grow S1).same
  split at h1
  · rename_i c e1
    rw [e1] at rx
    exact ⟨c, rx.bl_inv, q _ H1 h1 S1⟩
  · exact h1.elim
theorem st_b (ha : SndE K mg E ta a) : SndT K mg E (tB ta) (pTest a) := st_test ha
variable {sa sb : TT} {pa pb : PTT}
noncomputable def pAnd (a b : PTT) : PTT := fun γ R X => a γ (fun c => if c = true then b γ R X else R false) X
noncomputable def pOr (a b : PTT) : PTT := fun γ R X => a γ (fun c => if c = true then R true else b γ R X) X
noncomputable def pNot (a : PTT) : PTT := fun γ R X => a γ (fun c => R (!c)) X
theorem st_and (ha : SndT K mg E sa pa) (hb : SndT K mg E sb pb) : SndT K mg E (tAnd sa sb) (pAnd pa pb) := by
  intro H0 B H σ γ R X Q env p q qx
  refine ha H0 B H σ γ _ X _ env p (fun c H1 h1 S1 => ?_) qx
  split at h1
  · rename_i hc
    rw [if_pos hc]
    exact hb H0 B H1 σ γ _ X _ (env.grow S1) h1 (fun y H2 h2 S2 => q y H2 h2 (S1.trans S2)) fun c H' hc S' => qx c H' hc (S1.trans S')
  · rename_i hc
    rw [if_neg hc]
    exact q _ H1 h1 S1
theorem st_or (ha : SndT K mg E sa pa) (hb : SndT K mg E sb pb) : SndT K mg E (tOr sa sb) (pOr pa pb) := by
  intro H0 B H σ γ R X Q env p q qx
  refine ha H0 B H σ γ _ X _ env p (fun c H1 h1 S1 => ?_) qx
  split at h1
  · rename_i hc
    rw [if_pos hc]
    exact q _ H1 h1 S1
  · rename_i hc
    rw [if_neg hc]
    exact hb H0 B H1 σ γ _ X _ (env.grow S1) h1 (fun y H2 h2 S2 => q y H2 h2 (S1.trans S2)) fun c H' hc S' => qx c H' hc (S1.trans S')
theorem st_not (ha : SndT K mg E sa pa) : SndT K mg E (tNot sa) (pNot pa) := by
  intro H0 B H σ γ R X Q env p q qx
  exact ha H0 B H σ γ _ X _ env p (fun c H1 h1 S1 => q _ H1 h1 S1) qx
end
/-! ### argument lists, tuples, lists -/
noncomputable def pNil : PTA := fun _ R _ => R []
noncomputable def pCons (a : PTE) (r : PTA) : PTA := fun γ R X => a γ (fun s => r γ (fun ss => R (s :: ss)) X) X
theorem sa_nil : SndA K mg E tNil pNil := by
  intro H0 B H σ γ R X Q env p q _
  exact q _ _ H p (Same.refl _) .nil
theorem sa_cons {te : TE} {ta : TA} {a : PTE} {r : PTA} (ha : SndE K mg E te a) (hr : SndA K mg E ta r) : SndA K mg E (tCons te ta) (pCons a r) := by
  intro H0 B H σ γ R X Q env p q qx
  refine ha H0 B H σ γ _ X _ env p (fun s v H1 h1 S1 t1 => ?_) qx
  refine hr H0 B H1 σ γ _ X _ (env.grow S1) h1 (fun ss vs H2 h2 S2 t2 => ?_) fun c H' hc S' => qx c H' hc (S1.trans S')
  exact q _ _ H2 h2 (S1.trans S2) (.cons (t1.grow S2) (TVs.weakG S1 t2))
noncomputable def shds : List S → Option (List D)
  | [] => some []
  | s :: r => match s.shd, shds r with
    | some d, some ds => some (d :: ds)
    | _, _ => none
theorem shds_map : ∀ {ss : List S} {ds : List D}, shds ss = some ds → ss.map S.shd = ds.map some
  | [], ds, h => by cases h; rfl
  | s :: r, ds, h => by
    unfold shds at h
    split at h
    · rename_i d es e1 e2
      cases h
      rw [List.map_cons, List.map_cons, e1, shds_map e2]
    · cases h
noncomputable def pTup (r : PTA) : PTE := fun γ R X => r γ (fun ss => match shds ss with | some ds => ds.length ≤ 1000 ∧ R (.sh (.tup ds)) | none => False) X
noncomputable def pLst (r : PTA) : PTE := fun γ R X => r γ (fun ss => match shds ss with | some ds => ds.length ≤ 1000 ∧ R (.own ds) | none => False) X
theorem big1000 {n : Nat} (h : n ≤ 1000) : n ≤ sizeLine := Nat.le_of_lt (small1000 h)
theorem se_tup {ta : TA} {r : PTA} (hr : SndA K mg E ta r) : SndE K mg E (tTup ta) (pTup r) := by
  intro H0 B H σ γ R X Q env p q qx
  refine hr H0 B H σ γ _ X _ env p (fun ss vs H1 h1 S1 t1 => ?_) qx
  split at h1
  · rename_i ds e
    have env1 := env.grow S1
    have rp := t1.shd (ds := ds) env1.same env.zm S1 (shds_map e)
    refine ⟨by rw [rp.len]; exact big1000 h1.1, fun l nl => ?_⟩
    have S2 := same_upd (o := .tup vs) nl
    refine q _ _ _ h1.2 (S1.trans S2) (.tup (off_of upd_same fun z => ?_) (Rps.mono (off_mono S2 fun _ _ _ z => z) rp))
    have := env1.zm l z
    rw [nl] at this
    exact this
  · exact h1.elim
theorem own_new {H H1 : Hp} {l : Addr} {vs : List V} {ds : List D} (S1 : Same H H1) (nl : H1 l = none) (rp : Rps K (off Z H1) ds vs) : TV K Z H0 H (upd H1 l (.lst vs)) (.own ds) (.ref l) :=
  ⟨l, rfl, (fun _ e => e ▸ S1.free nl), vs, upd_same, Rps.mono (off_mono (same_upd nl) fun b o hb z y => y.elim z fun e => by rw [e, nl] at hb; cases hb) rp⟩
theorem se_lst {ta : TA} {r : PTA} (hr : SndA K mg E ta r) : SndE K mg E (tLst ta) (pLst r) := by
  intro H0 B H σ γ R X Q env p q qx
  refine hr H0 B H σ γ _ X _ env p (fun ss vs H1 h1 S1 t1 => ?_) qx
  split at h1
  · rename_i ds e
    have env1 := env.grow S1
    have rp := t1.shd (ds := ds) env1.same env.zm S1 (shds_map e)
    refine ⟨by rw [rp.len]; exact big1000 h1.1, fun l nl => ?_⟩
    exact q _ _ _ h1.2 (S1.trans (same_upd nl)) (own_new S1 nl rp)
  · exact h1.elim
/-! ### calls of defs -/
noncomputable abbrev Pc := List D → (S → Prop) → XR → Prop
noncomputable def spOf (mg : Str → Option Value) (c : Pc) (K : PySem.W.Frag) : Sp := fun vs H Q E => ∃ ds R X, Rps K H ds vs ∧ c ds R X ∧ (∀ s v H', R s → Same H H' → TV K (fun b => Mut (H b)) H H H' s v → Q v H') ∧ ∀ e H', X e → Same H H' → E (.ref (ExcR.clsOf mg e)) none H'
/-- a result as the caller has it -/
noncomputable def S.back : S → S
  | .bor d => argT d | .view o => .tmp o.d | s => s
theorem TV.back {s : S} {v : V} (env : EnvR K H0 B H1 σ γ) (S1 : Same H H1) (S2 : Same H1 H') (h : TV K (fun b => Mut (H1 b)) H1 H1 H' s v) : TV K (zof B γ σ) H0 H H' s.back v := by
  cases s with
  | bor d => exact argTR (fun b z => mut_same S2 (env.zm b z)) (Rp.mono S2 h)
  | sh d => exact Rp.mono (off_mono (Same.refl _) fun b _ _ z y => z (env.zm b y)) h
  | own ds =>
    obtain ⟨a, rfl, e0, r⟩ := h
    exact ⟨a, rfl, (fun b hb => S1.free (e0 b hb)), r.mono (off_mono (Same.refl _) fun b _ _ z y => z (y.imp (env.zm b) id)) fun _ _ _ q => q⟩
  | view ds =>
    obtain ⟨a, rfl, r⟩ := h
    exact r.rp off_sub
  | tmp d => exact h
noncomputable def pCall (c : Pc) (r : PTA) : PTE := fun γ R X => r γ (fun ss => c (ss.map S.d) (fun s => R s.back) fun _ => False) X
theorem se_call {c : Pc} {ta : TA} {r : PTA} (hr : SndA K mg E ta r) : SndE K mg E (tCall (spOf mg c K) [] E0 ta) (pCall c r) := by
  intro H0 B H σ γ R X Q env p q qx
  refine hr H0 B H σ γ _ X _ env p (fun ss vs H1 h1 S1 t1 => ?_) qx
  rw [List.append_nil]
  have env1 := env.grow S1
  exact ⟨_, _, _, t1.rps env1.same, h1, fun s v H' hs S2 tv => q _ _ H' hs (S1.trans S2) (tv.back env1 S1 S2), fun _ _ z => z.elim⟩
end
end Pu

namespace Pu
open PySem PySem.Spec PyProof.Rows L2 Own
section
variable {K : PySem.W.Frag} {mg : Str → Option Value} {E : L2.St → XK} {H0 H H1 H' : Hp} {B Z Z' : Addr → Prop} {σ : L2.St} {γ : Γ}
/-- a name gets a value, wherever it stands -/
theorem EnvR.set {i : Nat} {s s' : S} {v : V} (Ev : EnvR K H0 B H σ γ) (S1 : Same H H') (h : TV K (zof B γ σ) H0 H H' s v) (e : s.slot = some s') :
    EnvR K H0 B H' (σ.set i (some v)) (γ.set i (some s')) ∧ Fr B H σ γ H' (σ.set i (some v)) (γ.set i (some s')) := by
  by_cases hi : i < γ.length
  · exact Ev.put S1 h e hi
  · rw [List.set_eq_of_length_le (by rw [Ev.len]; omega), List.set_eq_of_length_le (by omega)]
    exact ⟨Ev.grow S1, Fr.grow S1⟩
/-! ### targets -/
noncomputable def Upd (is : List Nat) (σ σ' : L2.St) : Prop := (∀ j, j ∉ is → σ'[j]? = σ[j]?) ∧ σ'.length = σ.length
noncomputable def SndGi (K : PySem.W.Frag) (is : List Nat) (t : TG) (p : PTG) : Prop := ∀ (H0 : Hp) (B : Addr → Prop) (H H' : Hp) (σ : L2.St) (γ : Γ) (s : S) (v : V) (R : Γ → Prop) (Q : L2.St → Hp → Prop), EnvR K H0 B H σ γ → Same H H' → TV K (zof B γ σ) H0 H H' s v → p s γ R →
  (∀ σ' γ', R γ' → EnvR K H0 B H' σ' γ' → Fr B H σ γ H' σ' γ' → Upd is σ σ' → Q σ' H') → t v σ H' Q
noncomputable def pName (i : Nat) : PTG := fun s γ R => match s.slot with | some s' => R (γ.set i (some s')) | none => False
theorem sg_name (i : Nat) : SndGi K [i] (gName i) (pName i) := by
  intro H0 B H H' σ γ s v R Q env S1 tv p q
  unfold pName at p
  split at p
  · rename_i s' e
    obtain ⟨e1, f1⟩ := env.set (i := i) S1 tv e
    exact q _ _ p e1 f1 ⟨fun j hj => set_ne fun z => hj (by rw [z]; exact List.mem_singleton.mpr rfl), List.length_set⟩
  · exact p.elim
noncomputable def pGNil : PTGs := fun ss γ R => match ss with | [] => R γ | _ => False
noncomputable def pGCons (g : PTG) (r : PTGs) : PTGs := fun ss γ R => match ss with | s :: t => g s γ fun γ' => r t γ' R | [] => False
theorem TV.notown {s : S} {v : V} {σ' : L2.St} {γ' : Γ} {Hb : Hp} (f : Fr B H σ γ H' σ' γ') (hb : Same H H') (n : ∀ ds, s ≠ .own ds) (nv : ∀ ds, s ≠ .view ds) (h : TV K (zof B γ σ) H0 Hb H s v) : TV K (zof B γ' σ') H0 H' H' s v := by
  cases s with
  | bor d => exact h
  | sh d => exact Rp.mono f.off h
  | own ds => exact absurd rfl (n ds)
  | view ds => exact absurd rfl (nv ds)
  | tmp d => exact Rp.mono hb h
theorem TVs.notown {σ' : L2.St} {γ' : Γ} {Hb : Hp} (f : Fr B H σ γ H σ' γ') : ∀ {ss : List S} {vs : List V}, (∀ s ∈ ss, ∀ ds, s ≠ .own ds ∧ s ≠ .view ds) → TVs K (zof B γ σ) H0 Hb H ss vs → TVs K (zof B γ' σ') H0 H H ss vs
  | _, _, _, .nil => .nil
  | _, _, n, .cons h r => .cons (h.notown f (Same.refl _) (fun ds => (n _ List.mem_cons_self ds).1) fun ds => (n _ List.mem_cons_self ds).2) (TVs.notown f (fun s hs => n s (List.mem_cons_of_mem _ hs)) r)
theorem arg_cases (d : D) : arg d = .sh d ∨ arg d = .bor d := by unfold arg; cases imm d <;> simp
theorem argT_cases (d : D) : argT d = .sh d ∨ argT d = .tmp d := by unfold argT; cases imm d <;> simp
theorem sub_plain (s : S) (d : D) : ∀ ds, s.sub d ≠ .own ds ∧ s.sub d ≠ .view ds := fun ds => by
  cases s with
  | bor b => rcases arg_cases d with e | e <;> (show arg d ≠ _ ∧ arg d ≠ _; rw [e]; exact ⟨(fun z => by cases z), (fun z => by cases z)⟩)
  | tmp b => rcases argT_cases d with e | e <;> (show argT d ≠ _ ∧ argT d ≠ _; rw [e]; exact ⟨(fun z => by cases z), (fun z => by cases z)⟩)
  | sh b => exact ⟨(fun z => by cases z), (fun z => by cases z)⟩
  | own b => exact ⟨(fun z => by cases z), (fun z => by cases z)⟩
  | view b => exact ⟨(fun z => by cases z), (fun z => by cases z)⟩
noncomputable def SndGsj (K : PySem.W.Frag) (is : List Nat) (t : TGs) (p : PTGs) : Prop := ∀ (H0 : Hp) (B : Addr → Prop) (H : Hp) (σ : L2.St) (γ : Γ) (ss : List S) (vs : List V) (R : Γ → Prop) (Q : L2.St → Hp → Prop), EnvR K H0 B H σ γ → TVs K (zof B γ σ) H0 H H ss vs → (∀ s ∈ ss, ∀ ds, s ≠ .own ds ∧ s ≠ .view ds) → p ss γ R →
  (∀ σ' γ', R γ' → EnvR K H0 B H σ' γ' → Fr B H σ γ H σ' γ' → Upd is σ σ' → Q σ' H) → t vs σ H Q
theorem sgj_nil : SndGsj K [] gNil pGNil := by
  intro H0 B H σ γ ss vs R Q env tv no p q
  cases tv with
  | nil => exact ⟨rfl, q _ _ p env Fr.refl ⟨fun _ _ => rfl, rfl⟩⟩
  | cons _ _ => exact p.elim
theorem sgj_cons {is js : List Nat} {g : TG} {r : TGs} {pg : PTG} {pr : PTGs} (hg : SndGi K is g pg) (hr : SndGsj K js r pr) : SndGsj K (is ++ js) (gCons g r) (pGCons pg pr) := by
  intro H0 B H σ γ ss vs R Q env tv no p q
  cases tv with
  | nil => exact p.elim
  | cons h t =>
    refine ⟨_, _, rfl, hg H0 B H H σ γ _ _ _ _ env (Same.refl _) h p fun σ1 γ1 p1 e1 f1 k1 => ?_⟩
    refine hr H0 B H σ1 γ1 _ _ _ _ e1 (TVs.notown f1 (fun s hs => no s (List.mem_cons_of_mem _ hs)) t) (fun s hs => no s (List.mem_cons_of_mem _ hs)) p1 fun σ2 γ2 p2 e2 f2 k2 => ?_
    exact q σ2 γ2 p2 e2 (f1.trans f2) ⟨fun j hj => (k2.1 j fun z => hj (List.mem_append_right _ z)).trans (k1.1 j fun z => hj (List.mem_append_left _ z)), k2.2.trans k1.2⟩
noncomputable def pTupG (n : Nat) (r : PTGs) : PTG := fun s γ R => match s.d with | .tup ds => ds.length = n ∧ r (ds.map s.sub) γ R | _ => False
theorem TVs.of_part {ds : List D} {s : S} : ∀ {vs : List V} {ds : List D}, vs.length = ds.length → (∀ (i : Nat) d, ds[i]? = some d → ∃ u, vs[i]? = some u ∧ TV K Z H0 H H' (s.sub d) u) → TVs K Z H0 H H' (ds.map s.sub) vs
  | [], [], _, _ => .nil
  | [], _ :: _, e, _ => by cases e
  | _ :: _, [], e, _ => by cases e
  | v :: vs, d :: ds, e, h => by
    obtain ⟨u, h1, h2⟩ := h 0 d rfl
    cases h1
    exact .cons h2 (TVs.of_part (ds := ds) (by simpa using e) fun i d' hd => by simpa using h (i + 1) d' (by simpa using hd))
theorem sg_tup {n : Nat} {is : List Nat} {r : TGs} {pr : PTGs} (hr : SndGsj K is r pr) : SndGi K is (gTup K n r) (pTupG n pr) := by
  intro H0 B H H' σ γ s v R Q env S1 tv p q
  unfold pTupG at p
  have env1 := env.grow S1
  obtain ⟨_, pt⟩ := tv.part env1.same env.zm S1
  split at p
  · rename_i ds e
    obtain ⟨a, vs, rfl, ha, hn, hp⟩ := pt ds e
    refine ⟨a, vs, rfl, SqT.of ha, hn.trans p.1, ?_⟩
    have tvs := TVs.of_part (ds := ds) hn hp
    refine hr H0 B H' σ γ _ vs R Q env1 (TVs.notown (Fr.refl) (fun s' hs ds => ?_) tvs) (fun s' hs ds => ?_) p.2 fun σ' γ' hR e1 f1 k1 => q σ' γ' hR e1 (Fr.trans (Fr.grow S1) f1) k1
    · obtain ⟨d, _, rfl⟩ := List.mem_map.mp hs
      exact sub_plain s d ds
    · obtain ⟨d, _, rfl⟩ := List.mem_map.mp hs
      exact sub_plain s d ds
  · exact p.elim

/-! ### statements -/
theorem EndR.from {R : PEnds} {D : Ends} {σ1 : L2.St} {γ1 : Γ} (e : EndR K mg E H0 B H σ γ R D) (f : Fr B H σ γ H1 σ1 γ1) : EndR K mg E H0 B H1 σ1 γ1 R D :=
  ⟨fun σ' γ' H' h1 h2 h3 => e.nx σ' γ' H' h1 h2 (f.trans h3), e.rt, fun σ' γ' c H' h1 h2 h3 => e.ex σ' γ' c H' h1 h2 (f.trans h3), fun σ' γ' H' h1 h2 h3 => e.bk σ' γ' H' h1 h2 (f.trans h3), fun σ' γ' H' h1 h2 h3 => e.ct σ' γ' H' h1 h2 (f.trans h3), fun σ' γ' d v H' h1 h2 h3 => e.rv σ' γ' d v H' h1 h2 (f.trans h3)⟩
variable {te : TE} {a : PTE} {tt : TT} {c : PTT} {t u : TS} {p q : PTS}
noncomputable def pNext : PTS := fun R γ => R.nx γ
theorem ss_next : SndS K mg E tNext pNext := fun _ _ _ _ _ _ _ _ env h e => e.nx _ _ _ h env Fr.refl
noncomputable def pSeq (p q : PTS) : PTS := fun R γ => p { R with nx := q R } γ
theorem ss_seq (hp : SndS K mg E t p) (hq : SndS K mg E u q) : SndS K mg E (tSeq t u) (pSeq p q) := by
  intro H0 B H σ γ R D hB env h e
  refine hp H0 B H σ γ _ _ hB env h ⟨fun σ' γ' H' h1 e1 f1 => ?_, e.rt, e.ex, e.bk, e.ct, e.rv⟩
  exact hq H0 B H' σ' γ' R D hB e1 h1 (e.from f1)
/-- the same statement, one's own list at i shared ahead of it -/
noncomputable def pFrz (i : Nat) (p : PTS) : PTS := fun R γ => p R (frz i γ)
theorem ss_frz (i : Nat) (hp : SndS K mg E t p) : SndS K mg E t (pFrz i p) := by
  intro H0 B H σ γ R D hB env h e
  obtain ⟨e1, f1⟩ := env.frz hB i
  exact hp H0 B H σ _ R D hB e1 h (e.from f1)
noncomputable def pAsg (a : PTE) (g : PTG) : PTS := fun R γ => a γ (fun s => g s γ R.nx) (R.ex γ)
theorem ss_asg {is : List Nat} {g : TG} {pg : PTG} (ha : SndE K mg E te a) (hg : SndGi K is g pg) : SndS K mg E (tAsg te g) (pAsg a pg) := by
  intro H0 B H σ γ R D hB env h e
  refine ha H0 B H σ γ _ _ _ env h (fun s v H1 h1 S1 t1 => ?_) fun c H' hc S' => e.ex σ γ c H' hc (env.grow S') (Fr.grow S')
  exact hg H0 B H H1 σ γ s v _ _ env S1 t1 h1 fun σ' γ' h2 e2 f2 _ => e.nx σ' γ' H1 h2 e2 f2
noncomputable def pAug (i : Nat) (f : Int → Int → Int) (a : PTE) : PTS := fun R γ => match γ[i]? with
  | some (some (.sh (.int x))) => a γ (fun y => match y.d with | .int j => R.nx (γ.set i (some (.sh (.int (f x j))))) | _ => False) (R.ex γ)
  | _ => False
noncomputable def pRet (a : PTE) : PTS := fun R γ => a γ R.rt (R.ex γ)
theorem ss_ret (ha : SndE K mg E te a) : SndS K mg E (tRet te) (pRet a) := by
  intro H0 B H σ γ R D hB env h e
  refine ha H0 B H σ γ _ _ _ env h (fun s v H1 h1 S1 t1 => ?_) fun c H' hc S' => e.ex σ γ c H' hc (env.grow S') (Fr.grow S')
  exact e.rt s v H1 h1 (env.same.trans S1) (TV.weak env.same (fun b z => .inl z) t1)
/-- return name -/
noncomputable def pRetV (i : Nat) : PTS := fun R γ => match γ[i]? with | some (some s) => R.rt s | _ => False
theorem ss_retV (i : Nat) : SndS K mg E (tRet (tVar i)) (pRetV i) := by
  intro H0 B H σ γ R D hB env h e
  unfold pRetV at h
  split at h
  · rename_i s hs
    obtain ⟨v, h1, h2⟩ := env.slot i _ hs
    refine ⟨v, h1, e.rt s v H h env.same ?_⟩
    cases s with
    | bor d => exact h2
    | sh d => exact Rp.mono (off_mono (Same.refl _) fun b _ _ z y => z (.inl y)) h2
    | own ds =>
      obtain ⟨l, rfl, e2, e3⟩ := h2
      exact ⟨l, rfl, e2, e3.mono (off_mono (Same.refl _) fun b _ _ z y => z (y.elim .inl fun w => .inr ⟨i, ds, l, hs, h1, w⟩)) fun _ _ _ q => q⟩
    | view ds => exact h2.elim
    | tmp d => exact h2.elim
  · exact h.elim
noncomputable def pIfS (c : PTT) (p q : PTS) : PTS := fun R γ => c γ (fun b => if b = true then p R γ else q R γ) (R.ex γ)
theorem ss_if (hc : SndT K mg E tt c) (hp : SndS K mg E t p) (hq : SndS K mg E u q) : SndS K mg E (tIfS tt t u) (pIfS c p q) := by
  intro H0 B H σ γ R D hB env h e
  refine hc H0 B H σ γ _ _ _ env h (fun b H1 h1 S1 => ?_) fun c H' hc S' => e.ex σ γ c H' hc (env.grow S') (Fr.grow S')
  split at h1
  · rename_i hb
    rw [if_pos hb]
    exact hp H0 B H1 σ γ R D hB (env.grow S1) h1 (e.from (Fr.grow S1))
  · rename_i hb
    rw [if_neg hb]
    exact hq H0 B H1 σ γ R D hB (env.grow S1) h1 (e.from (Fr.grow S1))
noncomputable def pDrop (a : PTE) : PTS := fun R γ => a γ (fun _ => R.nx γ) (R.ex γ)
theorem ss_drop (ha : SndE K mg E te a) : SndS K mg E (tDrop te) (pDrop a) := by
  intro H0 B H σ γ R D hB env h e
  exact ha H0 B H σ γ _ _ _ env h (fun s v H1 h1 S1 t1 => e.nx σ γ H1 h1 (env.grow S1) (Fr.grow S1)) fun c H' hc S' => e.ex σ γ c H' hc (env.grow S') (Fr.grow S')
noncomputable def pNever : PTS := fun _ _ => False
theorem ss_never : SndS K mg E tNever pNever := fun _ _ _ _ _ _ _ _ _ h _ => h
theorem TVs.len : ∀ {ss : List S} {vs : List V}, TVs K Z H0 H H' ss vs → vs.length = ss.length
  | _, _, .nil => rfl
  | _, _, .cons _ r => congrArg (· + 1) (TVs.len r)
/-! ### names let go -/
noncomputable def clr : List Nat → Γ → Γ
  | [], γ => γ
  | i :: r, γ => clr r (γ.set i none)
theorem EnvR.clr : ∀ (is : List Nat) {γ : Γ}, EnvR K H0 B H σ γ → EnvR K H0 B H σ (clr is γ) ∧ Fr B H σ γ H σ (Pu.clr is γ)
  | [], _, e => ⟨e, Fr.refl⟩
  | i :: r, γ, e => by
    obtain ⟨e1, f1⟩ := e.drop i
    obtain ⟨e2, f2⟩ := EnvR.clr r e1
    exact ⟨e2, f1.trans f2⟩
/-! ### loops -/
/-- a later heap, apart from Z' -/
noncomputable def Later (H0 : Hp) (Z : Addr → Prop) (H1 : Hp) (Z' : Addr → Prop) (H' : Hp) : Prop := Same H0 H' ∧ (∀ b, Z' b → Mut (H' b)) ∧ ∀ b o, H1 b = some o → ¬ Z b → H' b = some o ∧ ¬ Z' b
theorem Later.of {σ' : L2.St} {γ' : Γ} (e : EnvR K H0 B H' σ' γ') (f : Fr B H1 σ γ H' σ' γ') : Later H0 (zof B γ σ) H1 (zof B γ' σ') H' := ⟨e.same, e.zm, f⟩
theorem Later.off (l : Later H0 Z H1 Z' H') : Same (off Z H1) (Pu.off Z' H') := fun b o h => by
  obtain ⟨h1, h2⟩ := off_in h
  obtain ⟨h3, h4⟩ := l.2.2 b o h1 h2
  exact off_of h3 h4
structure ItOk (K : PySem.W.Frag) (H0 : Hp) (B : Addr → Prop) (H1 : Hp) (σ : L2.St) (γ : Γ) (J : It) (n : Nat) (item : Nat → S) : Prop where
  go : ∀ (i : Nat) (H' : Hp) (Z' : Addr → Prop), i < n → Later H0 (zof B γ σ) H1 Z' H' → J.go i H' ∧ ∀ x H'', J.yld i H' x H'' → Same H' H'' ∧ TV K Z' H0 H' H'' (item i) x
  stop : ∀ (H' : Hp) (Z' : Addr → Prop), Later H0 (zof B γ σ) H1 Z' H' → J.stop n H'
noncomputable abbrev PTI := Γ → (Nat → (Nat → S) → Prop) → XR → Prop
noncomputable def SndI (K : PySem.W.Frag) (mg : Str → Option Value) (E : L2.St → XK) (wi : TI) (it : PTI) : Prop := ∀ (H0 : Hp) (B : Addr → Prop) (H : Hp) (σ : L2.St) (γ : Γ) (R : Nat → (Nat → S) → Prop) (X : XR) (Q : It → Hp → Prop), EnvR K H0 B H σ γ → it γ R X →
  (∀ n item J H1, R n item → Same H H1 → ItOk K H0 B H1 σ γ J n item → Q J H1) → (∀ c H', X c → Same H H' → E σ (.ref (ExcR.clsOf mg c)) none H') → wi σ H Q
structure ForW (js : List Nat) (γ : Γ) (g : PTG) (body : PTS) (R : PEnds) (n : Nat) (item : Nat → S) : Prop where
  w : ∃ inv : Nat → Γ → Prop, inv 0 (clr js γ) ∧
  (∀ i γ', i < n → inv i γ' → g (item i) γ' fun γ2 => body { R with nx := fun γ3 => inv (i + 1) (clr js γ3), ct := fun γ3 => inv (i + 1) (clr js γ3), bk := R.nx } γ2) ∧ ∀ γ', inv n γ' → R.nx γ'
noncomputable def pFor (js : List Nat) (it : PTI) (g : PTG) (body : PTS) : PTS := fun R γ => it γ (fun n item => ForW js γ g body R n item) (R.ex γ)
theorem ss_for {is : List Nat} {wi : TI} {g : TG} {it : PTI} {pg : PTG} (js : List Nat) (hi : SndI K mg E wi it) (hg : SndGi K is g pg) (hb : SndS K mg E t p) : SndS K mg E (tFor wi g t) (pFor js it pg p) := by
  intro H0 B H σ γ R D hB env h e
  refine hi H0 B H σ γ _ _ _ env h (fun n item J H1 h1 S1 ok => ?_) fun c H' hc S' => e.ex σ γ c H' hc (env.grow S') (Fr.grow S')
  obtain ⟨inv, h0, hs, hd⟩ := h1.w
  have env1 := env.grow S1
  refine ⟨fun i m σ' H' => m = n - i ∧ i ≤ n ∧ ∃ γ', inv i γ' ∧ EnvR K H0 B H' σ' γ' ∧ Fr B H1 σ γ H' σ' γ', ⟨n, by simp, Nat.zero_le _, _, h0, (env1.clr js).1, (env1.clr js).2⟩, ?_⟩
  rintro i m σ' H' ⟨rfl, hin, γ', hi', e', f'⟩
  by_cases hlt : i < n
  · obtain ⟨go, yl⟩ := ok.go i H' _ hlt (Later.of e' f')
    refine .inr ⟨go, fun σ2 H2 => ∃ γ2, inv (i + 1) γ2 ∧ EnvR K H0 B H2 σ2 γ2 ∧ Fr B H1 σ γ H2 σ2 γ2, fun σ2 H2 ⟨γ2, a1, a2, a3⟩ => ⟨n - (i + 1), by omega, rfl, hlt, γ2, a1, a2, a3⟩, fun x H'' y => ?_⟩
    obtain ⟨S2, tv⟩ := yl x H'' y
    refine hg H0 B H' H'' σ' γ' _ _ _ _ e' S2 tv (hs i γ' hlt hi') fun σ2 γ2 q2 e2 f2 _ => ?_
    have fall := f'.trans f2
    refine hb H0 B H'' σ2 γ2 _ _ hB e2 q2 ⟨fun σ3 γ3 H3 q3 e3 f3 => ?_, e.rt, fun σ3 γ3 c H3 q3 e3 f3 => e.ex σ3 γ3 c H3 q3 e3 ((Fr.grow S1).trans (fall.trans f3)), fun σ3 γ3 H3 q3 e3 f3 => e.nx σ3 γ3 H3 q3 e3 ((Fr.grow S1).trans (fall.trans f3)), fun σ3 γ3 H3 q3 e3 f3 => ?_, fun σ3 γ3 d v H3 q3 e3 f3 => e.rv σ3 γ3 d v H3 q3 e3 ((Fr.grow S1).trans (fall.trans f3))⟩
    · exact ⟨_, q3, (e3.clr js).1, (fall.trans f3).trans (e3.clr js).2⟩
    · exact ⟨_, q3, (e3.clr js).1, (fall.trans f3).trans (e3.clr js).2⟩
  · have : i = n := by omega
    subst this
    exact .inl ⟨ok.stop H' _ (Later.of e' f'), e.nx σ' γ' H' (hd γ' hi') e' ((Fr.grow S1).trans f')⟩
/-- a list that lasts -/
noncomputable def S.fix : S → Bool
  | .bor _ => true | .sh _ => true | .own _ => true | _ => false
noncomputable def pIL (a : PTE) : PTI := fun γ R X => a γ (fun s => match s.d with
  | .lst ds => s.fix = true ∧ R ds.length fun i => s.sub (ds.getD i .non)
  | .scr ns => s.fix = true ∧ R ns.length fun i => .sh (.int (ns.getD i 0))
  | _ => False) X
theorem TV.last {s : S} {v : V} {ds : List D} (env : EnvR K H0 B H σ γ) (S1 : Same H H1) (tv : TV K (zof B γ σ) H0 H H1 s v) (hf : s.fix = true) (hd : s.d = .lst ds) : ∃ l vs, v = .ref l ∧ vs.length = ds.length ∧
    ∀ (H' : Hp) (Z' : Addr → Prop), Later H0 (zof B γ σ) H1 Z' H' → H' l = some (.lst vs) ∧ ∀ (i : Nat) d, ds[i]? = some d → ∃ u, vs[i]? = some u ∧ TV K Z' H0 H' H' (s.sub d) u := by
  have env1 := env.grow S1
  have key : ∀ {s : S}, (∀ d, s.sub d = .sh d) → Rp K (Pu.off (zof B γ σ) H1) (.lst ds) v → ∃ l vs, v = .ref l ∧ vs.length = ds.length ∧
      ∀ (H' : Hp) (Z' : Addr → Prop), Later H0 (zof B γ σ) H1 Z' H' → H' l = some (.lst vs) ∧ ∀ (i : Nat) d, ds[i]? = some d → ∃ u, vs[i]? = some u ∧ TV K Z' H0 H' H' (s.sub d) u := fun hs h => by
    obtain ⟨l, vs, rfl, h1, h2⟩ := Rp.lst_inv h
    refine ⟨l, vs, rfl, h2.len, fun H' Z' lt => ⟨off_sub _ _ (lt.off _ _ h1), fun i d hi => ?_⟩⟩
    obtain ⟨u, h3, h4⟩ := h2.get hi
    refine ⟨u, h3, ?_⟩
    rw [hs]
    exact Rp.mono lt.off h4
  cases s with
  | bor d =>
    have tv := Rp.strip tv
    rw [show d.strip = .lst ds from hd] at tv
    obtain ⟨l, vs, rfl, h1, h2⟩ := Rp.lst_inv tv
    refine ⟨l, vs, rfl, h2.len, fun H' Z' lt => ⟨lt.1 _ _ h1, fun i d hi => ?_⟩⟩
    obtain ⟨u, h3, h4⟩ := h2.get hi
    exact ⟨u, h3, argR lt.2.1 lt.1 h4⟩
  | sh d =>
    have : d = .lst ds := hd
    subst this
    exact key (fun _ => rfl) tv
  | own es =>
    cases es with
    | lst es =>
      cases hd
      exact key (fun _ => rfl) (tv.shd env1.same env.zm S1 rfl)
    | dK es => cases hd
    | dT es => cases hd
    | ins x C xs cs => cases hd
  | view es => cases hf
  | tmp d => cases hf
theorem si_list {te : TE} {a : PTE} (ha : SndE K mg E te a) : SndI K mg E (iList K te) (pIL a) := by
  intro H0 B H σ γ R X Q env h q qx
  refine ha H0 B H σ γ _ X _ env h (fun s v H1 h1 S1 t1 => ?_) qx
  have env1 := env.grow S1
  split at h1
  · rename_i ds ed
    obtain ⟨l, vs, rfl, hn, hl⟩ := t1.last env S1 h1.1 ed
    obtain ⟨hl1, _⟩ := hl H1 _ (Later.of env1 Fr.refl)
    refine ⟨l, rfl, ⟨vs, SqL.of hl1⟩, q _ _ _ H1 h1.2 S1 ⟨fun i H' Z' hi lt => ?_, fun H' Z' lt => ?_⟩⟩
    · obtain ⟨k1, k2⟩ := hl H' Z' lt
      have hd : ds[i]? = some (ds.getD i .non) := by rw [List.getD_eq_getElem?_getD, List.getElem?_eq_getElem hi]; rfl
      obtain ⟨u, hu, tu⟩ := k2 i _ hd
      refine ⟨⟨vs, u, SqL.of k1, hu⟩, fun x H'' y => ?_⟩
      obtain ⟨rfl, y⟩ := y
      have := y vs (SqL.of k1)
      rw [hu] at this
      cases this
      exact ⟨Same.refl _, tu⟩
    · exact ⟨vs, SqL.of (hl H' Z' lt).1, by omega⟩
  · rename_i ns ed
    have hs : ∃ l, v = .ref l ∧ ∀ (H' : Hp) (Z' : Addr → Prop), Later H0 (zof B γ σ) H1 Z' H' → SqL K H' l (ns.map V.int) := by
      cases s with
      | bor d =>
        have t1 := Rp.strip t1
        rw [show d.strip = .scr ns from ed] at t1
        cases t1 with
        | scr hs => exact ⟨_, rfl, fun H' Z' lt => lt.1.seq hs⟩
      | sh d =>
        have : d = .scr ns := ed
        subst this
        cases t1 with
        | scr hs => exact ⟨_, rfl, fun H' Z' lt => off_sub.seq (lt.off.seq hs)⟩
      | own es => cases es <;> cases ed
      | view es => cases es <;> cases ed
      | tmp d => cases h1.1
    obtain ⟨l, rfl, hl⟩ := hs
    refine ⟨l, rfl, ⟨_, hl H1 _ (Later.of env1 Fr.refl)⟩, q _ _ _ H1 h1.2 S1 ⟨fun i H' Z' hi lt => ?_, fun H' Z' lt => ?_⟩⟩
    · have k1 := hl H' Z' lt
      have hu : (ns.map V.int)[i]? = some (.int (ns.getD i 0)) := by
        rw [List.getElem?_map, List.getElem?_eq_getElem hi, List.getD_eq_getElem?_getD, List.getElem?_eq_getElem hi]
        rfl
      refine ⟨⟨_, _, k1, hu⟩, fun x H'' y => ?_⟩
      obtain ⟨rfl, y⟩ := y
      have := y _ k1
      rw [hu] at this
      cases this
      exact ⟨Same.refl _, .int _⟩
    · exact ⟨_, hl H' Z' lt, by rw [List.length_map]; exact Nat.le_refl _⟩
  · exact h1.elim
theorem Rps.one_inv {d : D} {vs : List V} (h : Rps K H [d] vs) : ∃ v, vs = [v] ∧ Rp K H d v := by
  cases h with
  | cons h r => cases r; exact ⟨_, rfl, h⟩
theorem Rps.two_inv {d e : D} {vs : List V} (h : Rps K H [d, e] vs) : ∃ v u, vs = [v, u] ∧ Rp K H d v ∧ Rp K H e u := by
  cases h with
  | cons h r => cases r with | cons h2 r => cases r; exact ⟨_, _, rfl, h, h2⟩
structure WhileW (js : List Nat) (γ : Γ) (c : PTT) (body : PTS) (R : PEnds) : Prop where
  w : ∃ (inv : Γ → Prop) (μ : Γ → Nat), inv (clr js γ) ∧ ∀ γ', inv γ' → c γ' (fun b => if b = true then
    body { R with nx := fun γ3 => inv (clr js γ3) ∧ μ (clr js γ3) < μ γ', ct := fun γ3 => inv (clr js γ3) ∧ μ (clr js γ3) < μ γ', bk := R.nx } γ' else R.nx γ') (R.ex γ')
noncomputable def pWhile (js : List Nat) (c : PTT) (body : PTS) : PTS := fun R γ => WhileW js γ c body R
theorem ss_while (js : List Nat) (hc : SndT K mg E tt c) (hb : SndS K mg E t p) : SndS K mg E (tWhile tt t) (pWhile js c p) := by
  intro H0 B H σ γ R D hB env h e
  obtain ⟨inv, μ, h0, hs⟩ := h.w
  refine ⟨fun m σ' H' => ∃ γ', m = μ γ' ∧ inv γ' ∧ EnvR K H0 B H' σ' γ' ∧ Fr B H σ γ H' σ' γ', ⟨_, _, rfl, h0, (env.clr js).1, (env.clr js).2⟩, ?_⟩
  rintro m σ' H' ⟨γ', rfl, hi, e', f'⟩
  refine hc H0 B H' σ' γ' _ _ _ e' (hs γ' hi) (fun b H1 h1 S1 => ?_) fun c H'' hc S' => e.ex σ' γ' c H'' hc (e'.grow S') (f'.trans (Fr.grow S'))
  have e1 := e'.grow S1
  have f1 := f'.trans (Fr.grow S1)
  cases b with
  | false =>
    rw [if_neg Bool.false_ne_true] at h1 ⊢
    exact e.nx σ' γ' H1 h1 e1 f1
  | true =>
    rw [if_pos rfl] at h1 ⊢
    refine ⟨fun σ2 H2 => ∃ γ2, μ γ2 < μ γ' ∧ inv γ2 ∧ EnvR K H0 B H2 σ2 γ2 ∧ Fr B H σ γ H2 σ2 γ2, fun σ2 H2 ⟨γ2, k, a1, a2, a3⟩ => ⟨_, k, γ2, rfl, a1, a2, a3⟩, ?_⟩
    refine hb H0 B H1 σ' γ' _ _ hB e1 h1 ⟨fun σ3 γ3 H3 q3 e3 f3 => ?_, e.rt, fun σ3 γ3 c H3 q3 e3 f3 => e.ex σ3 γ3 c H3 q3 e3 (f1.trans f3), fun σ3 γ3 H3 q3 e3 f3 => e.nx σ3 γ3 H3 q3 e3 (f1.trans f3), fun σ3 γ3 H3 q3 e3 f3 => ?_, fun σ3 γ3 d v H3 q3 e3 f3 => e.rv σ3 γ3 d v H3 q3 e3 (f1.trans f3)⟩
    · exact ⟨_, q3.2, q3.1, (e3.clr js).1, (f1.trans f3).trans (e3.clr js).2⟩
    · exact ⟨_, q3.2, q3.1, (e3.clr js).1, (f1.trans f3).trans (e3.clr js).2⟩
end
end Pu

namespace Pu
open PySem PySem.Spec PyProof.Rows L2 Own
section
variable {K : PySem.W.Frag} {mg : Str → Option Value} {E : L2.St → XK} {H0 H H1 H' : Hp} {B Z Z' : Addr → Prop} {σ : L2.St} {γ : Γ}
/-! ### a def by its body -/
noncomputable def startP (N : List Str) (ds : List D) : Γ := ds.map (fun d => some (arg d)) ++ List.replicate (N.length - ds.length) none
theorem start_env {N : List Str} {ds : List D} {vs : List V} (r : Rps K H ds vs) (hn : ds.length ≤ N.length) : EnvR K H (fun b => Mut (H b)) H (start N vs) (startP N ds) := by
  have hlen := r.len
  have get : ∀ (i : Nat) (s : S), (startP N ds)[i]? = some (some s) → ∃ d, ds[i]? = some d ∧ s = arg d := fun i s h => by
    unfold startP at h
    by_cases hi : i < ds.length
    · rw [List.getElem?_append_left (by rw [List.length_map]; exact hi), List.getElem?_map, List.getElem?_eq_getElem hi] at h
      exact ⟨_, List.getElem?_eq_getElem hi, (Option.some.inj (Option.some.inj h)).symm⟩
    · rw [List.getElem?_append_right (by rw [List.length_map]; omega), List.getElem?_replicate] at h
      split at h <;> cases h
  have noown : ∀ (i : Nat) (es : O), (startP N ds)[i]? ≠ some (some (.own es)) := fun i es h => by
    obtain ⟨d, _, e⟩ := get i _ h
    rcases arg_cases d with q | q <;> rw [q] at e <;> cases e
  refine ⟨Same.refl _, ?_, fun b h => h, fun i j a a' es es' b h => absurd h (noown i es), fun i s h => ?_⟩
  · unfold L2.start startP
    simp [hlen]
  · obtain ⟨d, hd, rfl⟩ := get i s h
    obtain ⟨v, hv, rv⟩ := r.get hd
    refine ⟨v, ?_, ?_⟩
    · unfold L2.start
      rw [List.getElem?_append_left (by rw [List.length_map]; exact (List.getElem?_eq_some_iff.mp hv).1), List.getElem?_map, hv]
      rfl
    · have tv := argR (K := K) (Z := zof (fun b => Mut (H b)) (startP N ds) (start N vs)) (H0 := H) (H := H) (H' := H) (fun b z => z.elim id fun ⟨k, es, _, k1, _⟩ => absurd k1 (noown k es)) (Same.refl _) rv
      rcases arg_cases d with q | q <;> rw [q] at tv ⊢ <;> exact tv
theorem fn_use {c : Pc} {N : List Str} {t : TS} {p : PTS} {vs : List V} {Q : VK} {Ec : XK} {n : Nat} (h : spOf mg c K vs H Q Ec) (snd : SndS K mg (fun _ => Ec) t p) (hn : n ≤ N.length)
    (hp : ∀ ds R X, c ds R X → ds.length = n ∧ p { nx := fun _ => R (.sh .non), rt := R, ex := fun _ e => X e } (startP N ds)) : t { nx := fun _ H' => Q .non H', rt := Q } (start N vs) H := by
  obtain ⟨ds, R, X, r, hc, hQ, hX⟩ := h
  obtain ⟨e, hp⟩ := hp ds R X hc
  refine snd H (fun b => Mut (H b)) H _ _ _ _ (fun b z => mut_some z) (start_env r (by rw [e]; exact hn)) hp ⟨fun σ' γ' H' h1 e1 f1 => hQ _ _ H' h1 e1.same .non, fun s v H' h1 S1 tv => hQ s v H' h1 S1 tv, fun σ' γ' c H' h1 e1 f1 => hX c H' h1 e1.same, fun _ _ _ z => z.elim, fun _ _ _ z => z.elim, fun _ _ _ _ _ z => z.elim⟩
theorem spOf_len {c : Pc} {vs : List V} {Q : VK} {Ec : XK} {n : Nat} (h : spOf mg c K vs H Q Ec) (hn : ∀ ds R X, c ds R X → ds.length = n) : vs.length = n := by
  obtain ⟨ds, R, X, r, hc, _⟩ := h
  rw [r.len]
  exact hn ds R X hc
/-! ### a comprehension -/
noncomputable def atP (φ : List (Option Nat)) (γ : Γ) : Γ := φ.map fun o => o.bind fun j => (γ[j]?).join
structure CompW (φ : List (Option Nat)) (γ : Γ) (g : PTG) (c : PTT) (e : PTE) (n : Nat) (item : Nat → S) (R : S → Prop) : Prop where
  w : n ≤ 100000 ∧ ∃ f : Nat → Option D, (∀ i, i < n → g (item i) (atP φ γ) fun γ2 => c γ2 (fun b => if b = true then e γ2 (fun s => ∃ d, s.shd = some d ∧ f i = some d) (fun _ => False) else f i = none) (fun _ => False)) ∧ R (.own ((List.range n).filterMap f))
noncomputable def pComp (φ : List (Option Nat)) (it : PTI) (g : PTG) (c : PTT) (e : PTE) : PTE := fun γ R X => it γ (fun n item => CompW φ γ g c e n item R) X
theorem atP_get {φ : List (Option Nat)} {i : Nat} {s : S} (h : (atP φ γ)[i]? = some (some s)) : ∃ j, φ[i]? = some (some j) ∧ γ[j]? = some (some s) := by
  unfold atP at h
  rw [List.getElem?_map] at h
  cases e : φ[i]? with
  | none => rw [e] at h; cases h
  | some o =>
    rw [e] at h
    cases o with
    | none => simp at h
    | some j =>
      refine ⟨j, rfl, ?_⟩
      simp at h
      cases e2 : γ[j]? with
      | none => rw [e2] at h; simp at h
      | some w => rw [e2] at h; simp at h; rw [h]
theorem inj_of : ∀ {φ : List (Option Nat)}, (φ.filterMap id).Nodup → ∀ (i j k : Nat), φ[i]? = some (some k) → φ[j]? = some (some k) → i = j
  | [], _, i, _, _, h, _ => by simp at h
  | none :: r, hn, i, j, k, h1, h2 => by
    cases i with
    | zero => simp at h1
    | succ i =>
      cases j with
      | zero => simp at h2
      | succ j => exact congrArg (· + 1) (inj_of (φ := r) (by simpa using hn) i j k (by simpa using h1) (by simpa using h2))
  | some m :: r, hn, i, j, k, h1, h2 => by
    have hn' : m ∉ r.filterMap id ∧ (r.filterMap id).Nodup := by simpa using hn
    have mem : ∀ {j : Nat}, r[j]? = some (some k) → k ∈ r.filterMap id := fun h => List.mem_filterMap.mpr ⟨some k, List.mem_of_getElem? h, rfl⟩
    cases i with
    | zero =>
      cases j with
      | zero => rfl
      | succ j =>
        have e : m = k := by simpa using h1
        subst e
        exact absurd (mem (by simpa using h2)) hn'.1
    | succ i =>
      cases j with
      | zero =>
        have e : m = k := by simpa using h2
        subst e
        exact absurd (mem (by simpa using h1)) hn'.1
      | succ j => exact congrArg (· + 1) (inj_of (φ := r) hn'.2 i j k (by simpa using h1) (by simpa using h2))
/-- the names of the block within -/
theorem atStart_got {φ : List (Option Nat)} {i j : Nat} (h1 : φ[i]? = some (some j)) {v : V} (h2 : σ[j]? = some (some v)) : (atStart φ σ)[i]? = some (some v) := by
  unfold atStart
  rw [List.getElem?_map, h1]
  simp [h2]
theorem atStart_z {φ : List (Option Nat)} {L : Addr} (env : EnvR K H0 B H σ γ) (nL : H L = none) : ∀ b o, H b = some o → ¬ zof B γ σ b → ¬ zof (fun b => zof B γ σ b ∨ b = L) (atP φ γ) (atStart φ σ) b := fun b o hb z y => by
  rcases y with (y | y) | ⟨i', ds, x, y1, y2, y3⟩
  · exact z y
  · rw [y, nL] at hb; cases hb
  · obtain ⟨m, m1, m2⟩ := atP_get y1
    obtain ⟨w, w1, _⟩ := env.slot m _ m2
    rw [atStart_got m1 w1] at y2
    exact z (.inr ⟨m, ds, x, m2, by rw [w1]; exact congrArg some (Option.some.inj y2), y3⟩)
theorem atStart_env {φ : List (Option Nat)} {L : Addr} (env : EnvR K H0 B H σ γ) (S1 : Same H H') (nL : H L = none) (hL : ∃ ys, H' L = some (.lst ys)) (hφ : (φ.filterMap id).Nodup) :
    EnvR K H0 (fun b => zof B γ σ b ∨ b = L) H' (atStart φ σ) (atP φ γ) := by
  refine ⟨env.same.trans S1, by unfold atStart atP; simp, fun b z => ?_, fun i j a a' ds es b h1 h2 h3 h4 h5 h6 => ?_, fun i s h => ?_⟩
  · rcases z with z | rfl
    · exact mut_same S1 (env.zm b z)
    · obtain ⟨ys, e⟩ := hL
      rw [e]
      trivial
  · obtain ⟨k, k1, k2⟩ := atP_get h1
    obtain ⟨l, l1, l2⟩ := atP_get h2
    obtain ⟨v, v1, _⟩ := env.slot k _ k2
    obtain ⟨u, u1, _⟩ := env.slot l _ l2
    rw [atStart_got k1 v1] at h3
    rw [atStart_got l1 u1] at h4
    have := env.own k l a a' ds es b k2 l2 (by rw [v1]; exact congrArg some (Option.some.inj h3)) (by rw [u1]; exact congrArg some (Option.some.inj h4)) h5 h6
    subst this
    exact inj_of hφ i j k k1 l1
  · obtain ⟨k, k1, k2⟩ := atP_get h
    obtain ⟨v, v1, v2⟩ := env.slot k _ k2
    have So : Same (off (zof B γ σ) H) (off (zof (fun b => zof B γ σ b ∨ b = L) (atP φ γ) (atStart φ σ)) H') := off_mono S1 (atStart_z env nL)
    refine ⟨v, atStart_got k1 v1, ?_⟩
    cases s with
    | bor d => exact v2
    | sh d => exact Rp.mono So v2
    | own ds =>
      obtain ⟨a, e1, e3, e4⟩ := v2
      exact ⟨a, e1, e3, e4.mono So fun b _ x => S1 b x⟩
    | view ds => exact v2
    | tmp d => exact v2
theorem Sub.of {σ σ' : L2.St} {is : List Nat} (hl : σ'.length = σ.length) (h1 : ∀ j, j ∉ is → σ'[j]? = σ[j]?) (h2 : ∀ j ∈ is, ∀ v, σ[j]? ≠ some (some v)) : Sub σ σ' := ⟨hl, fun i v e => by
  by_cases hi : i ∈ is
  · exact absurd e (h2 i hi v)
  · rw [h1 i hi]; exact e⟩
structure ItOkC (K : PySem.W.Frag) (H0 : Hp) (B : Addr → Prop) (H1 : Hp) (σ : L2.St) (γ : Γ) (J : It) (n : Nat) (item : Nat → S) : Prop where
  go : ∀ (i : Nat) (H' : Hp) (Z' : Addr → Prop), i < n → Same H1 H' → Later H0 (zof B γ σ) H1 Z' H' → J.go i H' ∧ ∀ x H'', J.yld i H' x H'' → Same H' H'' ∧ TV K Z' H0 H' H'' (item i) x
  stop : ∀ (H' : Hp) (Z' : Addr → Prop), Same H1 H' → Later H0 (zof B γ σ) H1 Z' H' → J.stop n H'
noncomputable def SndIc (K : PySem.W.Frag) (mg : Str → Option Value) (E : L2.St → XK) (wi : TI) (it : PTI) : Prop := ∀ (H0 : Hp) (B : Addr → Prop) (H : Hp) (σ : L2.St) (γ : Γ) (R : Nat → (Nat → S) → Prop) (X : XR) (Q : It → Hp → Prop), EnvR K H0 B H σ γ → it γ R X →
  (∀ n item J H1, R n item → Same H H1 → ItOkC K H0 B H1 σ γ J n item → Q J H1) → (∀ c H', X c → Same H H' → E σ (.ref (ExcR.clsOf mg c)) none H') → wi σ H Q
theorem SndI.c {wi : TI} {it : PTI} (h : SndI K mg E wi it) : SndIc K mg E wi it := fun H0 B H σ γ R X Q env p q qx =>
  h H0 B H σ γ R X Q env p (fun n item J H1 hR S1 ok => q n item J H1 hR S1 ⟨fun i H' Z' hi _ lt => ok.go i H' Z' hi lt, fun H' Z' _ lt => ok.stop H' Z' lt⟩) qx
noncomputable def pILc (a : PTE) : PTI := fun γ R X => a γ (fun s => match s.d with
  | .lst ds => R ds.length fun i => s.sub (ds.getD i .non)
  | .tup ds => False
  | .scr ns => R ns.length fun i => .sh (.int (ns.getD i 0))
  | _ => False) X
theorem si_listC {te : TE} {a : PTE} (ha : SndE K mg E te a) : SndIc K mg E (iList K te) (pILc a) := by
  intro H0 B H σ γ R X Q env h q qx
  refine ha H0 B H σ γ _ X _ env h (fun s v H1 h1 S1 t1 => ?_) qx
  have env1 := env.grow S1
  split at h1
  · rename_i ds ed
    have rv := t1.rp env1.same
    rw [ed] at rv
    obtain ⟨l, vs, rfl, hl1, r1⟩ := rv.lst_inv
    refine ⟨l, rfl, ⟨vs, SqL.of hl1⟩, q _ _ _ H1 h1 S1 ⟨fun i H' Z' hi S2 lt => ?_, fun H' Z' S2 lt => ⟨vs, SqL.of (S2 _ _ hl1), by rw [r1.len]; exact Nat.le_refl _⟩⟩⟩
    have hd : ds[i]? = some (ds.getD i .non) := by rw [List.getD_eq_getElem?_getD, List.getElem?_eq_getElem hi]; rfl
    have hi' : ∃ u, vs[i]? = some u ∧ TV K Z' H0 H' H' (s.sub (ds.getD i .non)) u := by
      cases s with
      | bor d =>
        have t1 := Rp.strip t1
        rw [show d.strip = .lst ds from ed] at t1
        obtain ⟨l', vs', e', h3, r3⟩ := Rp.lst_inv t1
        cases e'
        rw [env1.same _ _ h3] at hl1
        cases hl1
        obtain ⟨u, h4, h5⟩ := r3.get hd
        exact ⟨u, h4, argR lt.2.1 lt.1 h5⟩
      | sh d =>
        have : d = .lst ds := ed
        subst this
        obtain ⟨l', vs', e', h3, r3⟩ := Rp.lst_inv t1
        cases e'
        rw [off_sub _ _ h3] at hl1
        cases hl1
        obtain ⟨u, h4, h5⟩ := r3.get hd
        exact ⟨u, h4, Rp.mono lt.off h5⟩
      | own es =>
        cases es with
        | dK es => cases ed
        | dT es => cases ed
        | ins x C xs cs => cases ed
        | lst es =>
        cases ed
        obtain ⟨l', e', h0, vs', h3, r3⟩ := t1
        cases e'
        rw [h3] at hl1
        cases hl1
        obtain ⟨u, h4, h5⟩ := r3.get hd
        exact ⟨u, h4, Rp.mono lt.off (Rp.mono (off_mono (Same.refl _) fun b _ _ z y => z (.inl y)) h5)⟩
      | view es =>
        cases es with
        | dK es => cases ed
        | dT es => cases ed
        | ins x C xs cs => cases ed
        | lst es =>
        cases ed
        obtain ⟨l', e', vs', h3, r3⟩ := t1
        cases e'
        rw [h3] at hl1
        cases hl1
        obtain ⟨u, h4, h5⟩ := r3.get hd
        exact ⟨u, h4, Rp.mono lt.off h5⟩
      | tmp d =>
        have : d = .lst ds := ed
        subst this
        obtain ⟨l', vs', e', h3, r3⟩ := Rp.lst_inv t1
        cases e'
        rw [h3] at hl1
        cases hl1
        obtain ⟨u, h4, h5⟩ := r3.get hd
        exact ⟨u, h4, argTR lt.2.1 (Rp.mono S2 h5)⟩
    obtain ⟨u, hu, tu⟩ := hi'
    refine ⟨⟨vs, u, SqL.of (S2 _ _ hl1), hu⟩, fun x H'' y => ?_⟩
    obtain ⟨rfl, y⟩ := y
    have := y vs (SqL.of (S2 _ _ hl1))
    rw [hu] at this
    cases this
    exact ⟨Same.refl _, tu⟩
  · exact h1.elim
  · rename_i ns ed
    have rv := t1.rp env1.same
    rw [ed] at rv
    cases rv with
    | scr hs =>
      refine ⟨_, rfl, ⟨_, hs⟩, q _ _ _ H1 h1 S1 ⟨fun i H' Z' hi S2 lt => ?_, fun H' Z' S2 lt => ⟨_, S2.seq hs, by rw [List.length_map]; exact Nat.le_refl _⟩⟩⟩
      have hu : (ns.map V.int)[i]? = some (.int (ns.getD i 0)) := by
        rw [List.getElem?_map, List.getElem?_eq_getElem hi, List.getD_eq_getElem?_getD, List.getElem?_eq_getElem hi]
        rfl
      refine ⟨⟨_, _, S2.seq hs, hu⟩, fun x H'' y => ?_⟩
      obtain ⟨rfl, y⟩ := y
      have := y _ (S2.seq hs)
      rw [hu] at this
      cases this
      exact ⟨Same.refl _, .int _⟩
  · exact h1.elim
theorem se_comp {φ : List (Option Nat)} {is : List Nat} {wi : TI} {g : TG} {tc : TT} {te : TE} {it : PTI} {pg : PTG} {c : PTT} {a : PTE} (hi : SndIc K mg E wi it) (hg : SndGi K is g pg) (hc : SndT K mg E tc c) (he : SndE K mg E te a)
    (h1 : (φ.filterMap id).Nodup := by decide) (h2 : ∀ j ∈ is, φ[j]? = some none := by decide) : SndE K mg E (tComp φ wi g tc te) (pComp φ it pg c a) := by
  intro H0 B H σ γ R X Q env h q qx
  refine hi H0 B H σ γ _ X _ env h (fun n item J H1 h1' S1 ok => ?_) qx
  obtain ⟨hn, f, hf, hR⟩ := h1'.w
  have env1 := env.grow S1
  have hbig : n ≤ sizeLine := Nat.le_trans hn (by decide)
  intro L nL
  refine ⟨fun i m ys H2 => m = n - i ∧ i ≤ n ∧ Same H1 H2 ∧ H2 L = some (.lst ys) ∧ Rps K (off (fun b => zof B γ σ b ∨ b = L) H2) ((List.range i).filterMap f) ys, ⟨n, by simp, Nat.zero_le _, same_upd nL, upd_same, .nil⟩, ?_⟩
  rintro i m ys H2 ⟨rfl, hin, S2, hL, hys⟩
  have env2 := env1.grow S2
  by_cases hlt : i < n
  · have envI2 := atStart_env (φ := φ) env1 S2 nL ⟨ys, hL⟩ h1
    obtain ⟨go, yl⟩ := ok.go i H2 _ hlt S2 ⟨env2.same, envI2.zm, fun b o hb z => ⟨S2 _ _ hb, atStart_z env1 nL b o hb z⟩⟩
    refine .inr ⟨go, fun x H3 y => ?_⟩
    obtain ⟨S3, tv⟩ := yl x H3 y
    refine hg H0 _ H2 H3 _ _ _ _ _ _ envI2 S3 tv (hf i hlt) fun σ2 γ2 p2 e2 f2 k2 => ⟨?_, ?_⟩
    · refine Sub.of (is := is) k2.2 k2.1 fun j hj v z => ?_
      obtain ⟨k, k1, _⟩ := Own.atStart_get z
      rw [h2 j hj] at k1
      cases k1
    · refine hc H0 _ H3 σ2 γ2 _ _ _ e2 p2 (fun b H5 q5 S5 => ?_) fun _ _ z => z.elim
      have e5 := e2.grow S5
      cases b with
      | false =>
        rw [if_neg Bool.false_ne_true] at q5 ⊢
        refine ⟨n - (i + 1), by omega, rfl, hlt, (S2.trans S3).trans S5, (S3.trans S5) _ _ hL, ?_⟩
        rw [List.range_succ, List.filterMap_append]
        simp only [List.filterMap_cons, q5, List.filterMap_nil, List.append_nil]
        exact Rps.mono (off_mono (S3.trans S5) fun _ _ _ z => z) hys
      | true =>
        rw [if_pos rfl] at q5 ⊢
        refine he H0 _ H5 σ2 γ2 _ _ _ e5 q5 (fun s v H6 q6 S6 t6 => ?_) fun _ _ z => z.elim
        obtain ⟨d, hd, hfd⟩ := q6
        have S26 := (S3.trans S5).trans S6
        have hr := t6.shd (e5.grow S6).same e5.zm S6 hd
        have hlen : ys.length ≤ i := by
          rw [hys.len]
          exact Nat.le_trans (List.length_filterMap_le _ _) (by rw [List.length_range]; exact Nat.le_refl _)
        refine ⟨S26 _ _ hL, by omega, n - (i + 1), by omega, rfl, hlt, fun b o hb => ?_, upd_same, ?_⟩
        · rw [upd_ne (ne_of_none hb nL)]
          exact S26 _ _ (S2 _ _ hb)
        · rw [List.range_succ, List.filterMap_append]
          have ef : [i].filterMap f = [d] := by simp [hfd]
          rw [ef]
          have So : Same (off (fun b => zof B γ σ b ∨ b = L) H6) (off (fun b => zof B γ σ b ∨ b = L) (upd H6 L (.lst (ys ++ [v])))) := fun b o h => by
            obtain ⟨a1, a2⟩ := off_in h
            refine off_of ?_ a2
            rw [upd_ne fun z => a2 (.inr z)]
            exact a1
          refine Rps.append (Rps.mono So (Rps.mono (off_mono S26 fun _ _ _ z => z) hys)) (.cons (Rp.mono So (Rp.mono (off_mono (Same.refl _) fun b _ _ z y => z (.inl y)) hr)) .nil)
  · have : i = n := by omega
    subst this
    exact .inl ⟨ok.stop H2 _ S2 (Later.of env2 (Fr.grow S2)), q _ _ H2 hR (S1.trans S2) ⟨L, rfl, (fun _ e => e ▸ S1.free nL), ys, hL, hys⟩⟩
/-- a test that is not there -/
noncomputable def pYes : PTT := fun _ R _ => R true
theorem st_yes : SndT K mg E tNoIf pYes := fun _ _ H _ _ _ _ _ _ p q _ => q _ H p (Same.refl _)
theorem filterMap_range {α β : Type} (xs : List α) (f : α → Option β) : (List.range xs.length).filterMap (fun i => (xs[i]?).bind f) = xs.filterMap f := by
  induction xs with
  | nil => rfl
  | cons x r ih =>
    rw [List.length_cons, List.range_succ_eq_map, List.filterMap_cons, List.filterMap_map, List.filterMap_cons]
    have e : (fun i => ((x :: r)[i]?).bind f) ∘ Nat.succ = fun i => (r[i]?).bind f := by
      funext i
      simp
    rw [e, ih]
    rfl
end
end Pu

namespace Pu
open PySem PySem.Spec PyProof.Rows L2 Own M
section
variable {K : PySem.W.Frag} {mg : Str → Option Value} {E : L2.St → XK} {H0 H H1 H' : Hp} {B Z Z' : Addr → Prop} {σ : L2.St} {γ : Γ}
/-! ### Python's own functions -/
/-- f: what is wanted of the values at hand -/
noncomputable def pCB (f : List S → (S → Prop) → Prop) (r : PTA) : PTE := fun γ R X => r γ (fun ss => f ss R) X
theorem se_cb {rr : List V → Hp → VK → Prop} {f : List S → (S → Prop) → Prop} {ta : TA} {r : PTA} (hr : SndA K mg E ta r)
    (h : ∀ (H0 H H1 : Hp) (Z : Addr → Prop) (ss : List S) (vs : List V) (R : S → Prop) (Q : VK), Same H0 H1 → Same H H1 → (∀ b, Z b → Mut (H b)) → TVs K Z H0 H H1 ss vs → f ss R → (∀ s z H', R s → Same H1 H' → TV K Z H0 H H' s z → Q z H') → rr vs H1 Q) :
    SndE K mg E (tCB rr ta) (pCB f r) := by
  intro H0 B H σ γ R X Q env p q qx
  refine hr H0 B H σ γ _ X _ env p (fun ss vs H1 h1 S1 t1 => ?_) qx
  exact h H0 H H1 _ ss vs R Q (env.grow S1).same S1 env.zm t1 h1 fun s z H' hs S2 tv => q s z H' hs (S1.trans S2) tv
/-- its parts may be parts of something new -/
noncomputable def S.free : S → List D → Bool
  | .bor _, ds => imms ds | .tmp _, ds => imms ds | _, _ => true
theorem TVs.one_inv {s : S} {vs : List V} (h : TVs K Z H0 H H' [s] vs) : ∃ v, vs = [v] ∧ TV K Z H0 H H' s v := by
  cases h with
  | cons h r => cases r; exact ⟨_, rfl, h⟩
/-- the items of a list that may be handed on -/
theorem TV.items {s : S} {v : V} {ds : List D} (h0 : Same H0 H') (hm : ∀ b, Z b → Mut (H b)) (S1 : Same H H') (h : TV K Z H0 H H' s v) (hf : s.free ds = true) :
    (s.d = .lst ds → ∃ a vs, v = .ref a ∧ H' a = some (.lst vs) ∧ Rps K (off Z H') ds vs) ∧ (s.d = .tup ds → ∃ a vs, v = .ref a ∧ H' a = some (.tup vs) ∧ Rps K (off Z H') ds vs) := by
  have hm' : ∀ b, Z b → Mut (H' b) := fun b z => mut_same S1 (hm b z)
  cases s with
  | bor d =>
    have h := Rp.strip h
    refine ⟨fun e => ?_, fun e => ?_⟩ <;> rw [show d.strip = _ from e] at h
    · obtain ⟨a, vs, rfl, h1, r⟩ := Rp.lst_inv h
      exact ⟨a, vs, rfl, h0 _ _ h1, Rps.off hm' (Rps.mono h0 r) hf⟩
    · obtain ⟨a, vs, rfl, h1, r⟩ := Rp.tup_inv h
      exact ⟨a, vs, rfl, h0 _ _ h1, Rps.off hm' (Rps.mono h0 r) hf⟩
  | sh d =>
    refine ⟨fun e => ?_, fun e => ?_⟩ <;> (have e' : d = _ := e; subst e')
    · obtain ⟨a, vs, rfl, h1, r⟩ := Rp.lst_inv h
      exact ⟨a, vs, rfl, off_sub _ _ h1, r⟩
    · obtain ⟨a, vs, rfl, h1, r⟩ := Rp.tup_inv h
      exact ⟨a, vs, rfl, off_sub _ _ h1, r⟩
  | own es =>
    cases es with
    | dK es => exact ⟨(fun e => by cases e), (fun e => by cases e)⟩
    | dT es => exact ⟨(fun e => by cases e), (fun e => by cases e)⟩
    | ins x C xs cs => exact ⟨(fun e => by cases e), (fun e => by cases e)⟩
    | lst es =>
      refine ⟨fun e => ?_, fun e => by cases e⟩
      cases e
      obtain ⟨a, rfl, e0, vs, e, r⟩ := h
      exact ⟨a, vs, rfl, e, Rps.mono (off_mono (Same.refl _) fun b _ _ z y => z (.inl y)) r⟩
  | view es =>
    cases es with
    | dK es => exact ⟨(fun e => by cases e), (fun e => by cases e)⟩
    | dT es => exact ⟨(fun e => by cases e), (fun e => by cases e)⟩
    | ins x C xs cs => exact ⟨(fun e => by cases e), (fun e => by cases e)⟩
    | lst es =>
      refine ⟨fun e => ?_, fun e => by cases e⟩
      cases e
      obtain ⟨a, rfl, vs, e, r⟩ := h
      exact ⟨a, vs, rfl, e, r⟩
  | tmp d =>
    refine ⟨fun e => ?_, fun e => ?_⟩ <;> (have e' : d = _ := e; subst e')
    · obtain ⟨a, vs, rfl, h1, r⟩ := Rp.lst_inv h
      exact ⟨a, vs, rfl, h1, Rps.off hm' r hf⟩
    · obtain ⟨a, vs, rfl, h1, r⟩ := Rp.tup_inv h
      exact ⟨a, vs, rfl, h1, Rps.off hm' r hf⟩
noncomputable def fLen : List S → (S → Prop) → Prop
  | [s], R => (match s.d with
    | .lst ds => R (.sh (.int ds.length)) | .tup ds => R (.sh (.int ds.length)) | .scr ns => R (.sh (.int ns.length)) | .str x => x.length ≤ sizeLine ∧ R (.sh (.int x.length)) | _ => False)
  | _, _ => False
theorem se_len {ta : TA} {r : PTA} (hr : SndA K mg E ta r) : SndE K mg E (tCB (fun xs H Q => ∃ x n, xs = [x] ∧ LenV K x H n ∧ Q (.int n) H) ta) (pCB fLen r) := by
  refine se_cb hr fun H0 H H1 Z ss vs R Q s0 s1 hm tv h q => ?_
  unfold fLen at h
  split at h
  · rename_i s
    obtain ⟨v, rfl, t1⟩ := tv.one_inv
    have rv := t1.rp s0
    split at h
    · rename_i ds e
      rw [e] at rv
      obtain ⟨a, us, rfl, h1, r1⟩ := rv.lst_inv
      exact ⟨_, _, rfl, .inl ⟨us, SqL.of h1, rfl⟩, by rw [r1.len]; exact q _ _ H1 h (Same.refl _) (.int _)⟩
    · rename_i ds e
      rw [e] at rv
      obtain ⟨a, us, rfl, h1, r1⟩ := rv.tup_inv
      exact ⟨_, _, rfl, .inr ⟨us, SqT.of h1, rfl⟩, by rw [r1.len]; exact q _ _ H1 h (Same.refl _) (.int _)⟩
    · rename_i ns e
      rw [e] at rv
      cases rv with
      | scr hs => exact ⟨_, _, rfl, .inl ⟨_, hs, rfl⟩, by rw [List.length_map]; exact q _ _ H1 h (Same.refl _) (.int _)⟩
    · rename_i x e
      rw [e] at rv
      rw [rv.str_inv]
      exact ⟨_, _, rfl, ⟨h.1, rfl⟩, q _ _ H1 h.2 (Same.refl _) (.int _)⟩
    · exact h.elim
  · exact h.elim
/-- list(xs) -/
noncomputable def fList : List S → (S → Prop) → Prop
  | [s], R => (match s.d with
    | .lst ds => s.free ds = true ∧ R (.own ds) | .tup ds => s.free ds = true ∧ R (.own ds) | _ => False)
  | _, _ => False
theorem se_list {ta : TA} {r : PTA} (hr : SndA K mg E ta r) : SndE K mg E (tCB (fun xs H Q => ∃ p ys, xs = [.ref p] ∧ (SqL K H p ys ∨ SqT K H p ys) ∧ ∀ l, H l = none → Q (.ref l) (upd H l (.lst ys))) ta) (pCB fList r) := by
  refine se_cb hr fun H0 H H1 Z ss vs R Q s0 s1 hm tv h q => ?_
  unfold fList at h
  split at h
  · rename_i s
    obtain ⟨v, rfl, t1⟩ := tv.one_inv
    split at h
    · rename_i ds e
      obtain ⟨a, us, rfl, h1, r1⟩ := (t1.items s0 hm s1 h.1).1 e
      exact ⟨a, us, rfl, .inl (SqL.of h1), fun l nl => q _ _ _ h.2 (same_upd nl) (own_new s1 nl r1)⟩
    · rename_i ds e
      obtain ⟨a, us, rfl, h1, r1⟩ := (t1.items s0 hm s1 h.1).2 e
      exact ⟨a, us, rfl, .inr (SqT.of h1), fun l nl => q _ _ _ h.2 (same_upd nl) (own_new s1 nl r1)⟩
    · exact h.elim
  · exact h.elim
/-- tuple(xs) -/
noncomputable def fTuple : List S → (S → Prop) → Prop
  | [s], R => (match s.d with
    | .lst ds => s.free ds = true ∧ R (.sh (.tup ds)) | .tup ds => s.free ds = true ∧ R (.sh (.tup ds)) | _ => False)
  | _, _ => False
theorem se_tuple {ta : TA} {r : PTA} (hr : SndA K mg E ta r) : SndE K mg E (tCB (fun xs H Q => ∃ p ys, xs = [.ref p] ∧ ((SqL K H p ys ∧ ∀ l, H l = none → Q (.ref l) (upd H l (.tup ys))) ∨ (SqT K H p ys ∧ Q (.ref p) H))) ta) (pCB fTuple r) := by
  refine se_cb hr fun H0 H H1 Z ss vs R Q s0 s1 hm tv h q => ?_
  have hm' : ∀ b, Z b → Mut (H1 b) := fun b z => mut_same s1 (hm b z)
  unfold fTuple at h
  split at h
  · rename_i s
    obtain ⟨v, rfl, t1⟩ := tv.one_inv
    split at h
    · rename_i ds e
      obtain ⟨a, us, rfl, h1, r1⟩ := (t1.items s0 hm s1 h.1).1 e
      refine ⟨a, us, rfl, .inl ⟨SqL.of h1, fun l nl => q _ _ _ h.2 (same_upd nl) (.tup (off_of upd_same fun z => ?_) (Rps.mono (off_mono (same_upd nl) fun _ _ _ z => z) r1))⟩⟩
      have := hm' l z
      rw [nl] at this
      exact this
    · rename_i ds e
      obtain ⟨a, us, rfl, h1, r1⟩ := (t1.items s0 hm s1 h.1).2 e
      refine ⟨a, us, rfl, .inr ⟨SqT.of h1, q _ _ _ h.2 (Same.refl _) (.tup (off_of h1 fun z => ?_) r1)⟩⟩
      have := hm' a z
      rw [h1] at this
      exact this
    · exact h.elim
  · exact h.elim
theorem Rps.ints {K : PySem.W.Frag} {H : Hp} : ∀ {js : List Int} {vs : List V}, Rps K H (js.map D.int) vs → vs = js.map V.int
  | [], _, .nil => rfl
  | j :: r, _, .cons h t => by rw [Rp.int_inv h, Rps.ints t]; rfl
theorem Rps.of_ints {K : PySem.W.Frag} {H : Hp} : ∀ (js : List Int), Rps K H (js.map D.int) (js.map V.int)
  | [] => .nil
  | j :: r => .cons (.int j) (Rps.of_ints r)
/-- sorted(xs) of ints -/
noncomputable def fSorted : List S → (S → Prop) → Prop
  | [s], R => ∃ js : List Int, s.d = .lst (js.map D.int) ∧ js.length < 64 ∧ ∀ ns : List Int, ns.Perm js → ns.Pairwise (· ≤ ·) → R (.own (ns.map D.int))
  | _, _ => False
theorem se_sorted {w : World} {ta : TA} {r : PTA} (hr : SndA K mg E ta r) : SndE K mg E (tCB (fun xs H Q => ∃ (p : Addr) (js : List Int), xs = [.ref p] ∧ js.length < 64 ∧ (SqL K H p (js.map V.int) ∨ H p = some (SetH w p js)) ∧
    ∀ (l : Addr) (ns : List Int), H l = none → ns.Perm js → ns.Pairwise (· ≤ ·) → Q (.ref l) (upd H l (.lst (ns.map V.int)))) ta) (pCB fSorted r) := by
  refine se_cb hr fun H0 H H1 Z ss vs R Q s0 s1 hm tv h q => ?_
  unfold fSorted at h
  split at h
  · rename_i s
    obtain ⟨v, rfl, t1⟩ := tv.one_inv
    obtain ⟨js, e, hz, k⟩ := h
    have rv := t1.rp s0
    rw [e] at rv
    obtain ⟨a, us, rfl, h1, r1⟩ := rv.lst_inv
    rw [r1.ints] at h1
    exact ⟨a, js, rfl, hz, .inl (SqL.of h1), fun l ns nl hp hs => q _ _ _ (k ns hp hs) (same_upd nl) (own_new s1 nl (Rps.of_ints ns))⟩
  · exact h.elim
noncomputable def fMax2 : List S → (S → Prop) → Prop
  | [s, t], R => (match s.d, t.d with | .int i, .int j => R (.sh (.int (if j > i then j else i))) | _, _ => False)
  | _, _ => False
noncomputable def fAbs : List S → (S → Prop) → Prop
  | [s], R => (match s.d with | .int i => R (.sh (.int (if i < 0 then -i else i))) | _ => False)
  | _, _ => False
/-- isinstance(x, T), T of Python's own -/
noncomputable def tyD : D → Option String
  | .int _ => some "int" | .bl _ => some "bool" | .non => some "NoneType" | .str _ => some "str" | .tup _ => some "tuple" | .lst _ => some "list" | .dK _ => some "dict" | .dT _ => some "dict" | _ => none
inductive IsiR : String → String → Bool → Prop
  | same (n : String) : IsiR n n true
  | ib : IsiR "int" "bool" false
  | bi : IsiR "bool" "int" true
  | tl : IsiR "tuple" "list" false
  | lt : IsiR "list" "tuple" false
  | it : IsiR "int" "tuple" false
  | il : IsiR "int" "list" false
  | bt : IsiR "bool" "tuple" false
  | bL : IsiR "bool" "list" false
  | ti : IsiR "tuple" "int" false
  | li : IsiR "list" "int" false
  | si : IsiR "str" "int" false
  | is : IsiR "int" "str" false
  | ni : IsiR "NoneType" "int" false
  | nl : IsiR "NoneType" "list" false
  | nt : IsiR "NoneType" "tuple" false
noncomputable def fIsi : List S → (S → Prop) → Prop
  | [s, t], R => (match tyD s.d, t.d with | some m, .ty n => ∃ b, IsiR m n b ∧ R (.sh (.bl b)) | _, _ => False)
  | _, _ => False
/-! ### methods of lists that change nothing -/
noncomputable def pBM (f : S → List S → (S → Prop) → Prop) (a : PTE) (r : PTA) : PTE := fun γ R X => a γ (fun s => (∃ ds, s.d = .lst ds) ∧ r γ (fun ss => f s ss R) X) X
theorem se_bm {rr : V → List V → Hp → VK → Prop} {f : S → List S → (S → Prop) → Prop} {te : TE} {ta : TA} {a : PTE} {r : PTA} (ha : SndE K mg E te a) (hr : SndA K mg E ta r)
    (h : ∀ (H0 H H1 : Hp) (Z : Addr → Prop) (s : S) (v : V) (ss : List S) (vs : List V) (R : S → Prop) (Q : VK), Same H0 H1 → Same H H1 → (∀ b, Z b → Mut (H b)) → TV K Z H0 H H1 s v → TVs K Z H0 H H1 ss vs → f s ss R → (∀ s z H', R s → Same H1 H' → TV K Z H0 H H' s z → Q z H') → rr v vs H1 Q) :
    SndE K mg E (tBM K "list" rr te ta) (pBM f a r) := by
  intro H0 B H σ γ R X Q env p q qx
  refine ha H0 B H σ γ _ X _ env p (fun s v H1 h1 S1 t1 => ?_) qx
  have env1 := env.grow S1
  obtain ⟨⟨ds, ed⟩, h1⟩ := h1
  have rv := t1.rp env1.same
  rw [ed] at rv
  obtain ⟨l, us, rfl, hl, _⟩ := rv.lst_inv
  refine ⟨.inl ⟨rfl, us, SqL.of hl⟩, hr H0 B H1 σ γ _ X _ env1 h1 (fun ss vs H2 h2 S2 t2 => ?_) fun c H' hc S' => qx c H' hc (S1.trans S')⟩
  exact h H0 H H2 _ s _ ss vs R Q (env1.grow S2).same (S1.trans S2) env.zm (t1.grow S2) (TVs.weakG S1 t2) h2 fun s z H' hs S3 tv => q s z H' hs ((S1.trans S2).trans S3) tv
noncomputable def fIndex : S → List S → (S → Prop) → Prop := fun s ss R => match ss with
  | [t] => (match t.d with | .int z => ∃ xs : List Int, s.d = .lst (xs.map D.int) ∧ z ∈ xs ∧ R (.sh (.int (xs.idxOf z : Nat))) | _ => False)
  | _ => False
theorem se_index {te : TE} {ta : TA} {a : PTE} {r : PTA} (ha : SndE K mg E te a) (hr : SndA K mg E ta r) : SndE K mg E (tBM K "list" (rIndex K) te ta) (pBM fIndex a r) := by
  refine se_bm ha hr fun H0 H H1 Z s v ss vs R Q s0 s1 hm t1 t2 h q => ?_
  unfold fIndex at h
  split at h
  · obtain ⟨u, rfl, t2'⟩ := t2.one_inv
    have r2 := t2'.rp s0
    split at h
    · rename_i z e
      rw [e] at r2
      obtain ⟨xs, ex, hz, hR⟩ := h
      have r1 := t1.rp s0
      rw [ex] at r1
      obtain ⟨l, us, rfl, hl, r1⟩ := r1.lst_inv
      rw [r1.ints] at hl
      exact ⟨l, xs, z, rfl, by rw [r2.int_inv], SqL.of hl, hz, q _ _ H1 hR (Same.refl _) (.int _)⟩
    · exact h.elim
  · exact h.elim
/-! ### in -/
noncomputable def prD (p : Int × Int) : D := .tup [.int p.1, .int p.2]
inductive InR : D → D → Bool → Prop
  | li (i : Int) (hs : List Int) : InR (.int i) (.lst (hs.map D.int)) (decide (i ∈ hs))
  | ti (i : Int) (hs : List Int) : InR (.int i) (.tup (hs.map D.int)) (decide (i ∈ hs))
  | lp (q : Int × Int) (ps : List (Int × Int)) : InR (prD q) (.lst (ps.map prD)) (decide (q ∈ ps))
noncomputable def fIn (neg : Bool) : S → S → (S → Prop) → Prop := fun x y R => ∃ b, InR x.d y.d b ∧ R (.sh (.bl (if neg then !b else b)))
theorem Rp.pair {q : Int × Int} {v : V} (h : Rp K H (prD q) v) : PairR H v q := by
  obtain ⟨a, vs, rfl, h1, r⟩ := Rp.tup_inv h
  obtain ⟨x, y, rfl, r1, r2⟩ := r.two_inv
  rw [r1.int_inv, r2.int_inv] at h1
  exact ⟨a, rfl, h1⟩
theorem Rp.of_pair {q : Int × Int} {v : V} (h : PairR H v q) : Rp K H (prD q) v := by
  obtain ⟨a, rfl, h1⟩ := h
  exact .tup h1 (.cons (.int _) (.cons (.int _) .nil))
theorem Rps.lv {K : PySem.W.Frag} {H : Hp} {ps : List (Int × Int)} {vs : List V} (h : Rps K H (ps.map prD) vs) : LV PairR H vs ps := by
  refine ⟨by rw [h.len, List.length_map], fun i p hp => ?_⟩
  obtain ⟨v, h1, h2⟩ := h.get (i := i) (d := prD p) (by rw [List.getElem?_map, hp]; rfl)
  exact ⟨v, h1, h2.pair⟩
theorem Rps.of_lv {K : PySem.W.Frag} {H : Hp} : ∀ {ps : List (Int × Int)} {vs : List V}, LV PairR H vs ps → Rps K H (ps.map prD) vs
  | [], [], _ => .nil
  | [], _ :: _, h => by have := h.1; simp at this
  | _ :: _, [], h => by have := h.1; simp at this
  | p :: ps, v :: vs, h => by
    have h' := (LV.cons_iff (R := PairR) (H := H) (v := v) (vs := vs) (x := p) (xs := ps)).mp h
    exact .cons (Rp.of_pair h'.1) (Rps.of_lv h'.2)
theorem se_in {neg : Bool} {ta tb : TE} {a b : PTE} (ha : SndE K mg E ta a) (hb : SndE K mg E tb b) : SndE K mg E (tOp (fun x y H Q => rIn K neg x y H Q ∨ rInP neg x y H Q) ta tb) (p2 a b (fIn neg)) := by
  refine se_2 ha hb fun H0 H H2 Z x y v u R Q s0 s1 hm tx ty h q => ?_
  obtain ⟨k, hk, hR⟩ := h
  have rx := tx.rp s0
  have ry := ty.rp s0
  generalize ex : x.d = dx at hk rx
  generalize ey : y.d = dy at hk ry
  cases hk with
  | li i hs =>
    obtain ⟨l, us, rfl, hl, r⟩ := ry.lst_inv
    rw [r.ints] at hl
    rw [rx.int_inv]
    refine .inl ⟨l, _, rfl, .inl (SqL.of hl), rfl, flat_ints _, ?_⟩
    rw [in_ints]
    exact q _ _ H2 hR (Same.refl _) (.bl _)
  | ti i hs =>
    obtain ⟨l, us, rfl, hl, r⟩ := ry.tup_inv
    rw [r.ints] at hl
    rw [rx.int_inv]
    refine .inl ⟨l, _, rfl, .inr (SqT.of hl), rfl, flat_ints _, ?_⟩
    rw [in_ints]
    exact q _ _ H2 hR (Same.refl _) (.bl _)
  | lp p ps =>
    obtain ⟨l, us, rfl, hl, r⟩ := ry.lst_inv
    exact .inr ⟨l, ps, p, rfl, rx.pair, ⟨us, hl, r.lv⟩, q _ _ H2 hR (Same.refl _) (.bl _)⟩
/-! ### == of lists of ints too -/
noncomputable def fEqU (neg : Bool) : S → S → (S → Prop) → Prop := fun x y R => match x.d, y.d with
  | .lst ds, .lst es => ∃ xs ys : List Int, ds = xs.map D.int ∧ es = ys.map D.int ∧ R (.sh (.bl (if neg then !decide (xs = ys) else decide (xs = ys))))
  | _, _ => fEq neg x y R
theorem se_eqU {ta tb : TE} {a b : PTE} (ha : SndE K mg E ta a) (hb : SndE K mg E tb b) : SndE K mg E (tOp (fun x y H Q => rEq x y H Q ∨ rEqL K false x y H Q) ta tb) (p2 a b (fEqU false)) := by
  refine se_2 ha hb fun H0 H H2 Z x y v u R Q s0 s1 hm tx ty h q => ?_
  have rx := tx.rp s0
  have ry := ty.rp s0
  unfold fEqU at h
  split at h
  · rename_i ds es e1 e2
    obtain ⟨xs, ys, rfl, rfl, hR⟩ := h
    rw [e1] at rx
    rw [e2] at ry
    obtain ⟨l, us, rfl, hl, r⟩ := rx.lst_inv
    obtain ⟨m, ws, rfl, hm, r'⟩ := ry.lst_inv
    rw [r.ints] at hl
    rw [r'.ints] at hm
    refine .inr ⟨l, m, _, _, rfl, rfl, SqL.of hl, SqL.of hm, flat_ints _, flat_ints _, ?_⟩
    rw [eqL_ints]
    exact q _ _ H2 hR (Same.refl _) (.bl _)
  · refine .inl ?_
    unfold fEq at h
    split at h
    · rename_i i j e1 e2
      rw [e1] at rx
      rw [e2] at ry
      rw [rx.int_inv, ry.int_inv]
      refine ⟨rfl, ?_⟩
      rw [dec_inj (f := V.int) fun _ _ z => V.int.inj z]
      exact q _ _ H2 h (Same.refl _) (.bl _)
    · rename_i i j e1 e2
      rw [e1] at rx
      rw [e2] at ry
      rw [rx.str_inv, ry.str_inv]
      refine ⟨rfl, ?_⟩
      rw [dec_inj (f := V.str) fun _ _ z => V.str.inj z]
      exact q _ _ H2 h (Same.refl _) (.bl _)
    · rename_i i j e1 e2
      rw [e1] at rx
      rw [e2] at ry
      rw [rx.bl_inv, ry.bl_inv]
      refine ⟨rfl, ?_⟩
      rw [dec_inj (f := V.bl) fun _ _ z => V.bl.inj z]
      exact q _ _ H2 h (Same.refl _) (.bl _)
    · exact h.elim
theorem se_neU {ta tb : TE} {a b : PTE} (ha : SndE K mg E ta a) (hb : SndE K mg E tb b) : SndE K mg E (tOp (fun x y H Q => rNe x y H Q ∨ rEqL K true x y H Q) ta tb) (p2 a b (fEqU true)) := by
  refine se_2 ha hb fun H0 H H2 Z x y v u R Q s0 s1 hm tx ty h q => ?_
  have rx := tx.rp s0
  have ry := ty.rp s0
  unfold fEqU at h
  split at h
  · rename_i ds es e1 e2
    obtain ⟨xs, ys, rfl, rfl, hR⟩ := h
    rw [e1] at rx
    rw [e2] at ry
    obtain ⟨l, us, rfl, hl, r⟩ := rx.lst_inv
    obtain ⟨m, ws, rfl, hm, r'⟩ := ry.lst_inv
    rw [r.ints] at hl
    rw [r'.ints] at hm
    refine .inr ⟨l, m, _, _, rfl, rfl, SqL.of hl, SqL.of hm, flat_ints _, flat_ints _, ?_⟩
    rw [eqL_ints]
    exact q _ _ H2 hR (Same.refl _) (.bl _)
  · refine .inl ?_
    unfold fEq at h
    split at h
    · rename_i i j e1 e2
      rw [e1] at rx
      rw [e2] at ry
      rw [rx.int_inv, ry.int_inv]
      refine ⟨rfl, ?_⟩
      rw [dec_inj (f := V.int) fun _ _ z => V.int.inj z]
      exact q _ _ H2 h (Same.refl _) (.bl _)
    · rename_i i j e1 e2
      rw [e1] at rx
      rw [e2] at ry
      rw [rx.str_inv, ry.str_inv]
      refine ⟨rfl, ?_⟩
      rw [dec_inj (f := V.str) fun _ _ z => V.str.inj z]
      exact q _ _ H2 h (Same.refl _) (.bl _)
    · rename_i i j e1 e2
      rw [e1] at rx
      rw [e2] at ry
      rw [rx.bl_inv, ry.bl_inv]
      refine ⟨rfl, ?_⟩
      rw [dec_inj (f := V.bl) fun _ _ z => V.bl.inj z]
      exact q _ _ H2 h (Same.refl _) (.bl _)
    · exact h.elim
/-! ### truth -/
noncomputable abbrev tTru (K : PySem.W.Frag) (ta : TE) : TT := fun σ H Q => ta σ H fun x H' => ∃ k, TruV K x H' k ∧ Q k H'
noncomputable def pTru (a : PTE) : PTT := fun γ R X => a γ (fun x => match x.d with
  | .bl b => R b | .lst ds => R (!ds.isEmpty) | .tup ds => R (!ds.isEmpty) | .int i => R (i != 0) | .non => R false | _ => False) X
theorem isEmpty_len {α β : Type} {l : List α} {m : List β} (h : l.length = m.length) : l.isEmpty = m.isEmpty := by
  cases l <;> cases m <;> simp at h ⊢
theorem st_tru {te : TE} {a : PTE} (ha : SndE K mg E te a) : SndT K mg E (tTru K te) (pTru a) := by
  intro H0 B H σ γ R X Q env p q qx
  refine ha H0 B H σ γ _ X _ env p (fun x v H1 h1 S1 t1 => ?_) qx
  have rx := t1.rp (env.grow S1).same
  split at h1
  · rename_i b e
    rw [e] at rx
    rw [rx.bl_inv]
    exact ⟨b, rfl, q _ H1 h1 S1⟩
  · rename_i ds e
    rw [e] at rx
    obtain ⟨l, us, rfl, hl, r⟩ := rx.lst_inv
    exact ⟨!us.isEmpty, .inl ⟨us, SqL.of hl, rfl⟩, by rw [isEmpty_len r.len]; exact q _ H1 h1 S1⟩
  · rename_i ds e
    rw [e] at rx
    obtain ⟨l, us, rfl, hl, r⟩ := rx.tup_inv
    exact ⟨!us.isEmpty, .inr (.inl ⟨us, SqT.of hl, rfl⟩), by rw [isEmpty_len r.len]; exact q _ H1 h1 S1⟩
  · rename_i i e
    rw [e] at rx
    rw [rx.int_inv]
    exact ⟨_, rfl, q _ H1 h1 S1⟩
  · rename_i e
    rw [e] at rx
    rw [rx.non_inv]
    exact ⟨_, rfl, q _ H1 h1 S1⟩
  · exact h1.elim
/-! ### slices, + of lists -/
noncomputable def cutD {α : Type} (xs : List α) (lo hi : Option Int) : List α := (xs.drop (HT.sIx xs.length 0 lo)).take (HT.sIx xs.length xs.length hi - HT.sIx xs.length 0 lo)
noncomputable def pNoPart : PTO := fun _ R _ => R none
noncomputable def pPart (a : PTE) : PTO := fun γ R X => a γ (fun s => match s.d with | .int i => R (some i) | _ => False) X
theorem so_none : SndO K mg E tNoPart pNoPart := fun _ _ H _ _ _ _ _ _ p q _ => q _ H p (Same.refl _)
theorem so_some {te : TE} {a : PTE} (ha : SndE K mg E te a) : SndO K mg E (tPart te) (pPart a) := by
  intro H0 B H σ γ R X Q env p q qx
  refine ha H0 B H σ γ _ X _ env p (fun x v H1 h1 S1 t1 => ?_) qx
  have rx := t1.rp (env.grow S1).same
  split at h1
  · rename_i i e
    rw [e] at rx
    exact ⟨i, rx.int_inv, q _ H1 h1 S1⟩
  · exact h1.elim
noncomputable def pSl (a : PTE) (l u : PTO) : PTE := fun γ R X => a γ (fun s => l γ (fun lo => u γ (fun hi => match s.d with | .lst ds => s.free ds = true ∧ R (.own (cutD ds lo hi)) | _ => False) X) X) X
theorem Rps.cut {ds : List D} {vs : List V} {lo hi : Option Int} (r : Rps K H ds vs) : Rps K H (cutD ds lo hi) (cutV vs lo hi) := by
  unfold cutD cutV
  rw [r.len]
  exact Rps.take _ (Rps.drop _ r)
theorem se_slice {te : TE} {tl th : TO} {a : PTE} {l u : PTO} (ha : SndE K mg E te a) (hl : SndO K mg E tl l) (hu : SndO K mg E th u) : SndE K mg E (tSl (rSlL K) te tl th) (pSl a l u) := by
  intro H0 B H σ γ R X Q env p q qx
  refine ha H0 B H σ γ _ X _ env p (fun x v H1 h1 S1 t1 => ?_) qx
  refine hl H0 B H1 σ γ _ X _ (env.grow S1) h1 (fun lo H2 h2 S2 => ?_) fun c H' hc S' => qx c H' hc (S1.trans S')
  refine hu H0 B H2 σ γ _ X _ ((env.grow S1).grow S2) h2 (fun hi H3 h3 S3 => ?_) fun c H' hc S' => qx c H' hc ((S1.trans S2).trans S')
  have S13 := (S1.trans S2).trans S3
  split at h3
  · rename_i ds e
    obtain ⟨b, us, rfl, hb, r⟩ := ((t1.grow (S2.trans S3)).items (env.grow S13).same env.zm S13 h3.1).1 e
    exact ⟨b, us, rfl, SqL.of hb, fun m nm => q _ _ _ h3.2 (S13.trans (same_upd nm)) (own_new S13 nm r.cut)⟩
  · exact h3.elim
noncomputable def fCat : S → S → (S → Prop) → Prop := fun x y R => match x.d, y.d with
  | .lst ds, .lst es => x.free ds = true ∧ y.free es = true ∧ ds.length + es.length ≤ 100000 ∧ R (.own (ds ++ es))
  | _, _ => False
theorem se_cat {ta tb : TE} {a b : PTE} (ha : SndE K mg E ta a) (hb : SndE K mg E tb b) : SndE K mg E (tOp rCat ta tb) (p2 a b fCat) := by
  refine se_2 ha hb fun H0 H H2 Z x y v u R Q s0 s1 hm tx ty h q => ?_
  unfold fCat at h
  split at h
  · rename_i ds es e1 e2
    obtain ⟨l, us, rfl, hl, r⟩ := (tx.items s0 hm s1 h.1).1 e1
    obtain ⟨m, ws, rfl, hm', r'⟩ := (ty.items s0 hm s1 h.2.1).1 e2
    have hz : us.length + ws.length ≤ sizeLine := by rw [r.len, r'.len]; exact Nat.le_trans h.2.2.1 (by decide)
    exact ⟨l, m, us, ws, rfl, rfl, hl, hm', hz, fun p np => q _ _ _ h.2.2.2 (same_upd np) (own_new s1 np (r.append r'))⟩
  · exact h.elim
/-! ### one's own lists that change -/
noncomputable def pAppend (i : Nat) (a : PTE) : PTS := fun R γ => match γ[i]? with
  | some (some (.own (.lst ds))) => a γ (fun s => match s.shd with
    | some d => ds.length < 10000000 ∧ R.nx (γ.set i (some (.own (ds ++ [d]))))
    | none => False) (R.ex γ)
  | _ => False
theorem ss_append (i : Nat) {te : TE} {a : PTE} (ha : SndE K mg E te a) : SndS K mg E (tDrop (tBM K "list" rAppend (tVar i) (tCons te tNil))) (pAppend i a) := by
  intro H0 B H σ γ R D hB env h e
  unfold pAppend at h
  split at h
  · rename_i ds hi
    obtain ⟨v, hv, b, rfl, hb0, us, hb, rb⟩ := env.slot i _ hi
    refine ⟨_, hv, .inl ⟨rfl, us, SqL.of hb⟩, ha H0 B H σ γ _ _ _ env h (fun s u H1 h1 S1 t1 => ?_) fun c H' hc S' => e.ex σ γ c H' hc (env.grow S') (Fr.grow S')⟩
    have env1 := env.grow S1
    split at h1
    · rename_i d e2
      have rd := t1.shd env1.same env.zm S1 e2
      refine ⟨b, us, u, rfl, rfl, S1 _ _ hb, by rw [rb.len]; exact Nat.lt_trans h1.1 (by decide), ?_⟩
      obtain ⟨e2, f2⟩ := env1.mutate (es := .lst (ds ++ [d])) (us := .lst (us ++ [u])) hi hv trivial fun F H' SF hF => ⟨_, hF, Rps.mono SF (Rps.append (Rps.mono (off_mono S1 fun _ _ _ z => z) rb) (.cons rd .nil))⟩
      exact e.nx _ _ _ h1.2 e2 ((Fr.grow S1).trans f2)
    · exact h1.elim
  · exact h.elim
end
section
variable {X : Cx} {K : PySem.W.Frag}
theorem op_inU (hu : X.A.in1.units < cLine) (hK : X.K = K := by rfl) : OpR X (compareOp .In) (fun x y H Q => rIn K false x y H Q ∨ rInP false x y H Q) := (op_inK hK).or (op_inP hu)
theorem op_notInU (hu : X.A.in1.units < cLine) (hK : X.K = K := by rfl) : OpR X (compareOp .NotIn) (fun x y H Q => rIn K true x y H Q ∨ rInP true x y H Q) := (op_notInK hK).or (op_notInP hu)
theorem op_eqU (hu : X.A.units < cLine) (hK : X.K = K := by rfl) : OpR X (compareOp .Eq) (fun x y H Q => rEq x y H Q ∨ rEqL K false x y H Q) := by subst hK; exact op_eq.or (op_eqL hu)
theorem op_neU (hu : X.A.units < cLine) (hK : X.K = K := by rfl) : OpR X (compareOp .NotEq) (fun x y H Q => rNe x y H Q ∨ rEqL K true x y H Q) := by subst hK; exact op_ne.or (op_neL hu)
theorem pt_tru {e : Expr} {te : TE} (ha : PE X e te) (hK : X.K = K := by rfl) (he : ∀ whole, isTrue e X.env whole = (do let v ← whole; standAt e.pos; holding [v] (truthy v)) := by intro _; rfl) : PT X e (tTru K te) := by
  subst hK
  exact pt_truth ha he
theorem call_listK (hK : X.K = K := by rfl) : CallR X (.type "list") (fun xs H Q => ∃ p ys, xs = [.ref p] ∧ (SqL K H p ys ∨ SqT K H p ys) ∧ ∀ l, H l = none → Q (.ref l) (upd H l (.lst ys))) := by subst hK; exact call_list_of
theorem call_tupleK (hK : X.K = K := by rfl) : CallR X (.type "tuple") (fun xs H Q => ∃ p ys, xs = [.ref p] ∧ ((SqL K H p ys ∧ ∀ l, H l = none → Q (.ref l) (upd H l (.tup ys))) ∨ (SqT K H p ys ∧ Q (.ref p) H))) := by subst hK; exact call_tuple_of
theorem sl_listK (hK : X.K = K := by rfl) : SlR X (rSlL K) := by subst hK; exact sl_list
theorem call_sortedK (hc : X.calm = true) {w : World} (hK : X.K = K := by rfl) (hw : X.w = w := by rfl) : CallR X (.builtin "sorted") (fun xs H Q => ∃ (p : Addr) (js : List Int), xs = [.ref p] ∧ js.length < 64 ∧ (SqL K H p (js.map V.int) ∨ H p = some (SetH w p js)) ∧
    ∀ (l : Addr) (ns : List Int), H l = none → ns.Perm js → ns.Pairwise (· ≤ ·) → Q (.ref l) (upd H l (.lst (ns.map V.int)))) := by subst hK; subst hw; exact call_sorted hc
theorem pi_listK {tg l : Expr} {tl : TE} (hl : PE X l tl) (hK : X.K = K := by rfl) : PI X tg l (iList K tl) := by subst hK; exact pi_list hl
end
end Pu

namespace Pu
open PySem PySem.Spec PyProof.Rows L2 Own M
section
variable {P : Program} {w : World} {K : PySem.W.Frag} {mg : Str → Option Value} {base : Heap} {H H' : Hp}
/-! ### from promises over a heap -/
theorem imp_of {CX : CXT} {k : Nat} {x : Str} {ps : List Str} {sp : Sp} {c : Pc} (C : Callee P w K mg base CX k x ps sp)
    (h : ∀ ds R X vs H (Q : VK) (E : XK), Rps K H ds vs → c ds R X → (∀ s v H', R s → Same H H' → TV K (fun b => Mut (H b)) H H H' s v → Q v H') → (∀ e H', X e → Same H H' → E (.ref (ExcR.clsOf mg e)) none H') → sp vs H Q E) :
    Callee P w K mg base CX k x ps (spOf mg c K) := by
  obtain ⟨f, fd, F, rest⟩ := C.ex
  exact ⟨f, fd, F.imp fun vs H Q E ⟨ds, R, X, r, hc, hQ, hX⟩ => h ds R X vs H Q E r hc hQ hX, rest⟩
theorem Rp.scr_inv {ns : List Int} {v : V} (h : Rp K H (.scr ns) v) : ∃ a, v = .ref a ∧ SqL K H a (ns.map V.int) := by
  cases h with
  | scr h => exact ⟨_, rfl, h⟩
theorem Rp.ints_inv {ns : List Int} {v : V} (h : Rp K H (.lst (ns.map D.int)) v) : ∃ a, v = .ref a ∧ H a = some (.lst (ns.map V.int)) := by
  obtain ⟨a, vs, rfl, h1, r⟩ := h.lst_inv
  rw [r.ints] at h1
  exact ⟨a, rfl, h1⟩
theorem Rp.pairs_inv {ps : List (Int × Int)} {v : V} (h : Rp K H (.lst (ps.map prD)) v) : ∃ a, v = .ref a ∧ LAt PairR H a ps := by
  obtain ⟨a, vs, rfl, h1, r⟩ := h.lst_inv
  exact ⟨a, rfl, vs, h1, r.lv⟩
theorem ret_ints {a : Addr} {ns : List Int} (n : H a = none) (h : H' a = some (.lst (ns.map V.int))) : TV K (fun b => Mut (H b)) H H H' (.own (ns.map D.int)) (.ref a) := ⟨a, rfl, (fun _ e => e ▸ n), _, h, Rps.of_ints ns⟩
theorem pairs_off {vs : List V} {ps : List (Int × Int)} {Z : Addr → Prop} (hz : ∀ b xs, H' b = some (.tup xs) → ¬ Z b) (h : LV PairR H' vs ps) : Rps K (off Z H') (ps.map prD) vs := by
  refine Rps.of_lv ⟨h.1, fun i p hp => ?_⟩
  obtain ⟨v, h1, a, e, h2⟩ := h.2 i p hp
  exact ⟨v, h1, a, e, off_of h2 (hz a _ h2)⟩
theorem ret_pairs {a : Addr} {ps : List (Int × Int)} (n : H a = none) (S1 : Same H H') (h : LAt PairR H' a ps) : TV K (fun b => Mut (H b)) H H H' (.own (ps.map prD)) (.ref a) := by
  obtain ⟨vs, h1, h2⟩ := h
  refine ⟨a, rfl, (fun _ e => e ▸ n), vs, h1, pairs_off (fun b xs hb z => ?_) h2⟩
  rcases z with z | z
  · have := mut_same S1 z
    rw [hb] at this
    exact this
  · rw [z, h1] at hb
    cases hb
theorem imms_ints : ∀ (ns : List Int), imms (ns.map D.int) = true
  | [] => by unfold List.map imms; rfl
  | n :: r => by rw [List.map_cons]; unfold imms; rw [imms_ints r]; unfold imm; rfl
/-! ### loops and blocks over lists of one kind -/
theorem getD_map {α : Type} {f : α → D} {xs : List α} {i : Nat} (h : i < xs.length) : (xs.map f).getD i .non = f xs[i] := by
  rw [List.getD_eq_getElem?_getD, List.getElem?_map, List.getElem?_eq_getElem h]
  rfl
/-- [e for x in xs if c], xs of one kind -/
theorem comp_of {α : Type} {φ : List (Option Nat)} {γ : Γ} {g : PTG} {c : PTT} {e : PTE} {s : S} {R : S → Prop} {xs : List α} {emb : α → D} (f : α → Option D) (hz : xs.length ≤ 100000)
    (turn : ∀ x ∈ xs, g (s.sub (emb x)) (atP φ γ) fun γ2 => c γ2 (fun b => if b = true then e γ2 (fun s => ∃ d, s.shd = some d ∧ f x = some d) (fun _ => False) else f x = none) fun _ => False)
    (done : R (.own (xs.filterMap f))) :
    CompW φ γ g c e (xs.map emb).length (fun i => s.sub ((xs.map emb).getD i .non)) R := by
  rw [List.length_map]
  refine ⟨⟨hz, fun i => (xs[i]?).bind f, fun i hi => ?_, by rw [filterMap_range]; exact done⟩⟩
  have e1 : (xs[i]?).bind f = f xs[i] := by rw [List.getElem?_eq_getElem hi]; rfl
  have t := turn xs[i] (List.getElem_mem hi)
  rw [← e1] at t
  rw [← getD_map (f := emb) hi] at t
  exact t
/-- for x in xs, xs of one kind -/
theorem for_of {α : Type} {js : List Nat} {γ : Γ} {g : PTG} {body : PTS} {s : S} {R : PEnds} {xs : List α} {emb : α → D} (inv : Nat → Γ → Prop) (h0 : inv 0 (clr js γ))
    (turn : ∀ (i : Nat) (hi : i < xs.length) γ', inv i γ' → g (s.sub (emb xs[i])) γ' fun γ2 => body { R with nx := fun γ3 => inv (i + 1) (clr js γ3), ct := fun γ3 => inv (i + 1) (clr js γ3), bk := R.nx } γ2)
    (done : ∀ γ', inv xs.length γ' → R.nx γ') :
    ForW js γ g body R (xs.map emb).length (fun i => s.sub ((xs.map emb).getD i .non)) := by
  refine ⟨⟨inv, h0, fun i γ' hi h => ?_, fun γ' h => ?_⟩⟩
  · rw [List.length_map] at hi
    have t := turn i hi γ' h
    rw [← getD_map (f := emb) hi] at t
    exact t
  · rw [List.length_map] at h
    exact done γ' h
/-- while c, by what holds ahead of each turn and a number that falls -/
theorem while_of {js : List Nat} {γ : Γ} {c : PTT} {body : PTS} {R : PEnds} (inv : Γ → Prop) (μ : Γ → Nat) (h0 : inv (clr js γ))
    (turn : ∀ γ', inv γ' → c γ' (fun b => if b = true then body { R with nx := fun γ3 => inv (clr js γ3) ∧ μ (clr js γ3) < μ γ', ct := fun γ3 => inv (clr js γ3) ∧ μ (clr js γ3) < μ γ', bk := R.nx } γ' else R.nx γ') (R.ex γ')) : WhileW js γ c body R := ⟨⟨inv, μ, h0, turn⟩⟩
theorem pickD {α : Type} (c : α → Bool) (emb : α → D) : ∀ ws : List α, ws.filterMap (fun q => if c q = true then some (emb q) else none) = (ws.filter c).map emb
  | [] => rfl
  | q :: r => by
    by_cases h : c q = true
    · rw [List.filterMap_cons_some (b := emb q) (by rw [if_pos h]), List.filter_cons_of_pos h, List.map_cons, pickD c emb r]
    · rw [List.filterMap_cons_none (by rw [if_neg h]), List.filter_cons_of_neg h, pickD c emb r]
theorem mapD {α : Type} (emb : α → D) (ws : List α) : ws.filterMap (fun q => some (emb q)) = ws.map emb := by rw [List.filterMap_eq_map']
theorem cutD_map {α : Type} (f : α → D) (xs : List α) (lo hi : Option Int) : cutD (xs.map f) lo hi = (cutD xs lo hi).map f := by
  unfold cutD
  rw [List.length_map, List.map_take, List.map_drop]
theorem cutD_to {α : Type} (xs : List α) {n : Int} (h : 0 ≤ n) : cutD xs none (some n) = xs.take n.toNat := by
  unfold cutD
  have e : n = (n.toNat : Int) := by omega
  rw [HT.sIx_none, e, HT.sIx_nat, List.drop_zero]
  rw [Nat.sub_zero, Int.toNat_natCast]
  by_cases c : n.toNat ≤ xs.length
  · rw [Nat.min_eq_left c]
  · rw [Nat.min_eq_right (by omega), List.take_of_length_le (Nat.le_refl _), List.take_of_length_le (by omega)]
theorem cutD_from {α : Type} (xs : List α) {n : Int} (h : 0 ≤ n) : cutD xs (some n) none = xs.drop n.toNat := by
  unfold cutD
  have e : n = (n.toNat : Int) := by omega
  rw [HT.sIx_none, e, HT.sIx_nat, Int.toNat_natCast]
  by_cases c : n.toNat ≤ xs.length
  · rw [Nat.min_eq_left c, List.take_of_length_le (by rw [List.length_drop]; omega)]
  · rw [Nat.min_eq_right (by omega), List.drop_of_length_le (Nat.le_refl _), List.drop_of_length_le (by omega)]
    simp
/-! ### the law itself -/
noncomputable def lawSp (K : PySem.W.Frag) : Sp := fun vs H Q _ => ∃ (a : Addr) (ns : List Int), vs = [.ref a] ∧ SqL K H a (ns.map V.int) ∧ ∀ H', Q (.bl true) H'
noncomputable def pc_law : Pc := fun ds R _ => ∃ ns : List Int, ds = [.scr ns] ∧ R (.sh (.bl true))
theorem law_of {vs : List V} {Q : VK} {Ec : XK} (h : lawSp K vs H Q Ec) : spOf mg pc_law K vs H Q Ec := by
  obtain ⟨a, ns, rfl, hS, q⟩ := h
  refine ⟨[.scr ns], fun s => s = .sh (.bl true), fun _ => False, .cons (.scr hS) .nil, ⟨ns, rfl, rfl⟩, fun s v H' e S1 tv => ?_, fun _ _ z => z.elim⟩
  subst e
  cases tv
  exact q H'
end
end Pu

namespace Pu
open PySem PySem.Spec PyProof.Rows L2 Own M
section
variable {K : PySem.W.Frag} {mg : Str → Option Value} {E : L2.St → XK} {H0 H H1 H' : Hp} {B Z Z' : Addr → Prop} {σ : L2.St} {γ : Γ}
/-! ### dicts of plain values -/
noncomputable def scalV : D → Option V
  | .int i => some (.int i) | .bl b => some (.bl b) | .non => some .non | .str x => some (.str x) | _ => none
noncomputable def vD : V → D
  | .int i => .int i | .bl b => .bl b | .str x => .str x | _ => .non
noncomputable def scalB : V → Bool
  | .int _ => true | .bl _ => true | .str _ => true | .non => true | _ => false
theorem rp_vD {v : V} (h : scalB v = true) : Rp K H (vD v) v := by
  cases v with
  | int i => exact .int i
  | bl b => exact .bl b
  | str x => exact .str x
  | non => exact .non
  | _ => cases h
theorem rp_scal {d : D} {v u : V} (h : Rp K H d v) (e : scalV d = some u) : v = u := by
  cases h with
  | int i => cases e; rfl
  | bl b => cases e; rfl
  | non => cases e; rfl
  | str x => cases e; rfl
  | _ => cases e
noncomputable def keyD : D → Option Key
  | .int i => some (.inl i) | .str x => some (.inr x) | _ => none
noncomputable def keysL : List D → Option (List Key)
  | [] => some []
  | d :: r => match keyD d, keysL r with
    | some k, some ks => some (k :: ks)
    | _, _ => none
noncomputable def keysD : D → Option (List Key)
  | .tup ds => keysL ds
  | _ => none
theorem keyD_v {d : D} {v : V} {k : Key} (h : Rp K H d v) (e : keyD d = some k) : v = kV k := by
  cases h with
  | int i => cases e; rfl
  | str x => cases e; rfl
  | _ => cases e
theorem keysL_v : ∀ {ds : List D} {vs : List V} {ks : List Key}, Rps K H ds vs → keysL ds = some ks → vs = ks.map kV
  | [], _, _, .nil, e => by cases e; rfl
  | d :: r, _, ks, .cons h t, e => by
    unfold keysL at e
    split at e
    · rename_i k js e1 e2
      cases e
      rw [keyD_v h e1, keysL_v t e2]
      rfl
    · cases e
theorem keysD_v {d : D} {v : V} {ks : List Key} (h : Rp K H d v) (e : keysD d = some ks) : ∃ b, v = .ref b ∧ H b = some (.tup (ks.map kV)) := by
  cases h with
  | tup h r =>
    rw [keysL_v r e] at h
    exact ⟨_, rfl, h⟩
  | _ => cases e
theorem Rp.dK_inv {kvs : List (Key × V)} {v : V} (h : Rp K H (.dK kvs) v) : ∃ a, v = .ref a ∧ H a = some (.dK kvs) := by
  cases h with
  | dK h => exact ⟨_, rfl, h⟩
theorem Rp.dT_inv {kvs : List (List Key × V)} {v : V} (h : Rp K H (.dT kvs) v) : ∃ a, v = .ref a ∧ H a = some (.dT kvs) := by
  cases h with
  | dT h => exact ⟨_, rfl, h⟩
/-- {} -/
noncomputable def pDNewK : PTE := fun _ R _ => R (.own (.dK []))
noncomputable def pDNewT : PTE := fun _ R _ => R (.own (.dT []))
theorem se_dnewK : SndE K mg E tDNewK pDNewK := by
  intro H0 B H σ γ R X Q env p q _
  intro l nl
  exact q _ _ _ p (same_upd nl) ⟨l, rfl, (fun _ e => e ▸ nl), upd_same⟩
theorem se_dnewT : SndE K mg E tDNewT pDNewT := by
  intro H0 B H σ γ R X Q env p q _
  intro l nl
  exact q _ _ _ p (same_upd nl) ⟨l, rfl, (fun _ e => e ▸ nl), upd_same⟩
noncomputable def fDGet : S → S → (S → Prop) → Prop := fun x y R => match x.d with
  | .dK kvs => ∃ k v, keyD y.d = some k ∧ valV kvs k = some v ∧ scalB v = true ∧ R (.sh (vD v))
  | .dT kvs => ∃ k v, keysD y.d = some k ∧ valV kvs k = some v ∧ scalB v = true ∧ R (.sh (vD v))
  | _ => False
theorem se_dget {td ty : TE} {a b : PTE} (ha : SndE K mg E td a) (hb : SndE K mg E ty b) : SndE K mg E (tDGet td ty) (p2 a b fDGet) := by
  show SndE K mg E (tOp (fun x y H Q => ∃ a v, x = .ref a ∧ DGet H a y (some v) ∧ Q v H) td ty) _
  refine se_2 ha hb fun H0 H H2 Z x y v u R Q s0 s1 hm tx ty h q => ?_
  have rx := tx.rp s0
  have ry := ty.rp s0
  unfold fDGet at h
  split at h
  · rename_i kvs e
    rw [e] at rx
    obtain ⟨l, rfl, hl⟩ := rx.dK_inv
    obtain ⟨k, w, h1, h2, h3, h4⟩ := h
    refine ⟨l, w, rfl, ?_, q _ _ H2 h4 (Same.refl _) (rp_vD h3)⟩
    rw [keyD_v ry h1, ← h2]
    exact DGet.k hl
  · rename_i kvs e
    rw [e] at rx
    obtain ⟨l, rfl, hl⟩ := rx.dT_inv
    obtain ⟨k, w, h1, h2, h3, h4⟩ := h
    obtain ⟨b, rfl, hb⟩ := keysD_v ry h1
    refine ⟨l, w, rfl, ?_, q _ _ H2 h4 (Same.refl _) (rp_vD h3)⟩
    rw [← h2]
    exact DGet.t hl hb
  · exact h.elim
noncomputable def fDIn (neg : Bool) : S → S → (S → Prop) → Prop := fun y x R => match x.d with
  | .dK kvs => ∃ k, keyD y.d = some k ∧ R (.sh (.bl (if neg then !(valV kvs k).isSome else (valV kvs k).isSome)))
  | .dT kvs => ∃ k, keysD y.d = some k ∧ R (.sh (.bl (if neg then !(valV kvs k).isSome else (valV kvs k).isSome)))
  | _ => False
theorem se_dnotin {td ty : TE} {a b : PTE} (ha : SndE K mg E ty a) (hb : SndE K mg E td b) : SndE K mg E (tDNotIn ty td) (p2 a b (fDIn true)) := by
  show SndE K mg E (tOp (fun y x H Q => ∃ a o, x = .ref a ∧ DGet H a y o ∧ Q (.bl (!o.isSome)) H) ty td) _
  refine se_2 ha hb fun H0 H H2 Z y x u v R Q s0 s1 hm ty tx h q => ?_
  have rx := tx.rp s0
  have ry := ty.rp s0
  unfold fDIn at h
  split at h
  · rename_i kvs e
    rw [e] at rx
    obtain ⟨l, rfl, hl⟩ := rx.dK_inv
    obtain ⟨k, h1, h4⟩ := h
    refine ⟨l, _, rfl, ?_, q _ _ H2 h4 (Same.refl _) (.bl _)⟩
    rw [keyD_v ry h1]
    exact DGet.k hl
  · rename_i kvs e
    rw [e] at rx
    obtain ⟨l, rfl, hl⟩ := rx.dT_inv
    obtain ⟨k, h1, h4⟩ := h
    obtain ⟨b, rfl, hb⟩ := keysD_v ry h1
    exact ⟨l, _, rfl, DGet.t hl hb, q _ _ H2 h4 (Same.refl _) (.bl _)⟩
  · exact h.elim
/-- d[k] = v, d one's own -/
noncomputable def pDPut (i : Nat) (b a : PTE) : PTS := fun R γ => match γ[i]? with
  | some (some (.own (.dK kvs))) => a γ (fun s => b γ (fun y => ∃ k u, keyD y.d = some k ∧ scalV s.d = some u ∧ kvs.length < 100000 ∧ R.nx (γ.set i (some (.own (.dK (putK kvs k u)))))) (R.ex γ)) (R.ex γ)
  | some (some (.own (.dT kvs))) => a γ (fun s => b γ (fun y => ∃ k u, keysD y.d = some k ∧ scalV s.d = some u ∧ kvs.length < 100000 ∧ R.nx (γ.set i (some (.own (.dT (putK kvs k u)))))) (R.ex γ)) (R.ex γ)
  | _ => False
theorem ss_dput (i : Nat) {ty tv : TE} {a b : PTE} (hb : SndE K mg E ty b) (ha : SndE K mg E tv a) : SndS K mg E (sDPut (tVar i) ty tv) (pDPut i b a) := by
  intro H0 B H σ γ R D hB env h e
  have hx : ∀ c H', R.ex γ c → Same H H' → E σ (.ref (ExcR.clsOf mg c)) none H' := fun c H' hc S' => e.ex σ γ c H' hc (env.grow S') (Fr.grow S')
  unfold pDPut at h
  split at h
  · rename_i kvs hi
    obtain ⟨v, hv, l, rfl, hb0, hl⟩ := env.slot i _ hi
    refine ha H0 B H σ γ _ _ _ env h (fun s u H1 h1 S1 t1 => ⟨_, hv, ?_⟩) hx
    have env1 := env.grow S1
    refine hb H0 B H1 σ γ _ _ _ env1 h1 (fun y w H2 h2 S2 t2 => ?_) fun c H' hc S' => hx c H' hc (S1.trans S')
    obtain ⟨k, z, k1, k2, k3, k4⟩ := h2
    have env2 := env1.grow S2
    have eu := rp_scal (t1.rp env1.same) k2
    have ew := keyD_v (t2.rp env2.same) k1
    subst eu ew
    refine ⟨l, _, rfl, DPut.k (S2 _ _ (S1 _ _ hl)) (Nat.lt_trans k3 (by decide)), ?_⟩
    obtain ⟨e2, f2⟩ := env2.mutate (es := .dK (putK kvs k u)) (us := .dK (putK kvs k u)) hi hv trivial fun F H' SF hF => hF
    exact e.nx _ _ _ k4 e2 ((Fr.grow (S1.trans S2)).trans f2)
  · rename_i kvs hi
    obtain ⟨v, hv, l, rfl, hb0, hl⟩ := env.slot i _ hi
    refine ha H0 B H σ γ _ _ _ env h (fun s u H1 h1 S1 t1 => ⟨_, hv, ?_⟩) hx
    have env1 := env.grow S1
    refine hb H0 B H1 σ γ _ _ _ env1 h1 (fun y w H2 h2 S2 t2 => ?_) fun c H' hc S' => hx c H' hc (S1.trans S')
    obtain ⟨k, z, k1, k2, k3, k4⟩ := h2
    have env2 := env1.grow S2
    have eu := rp_scal (t1.rp env1.same) k2
    obtain ⟨b', rfl, hb'⟩ := keysD_v (t2.rp env2.same) k1
    subst eu
    refine ⟨l, _, rfl, DPut.t (S2 _ _ (S1 _ _ hl)) hb' (Nat.lt_trans k3 (by decide)), ?_⟩
    obtain ⟨e2, f2⟩ := env2.mutate (es := .dT (putK kvs k u)) (us := .dT (putK kvs k u)) hi hv trivial fun F H' SF hF => hF
    exact e.nx _ _ _ k4 e2 ((Fr.grow (S1.trans S2)).trans f2)
  · exact h.elim
/-- what is given back is shared -/
noncomputable def pRetS (a : PTE) : PTS := fun R γ => a γ (fun s => match s.shd with | some d => R.rt (.sh d) | none => False) (R.ex γ)
theorem ss_retS {te : TE} {a : PTE} (ha : SndE K mg E te a) : SndS K mg E (tRet te) (pRetS a) := by
  intro H0 B H σ γ R D hB env h e
  refine ha H0 B H σ γ _ _ _ env h (fun s v H1 h1 S1 t1 => ?_) fun c H' hc S' => e.ex σ γ c H' hc (env.grow S') (Fr.grow S')
  split at h1
  · rename_i d hd
    have r := t1.shd (env.grow S1).same env.zm S1 hd
    exact e.rt (.sh d) v H1 h1 (env.same.trans S1) (Rp.mono (off_mono (Same.refl _) fun b _ _ z y => z (.inl y)) r)
  · exact h1.elim
noncomputable def lenAt (i : Nat) (γ : Γ) : Nat := match γ[i]? with
  | some (some (.own (.lst ds))) => ds.length
  | _ => 0
/-! ### enumerate -/
theorem at_head {α : Type} (d : α) (ds : List α) : atI (d :: ds) 0 = some d := atI_pos (by decide) rfl
/-- a row that begins with l -/
noncomputable def em (l : Int) (p : List Int) : D := .lst ((l :: p).map D.int)
theorem at_last (l : Int) (p : List Int) : atI ((l :: p).map D.int) (-1) = some (.int (lastI l p)) := by
  refine atI_map ?_
  unfold atI ixN
  rw [if_neg (by omega), if_pos (by rw [List.length_cons]; omega)]
  have e : (-1 + ((l :: p).length : Int)).toNat = p.length := by rw [List.length_cons]; omega
  rw [e]
  exact last_get l p
end
end Pu

namespace Pu
open PySem PySem.Spec PyProof.Rows L2 Own M
section
variable {K : PySem.W.Frag} {mg : Str → Option Value} {E : L2.St → XK} {H0 H H1 H' : Hp} {B Z Z' : Addr → Prop} {σ : L2.St} {γ : Γ}
noncomputable def fSumL : List S → (S → Prop) → Prop
  | [s], R => ∃ ns : List Int, s.d = .lst (ns.map D.int) ∧ R (.sh (.int ns.sum))
  | _, _ => False
theorem se_sumL {ta : TA} {r : PTA} (hr : SndA K mg E ta r) : SndE K mg E (tCB (fun xs H Q => ∃ (p : Addr) (ns : List Int), xs = [.ref p] ∧ SqL K H p (ns.map V.int) ∧ Q (.int ns.sum) H) ta) (pCB fSumL r) := by
  refine se_cb hr fun H0 H H1 Z ss vs R Q s0 s1 hm tv h q => ?_
  unfold fSumL at h
  split at h
  · obtain ⟨v, rfl, t1⟩ := tv.one_inv
    obtain ⟨ns, e, hR⟩ := h
    have rv := t1.rp s0
    rw [e] at rv
    obtain ⟨a, rfl, ha⟩ := rv.ints_inv
    exact ⟨a, ns, rfl, SqL.of ha, q _ _ H1 hR (Same.refl _) (.int _)⟩
  · exact h.elim
noncomputable def fMinL : List S → (S → Prop) → Prop
  | [s], R => ∃ ns : List Int, s.d = .lst (ns.map D.int) ∧ 0 < ns.length ∧ ∀ m, m ∈ ns → (∀ a ∈ ns, m ≤ a) → R (.sh (.int m))
  | _, _ => False
theorem se_minL {ta : TA} {r : PTA} (hr : SndA K mg E ta r) : SndE K mg E (tCB (fun xs H Q => ∃ (p : Addr) (ns : List Int), xs = [.ref p] ∧ SqL K H p (ns.map V.int) ∧ 0 < ns.length ∧ ∀ M, M ∈ ns → (∀ a ∈ ns, M ≤ a) → Q (.int M) H) ta) (pCB fMinL r) := by
  refine se_cb hr fun H0 H H1 Z ss vs R Q s0 s1 hm tv h q => ?_
  unfold fMinL at h
  split at h
  · obtain ⟨v, rfl, t1⟩ := tv.one_inv
    obtain ⟨ns, e, hne, hR⟩ := h
    have rv := t1.rp s0
    rw [e] at rv
    obtain ⟨a, rfl, ha⟩ := rv.ints_inv
    exact ⟨a, ns, rfl, SqL.of ha, hne, fun m h1 h2 => q _ _ H1 (hR m h1 h2) (Same.refl _) (.int _)⟩
  · exact h.elim
noncomputable def fAnyL : List S → (S → Prop) → Prop
  | [s], R => ∃ bs : List Bool, s.d = .lst (bs.map D.bl) ∧ R (.sh (.bl (bs.any id)))
  | _, _ => False
theorem Rps.bls {K : PySem.W.Frag} {H : Hp} : ∀ {js : List Bool} {vs : List V}, Rps K H (js.map D.bl) vs → vs = js.map V.bl
  | [], _, .nil => rfl
  | j :: r, _, .cons h t => by rw [Rp.bl_inv h, Rps.bls t]; rfl
theorem se_anyL {ta : TA} {r : PTA} (hr : SndA K mg E ta r) : SndE K mg E (tCB (fun xs H Q => ∃ (p : Addr) (bs : List Bool), xs = [.ref p] ∧ SqL K H p (bs.map V.bl) ∧ Q (.bl (bs.any id)) H) ta) (pCB fAnyL r) := by
  refine se_cb hr fun H0 H H1 Z ss vs R Q s0 s1 hm tv h q => ?_
  unfold fAnyL at h
  split at h
  · obtain ⟨v, rfl, t1⟩ := tv.one_inv
    obtain ⟨bs, e, hR⟩ := h
    have rv := t1.rp s0
    rw [e] at rv
    obtain ⟨a, us, rfl, ha, r1⟩ := rv.lst_inv
    rw [r1.bls] at ha
    exact ⟨a, bs, rfl, SqL.of ha, q _ _ H1 hR (Same.refl _) (.bl _)⟩
  · exact h.elim
noncomputable def fEqE (neg : Bool) : S → S → (S → Prop) → Prop := fun x y R => match x.d, y.d with
  | .lst ds, .lst [] => R (.sh (.bl (if neg then !ds.isEmpty else ds.isEmpty)))
  | _, _ => False
theorem se_eqE {neg : Bool} {ta tb : TE} {a b : PTE} (ha : SndE K mg E ta a) (hb : SndE K mg E tb b) : SndE K mg E (tOp (rEqE K neg) ta tb) (p2 a b (fEqE neg)) := by
  refine se_2 ha hb fun H0 H H2 Z x y v u R Q s0 s1 hm tx ty h q => ?_
  have rx := tx.rp s0
  have ry := ty.rp s0
  unfold fEqE at h
  split at h
  · rename_i ds e1 e2
    rw [e1] at rx
    rw [e2] at ry
    obtain ⟨l, us, rfl, hl, r⟩ := rx.lst_inv
    obtain ⟨m, ws, rfl, hm', r'⟩ := ry.lst_inv
    cases r'
    refine ⟨l, m, us, rfl, rfl, SqL.of hl, SqL.of hm', ?_⟩
    rw [isEmpty_len r.len]
    exact q _ _ H2 h (Same.refl _) (.bl _)
  · exact h.elim
end
end Pu

namespace Pu
open PySem PySem.Spec PyProof.Rows L2 Own M
section
variable {K : PySem.W.Frag} {mg : Str → Option Value} {E : L2.St → XK} {H0 H H1 H' : Hp} {B Z Z' : Addr → Prop} {σ : L2.St} {γ : Γ}
/-! ### try -/
/-! ### xs[k] = v, xs one's own -/
noncomputable def pSetI (i : Nat) (b a : PTE) : PTS := fun R γ => match γ[i]? with
  | some (some (.own (.lst ds))) => a γ (fun s => b γ (fun y => match y.d with
      | .int k => ∃ j d, ixN ds.length k = some j ∧ s.shd = some d ∧ R.nx (γ.set i (some (.own (.lst (ds.set j d)))))
      | _ => False) (R.ex γ)) (R.ex γ)
  | _ => False
theorem Rps.set {d : D} {v : V} (h : Rp K H d v) : ∀ {ds : List D} {vs : List V} (j : Nat), Rps K H ds vs → Rps K H (ds.set j d) (vs.set j v)
  | _, _, _, .nil => .nil
  | _, _, 0, .cons _ r => .cons h r
  | _, _, j + 1, .cons k r => .cons k (Rps.set h j r)
theorem ss_setI (i : Nat) {tb te : TE} {a b : PTE} (hb : SndE K mg E tb b) (ha : SndE K mg E te a) : SndS K mg E (tAsg te (gSub (tVar i) tb rSetL)) (pSetI i b a) := by
  intro H0 B H σ γ R D hB env h e
  have hx : ∀ c H', R.ex γ c → Same H H' → E σ (.ref (ExcR.clsOf mg c)) none H' := fun c H' hc S' => e.ex σ γ c H' hc (env.grow S') (Fr.grow S')
  unfold pSetI at h
  split at h
  · rename_i ds hi
    obtain ⟨v, hv, l, rfl, hb0, us, hl, ru⟩ := env.slot i _ hi
    refine ha H0 B H σ γ _ _ _ env h (fun s u H1 h1 S1 t1 => ⟨_, hv, ?_⟩) hx
    have env1 := env.grow S1
    refine hb H0 B H1 σ γ _ _ _ env1 h1 (fun y w H2 h2 S2 t2 => ?_) fun c H' hc S' => hx c H' hc (S1.trans S')
    have env2 := env1.grow S2
    have ry := t2.rp env2.same
    split at h2
    · rename_i k ek
      rw [ek] at ry
      obtain ⟨j, d, h3, h4, h5⟩ := h2
      have rd := Rp.mono (off_mono S2 fun _ _ _ z => z) (t1.shd env1.same env.zm S1 h4)
      refine ⟨l, us, k, j, rfl, ry.int_inv, (S1.trans S2) _ _ hl, by rw [ru.len]; exact h3, ?_⟩
      obtain ⟨e2, f2⟩ := env2.mutate (es := .lst (ds.set j d)) (us := .lst (us.set j u)) hi hv trivial fun F H' SF hF => ⟨_, hF, Rps.mono SF (Rps.set rd j (Rps.mono (off_mono (S1.trans S2) fun _ _ _ z => z) ru))⟩
      exact e.nx _ _ _ h5 e2 ((Fr.grow (S1.trans S2)).trans f2)
    · exact h2.elim
  · exact h.elim
/-! ### xs * k -/
/-! ### == of lists of plain values -/
end
end Pu

namespace PySem
open Sem (wp)
structure VPairs {K : Type} (es : List DictEntry) (kvs : List (K × Value)) : Prop where
  length : es.length = kvs.length
  get? : ∀ {i : Nat} {e : DictEntry} {k : K} {v : Value}, es[i]? = some e → kvs[i]? = some (k, v) → True ∧ e.val = v
noncomputable def VDict {K : Type} (h : Heap) (a : Addr) (kvs : List (K × Value)) (ep : Nat) : Prop :=
  ∃ o es, h.get? a = some o ∧ o.ExactDict ∧ o.data = .dict es ep ∧ True ∧ VPairs es.toList kvs ∧ True
section
variable {prog : Program} {w : World} {K : Type} {A : Around} {E : Value → Shared → Prop} {s : Shared}
theorem vd_meets (d : Addr) (hd : (d == sysModules) = false) :
    MeetsIn prog w (Builtin.«dict.values» ⟨[.ref d], []⟩) (fun _ R s => s.TypeIs (.ref d) "dict" ∧
      R (.ok (.ret (.ref s.heap.objs.size))) { s with heap := s.heap.push { cls := .type "dict_values", data := .fields #[.ref d] } }) :=
  .of_wp fun A R s ⟨hm, h⟩ => by
    refine wpAny_bind ?_
    unfold Builtin.Dict.noArgs
    refine wpAny_bind (wpAny_notOrdered_dict hm ?_)
    show wpAny _ _ (pure d) _ _ s
    refine wpAny_pure ?_
    show wpAny _ _ (Builtin.Dict.showsAll d >>= _) _ _ s
    unfold Builtin.Dict.showsAll
    rw [if_neg (by rw [hd]; exact Bool.false_ne_true)]
    refine wpAny_bind (wpAny_pure ?_)
    exact wpAny_bind (wpAny_newObj_type (wpAny_pure ⟨_, rfl, h⟩))
theorem vd_iter {v d : Addr} {kvs : List (K × Value)} {ep : Nat} {Q : Value → Shared → Prop} (hv : s.heap.IsValuesView v d) (hm : VDict s.heap d kvs ep)
    (hQ : Q (.ref s.heap.objs.size) { s with heap := s.heap.push { cls := .type "dict_valueiterator", data := .fields #[.ref d, .int 0 0, .int kvs.length 0, .int ep 0] } }) :
    wpAny (model prog w) A (pyIter (.ref v)) Q E s := by
  obtain ⟨ov, hov, hcv, hdv⟩ := id hv
  obtain ⟨o, es, ho, hc, hdat, hk, hp, hn⟩ := id hm
  refine wpAny_pyIter_slot hv.typeIs F.slot_dict_values_iter (wpAny_call_entry F.slot_dict_values_iter hv.typeIs F.entry_dict_values_iter ?_ (F.args_dict_values_iter_1 _))
  unfold Builtin.«dict_values.__iter__»
  refine wpAny_bind (wpAny_pure ?_)
  refine wpAny_bind ?_
  unfold Builtin.Dict_items.dictOf
  refine wpAny_bind (wpAny_field hov hdv (x := .ref d) rfl (wpAny_pure ?_))
  refine wpAny_bind ?_
  unfold Builtin.Dict_items.newIterator
  refine wpAny_bind (wpAny_dictEntries ho hdat ?_)
  refine wpAny_bind (wpAny_dictEpoch ho hdat ?_)
  have hsz : es.size = kvs.length := by rw [← hp.length]; simp
  have hown : Builtin.Dict_items.ownsTuple "dict_valueiterator" = false := by decide
  simp only [hown, Bool.false_eq_true, if_false]
  refine wpAny_newObj_type (wpAny_pure ⟨_, rfl, "dict_valueiterator", _, ⟨_, Heap.get?_push_size _ rfl, rfl⟩, F.slot_dict_valueiterator_next.lookup, ?_⟩)
  simpa [rawInt, hsz] using hQ

theorem vd_item {it d : Addr} {i ep : Nat} {kvs : List (K × Value)} {k : K} {v : Value} {Q : Option Value → Shared → Prop} (hit : s.heap.IsValIter it d i kvs.length ep)
    (hm : VDict s.heap d kvs ep) (hx : kvs[i]? = some (k, v))
    (hQ : ∀ h', h'.IsValIter it d (i + 1) kvs.length ep → Heap.SameBut it s.heap h' → Q (some v) { s with heap := h' }) :
    wpAny (model prog w) A (pyNext (.ref it)) Q E s := by
  obtain ⟨o, ho, hc, hd⟩ := id hit
  obtain ⟨od, es, hod, hcd, hdd, hk, hp, hn⟩ := id hm
  unfold pyNext
  refine wpAny_bind (wpAny_attempt (wpAny_callSpecial?_slot (name := Str.ofString "__next__") hit.typeIs F.slot_dict_valueiterator_next
    (wpAny_call_entry F.slot_dict_valueiterator_next hit.typeIs F.entry_dict_valueiterator_next ?_ (F.args_dict_valueiterator_next_1 _))))
  refine wpAny_bind (wpAny_pure ?_)
  refine wpAny_bind ?_
  refine wpAny_bind ?_
  first | refine wpAny_bind (wpAny_typeNameOfWhole_valiter hit.typeIs (wpAny_pure ?_)) | refine wpAny_bind (wpAny_typeNameOf_valiter hit.typeIs (wpAny_pure ?_))
  refine wpAny_bind (wpAny_fieldsOf ho hd ?_)
  have hown : Builtin.Dict_items.ownsTuple "dict_valueiterator" = false := by decide
  simp only [hown, Bool.false_eq_true, if_false]
  show wpAny _ _ (if (Value.ref d == Value.none) = true then _ else _) _ _ s
  rw [if_neg (show ¬ ((Value.ref d == Value.none) = true) from Bool.false_ne_true)]
  refine wpAny_bind (wpAny_pure ?_)
  refine wpAny_bind (wpAny_dictEntries hod hdd ?_)
  have hsz : es.size = kvs.length := by rw [← hp.length]; simp
  rw [if_neg (by rw [hsz]; simp)]
  refine wpAny_bind (wpAny_pure ?_)
  refine wpAny_bind (wpAny_dictEpoch hod hdd ?_)
  rw [if_neg (by simp)]
  refine wpAny_pure ?_

  have hlt : i < kvs.length := by
    rcases Nat.lt_or_ge i kvs.length with h | h
    · exact h
    · simp [List.getElem?_eq_none h] at hx
  have hlt' : i < es.size := by rw [hsz]; exact hlt
  have hval : es[i].val = v := (hp.get? (e := es[i]) (by simp [hlt']) hx).2
  simp only [show ¬ ((i : Int) < 0) from by omega, if_false, Int.toNat_natCast, Array.getElem?_eq_getElem hlt']
  refine wpAny_bind ?_
  first | refine wpAny_bind (wpAny_typeNameOfWhole_valiter hit.typeIs (wpAny_pure ?_)) | refine wpAny_bind (wpAny_typeNameOf_valiter hit.typeIs (wpAny_pure ?_))
  refine wpAny_bind (wpAny_isOneOf_valiter hit.typeIs ?_)
  show wpAny _ _ (setField (.ref it) 1 (rawInt ((i : Int) + 1)) >>= _) _ _ s
  refine wpAny_bind (wpAny_setField ho hd (by simp) ?_)
  have hit' : (s.heap.update it (Obj.mapFields (·.setIfInBounds 1 (rawInt ((i : Int) + 1))))).IsValIter it d (i + 1) kvs.length ep :=
    ⟨_, Heap.get?_update_self _ ho (Obj.isFreed_of_fields (Obj.data_mapFields hd _)), (Obj.cls_mapFields ..).trans hc, by rw [Obj.data_mapFields hd]; simp [rawInt]⟩
  refine wpAny_bind (wpAny_holding ?_)
  refine wpAny_bind (wpAny_isOneOf_valiter (s := { s with heap := s.heap.update it (Obj.mapFields (·.setIfInBounds 1 (rawInt ((i : Int) + 1)))) }) hit'.typeIs ?_)
  refine wpAny_bind (wpAny_isOneOf_valiter (s := { s with heap := s.heap.update it (Obj.mapFields (·.setIfInBounds 1 (rawInt ((i : Int) + 1)))) }) hit'.typeIs ?_)
  show wpAny _ _ (pure es[i].val) _ _ _
  exact wpAny_pure (wpAny_pure ⟨_, rfl, wpAny_pure (hval ▸ hQ _ hit' (Heap.SameBut.update ..))⟩)

theorem vd_end {it d : Addr} {i ep : Nat} {kvs : List (K × Value)} {Q : Option Value → Shared → Prop} (hh : A.handled = none) (hit : s.heap.IsValIter it d i kvs.length ep)
    (hm : VDict s.heap d kvs ep) (hx : kvs[i]? = none)
    (hQ : ∀ h', Heap.ExtBut it s.heap h' → Q none { s with heap := h' }) : wpAny (model prog w) A (pyNext (.ref it)) Q E s := by
  obtain ⟨o, ho, hc, hd⟩ := id hit
  obtain ⟨od, es, hod, hcd, hdd, hk, hp, hn⟩ := id hm
  unfold pyNext
  refine wpAny_bind (wpAny_attempt (wpAny_callSpecial?_slot (name := Str.ofString "__next__") hit.typeIs F.slot_dict_valueiterator_next
    (wpAny_call_entry F.slot_dict_valueiterator_next hit.typeIs F.entry_dict_valueiterator_next ?_ (F.args_dict_valueiterator_next_1 _))))
  refine wpAny_bind (wpAny_pure ?_)
  refine wpAny_bind ?_
  refine wpAny_bind ?_
  first | refine wpAny_bind (wpAny_typeNameOfWhole_valiter hit.typeIs (wpAny_pure ?_)) | refine wpAny_bind (wpAny_typeNameOf_valiter hit.typeIs (wpAny_pure ?_))
  refine wpAny_bind (wpAny_fieldsOf ho hd ?_)
  have hown : Builtin.Dict_items.ownsTuple "dict_valueiterator" = false := by decide
  simp only [hown, Bool.false_eq_true, if_false]
  show wpAny _ _ (if (Value.ref d == Value.none) = true then _ else _) _ _ s
  rw [if_neg (show ¬ ((Value.ref d == Value.none) = true) from Bool.false_ne_true)]
  refine wpAny_bind (wpAny_pure ?_)
  refine wpAny_bind (wpAny_dictEntries hod hdd ?_)
  have hsz : es.size = kvs.length := by rw [← hp.length]; simp
  rw [if_neg (by rw [hsz]; simp)]
  refine wpAny_bind (wpAny_pure ?_)
  refine wpAny_bind (wpAny_dictEpoch hod hdd ?_)
  rw [if_neg (by simp)]
  refine wpAny_pure ?_
  have hge : es.size ≤ i := by rw [hsz]; simpa using hx
  simp only [show ¬ ((i : Int) < 0) from by omega, if_false, Int.toNat_natCast, Array.getElem?_eq_none hge]
  refine wpAny_bind ?_
  first | refine wpAny_bind (wpAny_typeNameOfWhole_valiter hit.typeIs (wpAny_pure ?_)) | refine wpAny_bind (wpAny_typeNameOf_valiter hit.typeIs (wpAny_pure ?_))
  show wpAny _ _ (setField (.ref it) 0 .none >>= _) _ _ s
  refine wpAny_bind (wpAny_setField ho hd (by simp) ?_)
  show wpAny _ _ (newExc (.type "StopIteration") [] >>= _) _ _ _
  refine wpAny_bind ?_
  simp only [newExc, newTuple]
  refine wpAny_bind (wpAny_newObj_type ?_ (by size_fits))
  refine wpAny_bind (m := firstArgMember _ _) (wpAny_of_eq (a := Value.none) (by first | rfl | (simp only [firstArgMember]; rfl)) ?_)
  refine wpAny_newObj_type ?_ (by size_fits)
  simp only [raiseNew]
  refine wpAny_bind (wpAny_handled ?_)
  rw [show A.in1.handled = none from hh]
  refine wpAny_bind (wpAny_pure (wpAny_throw ?_))
  refine wpAny_bind (wpAny_isInstance (T := "StopIteration") (b := true) ⟨_, Heap.get?_push_size _ rfl, rfl⟩ isSubtype_stop ?_)
  exact wpAny_pure (hQ _ (((Heap.SameBut.update ..).extBut.push _).push _))
end
end PySem

namespace Own
open PySem PySem.Spec PyProof.Rows L2
/-! ### t + u of tuples; a dict by tuple keys that is written out with one pair; a tuple walked -/
noncomputable def rCatU (K : PySem.W.Frag) : R2 := fun x y H Q => ∃ a b xs ys, x = .ref a ∧ y = .ref b ∧ SqT K H a xs ∧ SqT K H b ys ∧ xs.length + ys.length ≤ sizeLine ∧
  (xs = [] → Q (.ref b) H) ∧ (xs ≠ [] → ys = [] → Q (.ref a) H) ∧ (xs ≠ [] → ys ≠ [] → ∀ p, H p = none → Q (.ref p) (upd H p (.tup (xs ++ ys))))
section
variable {X : Cx} {K : PySem.W.Frag}
theorem op_catU (hK : X.K = K := by rfl) : OpR X (binaryOp .Add) (rCatU K) := by
  subst hK
  intro pins s σ H x y v u Q I rx ry h
  obtain ⟨a, b, xs, ys, rfl, rfl, ha, hb, hz, q0, q1, q2⟩ := h
  cases rx
  cases ry
  by_cases hx : xs = []
  · obtain ⟨its, r1, p1, _⟩ := I.tuple ha
    obtain ⟨its2, r2, p2, _⟩ := I.tuple hb
    have e : its = [] := r1.nil_iff.mpr hx
    obtain ⟨⟨cls, dd, data, sl⟩, ho, hc, n, hd⟩ := id p1
    obtain ⟨⟨cls2, dd2, data2, sl2⟩, ho2, hc2, n2, hd2⟩ := id p2
    simp only at hc hd hc2 hd2
    subst hc hd hc2 hd2
    exact concat_meets ⟨_, ho, rfl⟩ ⟨_, ho2, rfl⟩ noFill_tuple_add seq_tuple_add PySem.F.slot_tuple_add PySem.F.entry_tuple_add (PySem.F.args_tuple_add_2 _ _)
      (tuple_addW0 a b its.toArray its2.toArray n n2 dd dd2 sl sl2 (by simp [e])) ⟨ho, ho2, ⟨.ref b, H, I, rfl, q0 hx⟩⟩
  · exact op_catT pins s σ H (.ref a) (.ref b) _ _ Q I rfl rfl ⟨a, b, xs, ys, rfl, rfl, ha, hb, hx, hz, q1 hx, q2 hx⟩
theorem vv_one {b : Addr} {x : V} {ws : List (Value × Value)} (h : VV [(.ref b, x)] ws) : ∃ r, ws = [(.ref b, r)] ∧ RelV x r := by
  cases h with
  | cons h t =>
    cases t
    rename_i y
    obtain ⟨u, r⟩ := y
    obtain ⟨h1, h2⟩ := h
    cases (show u = Value.ref b from h1)
    exact ⟨r, rfl, h2⟩
noncomputable def tDispT (tk tv : TE) : TE := fun σ H Q => ∀ p, H p = none → tk σ (upd H p (.dT [])) fun y H1 => tv σ H1 fun x H2 => H2 p = some (.dT []) ∧ ∃ b ks, y = .ref b ∧ H2 b = some (.tup (ks.map kV)) ∧ Q (.ref p) (upd H2 p (.dT [(ks, x)]))
theorem pe_dispT {k v : Expr} {tk tv : TE} {pos : Pos} (hu : X.A.units + 1 < cLine) (hk : PE X k tk) (hv : PE X v tv) : PE X (.Dict [some k] [v] pos) (tDispT tk tv) := by
  intro pins s σ H Q I q
  have hn := I.hok.fresh (Nat.le_refl s.heap.objs.size)
  have I1 := I.laid (a := s.heap.objs.size) (o := .dT []) (h' := s.heap.push { cls := .type "dict", data := .dict #[] }) (t' := s.toks) (fun _ _ q => Heap.get?_push_of_some _ q) (Nat.le_refl _) (dt_empty s.heap I.big)
  refine wpAny_Dict_any rfl rfl (by simp) (by simp) (thn ((pps_cons hk hv pps_nil) pins _ σ _ (fun ps H2 => match ps with
    | [(y, x)] => H2 s.heap.objs.size = some (.dT []) ∧ ∃ b ks, y = .ref b ∧ H2 b = some (.tup (ks.map kV)) ∧ Q (.ref s.heap.objs.size) (upd H2 s.heap.objs.size (.dT [(ks, x)]))
    | _ => False) I1 (q _ hn)) fun ws s2 ⟨ps, H2, I2, rel, h2⟩ => ?_)
  split at h2
  · rename_i y x
    obtain ⟨e, b, ks, ey, eb, q2⟩ := h2
    subst ey
    obtain ⟨wv, ew, rv⟩ := vv_one rel
    subst ew
    obtain ⟨z, hd, xs, rel', dd⟩ := dt_of I2.hok e
    cases rel'
    unfold storeAll
    rw [List.forIn_cons]
    refine wpAny_bind (wpAny_bind (wpAny_dictSet_heap (hsz := Nat.zero_le _) (show (tupleKind _).room X.A from Nat.lt_of_succ_lt hu) (key_of I2.hok eb) dd fun h' dd' hs => wpAny_pure ?_))
    dsimp only
    rw [List.forIn_nil]
    refine wpAny_pure ?_
    obtain ⟨qo, es, ep, hq, h2, h3, h4, _, h5⟩ := dd'
    refine ⟨.ref s.heap.objs.size, _, d_write (ob := .dT [(ks, x)]) I2 (by rw [e]; exact True.intro) hs ⟨qo, hq⟩ ⟨(by show 1 ≤ sizeLine; decide), hd, [(ks, b, wv)], ?_, qo, es, ep, hq, h2, h3, h4, h5⟩, rfl, q2⟩
    refine .cons ⟨rfl, ?_, rv⟩ .nil
    rw [upd_ne (ne_of eb e (fun z => nomatch z))]
    exact eb
  · exact h2.elim
end
end Own
namespace Own
open PySem PySem.Spec PyProof.Rows L2
/-! ### list(d.values()) -/
section
variable {prog : Program} {w : World} {A : Around} {K : Type} {d r : Addr} {kvs : List (K × Value)} {ep : Nat} {h h' : Heap}
theorem VDict.at (x : VDict h d kvs ep) (e : ∀ o, h.get? d = some o → h'.get? d = some o) : VDict h' d kvs ep := let ⟨o, es, ho, r⟩ := x; ⟨o, es, e _ ho, r⟩
theorem VDict.lt (x : VDict h d kvs ep) : d < h.objs.size := let ⟨_, _, ho, _⟩ := x; Heap.lt_size ho
theorem walks_vals (hh : A.handled = none) (I d : Addr) (hne : d ≠ I) (kvs : List (K × Value)) (ep : Nat) :
    Walks prog w A I [I, d] [I] kvs.length (fun i v => ∃ k, kvs[i]? = some (k, v)) (fun i h => h.IsValIter I d i kvs.length ep ∧ VDict h d kvs ep) where
  sub := fun b hb => by simp at hb; simp [hb]
  frame := fun _ _ _ st hk => ⟨st.1.at fun o e => hk I (by simp) o e, VDict.at st.2 fun o e => hk d (by simp) o e⟩
  item := fun i s Q E hi st hQ => by
    refine vd_item (k := (kvs[i]).1) (v := (kvs[i]).2) st.1 st.2 (by simp [hi]) fun h' hit' hs' => ?_
    exact hQ _ h' s.toks ⟨(kvs[i]).1, by simp [hi]⟩ ⟨hit', VDict.at st.2 fun o e => hs'.extBut d o hne e⟩ fun b o hb e => hs'.extBut b o (fun h => hb (by simp [h])) e
  done := fun s Q E st hQ => vd_end hh st.1 st.2 (by simp) fun h' he' => hQ h' s.toks fun b o hb e => he' b o (fun h => hb (by simp [h])) e
  self := fun _ _ _ _ st hQ => wpAny_pyIter_valiter st.1 hQ
theorem src_vals : PySem.W.KdlSrc prog w "dict_values" r d kvs.length (fun i v => ∃ k, kvs[i]? = some (k, v)) (fun h => h.IsValuesView r d ∧ VDict h d kvs ep) where
  type := fun _ hm => hm.1.typeIs
  there := fun _ hm => ⟨let ⟨_, ho, _⟩ := hm.1; Heap.lt_size ho, VDict.lt hm.2⟩
  keep := fun _ _ hm hk => ⟨let ⟨o, ho, x⟩ := hm.1; ⟨o, hk r (.inl rfl) o ho, x⟩, VDict.at hm.2 fun o e => hk d (.inr rfl) o e⟩
  notList := by decide
  notTuple := by decide
  hint := fun _ _ _ _ hm hq => PySem.W.kdl_hint_values hm.1.typeIs hq
  iter := fun _ _ hh hm => ⟨_, _, (fun _ _ hq => vd_iter hm.1 hm.2 hq), walks_vals hh _ d (Nat.ne_of_lt (VDict.lt hm.2)) kvs ep, ⟨⟨_, Heap.get?_push_size _ rfl, rfl, rfl⟩, VDict.at hm.2 fun o e => Heap.get?_push_of_some _ e⟩⟩
end
noncomputable def ViewH (v d : Addr) : HO := .ext fun h => h.IsValuesView v d
noncomputable def rVals : V → List V → Hp → VK → Prop := fun x vs H Q => ∃ d kvs, x = .ref d ∧ vs = [] ∧ H d = some (.dT kvs) ∧ ∀ v, H v = none → Q (.ref v) (upd H v (ViewH v d))
section
variable {X : Cx}
theorem mt_values : MtR X "dict.values" rVals := by
  intro pins s σ H x xs v us Q I rx rv h
  obtain ⟨d, kvs, rfl, rfl, hd, q⟩ := h
  cases rx
  have hus := rv.zero
  subst hus
  obtain ⟨z, lo, xs, rel, dd⟩ := dt_of I.hok hd
  obtain ⟨o, es, ep, ho, hx, _⟩ := id dd
  refine call_meetsIn PySem.F.slot_dict_values ⟨o, ho, hx.1⟩ PySem.F.entry_dict_values (PySem.F.args_dict_values_1 _) (vd_meets d lo) ⟨⟨o, ho, hx.1⟩, ?_⟩
  refine ⟨.ref s.heap.objs.size, _, I.laid (a := s.heap.objs.size) (o := ViewH s.heap.objs.size d) (t' := s.toks) (fun _ _ q => Heap.get?_push_of_some _ q) (Nat.le_refl _) ⟨⟨_, Heap.get?_push_size _ rfl, rfl, rfl⟩, ⟨_, Heap.get?_push_size _ rfl⟩, fun h1 h2 ⟨o, ho, r⟩ e => ⟨o, e o ho, r⟩⟩, rfl, q _ (I.hok.fresh (Nat.le_refl _))⟩
theorem pe_valsK {K : PySem.W.Frag} {o : Expr} {to : TE} {name : Str} {apos cpos : Pos} (ho : PE X o to) (hK : X.K = K := by rfl) (hn : name = "values" := by rfl)
    (hbase : attributeBase o name X.env (eval o X.env) = eval o X.env := by rfl) (hline : (apos.endLine == cpos.line) = true := by rfl) : PE X (.Call (.Attribute o name apos) [] [] cpos) (tBM0 K "dict" rVals to) := by
  subst hK hn
  exact pe_bm0 PySem.F.plainAttrs_dict PySem.F.slot_dict_values PySem.F.type_dict_values mt_values ho hbase hline
theorem kt_vals {H : Hp} : ∀ {kvs : List (List Key × V)} {xs : List (List Key × Addr × Value)}, KT H kvs xs → Vals (kvs.map (·.2)) (xs.map (·.2.2))
  | _, _, .nil => .nil
  | _, _, .cons h r => .cons h.2.2 (kt_vals r)
theorem call_listV (hc : X.calm = true) : CallR X (.type "list") (fun xs H Q => ∃ (v d : Addr) (kvs : List (List Key × V)), xs = [.ref v] ∧ H v = some (ViewH v d) ∧ H d = some (.dT kvs) ∧ ∀ l, H l = none → Q (.ref l) (upd H l (.lst (kvs.map (·.2))))) := by
  intro pins s σ H xs us Q I rv h
  obtain ⟨v, d, kvs, rfl, hv, hd, q⟩ := h
  obtain ⟨u, rfl, ru⟩ := rv.one
  obtain rfl : u = Value.ref v := ru
  obtain ⟨z, lo, xs, rel, dd⟩ := dt_of I.hok hd
  obtain ⟨o, es, ep, ho, hx, hdat, he, hk, hn⟩ := id dd
  have view : s.heap.IsValuesView v d := (I.hok v _ hv).1
  have hl : xs.length = kvs.length := by simpa using (kt_vals rel).length.symm
  have vd : VDict s.heap d (xs.map fun x => ((), x.2.2)) ep := by
    refine ⟨o, es, ho, hx, hdat, trivial, ⟨by rw [he, List.length_map, List.length_map], fun {i e k v} h1 h2 => ⟨trivial, ?_⟩⟩, trivial⟩
    rw [he, List.getElem?_map] at h1
    rw [List.getElem?_map] at h2
    cases hi : xs[i]? with
    | none => rw [hi] at h1; cases h1
    | some x =>
      rw [hi] at h1 h2
      cases h1
      cases h2
      rfl
  refine PySem.W.kdl_call src_vals (I.ok.hd hc) ⟨view, vd⟩ (by rw [List.length_map]; omega) fun h' tk acc' c' hk hD hacc => ?_
  refine ⟨.ref s.heap.objs.size, upd H s.heap.objs.size (.lst (kvs.map (·.2))), ?_, rfl, q _ (I.hok.fresh (Nat.le_refl _))⟩
  have ev := PySem.W.kdl_vals_eq (kvs := xs.map fun x => ((), x.2.2)) acc'.toList (by rw [Array.length_toList]; exact hacc.1) fun j u hu => hacc.2 j u (by rw [← hu, Array.getElem?_toList])
  refine I.laid (t' := tk) hk (Nat.le_refl _) ⟨by rw [List.length_map]; exact z, acc'.toList, c', ?_, by simpa using hD⟩
  rw [ev, List.map_map]
  exact kt_vals rel
end
end Own
namespace Pu
open PySem PySem.Spec PyProof.Rows L2 Own M
section
variable {K : PySem.W.Frag} {mg : Str → Option Value} {E : L2.St → XK} {H0 H H1 H' : Hp} {B Z Z' : Addr → Prop} {σ : L2.St} {γ : Γ}
/-! ### tuples: their sum, a walk over one; {t: x} -/
noncomputable def tupD : Option D → Option (List D)
  | some (.tup ds) => some ds | _ => none
theorem tupD_eq {o : Option D} {ds : List D} (h : tupD o = some ds) : o = some (.tup ds) := by
  unfold tupD at h
  split at h
  · cases h; rfl
  · cases h
noncomputable def fCatU : S → S → (S → Prop) → Prop := fun x y R => ∃ ds es, tupD x.shd = some ds ∧ tupD y.shd = some es ∧ ds.length + es.length ≤ 100000 ∧ R (.sh (.tup (ds ++ es)))
theorem se_catU {ta tb : TE} {a b : PTE} (ha : SndE K mg E ta a) (hb : SndE K mg E tb b) : SndE K mg E (tOp (rCatU K) ta tb) (p2 a b fCatU) := by
  refine se_2 ha hb fun H0 H H2 Z x y v u R Q s0 s1 hm tx ty h q => ?_
  obtain ⟨ds, es, e1, e2, hz, h⟩ := h
  have hm' : ∀ b, Z b → Mut (H2 b) := fun b z => mut_same s1 (hm b z)
  have r1 := tx.shd s0 hm s1 (tupD_eq e1)
  have r2 := ty.shd s0 hm s1 (tupD_eq e2)
  obtain ⟨l, us, rfl, h1, k1⟩ := Rp.tup_inv r1
  obtain ⟨m, ws, rfl, h2, k2⟩ := Rp.tup_inv r2
  refine ⟨l, m, us, ws, rfl, rfl, SqT.of (off_sub _ _ h1), SqT.of (off_sub _ _ h2), by rw [k1.len, k2.len]; exact Nat.le_trans hz (by decide), fun e => ?_, fun _ e => ?_, fun _ _ p np => ?_⟩
  · subst e
    cases k1
    exact q _ _ _ h (Same.refl _) r2
  · subst e
    cases k2
    refine q _ _ _ h (Same.refl _) ?_
    rw [List.append_nil]
    exact r1
  · refine q _ _ _ h (same_upd np) (.tup (off_of upd_same fun z => ?_) (Rps.mono (off_mono (same_upd np) fun _ _ _ z => z) (k1.append k2)))
    have := hm' p z
    rw [np] at this
    exact this
noncomputable def pIT (a : PTE) : PTI := fun γ R X => a γ (fun s => ∃ ds, tupD s.shd = some ds ∧ R ds.length fun i => .sh (ds.getD i .non)) X
theorem si_tup {te : TE} {a : PTE} (ha : SndE K mg E te a) : SndI K mg E (iTup K te) (pIT a) := by
  intro H0 B H σ γ R X Q env h q qx
  refine ha H0 B H σ γ _ X _ env h (fun s v H1 h1 S1 t1 => ?_) qx
  have env1 := env.grow S1
  obtain ⟨ds, ed, h1⟩ := h1
  have r1 := t1.shd env1.same env.zm S1 (tupD_eq ed)
  obtain ⟨l, vs, rfl, hl, k1⟩ := Rp.tup_inv r1
  refine ⟨l, rfl, ⟨vs, SqT.of (off_sub _ _ hl)⟩, q _ _ _ H1 h1 S1 ⟨fun i H' Z' hi lt => ?_, fun H' Z' lt => ?_⟩⟩
  · have hd : ds[i]? = some (ds.getD i .non) := by rw [List.getD_eq_getElem?_getD, List.getElem?_eq_getElem hi]; rfl
    obtain ⟨u, hu, tu⟩ := k1.get hd
    have k := off_sub _ _ (lt.off _ _ hl)
    refine ⟨⟨vs, u, SqT.of k, hu⟩, fun x H'' y => ?_⟩
    obtain ⟨rfl, y⟩ := y
    have := y vs (SqT.of k)
    rw [hu] at this
    cases this
    exact ⟨Same.refl _, Rp.mono lt.off tu⟩
  · exact ⟨vs, SqT.of (off_sub _ _ (lt.off _ _ hl)), by rw [k1.len]; exact Nat.le_refl _⟩
/-- list(d.values()), d by tuples -/
noncomputable def scalBs : List (List Key × V) → Bool
  | [] => true
  | p :: r => scalB p.2 && scalBs r
theorem rps_vals : ∀ {kvs : List (List Key × V)}, scalBs kvs = true → Rps K H (kvs.map fun p => vD p.2) (kvs.map (·.2))
  | [], _ => .nil
  | p :: r, h => by
    unfold scalBs at h
    rw [Bool.and_eq_true] at h
    exact .cons (rp_vD h.1) (rps_vals h.2)
noncomputable def rListV : List V → Hp → VK → Prop := fun xs H Q => ∃ (v d : Addr) (kvs : List (List Key × V)), xs = [.ref v] ∧ H v = some (ViewH v d) ∧ H d = some (.dT kvs) ∧ ∀ l, H l = none → Q (.ref l) (upd H l (.lst (kvs.map (·.2))))
noncomputable def pVals (a : PTE) : PTE := fun γ R X => a γ (fun s => ∃ kvs, s.d = .dT kvs ∧ scalBs kvs = true ∧ R (.own (.lst (kvs.map fun p => vD p.2)))) X
theorem se_vals {te : TE} {a : PTE} (ha : SndE K mg E te a) : SndE K mg E (tCB rListV (tCons (tBM0 K "dict" rVals te) tNil)) (pVals a) := by
  intro H0 B H σ γ R X Q env h q qx
  refine ha H0 B H σ γ _ X _ env h (fun s v H1 h1 S1 t1 => ?_) qx
  obtain ⟨kvs, e, hs, hR⟩ := h1
  have env1 := env.grow S1
  have rx := t1.rp env1.same
  rw [e] at rx
  obtain ⟨l, rfl, hl⟩ := rx.dT_inv
  refine ⟨.inr (.inr (.inl ⟨rfl, .inr ⟨kvs, hl⟩⟩)), l, kvs, rfl, rfl, hl, fun p np => ?_⟩
  refine ⟨p, l, kvs, rfl, upd_same, by rw [upd_ne (ne_of_none hl np)]; exact hl, fun m nm => ?_⟩
  have S2 : Same H1 (upd H1 p (ViewH p l)) := same_upd np
  exact q _ _ _ hR ((S1.trans S2).trans (same_upd nm)) ⟨m, rfl, (fun _ e => e ▸ (S1.trans S2).free nm), _, upd_same, rps_vals hs⟩
noncomputable def pDispT (a b : PTE) : PTE := fun γ R X => a γ (fun y => b γ (fun x => ∃ ks u, keysD y.d = some ks ∧ scalV x.d = some u ∧ R (.own (.dT [(ks, u)]))) X) X
theorem se_dispT {tk tv : TE} {a b : PTE} (ha : SndE K mg E tk a) (hb : SndE K mg E tv b) : SndE K mg E (tDispT tk tv) (pDispT a b) := by
  intro H0 B H σ γ R X Q env h q qx
  intro p np
  have S0 : Same H (upd H p (.dT [])) := same_upd np
  have env0 := env.grow S0
  refine ha H0 B _ σ γ _ X _ env0 h (fun y v H1 h1 S1 t1 => ?_) fun c H' hc S' => qx c H' hc (S0.trans S')
  have env1 := env0.grow S1
  refine hb H0 B H1 σ γ _ X _ env1 h1 (fun x w H2 h2 S2 t2 => ?_) fun c H' hc S' => qx c H' hc ((S0.trans S1).trans S')
  have env2 := env1.grow S2
  obtain ⟨ks, u, k1, k2, k3⟩ := h2
  have eu := rp_scal (t2.rp env2.same) k2
  obtain ⟨b', rfl, hb'⟩ := keysD_v (Rp.mono S2 (t1.rp env1.same)) k1
  subst eu
  refine ⟨S2 _ _ (S1 _ _ upd_same), b', ks, rfl, hb', q _ _ _ k3 (fun c o hc => ?_) ⟨p, rfl, (fun _ e => e ▸ np), upd_same⟩⟩
  have : c ≠ p := fun e => by subst e; rw [np] at hc; cases hc
  rw [upd_ne this]
  exact S2 _ _ (S1 _ _ (S0 _ _ hc))
end
section
variable {X : Cx} {K : PySem.W.Frag}
theorem pi_tupK {tg l : Expr} {tl : TE} (hl : PE X l tl) (hK : X.K = K := by rfl) : PI X tg l (iTup K tl) := by subst hK; exact pi_tup hl
end
end Pu

namespace M
open PySem PySem.Spec PyProof.Rows L2 Own Pu
/-! ### orders of a set of holders: what one costs by pairs, which wishes it keeps, the least of them -/
noncomputable def tD (ms : List Int) : D := .tup (ms.map D.int)
noncomputable def kT (ms : List Int) : List Key := ms.map Sum.inl
theorem arg_tD (ms : List Int) : arg (tD ms) = .sh (tD ms) := by
  unfold arg tD imm
  rw [imms_ints]
theorem start_tD {N : List Str} {ms : List Int} {ds : List D} : startP N (tD ms :: ds) = some (.sh (tD ms)) :: (ds.map (fun d => some (arg d)) ++ List.replicate (N.length - (ds.length + 1)) none) := by
  unfold startP
  rw [List.map_cons, arg_tD]
  rfl
theorem keysD_tD (ms : List Int) : keysD (tD ms) = some (kT ms) := by
  show keysL (ms.map D.int) = some (ms.map Sum.inl)
  induction ms with
  | nil => rfl
  | cons m r ih =>
    rw [List.map_cons, List.map_cons]
    unfold keysL
    rw [ih]
    rfl
theorem tupD_tD (ms : List Int) : tupD (some (tD ms)) = some (ms.map D.int) := rfl
noncomputable def lessM (ms : List Int) (h : Int) : List Int := ms.filter fun m => decide (m ≠ h)
noncomputable def lastM (ws : List (Int × Int)) (ms : List Int) (h : Int) : Bool := !(ws.any fun q => decide (q.1 = h) && decide (q.2 ∈ ms))
noncomputable def firstM (ws : List (Int × Int)) (ms : List Int) (h : Int) : Bool := !(ws.any fun q => decide (q.2 = h) && decide (q.1 ∈ ms))
noncomputable def setsM (hs : List Int) : List (List Int) := hs.foldl (fun S h => S ++ S.map (· ++ [h])) [[]]
theorem setsM_snoc (hs : List Int) (h : Int) : setsM (hs ++ [h]) = setsM hs ++ (setsM hs).map (· ++ [h]) := by
  unfold setsM
  rw [List.foldl_append]
  rfl
theorem snoc_ind {P : List Int → Prop} (h0 : P []) (h1 : ∀ r h, P r → P (r ++ [h])) (l : List Int) : P l := by
  have key : ∀ r : List Int, P r.reverse := fun r => by
    induction r with
    | nil => exact h0
    | cons a r ih => rw [List.reverse_cons]; exact h1 _ _ ih
  rw [← List.reverse_reverse l]
  exact key _
theorem setsM_len (hs : List Int) : (setsM hs).length = 2 ^ hs.length := by
  refine snoc_ind (P := fun hs => (setsM hs).length = 2 ^ hs.length) rfl (fun r h ih => ?_) hs
  rw [setsM_snoc, List.length_append, List.length_map, ih, List.length_append, List.length_singleton, Nat.pow_succ]
  omega
theorem setsM_sub (hs : List Int) : ∀ ms ∈ setsM hs, ms.Sublist hs := by
  refine snoc_ind (P := fun hs => ∀ ms ∈ setsM hs, ms.Sublist hs) (fun ms h => ?_) (fun r h ih ms hm => ?_) hs
  · have : ms = [] := by simpa [setsM] using h
    subst this
    exact .slnil
  · rw [setsM_snoc, List.mem_append] at hm
    rcases hm with hm | hm
    · exact (ih _ hm).trans (List.sublist_append_left _ _)
    · obtain ⟨n, hn, rfl⟩ := List.mem_map.mp hm
      exact (ih _ hn).append (List.Sublist.refl _)
/-- each one against those behind it -/
noncomputable def oc (c : Int → Int → Int) : List Int → Int
  | [] => 0
  | a :: r => (r.map (c a)).sum + oc c r
noncomputable def Keeps (ws : List (Int × Int)) (o : List Int) : Prop := o.Pairwise fun a b => (b, a) ∉ ws
structure Least (ws : List (Int × Int)) (c : Int → Int → Int) (ms : List Int) (v : Int) : Prop where
  is : ∃ o : List Int, o.Perm ms ∧ Keeps ws o ∧ oc c o = v
  le : ∀ o : List Int, o.Perm ms → Keeps ws o → v ≤ oc c o
theorem Least.uniq {ws : List (Int × Int)} {c : Int → Int → Int} {ms : List Int} {v u : Int} (h : Least ws c ms v) (k : Least ws c ms u) : v = u := by
  obtain ⟨o, o1, o2, o3⟩ := h.is
  obtain ⟨p, p1, p2, p3⟩ := k.is
  have := h.le p p1 p2
  have := k.le o o1 o2
  omega
theorem oc_snoc (c : Int → Int → Int) (l : Int) : ∀ o : List Int, oc c (o ++ [l]) = oc c o + (o.map (c · l)).sum
  | [] => by simp [oc]
  | a :: r => by
    rw [List.cons_append]
    unfold oc
    rw [oc_snoc c l r]
    simp only [List.map_append, List.map_cons, List.map_nil, List.sum_append, List.sum_cons, List.sum_nil]
    omega
theorem sum_perm {f : Int → Int} {xs ys : List Int} (h : xs.Perm ys) : (xs.map f).sum = (ys.map f).sum := by
  induction h with
  | nil => rfl
  | cons x _ ih => rw [List.map_cons, List.map_cons, List.sum_cons, List.sum_cons, ih]
  | swap x y l =>
    simp only [List.map_cons, List.sum_cons]
    omega
  | trans _ _ i1 i2 => exact i1.trans i2
theorem less_perm {ms : List Int} {h : Int} (nd : ms.Nodup) (hm : h ∈ ms) : ms.Perm (h :: lessM ms h) := by
  have e : lessM ms h = ms.erase h := by
    unfold lessM
    rw [nd.erase_eq_filter]
    congr 1
    funext m
    by_cases z : m = h <;> simp [z, bne]
  rw [e]
  exact List.perm_cons_erase hm
theorem less_sub {ms : List Int} {h : Int} : (lessM ms h).Sublist ms := List.filter_sublist
theorem lastM_iff {ws : List (Int × Int)} {ms : List Int} {h : Int} : lastM ws ms h = true ↔ ∀ b ∈ ms, (h, b) ∉ ws := by
  unfold lastM
  rw [Bool.not_eq_true', List.any_eq_false]
  constructor
  · intro k b hb hw
    exact k _ hw (by simp [hb])
  · intro k q hq z
    simp only [Bool.and_eq_true, decide_eq_true_eq] at z
    obtain ⟨z1, z2⟩ := z
    subst z1
    exact k q.2 z2 hq
theorem firstM_iff {ws : List (Int × Int)} {ms : List Int} {h : Int} : firstM ws ms h = true ↔ ∀ b ∈ ms, (b, h) ∉ ws := by
  unfold firstM
  rw [Bool.not_eq_true', List.any_eq_false]
  constructor
  · intro k b hb hw
    exact k _ hw (by simp [hb])
  · intro k q hq z
    simp only [Bool.and_eq_true, decide_eq_true_eq] at z
    obtain ⟨z1, z2⟩ := z
    subst z1
    exact k q.1 z2 hq
/-- the least over who lies last -/
theorem least_step {ws : List (Int × Int)} {c : Int → Int → Int} {ms : List Int} {vs : Int → Int} {M : Int} (nd : ms.Nodup) (hw : ∀ q ∈ ws, q.1 ≠ q.2) (hv : ∀ l ∈ ms, Least ws c (lessM ms l) (vs l))
    (h1 : ∃ l ∈ ms, lastM ws ms l = true ∧ M = vs l + ((lessM ms l).map (c · l)).sum) (h2 : ∀ l ∈ ms, lastM ws ms l = true → M ≤ vs l + ((lessM ms l).map (c · l)).sum) : Least ws c ms M := by
  constructor
  · obtain ⟨l, hl, hlast, e⟩ := h1
    obtain ⟨o, o1, o2, o3⟩ := (hv l hl).is
    refine ⟨o ++ [l], ?_, ?_, ?_⟩
    · exact (List.perm_append_singleton l o).trans (((List.Perm.cons l o1)).trans (less_perm nd hl).symm)
    · refine List.pairwise_append.mpr ⟨o2, List.pairwise_singleton _ _, fun a ha b hb => ?_⟩
      rw [List.mem_singleton.mp hb]
      exact lastM_iff.mp hlast a (less_sub.subset (o1.mem_iff.mp ha))
    · rw [oc_snoc, o3, e, sum_perm o1]
  · intro o o1 o2
    rcases List.eq_nil_or_concat o with rfl | ⟨p, l, rfl⟩
    · obtain ⟨l, hl, _⟩ := h1
      rw [o1.nil_eq.symm] at hl
      cases hl
    · rw [List.concat_eq_append] at o1 o2 ⊢
      have hl : l ∈ ms := o1.mem_iff.mp (by simp)
      obtain ⟨k1, _, k2⟩ := List.pairwise_append.mp o2
      have pp : p.Perm (lessM ms l) := by
        have := ((List.perm_append_singleton l p).symm.trans o1).trans (less_perm nd hl)
        exact this.cons_inv
      have hlast : lastM ws ms l = true := lastM_iff.mpr fun b hb => by
        rcases List.mem_cons.mp ((less_perm nd hl).mem_iff.mp hb) with e | hb'
        · subst e
          exact fun z => hw _ z rfl
        · exact k2 b (pp.mem_iff.mpr hb') l (List.mem_singleton.mpr rfl)
      have a1 := h2 l hl hlast
      have a2 := (hv l hl).le p pp k1
      rw [oc_snoc, sum_perm pp]
      omega
theorem lessM_append (a b : List Int) (l : Int) : lessM (a ++ b) l = lessM a l ++ lessM b l := List.filter_append ..
theorem lessM_not {a : List Int} {l : Int} (h : l ∉ a) : lessM a l = a := List.filter_eq_self.mpr fun m hm => decide_eq_true fun e => h (e ▸ hm)
theorem setsM_cons (hs : List Int) : ∃ T, setsM hs = [] :: T := by
  refine snoc_ind (P := fun hs => ∃ T, setsM hs = [] :: T) ⟨[], rfl⟩ (fun r h ⟨T, e⟩ => ?_) hs
  rw [setsM_snoc, e]
  exact ⟨_, rfl⟩
theorem setsM_getLast (hs : List Int) : (setsM hs).getLast? = some hs := by
  refine snoc_ind (P := fun hs => (setsM hs).getLast? = some hs) rfl (fun r h e => ?_) hs
  rw [setsM_snoc, List.getLast?_append, List.getLast?_map, e]
  rfl
theorem setsM_nodup {hs : List Int} : hs.Nodup → (setsM hs).Nodup := by
  refine snoc_ind (P := fun hs => hs.Nodup → (setsM hs).Nodup) (fun _ => by simp [setsM]) (fun r h ih nd => ?_) hs
  obtain ⟨n1, _, n2⟩ := List.nodup_append.mp nd
  rw [setsM_snoc]
  refine List.nodup_append.mpr ⟨ih n1, ?_, fun a ha b hb e => ?_⟩
  · exact List.Pairwise.map _ (fun a b hne e => hne (List.append_cancel_right e)) (ih n1)
  · obtain ⟨c, hc, rfl⟩ := List.mem_map.mp hb
    subst e
    exact n2 h ((setsM_sub r _ ha).subset (by simp)) h (by simp) rfl
/-- a set comes behind those that lack one of it -/
theorem less_before {hs : List Int} : hs.Nodup → ∀ (k : Nat) (ms : List Int), (setsM hs)[k]? = some ms → ∀ l ∈ ms, ∃ j : Nat, j < k ∧ (setsM hs)[j]? = some (lessM ms l) := by
  refine snoc_ind (P := fun hs => hs.Nodup → ∀ (k : Nat) (ms : List Int), (setsM hs)[k]? = some ms → ∀ l ∈ ms, ∃ j : Nat, j < k ∧ (setsM hs)[j]? = some (lessM ms l)) (fun _ k ms e l hl => ?_) (fun r h ih nd k ms e l hl => ?_) hs
  · have : ms = [] := by
      have := List.mem_of_getElem? e
      simpa [setsM] using this
    subst this
    cases hl
  · obtain ⟨n1, _, n2⟩ := List.nodup_append.mp nd
    rw [setsM_snoc] at e ⊢
    by_cases hk : k < (setsM r).length
    · rw [List.getElem?_append_left hk] at e
      obtain ⟨j, hj, ej⟩ := ih n1 k ms e l hl
      exact ⟨j, hj, by rw [List.getElem?_append_left (by omega)]; exact ej⟩
    · rw [List.getElem?_append_right (by omega), List.getElem?_map] at e
      cases q : (setsM r)[k - (setsM r).length]? with
      | none => rw [q] at e; cases e
      | some n =>
        rw [q] at e
        cases e
        have hh : h ∉ n := fun z => n2 h ((setsM_sub r n (List.mem_of_getElem? q)).subset z) h (by simp) rfl
        by_cases el : l = h
        · subst el
          have e1 : lessM (n ++ [l]) l = n := by
            rw [lessM_append, lessM_not hh]
            simp [lessM]
          obtain ⟨j, hj, ej⟩ := List.mem_iff_getElem.mp (List.mem_of_getElem? q)
          refine ⟨j, by omega, ?_⟩
          rw [List.getElem?_append_left hj, e1, List.getElem?_eq_getElem hj, ej]
        · have hln : l ∈ n := by
            rcases List.mem_append.mp hl with z | z
            · exact z
            · exact absurd (List.mem_singleton.mp z) el
          have e1 : lessM (n ++ [h]) l = lessM n l ++ [h] := by
            rw [lessM_append]
            congr 1
            exact lessM_not fun z => el (List.mem_singleton.mp z)
          obtain ⟨j, hj, ej⟩ := ih n1 _ n q l hln
          refine ⟨(setsM r).length + j, by omega, ?_⟩
          rw [List.getElem?_append_right (by omega), List.getElem?_map, Nat.add_sub_cancel_left, ej, e1]
          rfl
theorem kT_inj {a b : List Int} (h : kT a = kT b) : a = b := List.map_inj_right (fun _ _ => Sum.inl.inj) |>.mp h
/-- each set has one that no wish puts ahead of another of it -/
noncomputable def HasLast (hs : List Int) (ws : List (Int × Int)) : Prop := ∀ ms : List Int, ms.Sublist hs → ms ≠ [] → ∃ l ∈ ms, ∀ b ∈ ms, (l, b) ∉ ws
/-- the least costs of the first n sets -/
structure Tab (ws : List (Int × Int)) (c : Int → Int → Int) (S : List (List Int)) (kvs : List (List Key × V)) : Prop where
  keys : kvs.map (·.1) = S.map kT
  val : ∀ ms ∈ S, ∃ v, valV kvs (kT ms) = some (.int v) ∧ Least ws c ms v
theorem tab_nil (ws : List (Int × Int)) (c : Int → Int → Int) : Tab ws c [[]] [([], .int 0)] := by
  refine ⟨rfl, fun ms hm => ?_⟩
  rw [List.mem_singleton.mp hm]
  refine ⟨0, rfl, ⟨[], .refl _, .nil, rfl⟩, fun o ho _ => ?_⟩
  rw [ho.eq_nil]
  exact Int.le_refl _
theorem Tab.put {ws : List (Int × Int)} {c : Int → Int → Int} {S : List (List Int)} {kvs : List (List Key × V)} {ms : List Int} {v : Int} (T : Tab ws c S kvs) (hn : ms ∉ S) (L : Least ws c ms v) : Tab ws c (S ++ [ms]) (putK kvs (kT ms) (.int v)) := by
  have no : valV kvs (kT ms) = none := by
    cases e : valV kvs (kT ms) with
    | none => rfl
    | some u =>
      unfold valV at e
      cases q : kvs.find? (fun kv => decide (kv.1 = kT ms)) with
      | none => rw [q] at e; cases e
      | some x =>
        have h1 := List.mem_of_find?_eq_some q
        have h2 := List.find?_some q
        have h3 : x.1 ∈ kvs.map (·.1) := List.mem_map.mpr ⟨x, h1, rfl⟩
        rw [T.keys, of_decide_eq_true h2] at h3
        obtain ⟨n, hn', e'⟩ := List.mem_map.mp h3
        rw [kT_inj e'] at hn'
        exact absurd hn' hn
  constructor
  · rw [putK_new _ no, List.map_append, List.map_append, T.keys]
    rfl
  · intro n hn'
    rw [valV_put]
    by_cases e : n = ms
    · subst e
      exact ⟨v, if_pos rfl, L⟩
    · rw [if_neg fun z => e (kT_inj z)]
      rcases List.mem_append.mp hn' with z | z
      · exact T.val n z
      · exact absurd (List.mem_singleton.mp z) e
open Classical in
theorem pick_fun {ms : List Int} {P : Int → Int → Prop} (h : ∀ l ∈ ms, ∃ v, P l v) : ∃ f : Int → Int, ∀ l ∈ ms, P l (f l) :=
  ⟨fun l => if hl : l ∈ ms then Classical.choose (h l hl) else 0, fun l hl => by
    simp only [dif_pos hl]
    exact Classical.choose_spec (h l hl)⟩
theorem ring_flip {ls : List Int} {ws : List (Int × Int)} {r : List Int} (R : Ring ls (ws.map fun q => (q.2, q.1)) r) : Ring ls ws r.reverse := by
  have sw : ∀ {x y : Int}, (x, y) ∈ (ws.map fun q => (q.2, q.1)) → (y, x) ∈ ws := fun h => by
    obtain ⟨q, hq, e⟩ := List.mem_map.mp h
    cases e
    exact hq
  refine ⟨by rw [List.length_reverse]; exact R.two, List.pairwise_reverse.mpr (R.nodup.imp fun h => Ne.symm h), fun x hx => R.sub x (List.mem_reverse.mp hx), fun i x y h1 h2 => ?_, fun x y h1 h2 => ?_⟩
  · have hi : i + 1 < r.length := by
      have := (List.getElem?_eq_some_iff.mp h2).1
      rw [List.length_reverse] at this
      exact this
    rw [List.getElem?_reverse (by omega)] at h1 h2
    exact sw (R.chain (r.length - 1 - (i + 1)) y x h2 (by rw [← h1]; congr 1; omega))
  · have two := R.two
    rw [List.getElem?_reverse (by omega)] at h1
    rw [List.length_reverse, List.getElem?_reverse (by omega)] at h2
    exact sw (R.last y x (by rw [← h2]; congr 1; omega) (by rw [← h1]; congr 1))
theorem hasLast_of {hs : List Int} {ws : List (Int × Int)} (hu : ∀ q ∈ ws, q.1 ≠ q.2) (h : ¬ ∃ r, Ring hs ws r) : HasLast hs ws := fun ms hm hne => by
  refine Classical.byContradiction fun z => h ?_
  have h1 : ∀ x ∈ ms, ∃ y ∈ ms, (y, x) ∈ (ws.map fun q => (q.2, q.1)) := fun x hx => by
    refine Classical.byContradiction fun k => z ⟨x, hx, fun b hb hw => k ⟨b, hb, List.mem_map.mpr ⟨_, hw, rfl⟩⟩⟩
  obtain ⟨r, R⟩ := ring_of (ws := ws.map fun q => (q.2, q.1)) (fun q hq => by
    obtain ⟨p, hp, e⟩ := List.mem_map.mp hq
    subst e
    exact fun e => hu p hp e.symm) hne h1
  have F := ring_flip R
  exact ⟨_, F.two, F.nodup, fun x hx => hm.subset (F.sub x hx), F.chain, F.last⟩
theorem valV_at : ∀ {kvs : List (List Key × V)}, (kvs.map (·.1)).Nodup → ∀ p ∈ kvs, valV kvs p.1 = some p.2
  | [], _, p, h => by cases h
  | q :: r, nd, p, h => by
    rw [List.map_cons, List.nodup_cons] at nd
    rcases List.mem_cons.mp h with e | h
    · rw [e]
      exact valV_pos rfl
    · rw [valV_neg fun e => nd.1 (List.mem_map.mpr ⟨p, h, e.symm⟩)]
      exact valV_at nd.2 p h
/-- the costs of the sets, one behind the other -/
noncomputable def TabV (ws : List (Int × Int)) (c : Int → Int → Int) (S : List (List Int)) (vs : List Int) : Prop := vs.length = S.length ∧ ∀ (i : Nat) (ms : List Int) (v : Int), S[i]? = some ms → vs[i]? = some v → Least ws c ms v
theorem Tab.vals {ws : List (Int × Int)} {c : Int → Int → Int} {S : List (List Int)} {kvs : List (List Key × V)} (T : Tab ws c S kvs) (nd : S.Nodup) : ∃ vs : List Int, kvs.map (·.2) = vs.map V.int ∧ TabV ws c S vs := by
  have nk : (kvs.map (·.1)).Nodup := by
    rw [T.keys]
    exact List.Pairwise.map _ (fun a b hne e => hne (kT_inj e)) nd
  have hk : ∀ p ∈ kvs, ∃ ms ∈ S, p.1 = kT ms ∧ ∃ v, p.2 = .int v ∧ Least ws c ms v := fun p hp => by
    have h1 : p.1 ∈ kvs.map (·.1) := List.mem_map.mpr ⟨p, hp, rfl⟩
    rw [T.keys] at h1
    obtain ⟨ms, hm, e⟩ := List.mem_map.mp h1
    obtain ⟨v, h2, h3⟩ := T.val ms hm
    rw [e, valV_at nk p hp] at h2
    exact ⟨ms, hm, e.symm, v, Option.some.inj h2, h3⟩
  have hl : kvs.length = S.length := by
    have := congrArg List.length T.keys
    rw [List.length_map, List.length_map] at this
    exact this
  refine ⟨kvs.map fun p => match p.2 with | .int v => v | _ => 0, ?_, by rw [List.length_map, hl], fun i ms v h1 h2 => ?_⟩
  · rw [List.map_map]
    refine List.map_congr_left fun p hp => ?_
    obtain ⟨ms, _, _, v, e, _⟩ := hk p hp
    show p.2 = V.int (match p.2 with | .int v => v | _ => 0)
    rw [e]
  · rw [List.getElem?_map] at h2
    cases q : kvs[i]? with
    | none => rw [q] at h2; cases h2
    | some p =>
      rw [q] at h2
      obtain ⟨ms', hm', e1, u, e2, L⟩ := hk p (List.mem_of_getElem? q)
      have h3 : (kvs.map (·.1))[i]? = some p.1 := by rw [List.getElem?_map, q]; rfl
      rw [T.keys, List.getElem?_map, h1] at h3
      have e3 : ms = ms' := kT_inj ((Option.some.inj h3).trans e1)
      subst e3
      have e4 : u = v := by
        have := Option.some.inj h2
        simp only [e2] at this
        exact this
      rw [← e4]
      exact L
theorem scalBs_ints : ∀ {kvs : List (List Key × V)} {vs : List Int}, kvs.map (·.2) = vs.map V.int → scalBs kvs = true ∧ kvs.map (fun p => vD p.2) = vs.map D.int
  | [], [], _ => ⟨rfl, rfl⟩
  | p :: r, v :: vs, h => by
    rw [List.map_cons, List.map_cons, List.cons.injEq] at h
    obtain ⟨h1, h2⟩ := scalBs_ints h.2
    unfold scalBs
    rw [h1, List.map_cons, List.map_cons, h2, h.1]
    exact ⟨rfl, rfl⟩
/-- ahead by the numbers -/
structure Best (ws : List (Int × Int)) (c : Int → Int → Int) (ms o : List Int) : Prop where
  perm : o.Perm ms
  keeps : Keeps ws o
  le : ∀ p : List Int, p.Perm ms → Keeps ws p → oc c o ≤ oc c p
  first : ∀ p : List Int, p.Perm ms → Keeps ws p → oc c p = oc c o → o = p ∨ sl o p
theorem best_nil (ws : List (Int × Int)) (c : Int → Int → Int) : Best ws c [] [] := by
  refine ⟨.refl _, .nil, fun p hp _ => ?_, fun p hp _ _ => .inl hp.eq_nil.symm⟩
  rw [hp.eq_nil]
  exact Int.le_refl _
/-- the head of a cheapest order is a cheapest first one -/
theorem head_ok {ws : List (Int × Int)} {c : Int → Int → Int} {ms : List Int} {vs : Int → Int} {V g : Int} {p : List Int} (nd : ms.Nodup) (hu : ∀ q ∈ ws, q.1 ≠ q.2) (hv : ∀ l ∈ ms, Least ws c (lessM ms l) (vs l)) (hV : Least ws c ms V)
    (hp : (g :: p).Perm ms) (hk : Keeps ws (g :: p)) (e : oc c (g :: p) = V) : g ∈ ms ∧ firstM ws ms g = true ∧ vs g + ((lessM ms g).map (c g)).sum = V ∧ p.Perm (lessM ms g) ∧ oc c p = vs g := by
  have hg : g ∈ ms := hp.mem_iff.mp (List.mem_cons_self ..)
  have pp : p.Perm (lessM ms g) := (hp.trans (less_perm nd hg)).cons_inv
  obtain ⟨k1, k2⟩ := List.pairwise_cons.mp hk
  have hf : firstM ws ms g = true := firstM_iff.mpr fun b hb => by
    rcases List.mem_cons.mp ((less_perm nd hg).mem_iff.mp hb) with e | hb'
    · subst e
      exact fun z => hu _ z rfl
    · exact k1 b (pp.mem_iff.mpr hb')
  have a1 := (hv g hg).le p pp k2
  obtain ⟨o, o1, o2, o3⟩ := (hv g hg).is
  have a2 := hV.le (g :: o) ((List.Perm.cons g o1).trans (less_perm nd hg).symm) (List.pairwise_cons.mpr ⟨fun b hb => firstM_iff.mp hf b (less_sub.subset (o1.mem_iff.mp hb)), o2⟩)
  have e1 : oc c (g :: p) = (p.map (c g)).sum + oc c p := rfl
  have e2 : oc c (g :: o) = (o.map (c g)).sum + oc c o := rfl
  have s1 := sum_perm (f := c g) pp
  have s2 := sum_perm (f := c g) o1
  exact ⟨hg, hf, by omega, pp, by omega⟩
theorem best_step {ws : List (Int × Int)} {c : Int → Int → Int} {ms o : List Int} {vs : Int → Int} {V f : Int} (nd : ms.Nodup) (hu : ∀ q ∈ ws, q.1 ≠ q.2) (hv : ∀ l ∈ ms, Least ws c (lessM ms l) (vs l)) (hV : Least ws c ms V)
    (hf : f ∈ ms) (h1 : firstM ws ms f = true) (h2 : vs f + ((lessM ms f).map (c f)).sum = V) (h3 : ∀ g ∈ ms, firstM ws ms g = true → vs g + ((lessM ms g).map (c g)).sum = V → f ≤ g) (B : Best ws c (lessM ms f) o) : Best ws c ms (f :: o) := by
  have eo : oc c o = vs f := by
    obtain ⟨p, p1, p2, p3⟩ := (hv f hf).is
    have := (hv f hf).le o B.perm B.keeps
    have := B.le p p1 p2
    omega
  have es := sum_perm (f := c f) B.perm
  have e : oc c (f :: o) = V := by
    show (o.map (c f)).sum + oc c o = V
    omega
  refine ⟨(List.Perm.cons f B.perm).trans (less_perm nd hf).symm, List.pairwise_cons.mpr ⟨fun b hb => firstM_iff.mp h1 b (less_sub.subset (B.perm.mem_iff.mp hb)), B.keeps⟩, fun p p1 p2 => ?_, fun p p1 p2 p3 => ?_⟩
  · rw [e]
    exact hV.le p p1 p2
  · cases p with
    | nil => rw [p1.nil_eq.symm] at hf; cases hf
    | cons g p =>
      obtain ⟨q1, q2, q3, q4, q5⟩ := head_ok nd hu hv hV p1 p2 (p3.trans e)
      have hle := h3 g q1 q2 q3
      by_cases eg : f = g
      · subst eg
        rcases B.first p q4 (List.pairwise_cons.mp p2).2 (q5.trans eo.symm) with z | z
        · exact .inl (by rw [z])
        · exact .inr (sl_cons.mpr z)
      · exact .inr (.inl (by omega))
end M

namespace Own
open PySem PySem.Spec PyProof.Rows L2 PySem.SeqAt PySem.MeetsSeq PySem.MeetsSeq2 PySem.MeetsSeq3 PySem.SeqRoads2
open AutoSeq1 (wpAny_loadPart')
/-! ### xs <= ys of int lists of one length -/
end Own
namespace Own
open PySem PySem.Spec PyProof.Rows L2
section
variable {X : Cx} {K : PySem.W.Frag}
end
end Own
namespace Pu
open PySem PySem.Spec PyProof.Rows L2 Own M
section
variable {K : PySem.W.Frag} {mg : Str → Option Value} {E : L2.St → XK}
end
end Pu

namespace Pu
open PySem PySem.Spec PyProof.Rows L2 Own
/-! ### one's own instance: a thing of several places, whose methods change it -/
section
variable {K : PySem.W.Frag} {mg : Str → Option Value} {E : L2.St → XK} {H0 H H1 H' : Hp} {B Z Z' : Addr → Prop} {σ : L2.St} {γ : Γ}
theorem TVs.get : ∀ {ss : List S} {vs : List V} {i : Nat} {s : S}, TVs K Z H0 H H' ss vs → ss[i]? = some s → ∃ v, vs[i]? = some v ∧ TV K Z H0 H H' s v
  | _, _, _, _, .nil, e => by simp at e
  | _, _, 0, _, .cons h _, e => by simp at e; subst e; exact ⟨_, rfl, h⟩
  | _, _, i + 1, s, .cons _ r, e => by
    obtain ⟨v, h1, h2⟩ := TVs.get (i := i) (s := s) r (by simpa using e)
    exact ⟨v, by simpa using h1, h2⟩
/-! ### expressions that change one's own things -/
noncomputable abbrev PTW := Γ → (Γ → D → Prop) → (Γ → Str → Prop) → Prop
variable {te : TE} {w : PTW}
/-! ### fields and methods -/
/-! ### a list of one's own instance changes -/
theorem nodup_at {α : Type} : ∀ {l : List α} {i j : Nat} {x : α}, l.Nodup → l[i]? = some x → l[j]? = some x → i = j
  | [], _, _, _, _, h, _ => by simp at h
  | y :: r, 0, 0, _, _, _, _ => rfl
  | y :: r, 0, j + 1, x, hn, h1, h2 => by
    have e : y = x := by simpa using h1
    exact absurd (e ▸ List.mem_of_getElem? (show r[j]? = some x by simpa using h2)) (List.nodup_cons.mp hn).1
  | y :: r, i + 1, 0, x, hn, h1, h2 => by
    have e : y = x := by simpa using h2
    exact absurd (e ▸ List.mem_of_getElem? (show r[i]? = some x by simpa using h1)) (List.nodup_cons.mp hn).1
  | y :: r, i + 1, j + 1, x, hn, h1, h2 => congrArg (· + 1) (nodup_at (l := r) (List.nodup_cons.mp hn).2 (by simpa using h1) (by simpa using h2))
theorem EnvR.cell {i j : Nat} {x C : Addr} {xs : List Str} {cs : List (Addr × List D)} {b : Addr} {ds es : List D} {us : List V} (env : EnvR K H0 B H σ γ) (hi : γ[i]? = some (some (.own (.ins x C xs cs)))) (hj : cs[j]? = some (b, ds)) (r : Rps K (off (zof B γ σ) H) es us) :
    EnvR K H0 B (upd H b (.lst us)) σ (γ.set i (some (.own (.ins x C xs (cs.set j (b, es)))))) ∧ Fr B H σ γ (upd H b (.lst us)) σ (γ.set i (some (.own (.ins x C xs (cs.set j (b, es)))))) := by
  obtain ⟨v, hv, a, rfl, e0, e1, e2, ⟨dx, e3⟩, e4, e5⟩ := env.slot i _ hi
  subst e1
  have hjl : j < cs.length := (List.getElem?_eq_some_iff.mp hj).1
  have hbm : (b, ds) ∈ cs := List.mem_of_getElem? hj
  have hab : a ≠ b := fun z => by
    obtain ⟨ws, w1, _⟩ := e4 _ hbm
    rw [← show a = b from z, e3] at w1
    cases w1
  have em : (cs.set j (b, es)).map (·.1) = cs.map (·.1) := by
    apply List.ext_getElem?
    intro k
    rw [List.getElem?_map, List.getElem?_map, List.getElem?_set]
    by_cases e : j = k
    · subst e
      rw [if_pos rfl, if_pos hjl, hj]
      rfl
    · rw [if_neg e]
  have em2 : (cs.set j (b, es)).map (fun c => V.ref c.1) = cs.map fun c => V.ref c.1 := by
    have := congrArg (List.map V.ref) em
    rw [List.map_map, List.map_map] at this
    exact this
  have adr : ∀ c, (O.ins a C xs (cs.set j (b, es))).adr a c → (O.ins a C xs cs).adr a c := fun c hc => by
    rcases hc with hc | ⟨d, hd, hc⟩
    · exact .inl hc
    · have : d.1 ∈ (cs.set j (b, es)).map (·.1) := List.mem_map_of_mem hd
      rw [em] at this
      obtain ⟨d', q1, q2⟩ := List.mem_map.mp this
      exact .inr ⟨d', q1, hc.trans q2.symm⟩
  have zb : ∀ c, (O.ins a C xs cs).adr a c → zof B γ σ c := fun c hc => .inr ⟨i, _, a, hi, hv, hc⟩
  have So : Same (off (zof B γ σ) H) (off (zof B (γ.set i (some (.own (.ins a C xs (cs.set j (b, es)))))) σ) (upd H b (.lst us))) := fun c u h => by
    obtain ⟨q1, q2⟩ := off_in h
    have nb : c ≠ b := fun z => q2 (zb c (.inr ⟨_, hbm, z⟩))
    refine off_of (by rw [upd_ne nb]; exact q1) fun z => q2 ?_
    rcases z with z | ⟨k, fs, a', k1, k2, k3⟩
    · exact .inl z
    · rcases set_get k1 with ⟨ek, q, _⟩ | ⟨_, q⟩
      · subst ek
        cases q
        rw [hv] at k2
        cases k2
        exact zb c (adr c k3)
      · exact .inr ⟨k, fs, a', q, k2, k3⟩
  refine env.change hi hv (fun c u hu n => ?_) (fun c hc => ?_) (fun c hc => .inl (adr c hc)) ⟨rfl, by rw [List.length_set]; exact e2, ⟨dx, ?_⟩, fun c hc => ?_, by rw [em]; exact e5⟩
  · rw [upd_ne fun z => n (.inr ⟨_, hbm, z⟩)]
    exact hu
  · by_cases z : c = b
    · rw [z, upd_same]; trivial
    · rw [upd_ne z]; exact env.zm c (zb c hc)
  · rw [upd_ne hab, em2]
    exact e3
  · obtain ⟨k, hk, ek⟩ := List.getElem_of_mem hc
    have hk' : (cs.set j (b, es))[k]? = some c := by rw [List.getElem?_eq_getElem hk, ek]
    rcases set_get hk' with ⟨_, q, _⟩ | ⟨nk, q⟩
    · subst q
      exact ⟨us, upd_same, Rps.mono So r⟩
    · obtain ⟨ws, w1, w2⟩ := e4 c (List.mem_of_getElem? q)
      have nb : c.1 ≠ b := fun z => nk (by
        have h1 : (cs.map (·.1))[k]? = some b := by rw [List.getElem?_map, q]; exact congrArg some z
        have h2 : (cs.map (·.1))[j]? = some b := by rw [List.getElem?_map, hj]; rfl
        exact nodup_at e5 h1 h2)
      exact ⟨ws, by rw [upd_ne nb]; exact w1, Rps.mono So w2⟩
/-! ### a new instance -/
end
end Pu

namespace Pu
open PySem PySem.Spec PyProof.Rows L2 Own
/-! ### methods of a class of the text -/
structure DefM (K : PySem.W.Frag) (W : Addr → Prop) (x q : Str) (st : Stmt) (ps : List Str) : Prop where
  ex : ∃ f fd, Fun K x q st f fd ∧ W f ∧ Binds K fd ps []
structure CalleeM (P : Program) (w : World) (K : PySem.W.Frag) (mg : Str → Option Value) (base : Heap) (CX : CXT) (k : Nat) (W : Addr → Prop) (ps : List Str) (sp : Sp) : Prop where
  ex : ∃ f fd, FnOk P w K mg base CX k f fd ps sp ∧ W f ∧ Binds K fd ps []
section
variable {P : Program} {w : World} {K : PySem.W.Frag} {mg : Str → Option Value} {base : Heap} {W : Addr → Prop}
theorem DefM.ok {x q : Str} {st : Stmt} {N ps : List Str} {k : Nat} {sp : Sp} (D : DefM K W x q st ps) (S : FnScope N ps (defScope st)) (len : ∀ vs H Q E, sp vs H Q E → vs.length = ps.length)
    (hbody : ∀ (f : Addr) (cdv : Value) (A : Around) (outer : List Env) (s : Shared) (H : Hp) (vs : List V) (Q : VK) (E : XK), Room k (A.deeper (envOfC q (defScope st) s.heap.objs.size f cdv)) → sp vs H Q E →
      ∃ t, PSs (cxOf CX0 P w K mg base N q (defScope st) f cdv A outer s H E).nox (defBody st) t ∧ t { nx := fun _ H' => Q .non H', rt := Q } (start N vs) H) : CalleeM P w K mg base CX0 (k + 1) W ps sp := by
  obtain ⟨f, fd, F, hm, hb⟩ := D.ex
  exact ⟨f, fd, F.ok S len fun cdv A outer s H vs Q E hr h => hbody f cdv A outer s H vs Q E hr h, hm, hb⟩
end
section
variable {X : Cx} {CX : CXT} {k : Nat} {Cc : Addr} {ps : List Str} {sp : Sp} {E : XK} {ES : L2.St → XK} {x m : Str} {p pos apos : Pos} {e o : Expr} {es : List Expr} {ta : TE} {t : TA}
end
/-! ### texts with braces -/
noncomputable abbrev PTF := Γ → Str → (Str → Prop) → XR → Prop
section
variable {K : PySem.W.Frag} {mg : Str → Option Value} {E : L2.St → XK} {t : ExcR.TF} {p : PTF} {te : TE} {a : PTE}
end
end Pu

namespace Pu
open PySem PySem.Spec PyProof.Rows L2 Own M
/-! ### the village: its book, its fields, its wishes, each from the beginning on -/
theorem at_end {α : Type} (f : α → D) (xs : List α) (x : α) : atI ((xs ++ [x]).map f) (-1) = some (f x) := by
  refine atI_map ?_
  unfold atI ixN
  rw [if_neg (by omega), if_pos (by rw [List.length_append, List.length_singleton]; omega)]
  show (xs ++ [x])[_]? = some x
  have e : ((-1 : Int) + ((xs ++ [x]).length : Int)).toNat = xs.length := by rw [List.length_append, List.length_singleton]; omega
  rw [e, List.getElem?_append_right (Nat.le_refl _), Nat.sub_self]
  rfl
/-! ### a strip is parted -/
/-! ### lists of True and False -/
end Pu

namespace Pu
open PySem PySem.Spec PyProof.Rows L2 Own M
section
variable {K : PySem.W.Frag} {mg : Str → Option Value} {E : L2.St → XK}
/-! ### xs.extend(ys), xs.pop() -/
noncomputable def pExtend (i : Nat) (a : PTE) : PTS := fun R γ => match γ[i]? with
  | some (some (.own (.lst ds))) => a γ (fun s => match s.shd with
    | some (.lst es) => ds.length + es.length ≤ 10000000 ∧ R.nx (γ.set i (some (.own (ds ++ es))))
    | _ => False) (R.ex γ)
  | _ => False
theorem ss_extend (i : Nat) {te : TE} {a : PTE} (ha : SndE K mg E te a) : SndS K mg E (tDrop (tBM K "list" rExtend (tVar i) (tCons te tNil))) (pExtend i a) := by
  intro H0 B H σ γ R D hB env h e
  unfold pExtend at h
  split at h
  · rename_i ds hi
    obtain ⟨v, hv, b, rfl, hb0, us, hb, rb⟩ := env.slot i _ hi
    refine ⟨_, hv, .inl ⟨rfl, us, SqL.of hb⟩, ha H0 B H σ γ _ _ _ env h (fun s u H1 h1 S1 t1 => ?_) fun c H' hc S' => e.ex σ γ c H' hc (env.grow S') (Fr.grow S')⟩
    have env1 := env.grow S1
    split at h1
    · rename_i es e2
      have rd := t1.shd env1.same env.zm S1 e2
      obtain ⟨a', vs, rfl, ha', rvs⟩ := Rp.lst_inv rd
      refine ⟨b, a', us, vs, rfl, rfl, S1 _ _ hb, off_sub _ _ ha', by rw [rb.len, rvs.len]; exact Nat.le_trans h1.1 (by decide), ?_⟩
      obtain ⟨e2, f2⟩ := env1.mutate (es := .lst (ds ++ es)) (us := .lst (us ++ vs)) hi hv trivial fun F H' SF hF => ⟨_, hF, Rps.mono SF (Rps.append (Rps.mono (off_mono S1 fun _ _ _ z => z) rb) rvs)⟩
      exact e.nx _ _ _ h1.2 e2 ((Fr.grow S1).trans f2)
    · exact h1.elim
  · exact h.elim
theorem Rps.dropLast' {H : Hp} : ∀ {ds : List D} {vs : List V}, Rps K H ds vs → Rps K H ds.dropLast vs.dropLast
  | _, _, .nil => .nil
  | _, _, .cons _ .nil => .nil
  | _, _, .cons h (.cons h' r) => .cons h (Rps.dropLast' (.cons h' r))
noncomputable def pPop (i : Nat) : PTS := fun R γ => match γ[i]? with
  | some (some (.own (.lst ds))) => 0 < ds.length ∧ R.nx (γ.set i (some (.own ds.dropLast)))
  | _ => False
theorem ss_pop (i : Nat) : SndS K mg E (tDrop (tBM0 K "list" rPop (tVar i))) (pPop i) := by
  intro H0 B H σ γ R D hB env h e
  unfold pPop at h
  split at h
  · rename_i ds hi
    obtain ⟨v, hv, b, rfl, hb0, us, hb, rb⟩ := env.slot i _ hi
    have hl := rb.len
    refine ⟨_, hv, .inl ⟨rfl, us, SqL.of hb⟩, b, us, us[us.length - 1]'(by omega), rfl, rfl, hb, List.getElem?_eq_getElem _, ?_⟩
    obtain ⟨e2, f2⟩ := env.mutate (es := .lst ds.dropLast) (us := .lst us.dropLast) hi hv trivial fun F H' SF hF => ⟨_, hF, Rps.mono SF (Rps.dropLast' rb)⟩
    exact e.nx _ _ _ h.2 e2 f2
  · exact h.elim
end
/-! ### all orders, from the first by the numbers on -/
noncomputable def nextM (hs r : List Int) : List (List Int) := (hs.filter fun h => !decide (h ∈ r)).map fun h => r ++ [h]
noncomputable def rowsM (hs : List Int) : Nat → List (List Int)
  | 0 => [[]]
  | k + 1 => (rowsM hs k).flatMap (nextM hs)
theorem next_mem {hs r o : List Int} : o ∈ nextM hs r ↔ ∃ h, h ∈ hs ∧ h ∉ r ∧ o = r ++ [h] := by
  unfold nextM
  rw [List.mem_map]
  constructor
  · rintro ⟨h, h1, rfl⟩
    rw [List.mem_filter] at h1
    exact ⟨h, h1.1, by simpa using h1.2, rfl⟩
  · rintro ⟨h, h1, h2, rfl⟩
    exact ⟨h, List.mem_filter.mpr ⟨h1, by simpa using h2⟩, rfl⟩
theorem rows_mem {hs : List Int} : ∀ {k : Nat} {r : List Int}, r ∈ rowsM hs k ↔ r.length = k ∧ r.Nodup ∧ ∀ x ∈ r, x ∈ hs
  | 0, r => by
    unfold rowsM
    constructor
    · intro h
      rw [List.mem_singleton] at h
      subst h
      exact ⟨rfl, List.nodup_nil, by simp⟩
    · rintro ⟨h, _⟩
      rw [List.length_eq_zero_iff.mp h]
      exact List.mem_singleton.mpr rfl
  | k + 1, r => by
    unfold rowsM
    rw [List.mem_flatMap]
    constructor
    · rintro ⟨p, hp, ho⟩
      obtain ⟨h, h1, h2, rfl⟩ := next_mem.mp ho
      obtain ⟨a, b, c⟩ := rows_mem.mp hp
      refine ⟨by rw [List.length_append, a]; rfl, ?_, fun x hx => ?_⟩
      · rw [List.nodup_append]
        exact ⟨b, by simp, fun x hx y hy z => h2 (by rw [List.mem_singleton] at hy; rw [← hy, ← z]; exact hx)⟩
      · rcases List.mem_append.mp hx with hx | hx
        · exact c x hx
        · rw [List.mem_singleton] at hx
          rw [hx]; exact h1
    · rintro ⟨a, b, c⟩
      rcases List.eq_nil_or_concat r with rfl | ⟨p, h, rfl⟩
      · cases a
      · rw [List.concat_eq_append] at a b c ⊢
        rw [List.nodup_append] at b
        obtain ⟨b1, _, b3⟩ := b
        refine ⟨p, rows_mem.mpr ⟨by rw [List.length_append] at a; simpa using a, b1, fun x hx => c x (List.mem_append_left _ hx)⟩, next_mem.mpr ⟨h, c h (by simp), fun z => b3 h z h (by simp) rfl, rfl⟩⟩
theorem sl_more : ∀ {a b : List Int} (x y : List Int), sl a b → sl (a ++ x) (b ++ y)
  | [], _, _, _, h => by cases h
  | _ :: _, [], _, _, h => by cases h
  | a :: r, b :: t, x, y, h => by
    rcases h with h | ⟨e, h⟩
    · exact .inl h
    · exact .inr ⟨e, sl_more x y h⟩
theorem sl_end : ∀ (r : List Int) {a b : Int}, a < b → sl (r ++ [a]) (r ++ [b])
  | [], _, _, h => .inl h
  | c :: r, _, _, h => .inr ⟨rfl, sl_end r h⟩
theorem rows_sorted {hs : List Int} (hr : hs.Pairwise (· < ·)) : ∀ k, (rowsM hs k).Pairwise sl
  | 0 => by unfold rowsM; exact List.pairwise_singleton _ _
  | k + 1 => by
    unfold rowsM
    rw [List.pairwise_flatMap]
    refine ⟨fun r _ => ?_, (rows_sorted hr k).imp fun {a b} h x hx y hy => ?_⟩
    · unfold nextM
      rw [List.pairwise_map]
      exact (hr.filter _).imp fun h => sl_end r h
    · obtain ⟨_, _, _, rfl⟩ := next_mem.mp hx
      obtain ⟨_, _, _, rfl⟩ := next_mem.mp hy
      exact sl_more _ _ h
theorem next_len (hs r : List Int) : (nextM hs r).length ≤ hs.length := by
  unfold nextM
  rw [List.length_map]
  exact List.length_filter_le _ _
theorem flat_len {hs : List Int} {n : Nat} (hn : hs.length ≤ n) : ∀ rows : List (List Int), (rows.flatMap (nextM hs)).length ≤ rows.length * n
  | [] => by simp
  | r :: t => by
    rw [List.flatMap_cons, List.length_append, List.length_cons, Nat.succ_mul]
    have h1 := next_len hs r
    have h2 := flat_len hn t
    omega
theorem rows_len {hs : List Int} {n : Nat} (hn : hs.length ≤ n) : ∀ k, (rowsM hs k).length ≤ n ^ k
  | 0 => by unfold rowsM; simp
  | k + 1 => by
    unfold rowsM
    rw [Nat.pow_succ]
    exact Nat.le_trans (flat_len hn _) (Nat.mul_le_mul_right _ (rows_len hn k))
theorem rows_perm {hs r : List Int} (nd : hs.Nodup) : r ∈ rowsM hs hs.length ↔ r.Perm hs := by
  rw [rows_mem]
  constructor
  · rintro ⟨h1, h2, h3⟩
    rw [List.perm_ext_iff_of_nodup h2 nd]
    refine fun x => ⟨h3 x, fun hx => ?_⟩
    by_cases c : x ∈ r
    · exact c
    · have : (x :: r).length ≤ hs.length := List.Nodup.length_le_of_subset (List.nodup_cons.mpr ⟨c, h2⟩) (by
        intro y hy
        rcases List.mem_cons.mp hy with rfl | hy
        · exact hx
        · exact h3 y hy)
      rw [List.length_cons] at this
      omega
  · intro h
    exact ⟨h.length_eq, h.nodup_iff.mpr nd, fun x hx => h.mem_iff.mp hx⟩
theorem sl_not : ∀ {a b : List Int}, sl a b → ¬ sl b a
  | [], _, h, _ => by cases h
  | _ :: _, [], h, _ => by cases h
  | a :: r, b :: t, h, k => by
    rcases h with h | ⟨e, h⟩
    · rcases k with k | ⟨e, _⟩ <;> omega
    · rcases k with k | ⟨_, k⟩
      · omega
      · exact sl_not h k
theorem Best.uniq {ws : List (Int × Int)} {c : Int → Int → Int} {ms o p : List Int} (h : Best ws c ms o) (k : Best ws c ms p) : o = p := by
  have e : oc c p = oc c o := by
    have h1 := h.le p k.perm k.keeps
    have h2 := k.le o h.perm h.keeps
    omega
  rcases h.first p k.perm k.keeps e with z | z
  · exact z
  · rcases k.first o h.perm h.keeps e.symm with y | y
    · exact y.symm
    · exact absurd y (sl_not z)
/-- what has been found among the first ones: nothing, or the cheapest, the first of them -/
noncomputable def Fnd (pr : List Int → Int) (ok : List Int → Prop) (L : List (List Int)) : Option (List Int) → Prop
  | none => ∀ o ∈ L, ¬ ok o
  | some q => q ∈ L ∧ ok q ∧ ∀ o ∈ L, ok o → pr q ≤ pr o ∧ (pr o = pr q → q = o ∨ sl q o)
theorem Fnd.no {pr : List Int → Int} {ok : List Int → Prop} {L : List (List Int)} {b : Option (List Int)} {o : List Int} (h : Fnd pr ok L b) (n : ¬ ok o) : Fnd pr ok (L ++ [o]) b := by
  cases b with
  | none =>
    intro x hx
    rcases List.mem_append.mp hx with hx | hx
    · exact h x hx
    · rw [List.mem_singleton] at hx
      rw [hx]; exact n
  | some q =>
    refine ⟨List.mem_append_left _ h.1, h.2.1, fun x hx hk => ?_⟩
    rcases List.mem_append.mp hx with hx | hx
    · exact h.2.2 x hx hk
    · rw [List.mem_singleton] at hx
      rw [hx] at hk
      exact absurd hk n
theorem Fnd.first {pr : List Int → Int} {ok : List Int → Prop} {L : List (List Int)} {o : List Int} (h : Fnd pr ok L none) (k : ok o) : Fnd pr ok (L ++ [o]) (some o) := by
  refine ⟨by simp, k, fun x hx hk => ?_⟩
  rcases List.mem_append.mp hx with hx | hx
  · exact absurd hk (h x hx)
  · rw [List.mem_singleton] at hx
    rw [hx]
    exact ⟨Int.le_refl _, fun _ => .inl rfl⟩
theorem Fnd.less {pr : List Int → Int} {ok : List Int → Prop} {L : List (List Int)} {o q : List Int} (h : Fnd pr ok L (some q)) (k : ok o) (l : pr o < pr q) : Fnd pr ok (L ++ [o]) (some o) := by
  refine ⟨by simp, k, fun x hx hk => ?_⟩
  rcases List.mem_append.mp hx with hx | hx
  · have := (h.2.2 x hx hk).1
    exact ⟨by omega, fun e => by omega⟩
  · rw [List.mem_singleton] at hx
    rw [hx]
    exact ⟨Int.le_refl _, fun _ => .inl rfl⟩
theorem Fnd.more {pr : List Int → Int} {ok : List Int → Prop} {L : List (List Int)} {o q : List Int} (h : Fnd pr ok L (some q)) (l : ¬ pr o < pr q) (s : ∀ x ∈ L, sl x o) : Fnd pr ok (L ++ [o]) (some q) := by
  refine ⟨List.mem_append_left _ h.1, h.2.1, fun x hx hk => ?_⟩
  rcases List.mem_append.mp hx with hx | hx
  · exact h.2.2 x hx hk
  · rw [List.mem_singleton] at hx
    rw [hx]
    exact ⟨by omega, fun _ => .inr (s q h.1)⟩
end Pu

namespace T
open PySem PySem.Spec PyProof.Rows L2
noncomputable def top (i : Nat) : Stmt := PySem.Challenge.pw_stripmeld_k13_first_of_the_cheapest.main.body.getD i (.Pass ⟨0, 0, 0, 0⟩)
noncomputable abbrev s_holders_of : Stmt := top 4
theorem sc_holders_of : FnScope ["strips"] ["strips"] (defScope s_holders_of) := ⟨rfl, rfl, rfl, by decide +kernel, rfl, by decide +kernel, by decide +kernel⟩
noncomputable abbrev s_pair_cost : Stmt := top 6
theorem sc_pair_cost : FnScope ["strips", "ahead", "behind", "to_pass", "cost", "holder", "width"] ["strips", "ahead", "behind"] (defScope s_pair_cost) := ⟨rfl, rfl, rfl, by decide +kernel, rfl, by decide +kernel, by decide +kernel⟩
noncomputable abbrev s_longer_paths : Stmt := top 8
theorem sc_longer_paths : FnScope ["paths", "left", "wishes", "longer", "reached", "path", "holder"] ["paths", "left", "wishes"] (defScope s_longer_paths) := ⟨rfl, rfl, rfl, by decide +kernel, rfl, by decide +kernel, by decide +kernel⟩
noncomputable abbrev s_ring_from : Stmt := top 9
theorem sc_ring_from : FnScope ["least", "holders", "wishes", "paths", "left", "rings", "reached"] ["least", "holders", "wishes"] (defScope s_ring_from) := ⟨rfl, rfl, rfl, by decide +kernel, rfl, by decide +kernel, by decide +kernel⟩
noncomputable abbrev s_find_ring : Stmt := top 10
theorem sc_find_ring : FnScope ["holders", "wishes", "ring", "least", "found"] ["holders", "wishes"] (defScope s_find_ring) := ⟨rfl, rfl, rfl, by decide +kernel, rfl, by decide +kernel, by decide +kernel⟩
noncomputable abbrev s_check_no_ring : Stmt := top 11
theorem sc_check_no_ring : FnScope ["strips", "wishes", "ring"] ["strips", "wishes"] (defScope s_check_no_ring) := ⟨rfl, rfl, rfl, by decide +kernel, rfl, by decide +kernel, by decide +kernel⟩
noncomputable abbrev s_pair_costs : Stmt := top 13
theorem sc_pair_costs : FnScope ["strips", "holders", "costs", "ahead", "behind"] ["strips"] (defScope s_pair_costs) := ⟨rfl, rfl, rfl, by decide +kernel, rfl, by decide +kernel, by decide +kernel⟩
noncomputable abbrev s_sets_of : Stmt := top 14
theorem sc_sets_of : FnScope ["holders", "sets", "holder"] ["holders"] (defScope s_sets_of) := ⟨rfl, rfl, rfl, by decide +kernel, rfl, by decide +kernel, by decide +kernel⟩
noncomputable abbrev s_without : Stmt := top 15
theorem sc_without : FnScope ["members", "holder"] ["members", "holder"] (defScope s_without) := ⟨rfl, rfl, rfl, by decide +kernel, rfl, by decide +kernel, by decide +kernel⟩
noncomputable abbrev s_may_lie_last : Stmt := top 16
theorem sc_may_lie_last : FnScope ["members", "holder", "wishes"] ["members", "holder", "wishes"] (defScope s_may_lie_last) := ⟨rfl, rfl, rfl, by decide +kernel, rfl, by decide +kernel, by decide +kernel⟩
noncomputable abbrev s_may_lie_first : Stmt := top 17
theorem sc_may_lie_first : FnScope ["members", "holder", "wishes"] ["members", "holder", "wishes"] (defScope s_may_lie_first) := ⟨rfl, rfl, rfl, by decide +kernel, rfl, by decide +kernel, by decide +kernel⟩
noncomputable abbrev s_cost_with_last : Stmt := top 18
theorem sc_cost_with_last : FnScope ["members", "last", "least", "pairs", "others"] ["members", "last", "least", "pairs"] (defScope s_cost_with_last) := ⟨rfl, rfl, rfl, by decide +kernel, rfl, by decide +kernel, by decide +kernel⟩
noncomputable abbrev s_cost_with_first : Stmt := top 19
theorem sc_cost_with_first : FnScope ["members", "first", "least", "pairs", "others"] ["members", "first", "least", "pairs"] (defScope s_cost_with_first) := ⟨rfl, rfl, rfl, by decide +kernel, rfl, by decide +kernel, by decide +kernel⟩
noncomputable abbrev s_least_costs : Stmt := top 20
theorem sc_least_costs : FnScope ["strips", "wishes", "pairs", "least", "members", "lasts"] ["strips", "wishes", "pairs"] (defScope s_least_costs) := ⟨rfl, rfl, rfl, by decide +kernel, rfl, by decide +kernel, by decide +kernel⟩
noncomputable abbrev s_cost_table : Stmt := top 21
theorem sc_cost_table : FnScope ["strips", "wishes", "least"] ["strips", "wishes"] (defScope s_cost_table) := ⟨rfl, rfl, rfl, by decide +kernel, rfl, by decide +kernel, by decide +kernel⟩
noncomputable abbrev s_best_order : Stmt := top 22
theorem sc_best_order : FnScope ["strips", "wishes", "pairs", "least", "members", "order", "firsts", "best"] ["strips", "wishes"] (defScope s_best_order) := ⟨rfl, rfl, rfl, by decide +kernel, rfl, by decide +kernel, by decide +kernel⟩
noncomputable abbrev s_least_cost : Stmt := top 23
theorem sc_least_cost : FnScope ["strips", "wishes"] ["strips", "wishes"] (defScope s_least_cost) := ⟨rfl, rfl, rfl, by decide +kernel, rfl, by decide +kernel, by decide +kernel⟩
noncomputable abbrev s_law_at : Stmt := top 25
theorem sc_law_at : FnScope ["_law_script", "_law_k"] ["_law_script", "_law_k"] (defScope s_law_at) := ⟨rfl, rfl, rfl, by decide +kernel, rfl, by decide +kernel, by decide +kernel⟩
noncomputable abbrev s_law_whole : Stmt := top 26
theorem sc_law_whole : FnScope ["_law_found"] ["_law_found"] (defScope s_law_whole) := ⟨rfl, rfl, rfl, by decide +kernel, rfl, by decide +kernel, by decide +kernel⟩
noncomputable abbrev s_law_mix : Stmt := top 27
theorem sc_law_mix : FnScope ["_law_cell", "_law_place", "_law_first"] ["_law_cell", "_law_place"] (defScope s_law_mix) := ⟨rfl, rfl, rfl, by decide +kernel, rfl, by decide +kernel, by decide +kernel⟩
noncomputable abbrev s_law_draw : Stmt := top 28
theorem sc_law_draw : FnScope ["_law_script", "_law_k"] ["_law_script", "_law_k"] (defScope s_law_draw) := ⟨rfl, rfl, rfl, by decide +kernel, rfl, by decide +kernel, by decide +kernel⟩
noncomputable abbrev s_law_menu : Stmt := top 29
theorem sc_law_menu : FnScope ["_law_cell", "_law_wide", "_law_least"] ["_law_cell"] (defScope s_law_menu) := ⟨rfl, rfl, rfl, by decide +kernel, rfl, by decide +kernel, by decide +kernel⟩
noncomputable abbrev s_law_holder : Stmt := top 30
theorem sc_law_holder : FnScope ["_law_menu_here", "_law_k"] ["_law_menu_here", "_law_k"] (defScope s_law_holder) := ⟨rfl, rfl, rfl, by decide +kernel, rfl, by decide +kernel, by decide +kernel⟩
noncomputable abbrev s_law_strips : Stmt := top 31
theorem sc_law_strips : FnScope ["_law_script", "_law_menu_here", "_law_many", "_law_strips_here", "_law_k", "_law_cell", "_law_width"] ["_law_script", "_law_menu_here", "_law_many"] (defScope s_law_strips) := ⟨rfl, rfl, rfl, by decide +kernel, rfl, by decide +kernel, by decide +kernel⟩
noncomputable abbrev s_law_wishes : Stmt := top 32
theorem sc_law_wishes : FnScope ["_law_script", "_law_menu_here", "_law_how", "_law_pool", "_law_wishes_here", "_law_k", "_law_cell", "_law_one", "_law_two", "_law_pair"] ["_law_script", "_law_menu_here"] (defScope s_law_wishes) := ⟨rfl, rfl, rfl, by decide +kernel, rfl, by decide +kernel, by decide +kernel⟩
noncomputable abbrev s_law_row : Stmt := top 33
theorem sc_law_row : FnScope ["_law_found", "_law_due", "_law_k"] ["_law_found", "_law_due"] (defScope s_law_row) := ⟨rfl, rfl, rfl, by decide +kernel, rfl, by decide +kernel, by decide +kernel⟩
noncomputable abbrev s_law_tuples : Stmt := top 34
theorem sc_law_tuples : FnScope ["_law_found", "_law_due", "_law_k", "_law_j"] ["_law_found", "_law_due"] (defScope s_law_tuples) := ⟨rfl, rfl, rfl, by decide +kernel, rfl, by decide +kernel, by decide +kernel⟩
noncomputable abbrev s_law_present : Stmt := top 35
theorem sc_law_present : FnScope ["_law_strips_here", "_law_owners"] ["_law_strips_here"] (defScope s_law_present) := ⟨rfl, rfl, rfl, by decide +kernel, rfl, by decide +kernel, by decide +kernel⟩
noncomputable abbrev s_law_price : Stmt := top 36
theorem sc_law_price : FnScope ["_law_strips_here", "_law_order", "_law_ranks", "_law_total", "_law_k", "_law_j"] ["_law_strips_here", "_law_order"] (defScope s_law_price) := ⟨rfl, rfl, rfl, by decide +kernel, rfl, by decide +kernel, by decide +kernel⟩
noncomputable abbrev s_law_kept : Stmt := top 37
theorem sc_law_kept : FnScope ["_law_order", "_law_wishes_here", "_law_one", "_law_two"] ["_law_order", "_law_wishes_here"] (defScope s_law_kept) := ⟨rfl, rfl, rfl, by decide +kernel, rfl, by decide +kernel, by decide +kernel⟩
noncomputable abbrev s_law_orders : Stmt := top 38
theorem sc_law_orders : FnScope ["_law_holders", "_law_rows", "_law_turn", "_law_grown", "_law_row_here"] ["_law_holders"] (defScope s_law_orders) := ⟨rfl, rfl, rfl, by decide +kernel, rfl, by decide +kernel, by decide +kernel⟩
noncomputable abbrev s_law_best : Stmt := top 39
theorem sc_law_best : FnScope ["_law_strips_here", "_law_wishes_here", "_law_best_here", "_law_order", "_law_price_here"] ["_law_strips_here", "_law_wishes_here"] (defScope s_law_best) := ⟨rfl, rfl, rfl, by decide +kernel, rfl, by decide +kernel, by decide +kernel⟩
noncomputable abbrev s_law_no_ring : Stmt := top 40
theorem sc_law_no_ring : FnScope ["_law_holders", "_law_wishes_here", "_law_left", "_law_turn", "_law_inside", "_law_behind"] ["_law_holders", "_law_wishes_here"] (defScope s_law_no_ring) := ⟨rfl, rfl, rfl, by decide +kernel, rfl, by decide +kernel, by decide +kernel⟩
noncomputable abbrev s_law : Stmt := top 41
theorem sc_law : FnScope ["_law_script", "_law_menu_here", "_law_strips_here", "_law_wishes_here", "_law_handed", "_law_wanted", "_law_found", "_law_price_here", "_law_due"] ["_law_script"] (defScope s_law) := ⟨rfl, rfl, rfl, by decide +kernel, rfl, by decide +kernel, by decide +kernel⟩
structure Glob (K : PySem.W.Frag) (mg : Str → Option Value) : Prop where
  any : mg "any" = none
  bool : mg "bool" = none
  int : mg "int" = none
  isinstance : mg "isinstance" = none
  len : mg "len" = none
  list : mg "list" = none
  max : mg "max" = none
  min : mg "min" = none
  range : mg "range" = none
  set : mg "set" = none
  sorted : mg "sorted" = none
  sum : mg "sum" = none
  tuple : mg "tuple" = none
end T

namespace M
open PySem PySem.Spec PyProof.Rows L2 Own Pu
/-- the holders with strips, a new list -/
noncomputable def sp_holders_of (_ : PySem.W.Frag) : Sp := fun vs H Q _ => ∃ (l : Addr) (ps : List (Int × Int)), vs = [.ref l] ∧ LAt PairR H l ps ∧ Field ps ∧ ps.length ≤ 50 ∧
  ∀ (q : Addr) (H' : Hp), H q = none → Same H H' → H' q = some (.lst ((holdM ps).map V.int)) → Q (.ref q) H'
noncomputable def pc_holders_of : Pc := fun ds R _ => ∃ ps : List (Int × Int), ds = [.lst (ps.map prD)] ∧ Field ps ∧ ps.length ≤ 50 ∧ R (.own ((holdM ps).map D.int))
theorem cv_holders_of {P : Program} {w : World} {K : PySem.W.Frag} {mg : Str → Option Value} {base : Heap} (C : Callee P w K mg base CX0 1 "holders_of" ["strips"] (sp_holders_of K)) : Callee P w K mg base CX0 1 "holders_of" ["strips"] (Pu.spOf mg pc_holders_of K) := Pu.imp_of C fun ds R X vs H Q E r hc hQ hX => by
  obtain ⟨ps, rfl, hF, hz, hR⟩ := hc
  obtain ⟨v, rfl, r1⟩ := r.one_inv
  obtain ⟨a, rfl, ha⟩ := r1.pairs_inv
  exact ⟨a, ps, rfl, ha, hF, hz, fun q H' nq S h => hQ _ _ H' hR S (ret_ints nq h)⟩
noncomputable def sp_pair_cost (_ : PySem.W.Frag) : Sp := fun vs H Q _ => ∃ (l : Addr) (ps : List (Int × Int)) (x y : Int), vs = [.ref l, .int x, .int y] ∧ LAt PairR H l ps ∧ Field ps ∧ Q (.int (pcM ps x y ps.length)) H
noncomputable def pc_pair_cost : Pc := fun ds R _ => ∃ (ps : List (Int × Int)) (x y : Int), ds = [.lst (ps.map prD), .int x, .int y] ∧ Field ps ∧ R (.sh (.int (pcM ps x y ps.length)))
theorem cv_pair_cost {P : Program} {w : World} {K : PySem.W.Frag} {mg : Str → Option Value} {base : Heap} (C : Callee P w K mg base CX0 1 "pair_cost" ["strips", "ahead", "behind"] (sp_pair_cost K)) : Callee P w K mg base CX0 1 "pair_cost" ["strips", "ahead", "behind"] (Pu.spOf mg pc_pair_cost K) := Pu.imp_of C fun ds R X vs H Q E r hc hQ hX => by
  obtain ⟨ps, x, y, rfl, hF, hR⟩ := hc
  cases r with
  | cons r1 r =>
    obtain ⟨v, u, rfl, r2, r3⟩ := r.two_inv
    obtain ⟨a, rfl, ha⟩ := r1.pairs_inv
    rw [r2.int_inv, r3.int_inv]
    exact ⟨a, ps, x, y, rfl, ha, hF, hQ _ _ H hR (Same.refl _) (.int _)⟩
noncomputable def pc_longer_paths : Pc := fun ds R _ => ∃ (l : Int) (ps : List (List Int)) (ls : List Int) (ws : List (Int × Int)), ds = [.lst (ps.map (em l)), .lst (ls.map D.int), .lst (ws.map prD)] ∧ ps.Pairwise sl ∧ ls.Pairwise (· < ·) ∧ (∀ p ∈ ps, p.length ≤ 100) ∧ ls.length ≤ 100 ∧
  ∀ lg, LG ws l (fun p h => p ∈ ps ∧ h ∈ ls) lg → lg.length ≤ ls.length → R (.own (lg.map (em l)))
noncomputable def pc_sets_of : Pc := fun ds R _ => ∃ hs : List Int, ds = [.lst (hs.map D.int)] ∧ hs.length ≤ 10 ∧ R (.own ((setsM hs).map tD))
noncomputable def pc_without : Pc := fun ds R _ => ∃ (ms : List Int) (h : Int), ds = [tD ms, .int h] ∧ ms.length ≤ 1000 ∧ R (.sh (tD (lessM ms h)))
noncomputable def pc_may_lie_last : Pc := fun ds R _ => ∃ (ms : List Int) (h : Int) (ws : List (Int × Int)), ds = [tD ms, .int h, .lst (ws.map prD)] ∧ ws.length ≤ 50 ∧ R (.sh (.bl (lastM ws ms h)))
noncomputable def pc_may_lie_first : Pc := fun ds R _ => ∃ (ms : List Int) (h : Int) (ws : List (Int × Int)), ds = [tD ms, .int h, .lst (ws.map prD)] ∧ ws.length ≤ 50 ∧ R (.sh (.bl (firstM ws ms h)))
/-- the script's number at a place, 0 behind its end -/
noncomputable def sp_law_at (K : PySem.W.Frag) : Sp := fun vs H Q _ => ∃ (a : Addr) (ns : List Int) (k : Int), vs = [.ref a, .int k] ∧ SqL K H a (ns.map V.int) ∧ 0 ≤ k ∧ Q (.int (ns.getD k.toNat 0)) H
noncomputable def pc_law_at : Pc := fun ds R _ => ∃ (ns : List Int) (k : Int), ds = [.scr ns, .int k] ∧ 0 ≤ k ∧ R (.sh (.int (ns.getD k.toNat 0)))
theorem cv_law_at {P : Program} {w : World} {K : PySem.W.Frag} {mg : Str → Option Value} {base : Heap} (C : Callee P w K mg base CX0 1 "_law_at" ["_law_script", "_law_k"] (sp_law_at K)) : Callee P w K mg base CX0 1 "_law_at" ["_law_script", "_law_k"] (Pu.spOf mg pc_law_at K) := Pu.imp_of C fun ds R X vs H Q E r hc hQ hX => by
  obtain ⟨ns, k, rfl, hk, hR⟩ := hc
  obtain ⟨v, u, rfl, r1, r2⟩ := r.two_inv
  obtain ⟨a, rfl, hS⟩ := r1.scr_inv
  rw [r2.int_inv]
  exact ⟨a, ns, k, rfl, hS, hk, hQ _ _ H hR (Same.refl _) (.int _)⟩
/-- asked of a whole number -/
noncomputable def sp_law_whole (_ : PySem.W.Frag) : Sp := fun vs H Q _ => ∃ i : Int, vs = [.int i] ∧ Q (.bl true) H
noncomputable def pc_law_whole : Pc := fun ds R _ => ∃ i : Int, ds = [.int i] ∧ R (.sh (.bl true))
theorem cv_law_whole {P : Program} {w : World} {K : PySem.W.Frag} {mg : Str → Option Value} {base : Heap} (C : Callee P w K mg base CX0 1 "_law_whole" ["_law_found"] (sp_law_whole K)) : Callee P w K mg base CX0 1 "_law_whole" ["_law_found"] (Pu.spOf mg pc_law_whole K) := Pu.imp_of C fun ds R X vs H Q E r hc hQ hX => by
  obtain ⟨i, rfl, hR⟩ := hc
  obtain ⟨v, rfl, r1⟩ := r.one_inv
  rw [r1.int_inv]
  exact ⟨i, rfl, hQ _ _ H hR (Same.refl _) (.bl _)⟩
noncomputable def mix (c p : Int) : Int := ((c % 2147483647 + 7919 * p + 1) * 48271 % 2147483647 + 104729 * p + 11) * 69621 % 2147483647
noncomputable def sp_law_mix (_ : PySem.W.Frag) : Sp := fun vs H Q _ => ∃ c p : Int, vs = [.int c, .int p] ∧ Q (.int (mix c p)) H
noncomputable def menuM (c : Int) : List Int := [1 + c % 10, [1, 3, 7, 9].getD (c / 10 % 4).toNat 0, c / 40 % 10, [1000, 3, 1, 2, 3].getD (c / 400 % 5).toNat 0, [1, 1, 1, 1, 998].getD (c / 400 % 5).toNat 0]
noncomputable def sp_law_menu (_ : PySem.W.Frag) : Sp := fun vs H Q _ => ∃ c : Int, vs = [.int c] ∧ ∀ (l : Addr) (H' : Hp), H l = none → Same H H' → H' l = some (.lst ((menuM c).map V.int)) → Menu (menuM c) → Q (.ref l) H'
theorem getD_of {xs : List Int} {i : Int} (h0 : 0 ≤ i) (h : i < xs.length) : atI (xs.map V.int) i = some (.int (xs.getD i.toNat 0)) := by
  apply atI_map (f := V.int)
  apply atI_pos h0
  rw [List.getD_eq_getElem?_getD, List.getElem?_eq_getElem (show i.toNat < xs.length by omega)]
  rfl
theorem menu_ok (c : Int) : Menu (menuM c) := by
  have h1 : 0 ≤ c / 10 % 4 ∧ c / 10 % 4 < 4 := by omega
  have h2 : 0 ≤ c / 400 % 5 ∧ c / 400 % 5 < 5 := by omega
  refine ⟨_, _, _, _, _, rfl, by omega, ?_, by omega, ?_, ?_⟩
  · have : c / 10 % 4 = 0 ∨ c / 10 % 4 = 1 ∨ c / 10 % 4 = 2 ∨ c / 10 % 4 = 3 := by omega
    rcases this with e | e | e | e <;> rw [e] <;> decide
  · have : c / 400 % 5 = 0 ∨ c / 400 % 5 = 1 ∨ c / 400 % 5 = 2 ∨ c / 400 % 5 = 3 ∨ c / 400 % 5 = 4 := by omega
    rcases this with e | e | e | e | e <;> rw [e] <;> decide
  · have : c / 400 % 5 = 0 ∨ c / 400 % 5 = 1 ∨ c / 400 % 5 = 2 ∨ c / 400 % 5 = 3 ∨ c / 400 % 5 = 4 := by omega
    rcases this with e | e | e | e | e <;> rw [e] <;> decide
noncomputable def pc_law_menu : Pc := fun ds R _ => ∃ c : Int, ds = [.int c] ∧ (Menu (menuM c) → R (.own ((menuM c).map D.int)))
theorem cv_law_menu {P : Program} {w : World} {K : PySem.W.Frag} {mg : Str → Option Value} {base : Heap} (C : Callee P w K mg base CX0 1 "_law_menu" ["_law_cell"] (sp_law_menu K)) : Callee P w K mg base CX0 1 "_law_menu" ["_law_cell"] (Pu.spOf mg pc_law_menu K) := Pu.imp_of C fun ds R X vs H Q E r hc hQ hX => by
  obtain ⟨c, rfl, hR⟩ := hc
  obtain ⟨v, rfl, r1⟩ := r.one_inv
  rw [r1.int_inv]
  exact ⟨c, rfl, fun l H' nl S h hM => hQ _ _ H' (hR hM) S (ret_ints nl h)⟩
noncomputable def holderM (m : List Int) (k : Int) : Int := 1 + (k * m.getD 1 0 + m.getD 2 0) % 10
noncomputable def sp_law_holder (K : PySem.W.Frag) : Sp := fun vs H Q _ => ∃ (l : Addr) (m : List Int) (k : Int), vs = [.ref l, .int k] ∧ SqL K H l (m.map V.int) ∧ Menu m ∧ Q (.int (holderM m k)) H
noncomputable def sp_law_present (_ : PySem.W.Frag) : Sp := fun vs H Q _ => ∃ (l : Addr) (ps : List (Int × Int)), vs = [.ref l] ∧ LAt PairR H l ps ∧ ps.length ≤ 50 ∧
  ∀ (q : Addr) (H' : Hp), H q = none → Same H H' → H' q = some (.lst ((holdM ps).map V.int)) → Q (.ref q) H'
noncomputable def pc_law_present : Pc := fun ds R _ => ∃ ps : List (Int × Int), ds = [.lst (ps.map prD)] ∧ ps.length ≤ 50 ∧ R (.own ((holdM ps).map D.int))
theorem cv_law_present {P : Program} {w : World} {K : PySem.W.Frag} {mg : Str → Option Value} {base : Heap} (C : Callee P w K mg base CX0 1 "_law_present" ["_law_strips_here"] (sp_law_present K)) : Callee P w K mg base CX0 1 "_law_present" ["_law_strips_here"] (Pu.spOf mg pc_law_present K) := Pu.imp_of C fun ds R X vs H Q E r hc hQ hX => by
  obtain ⟨ps, rfl, hz, hR⟩ := hc
  obtain ⟨v, rfl, r1⟩ := r.one_inv
  obtain ⟨a, rfl, ha⟩ := r1.pairs_inv
  exact ⟨a, ps, rfl, ha, hz, fun q H' nq S h => hQ _ _ H' hR S (ret_ints nq h)⟩
noncomputable def sp_law_price (K : PySem.W.Frag) : Sp := fun vs H Q _ => ∃ (l o : Addr) (ps : List (Int × Int)) (os : List Int), vs = [.ref l, .ref o] ∧ LAt PairR H l ps ∧ Field ps ∧ ps.length ≤ 50 ∧ SqL K H o (os.map V.int) ∧ (∀ p ∈ ps, p.1 ∈ os) ∧
  ∀ (H' : Hp), Same H H' → Q (.int (priM ps os ps.length)) H'
noncomputable def pc_law_price : Pc := fun ds R _ => ∃ (ps : List (Int × Int)) (os : List Int), ds = [.lst (ps.map prD), .lst (os.map D.int)] ∧ Field ps ∧ ps.length ≤ 50 ∧ (∀ p ∈ ps, p.1 ∈ os) ∧ R (.sh (.int (priM ps os ps.length)))
theorem cv_law_price {P : Program} {w : World} {K : PySem.W.Frag} {mg : Str → Option Value} {base : Heap} (C : Callee P w K mg base CX0 1 "_law_price" ["_law_strips_here", "_law_order"] (sp_law_price K)) : Callee P w K mg base CX0 1 "_law_price" ["_law_strips_here", "_law_order"] (Pu.spOf mg pc_law_price K) := Pu.imp_of C fun ds R X vs H Q E r hc hQ hX => by
  obtain ⟨ps, os, rfl, hF, hz, hin, hR⟩ := hc
  obtain ⟨v, u, rfl, r1, r2⟩ := r.two_inv
  obtain ⟨a, rfl, ha⟩ := r1.pairs_inv
  obtain ⟨l, rfl, hl⟩ := r2.ints_inv
  exact ⟨a, l, ps, os, rfl, ha, hF, hz, SqL.of hl, hin, fun H' S => hQ _ _ H' hR S (.int _)⟩
noncomputable def badM (os : List Int) (q : Int × Int) : Bool := decide (q.1 ∈ os) && (decide (q.2 ∈ os) && decide (os.idxOf q.2 < os.idxOf q.1))
noncomputable def pc_law_kept : Pc := fun ds R _ => ∃ (os : List Int) (ws : List (Int × Int)), ds = [.lst (os.map D.int), .lst (ws.map prD)] ∧ ((∀ q ∈ ws, badM os q = false) → R (.sh (.bl true))) ∧ ((∃ q ∈ ws, badM os q = true) → R (.sh (.bl false)))
noncomputable abbrev ilD (r : List Int) : D := .lst (r.map D.int)
noncomputable def pc_law_orders : Pc := fun ds R _ => ∃ hs : List Int, ds = [.lst (hs.map D.int)] ∧ hs.length ≤ 5 ∧ R (.sh (.lst ((rowsM hs hs.length).map ilD)))
noncomputable def sp_law_no_ring (K : PySem.W.Frag) : Sp := fun vs H Q _ => ∃ (l p : Addr) (hs : List Int) (ws : List (Int × Int)), vs = [.ref l, .ref p] ∧ SqL K H l (hs.map V.int) ∧ hs.length ≤ 50 ∧ LAt PairR H p ws ∧ ws.length ≤ 50 ∧
  ∀ (H' : Hp), Same H H' → Q (.bl (decide (peelsM ws hs hs.length = []))) H'
noncomputable def pc_law_no_ring : Pc := fun ds R _ => ∃ (hs : List Int) (ws : List (Int × Int)), ds = [.lst (hs.map D.int), .lst (ws.map prD)] ∧ hs.length ≤ 50 ∧ ws.length ≤ 50 ∧ R (.sh (.bl (decide (peelsM ws hs hs.length = []))))
theorem cv_law_no_ring {P : Program} {w : World} {K : PySem.W.Frag} {mg : Str → Option Value} {base : Heap} (C : Callee P w K mg base CX0 1 "_law_no_ring" ["_law_holders", "_law_wishes_here"] (sp_law_no_ring K)) : Callee P w K mg base CX0 1 "_law_no_ring" ["_law_holders", "_law_wishes_here"] (Pu.spOf mg pc_law_no_ring K) := Pu.imp_of C fun ds R X vs H Q E r hc hQ hX => by
  obtain ⟨hs, ws, rfl, hz, hw, hR⟩ := hc
  obtain ⟨v, u, rfl, r1, r2⟩ := r.two_inv
  obtain ⟨a, rfl, ha⟩ := r1.ints_inv
  obtain ⟨l, rfl, hl⟩ := r2.pairs_inv
  exact ⟨a, l, hs, ws, rfl, SqL.of ha, hz, hl, hw, fun H' S => hQ _ _ H' hR S (.bl _)⟩
noncomputable def pc_ring_from : Pc := fun ds R _ => ∃ (l : Int) (hs : List Int) (ws : List (Int × Int)), ds = [.int l, .lst (hs.map D.int), .lst (ws.map prD)] ∧ hs.Nodup ∧ hs.length ≤ 50 ∧ ∀ r, RF hs ws l r → r.length ≤ 60 → R (.sh (.lst (r.map D.int)))
noncomputable def pc_pair_costs : Pc := fun ds R _ => ∃ ps : List (Int × Int), ds = [.lst (ps.map prD)] ∧ Field ps ∧ ps.length ≤ 50 ∧
  ∀ kvs : List (List Key × V), (∀ x ∈ holdM ps, ∀ y ∈ holdM ps, valV kvs [.inl x, .inl y] = some (.int (pcM ps x y ps.length))) → R (.own (.dT kvs))
noncomputable def pc_cost_with_last : Pc := fun ds R _ => ∃ (ms : List Int) (l : Int) (le pa : List (List Key × V)) (c : Int → Int) (v : Int), ds = [tD ms, .int l, .dT le, .dT pa] ∧ ms.length ≤ 1000 ∧ valV le (kT (lessM ms l)) = some (.int v) ∧
  (∀ m ∈ lessM ms l, valV pa [.inl m, .inl l] = some (.int (c m))) ∧ R (.sh (.int (v + ((lessM ms l).map c).sum)))
noncomputable def pc_cost_with_first : Pc := fun ds R _ => ∃ (ms : List Int) (l : Int) (le pa : List (List Key × V)) (c : Int → Int) (v : Int), ds = [tD ms, .int l, .dT le, .dT pa] ∧ ms.length ≤ 1000 ∧ valV le (kT (lessM ms l)) = some (.int v) ∧
  (∀ m ∈ lessM ms l, valV pa [.inl l, .inl m] = some (.int (c m))) ∧ R (.sh (.int (v + ((lessM ms l).map c).sum)))
noncomputable def drawM (ns : List Int) (k : Int) : Int := if ns.getD 0 0 % 2 = 0 then ns.getD (1 + k).toNat 0 else mix (ns.getD 1 0) k
noncomputable def sp_law_draw (K : PySem.W.Frag) : Sp := fun vs H Q _ => ∃ (a : Addr) (ns : List Int) (k : Int), vs = [.ref a, .int k] ∧ SqL K H a (ns.map V.int) ∧ 0 ≤ k ∧ Q (.int (drawM ns k)) H
noncomputable def pc_law_draw : Pc := fun ds R _ => ∃ (ns : List Int) (k : Int), ds = [.scr ns, .int k] ∧ 0 ≤ k ∧ R (.sh (.int (drawM ns k)))
theorem cv_law_draw {P : Program} {w : World} {K : PySem.W.Frag} {mg : Str → Option Value} {base : Heap} (C : Callee P w K mg base CX0 2 "_law_draw" ["_law_script", "_law_k"] (sp_law_draw K)) : Callee P w K mg base CX0 2 "_law_draw" ["_law_script", "_law_k"] (Pu.spOf mg pc_law_draw K) := Pu.imp_of C fun ds R X vs H Q E r hc hQ hX => by
  obtain ⟨ns, k, rfl, hk, hR⟩ := hc
  obtain ⟨v, u, rfl, r1, r2⟩ := r.two_inv
  obtain ⟨a, rfl, hS⟩ := r1.scr_inv
  rw [r2.int_inv]
  exact ⟨a, ns, k, rfl, hS, hk, hQ _ _ H hR (Same.refl _) (.int _)⟩
/-- asked of two lists of the same whole numbers -/
noncomputable def sp_law_row (K : PySem.W.Frag) : Sp := fun vs H Q _ => ∃ (l l' : Addr) (xs : List Int), vs = [.ref l, .ref l'] ∧ H l = some (.lst (xs.map V.int)) ∧ SqL K H l' (xs.map V.int) ∧ xs.length ≤ 1000000 ∧ Q (.bl true) H
noncomputable def pc_law_row : Pc := fun ds R _ => ∃ xs : List Int, ds = [.lst (xs.map D.int), .lst (xs.map D.int)] ∧ xs.length ≤ 1000000 ∧ R (.sh (.bl true))
theorem cv_law_row {P : Program} {w : World} {K : PySem.W.Frag} {mg : Str → Option Value} {base : Heap} (C : Callee P w K mg base CX0 2 "_law_row" ["_law_found", "_law_due"] (sp_law_row K)) : Callee P w K mg base CX0 2 "_law_row" ["_law_found", "_law_due"] (Pu.spOf mg pc_law_row K) := Pu.imp_of C fun ds R X vs H Q E r hc hQ hX => by
  obtain ⟨xs, rfl, hz, hR⟩ := hc
  obtain ⟨v, u, rfl, r1, r2⟩ := r.two_inv
  obtain ⟨a, rfl, ha⟩ := r1.ints_inv
  obtain ⟨l, rfl, hl⟩ := r2.ints_inv
  exact ⟨a, l, xs, rfl, ha, SqL.of hl, hz, hQ _ _ H hR (Same.refl _) (.bl _)⟩
/-- asked of two lists of the same pairs -/
noncomputable def sp_law_tuples (_ : PySem.W.Frag) : Sp := fun vs H Q _ => ∃ (l l' : Addr) (ps : List (Int × Int)), vs = [.ref l, .ref l'] ∧ LAt PairR H l ps ∧ LAt PairR H l' ps ∧ ps.length ≤ 1000000 ∧ Q (.bl true) H
noncomputable def pc_law_tuples : Pc := fun ds R _ => ∃ ps : List (Int × Int), ds = [.lst (ps.map prD), .lst (ps.map prD)] ∧ ps.length ≤ 1000000 ∧ R (.sh (.bl true))
theorem cv_law_tuples {P : Program} {w : World} {K : PySem.W.Frag} {mg : Str → Option Value} {base : Heap} (C : Callee P w K mg base CX0 2 "_law_tuples" ["_law_found", "_law_due"] (sp_law_tuples K)) : Callee P w K mg base CX0 2 "_law_tuples" ["_law_found", "_law_due"] (Pu.spOf mg pc_law_tuples K) := Pu.imp_of C fun ds R X vs H Q E r hc hQ hX => by
  obtain ⟨ps, rfl, hz, hR⟩ := hc
  obtain ⟨v, u, rfl, r1, r2⟩ := r.two_inv
  obtain ⟨a, rfl, ha⟩ := r1.pairs_inv
  obtain ⟨l, rfl, hl⟩ := r2.pairs_inv
  exact ⟨a, l, ps, rfl, ha, hl, hz, hQ _ _ H hR (Same.refl _) (.bl _)⟩
noncomputable def pc_law_best : Pc := fun ds R _ => ∃ (ps ws : List (Int × Int)) (o : List Int), ds = [.lst (ps.map prD), .lst (ws.map prD)] ∧ Field ps ∧ ps.length ≤ 50 ∧ (holdM ps).length ≤ 5 ∧ Best ws (fun x y => pcM ps x y ps.length) (holdM ps) o ∧ R (.own (.lst [.int (priM ps o ps.length), .lst (o.map D.int)]))
noncomputable def pc_find_ring : Pc := fun ds R _ => ∃ (hs : List Int) (ws : List (Int × Int)), ds = [.lst (hs.map D.int), .lst (ws.map prD)] ∧ hs.Nodup ∧ hs.length ≤ 50 ∧ ∀ r, FR hs ws r → r.length ≤ 60 → R (.sh (.lst (r.map D.int)))
noncomputable def pc_least_costs : Pc := fun ds R _ => ∃ (ps ws : List (Int × Int)) (pa : List (List Key × V)) (c : Int → Int → Int), ds = [.lst (ps.map prD), .lst (ws.map prD), .dT pa] ∧ Field ps ∧ ps.length ≤ 50 ∧ ws.length ≤ 50 ∧ (∀ q ∈ ws, q.1 ≠ q.2) ∧
  (∀ x ∈ holdM ps, ∀ y ∈ holdM ps, valV pa [.inl x, .inl y] = some (.int (c x y))) ∧ HasLast (holdM ps) ws ∧ ∀ kvs, Tab ws c (setsM (holdM ps)) kvs → R (.own (.dT kvs))
noncomputable def stripM (ns m : List Int) (k : Nat) : Int × Int := (holderM m (drawM ns (2 + (k : Int)) % m.getD 0 0), m.getD 4 0 + drawM ns (2 + (k : Int)) / m.getD 0 0 % m.getD 3 0)
noncomputable def stripsM (ns m : List Int) (n : Nat) : List (Int × Int) := (List.range n).map (stripM ns m)
noncomputable def sp_law_strips (K : PySem.W.Frag) : Sp := fun vs H Q _ => ∃ (a l : Addr) (ns m : List Int) (n : Int), vs = [.ref a, .ref l, .int n] ∧ SqL K H a (ns.map V.int) ∧ SqL K H l (m.map V.int) ∧ Menu m ∧ 0 ≤ n ∧ n ≤ 1000 ∧
  ∀ (p : Addr) (H' : Hp), H p = none → Same H H' → LAt PairR H' p (stripsM ns m n.toNat) → Q (.ref p) H'
theorem stripsM_succ (ns m : List Int) (k : Nat) : stripsM ns m (k + 1) = stripsM ns m k ++ [stripM ns m k] := by
  unfold stripsM
  rw [List.range_succ, List.map_append]
  rfl
theorem stripsM_len (ns m : List Int) (k : Nat) : (stripsM ns m k).length = k := by simp [stripsM]
theorem stripM_field {ns m : List Int} (hM : Menu m) (k : Nat) : 1 ≤ (stripM ns m k).1 ∧ (stripM ns m k).1 ≤ 10 ∧ 1 ≤ (stripM ns m k).2 ∧ (stripM ns m k).2 ≤ 1000 := by
  obtain ⟨a, b, c, d, e, rfl, ha, hb, hc, hd, he⟩ := hM
  show 1 ≤ 1 + (_ * b + c) % 10 ∧ 1 + (_ * b + c) % 10 ≤ 10 ∧ 1 ≤ e + _ / a % d ∧ e + _ / a % d ≤ 1000
  have h1 := Int.emod_nonneg (drawM ns (2 + (k : Int)) / a) (show d ≠ 0 by omega)
  have h2 := Int.emod_lt_of_pos (drawM ns (2 + (k : Int)) / a) (show 0 < d by omega)
  omega
theorem stripsM_field {ns m : List Int} (hM : Menu m) (k : Nat) : Field (stripsM ns m k) := by
  intro q hq
  obtain ⟨j, _, rfl⟩ := List.mem_map.mp hq
  exact stripM_field hM j
noncomputable def pc_law_strips : Pc := fun ds R _ => ∃ (ns m : List Int) (n : Int), ds = [.scr ns, .lst (m.map D.int), .int n] ∧ Menu m ∧ 0 ≤ n ∧ n ≤ 1000 ∧ R (.own ((stripsM ns m n.toNat).map prD))
theorem cv_law_strips {P : Program} {w : World} {K : PySem.W.Frag} {mg : Str → Option Value} {base : Heap} (C : Callee P w K mg base CX0 3 "_law_strips" ["_law_script", "_law_menu_here", "_law_many"] (sp_law_strips K)) : Callee P w K mg base CX0 3 "_law_strips" ["_law_script", "_law_menu_here", "_law_many"] (Pu.spOf mg pc_law_strips K) := Pu.imp_of C fun ds R X vs H Q E r hc hQ hX => by
  obtain ⟨ns, m, n, rfl, hM, h0, h1, hR⟩ := hc
  cases r with
  | cons r1 r =>
    obtain ⟨v, u, rfl, r2, r3⟩ := r.two_inv
    obtain ⟨a, rfl, hS⟩ := r1.scr_inv
    obtain ⟨l, rfl, hl⟩ := r2.ints_inv
    rw [r3.int_inv]
    exact ⟨a, l, ns, m, n, rfl, hS, SqL.of hl, hM, h0, h1, fun p H' np S h => hQ _ _ H' hR S (ret_pairs np S h)⟩
noncomputable def sp_law_wishes (K : PySem.W.Frag) : Sp := fun vs H Q _ => ∃ (a l : Addr) (ns m : List Int), vs = [.ref a, .ref l] ∧ SqL K H a (ns.map V.int) ∧ SqL K H l (m.map V.int) ∧ Menu m ∧
  ∀ (p : Addr) (H' : Hp) (ws : List (Int × Int)), H p = none → Same H H' → LAt PairR H' p ws → Wishes ws → Q (.ref p) H'
theorem holderM_ne {m : List Int} (hM : Menu m) {x y : Int} (hx : 0 ≤ x ∧ x ≤ 9) (hy : 0 ≤ y ∧ y ≤ 9) (h : x ≠ y) : holderM m x ≠ holderM m y := by
  obtain ⟨a, b, c, d, e, rfl, ha, ⟨_, _, hb⟩, hc, hd, he⟩ := hM
  intro z
  apply h
  have z' : 1 + (x * b + c) % 10 = 1 + (y * b + c) % 10 := z
  rcases hb with rfl | rfl | rfl | rfl <;> omega
theorem two_ne {o r p : Int} (h1 : 0 ≤ o ∧ o < p) (h2 : 0 ≤ r ∧ r < p - 1) : (0 ≤ (o + 1 + r) % p ∧ (o + 1 + r) % p < p) ∧ o ≠ (o + 1 + r) % p := by
  refine ⟨⟨Int.emod_nonneg _ (by omega), Int.emod_lt_of_pos _ (by omega)⟩, ?_⟩
  by_cases h : o + 1 + r < p
  · rw [Int.emod_eq_of_lt (by omega) h]
    omega
  · rw [← Int.sub_emod_right, Int.emod_eq_of_lt (by omega) (by omega)]
    omega
theorem holderM_in {m : List Int} (k : Int) : 1 ≤ holderM m k ∧ holderM m k ≤ 10 := by
  unfold holderM
  omega
noncomputable def pc_law_wishes : Pc := fun ds R _ => ∃ (ns m : List Int), ds = [.scr ns, .lst (m.map D.int)] ∧ Menu m ∧ ∀ ws, Wishes ws → R (.own (ws.map prD))
theorem cv_law_wishes {P : Program} {w : World} {K : PySem.W.Frag} {mg : Str → Option Value} {base : Heap} (C : Callee P w K mg base CX0 3 "_law_wishes" ["_law_script", "_law_menu_here"] (sp_law_wishes K)) : Callee P w K mg base CX0 3 "_law_wishes" ["_law_script", "_law_menu_here"] (Pu.spOf mg pc_law_wishes K) := Pu.imp_of C fun ds R X vs H Q E r hc hQ hX => by
  obtain ⟨ns, m, rfl, hM, hR⟩ := hc
  obtain ⟨v, u, rfl, r1, r2⟩ := r.two_inv
  obtain ⟨a, rfl, hS⟩ := r1.scr_inv
  obtain ⟨l, rfl, hl⟩ := r2.ints_inv
  exact ⟨a, l, ns, m, rfl, hS, SqL.of hl, hM, fun p H' ws np S h hW => hQ _ _ H' (hR ws hW) S (ret_pairs np S h)⟩
noncomputable def pc_check_no_ring : Pc := fun ds R _ => ∃ (ps ws : List (Int × Int)), ds = [.lst (ps.map prD), .lst (ws.map prD)] ∧ Field ps ∧ ps.length ≤ 50 ∧ (∀ q ∈ ws, q.1 ≠ q.2) ∧ (¬ ∃ r, Ring (holdM ps) ws r) ∧ R (.sh .non)
noncomputable def pcc (ps : List (Int × Int)) : Int → Int → Int := fun x y => pcM ps x y ps.length
noncomputable def pc_cost_table : Pc := fun ds R _ => ∃ (ps ws : List (Int × Int)), ds = [.lst (ps.map prD), .lst (ws.map prD)] ∧ Field ps ∧ ps.length ≤ 50 ∧ ws.length ≤ 50 ∧ (∀ q ∈ ws, q.1 ≠ q.2) ∧ (¬ ∃ r, Ring (holdM ps) ws r) ∧
  ∀ vs, TabV ws (pcc ps) (setsM (holdM ps)) vs → R (.own (vs.map D.int))
noncomputable def pc_best_order : Pc := fun ds R _ => ∃ (ps ws : List (Int × Int)), ds = [.lst (ps.map prD), .lst (ws.map prD)] ∧ Field ps ∧ ps.length ≤ 50 ∧ ws.length ≤ 50 ∧ (∀ q ∈ ws, q.1 ≠ q.2) ∧ (¬ ∃ r, Ring (holdM ps) ws r) ∧
  ∀ o, Best ws (pcc ps) (holdM ps) o → R (.own (o.map D.int))
noncomputable def pc_least_cost : Pc := fun ds R _ => ∃ (ps ws : List (Int × Int)), ds = [.lst (ps.map prD), .lst (ws.map prD)] ∧ Field ps ∧ ps.length ≤ 50 ∧ ws.length ≤ 50 ∧ (∀ q ∈ ws, q.1 ≠ q.2) ∧ (¬ ∃ r, Ring (holdM ps) ws r) ∧
  ∀ v, Least ws (pcc ps) (holdM ps) v → R (.sh (.int v))
-- the law
end M


namespace T
open PySem PySem.Spec PyProof.Rows L2 Own M
section
variable {P : Program} {w : World} {K : PySem.W.Frag} {mg : Str → Option Value} {base : Heap}
theorem ok_holders_of (G : Glob K mg) (D : Def K mg "holders_of" s_holders_of ["strips"])
    : Callee P w K mg base CX0 1 "holders_of" ["strips"] (sp_holders_of K) := by
  refine D.ok (k := 0) sc_holders_of (fun vs H Q E h => ?_) (fun f cdv A outer s H vs Q E hr h => ?_)
  · obtain ⟨l, ps, rfl, ⟨vs, hl, hv⟩, hF, hz, q⟩ := h
    rfl
  · obtain ⟨l, ps, rfl, ⟨vs, hl, hv⟩, hF, hz, q⟩ := h
    refine ⟨_, (pss_one (ps_ret (pe_callB (Own.call_sorted rfl) (by rfl) G.sorted boot_sorted (pa_cons (pe_callTy (Own.call_set rfl) (by rfl) G.set boot_set (pa_cons (Own.pe_comp (N' := ["holder", "width"]) (φ := [none, none]) rfl (Own.CompOk.of (by rfl)) (pi_list (pv 0)) (fun _ _ _ _ _ => ⟨(Own.pg_tupK (K := K) (n := 2) rfl (pgs_cons (pg_name (i := 0) (show (["holder", "width"] : List Str).Nodup from by decide +kernel) rfl (by first | exact Or.inl rfl | exact Or.inr rfl)) (pgs_cons (pg_name (i := 1) (show (["holder", "width"] : List Str).Nodup from by decide +kernel) rfl (by first | exact Or.inl rfl | exact Or.inr rfl)) pgs_nil))), Own.pifs_nil, (pv 0)⟩)) pa_nil)) pa_nil)))), ?_⟩
    have e1 := hv.1
    refine ⟨_, rfl, l, rfl, ⟨_, SqL.of hl⟩, fun D nD => comp_list (ds := ps) (fun d => some (V.int d.1)) (SqL.of hl) e1 nD (Nat.le_trans hz (by decide)) (fun i x d H2 hx hd S k hk => ?_) ?_⟩
    · obtain ⟨d', hd', a, rfl, ha⟩ := hv.get hx
      rw [hd] at hd'
      cases hd'
      exact ⟨a, _, rfl, SqT.of (S _ _ ha), rfl, _, _, rfl, _, _, rfl, rfl, .skip (.skip .refl), _, rfl, hk⟩
    · have em : ps.filterMap (fun d => some (V.int d.1)) = (ps.map (·.1)).map V.int := by
        rw [List.filterMap_eq_map', List.map_map]
        rfl
      rw [em]
      have S1 : Same H (upd H D (.lst ((ps.map (·.1)).map V.int))) := same_upd nD
      refine ⟨D, ps.map (·.1), rfl, SqL.of upd_same, by rw [List.length_map]; omega, fun s1 n1 => ?_⟩
      have S2 := Own.Same.new (o := SetH w s1 ((ps.map (·.1)).foldl SetR.addJ [])) S1 n1
      refine ⟨s1, _, rfl, ?_, .inr upd_same, fun r ns n2 hp hs => ?_⟩
      · have := addAll_len (ps.map (·.1)) []
        rw [List.length_map] at this
        simp at this ⊢
        omega
      · rw [sorted_hold hF hp hs]
        exact q r _ (S2.free n2) (Own.Same.new S2 n2) upd_same
end
end T


namespace T
open PySem PySem.Spec PyProof.Rows L2 Own M
section
variable {P : Program} {w : World} {K : PySem.W.Frag} {mg : Str → Option Value} {base : Heap}
theorem ok_pair_cost (G : Glob K mg) (D : Def K mg "pair_cost" s_pair_cost ["strips", "ahead", "behind"])
    : Callee P w K mg base CX0 1 "pair_cost" ["strips", "ahead", "behind"] (sp_pair_cost K) := by
  refine D.ok (k := 0) sc_pair_cost (fun vs H Q E h => ?_) (fun f cdv A outer s H vs Q E hr h => ?_)
  · obtain ⟨l, ps, x, y, rfl, ⟨vs, hl, hv⟩, hF, q⟩ := h
    rfl
  · obtain ⟨l, ps, x, y, rfl, ⟨vs, hl, hv⟩, hF, q⟩ := h
    refine ⟨_, (pss_cons (ps_set (i := 3) sc_pair_cost.nd rfl (by first | exact Or.inl rfl | exact Or.inr rfl) pe_int)
      (pss_cons (ps_set (i := 4) sc_pair_cost.nd rfl (by first | exact Or.inl rfl | exact Or.inr rfl) pe_int)
      (pss_cons (ps_for PassesOwn.never rfl (pi_list (pv 0)) (pg_tup rfl (pgs_cons (pg_name (i := 5) sc_pair_cost.nd rfl (by first | exact Or.inl rfl | exact Or.inr rfl)) (pgs_cons (pg_name (i := 6) sc_pair_cost.nd rfl (by first | exact Or.inl rfl | exact Or.inr rfl)) pgs_nil)))
      (pss_one (ps_if (pt_cmpR op_eq (pv 5) (pv 2) (nomark _))
      (pss_one (ps_aug (i := 3) sc_pair_cost.nd rfl (by first | exact Or.inl rfl | exact Or.inr rfl) (pv 6) ip_add))
      (pss_one (ps_if (pt_cmpR op_eq (pv 5) (pv 1) (nomark _))
      (pss_one (ps_aug (i := 4) sc_pair_cost.nd rfl (by first | exact Or.inl rfl | exact Or.inr rfl) (pe_op op_mul (pv 3) (pv 6)) ip_add))
      pss_nil)))))
      (pss_one (ps_ret (pv 4)))))), ?_⟩
    refine ⟨_, rfl, l, rfl, ⟨_, SqL.of hl⟩, for_list (xs := vs) (fun i σ H2 => H2 = H ∧ ∃ (u v : Option V), σ = [some (.ref l), some (.int x), some (.int y), some (.int (tpM ps y i)), some (.int (pcM ps x y i)), u, v]) ⟨rfl, none, none, rfl⟩ (fun i σ H2 _ h => by rw [h.1]; exact SqL.of hl) ?_ ?_⟩
    · rintro i v σ H2 hi ⟨rfl, u, v', rfl⟩
      obtain ⟨p, ep, a, rfl, ha⟩ := hv.get hi
      have hp : ps.getD i (0, 0) = p := by rw [List.getD_eq_getElem?_getD, ep]; rfl
      have hw := hF p (List.mem_of_getElem? ep)
      refine ⟨a, _, rfl, SqT.of ha, rfl, _, _, rfl, _, _, rfl, rfl, ?_⟩
      refine ⟨_, rfl, _, rfl, rfl, _, rfl, ite2 (fun h => ?_) (fun h => ?_)⟩
      · have e : p.1 = y := V.int.inj (of_decide_eq_true h)
        refine ⟨_, rfl, _, rfl, _, _, rfl, rfl, rfl, some (.int p.1), some (.int p.2), ?_⟩
        have e1 : tpM ps y (i + 1) = tpM ps y i + p.2 := by simp only [tpM]; rw [hp, if_pos e]
        have e2 : pcM ps x y (i + 1) = pcM ps x y i := by
          simp only [pcM]
          rw [hp, if_neg (by rintro ⟨z1, z2⟩; exact z1 (z2.symm.trans e))]
          omega
        rw [e1, e2]
        rfl
      · have e : ¬ p.1 = y := fun z => h (decide_eq_true (congrArg V.int z))
        have e1 : tpM ps y (i + 1) = tpM ps y i := by simp only [tpM]; rw [hp, if_neg e]; omega
        refine ⟨_, rfl, _, rfl, rfl, _, rfl, ite2 (fun h' => ?_) (fun h' => ?_)⟩
        · have e' : p.1 = x := V.int.inj (of_decide_eq_true h')
          have e2 : pcM ps x y (i + 1) = pcM ps x y i + tpM ps y i * p.2 := by
            simp only [pcM]
            rw [hp, if_pos ⟨fun z => e (e'.trans z), e'⟩]
          refine ⟨_, rfl, _, rfl, _, rfl, _, _, rfl, rfl, .inr ⟨by omega, by omega⟩, _, _, rfl, rfl, rfl, some (.int p.1), some (.int p.2), ?_⟩
          rw [e1, e2]
          rfl
        · have e' : ¬ p.1 = x := fun z => h' (decide_eq_true (congrArg V.int z))
          have e2 : pcM ps x y (i + 1) = pcM ps x y i := by
            simp only [pcM]
            rw [hp, if_neg (by rintro ⟨z1, z2⟩; exact e' z2)]
            omega
          refine ⟨rfl, some (.int p.1), some (.int p.2), ?_⟩
          rw [e1, e2]
          rfl
    · rintro σ H2 ⟨rfl, u, v, rfl⟩
      rw [hv.1]
      exact ⟨_, rfl, q⟩
end
end T

namespace M
open PySem PySem.Spec PyProof.Rows L2 Own Pu
/-- the ways looked at: i rows whole, of the next one j holders -/
noncomputable def Pd (ps : List (List Int)) (ls : List Int) (i j : Nat) (p : List Int) (h : Int) : Prop := (p ∈ ps.take i ∧ h ∈ ls) ∨ (ps[i]? = some p ∧ h ∈ ls.take j)
structure LGs (ws : List (Int × Int)) (l : Int) (P : List Int → Int → Prop) (ls : List Int) (lg : List (List Int)) (kvs : List (Key × V)) : Prop where
  g : LG ws l P lg
  nd : (lg.map (lastI l)).Nodup
  sub : ∀ h ∈ lg.map (lastI l), h ∈ ls
  rc : ∀ h : Int, (valV kvs (.inl h)).isSome = true ↔ h ∈ lg.map (lastI l)
  len : kvs.length ≤ lg.length
theorem LGs.len_le {ws : List (Int × Int)} {l : Int} {P : List Int → Int → Prop} {ls : List Int} {lg : List (List Int)} {kvs : List (Key × V)} (L : LGs ws l P ls lg kvs) : lg.length ≤ ls.length := by
  have := len_of_sub L.nd L.sub
  rwa [List.length_map] at this
theorem LG.congr {ws : List (Int × Int)} {l : Int} {P P' : List Int → Int → Prop} {lg : List (List Int)} (h : ∀ p x, P p x ↔ P' p x) (G : LG ws l P lg) : LG ws l P' lg :=
  ⟨fun q hq => let ⟨p, x, a, b⟩ := G.mem q hq; ⟨p, x, (h p x).mp a, b⟩, G.srt, fun p x a b => G.has p x ((h p x).mpr a) b⟩
theorem LGs.congr {ws : List (Int × Int)} {l : Int} {P P' : List Int → Int → Prop} {ls : List Int} {lg : List (List Int)} {kvs : List (Key × V)} (h : ∀ p x, P p x ↔ P' p x) (G : LGs ws l P ls lg kvs) : LGs ws l P' ls lg kvs := ⟨G.g.congr h, G.nd, G.sub, G.rc, G.len⟩
theorem LGs.start {ps : List (List Int)} {ls : List Int} {ws : List (Int × Int)} {l : Int} : LGs ws l (Pd ps ls 0 0) ls [] [] := by
  refine ⟨⟨(fun q hq => by cases hq), List.Pairwise.nil, fun p h a => ?_⟩, List.nodup_nil, (fun h hh => by cases hh), (fun h => by simp [valV]), Nat.le_refl _⟩
  rcases a with ⟨a, _⟩ | ⟨_, a⟩
  · rw [List.take_zero] at a; cases a
  · rw [List.take_zero] at a; cases a
/-- one more looked at, nothing put down -/
theorem LGs.skip {ps : List (List Int)} {ls : List Int} {ws : List (Int × Int)} {l : Int} {lg : List (List Int)} {kvs : List (Key × V)} {i j : Nat} {p : List Int} {h : Int} (hp : ps[i]? = some p) (hh : ls[j]? = some h) (hs : ps.Pairwise sl)
    (G : LGs ws l (Pd ps ls i j) ls lg kvs) (no : (valV kvs (.inl h)).isSome = true ∨ (lastI l p, h) ∉ ws) : LGs ws l (Pd ps ls i (j + 1)) ls lg kvs := by
  obtain ⟨hj, ej⟩ := List.getElem?_eq_some_iff.mp hh
  obtain ⟨hi, ei⟩ := List.getElem?_eq_some_iff.mp hp
  have tk : ∀ x, x ∈ ls.take (j + 1) ↔ x ∈ ls.take j ∨ x = h := fun x => by rw [List.take_succ_eq_append_getElem hj, List.mem_append, List.mem_singleton, ej]
  refine ⟨⟨fun q hq => ?_, G.g.srt, fun p' x a b => ?_⟩, G.nd, G.sub, G.rc, G.len⟩
  · obtain ⟨p', x, a, b⟩ := G.g.mem q hq
    exact ⟨p', x, a.imp id fun z => ⟨z.1, (tk x).mpr (.inl z.2)⟩, b⟩
  · rcases a with a | ⟨a1, a2⟩
    · exact G.g.has p' x (.inl a) b
    · rcases (tk x).mp a2 with a2 | rfl
      · exact G.g.has p' x (.inr ⟨a1, a2⟩) b
      · rw [hp] at a1
        cases a1
        rcases no with no | no
        · obtain ⟨q, hq, e⟩ := List.mem_map.mp ((G.rc x).mp no)
          obtain ⟨p'', x', c1, rfl, c2⟩ := G.g.mem q hq
          have ex : x' = x := by rw [last_app] at e; exact e
          subst ex
          refine ⟨p'', hq, ?_⟩
          rcases c1 with ⟨c1, _⟩ | ⟨c1, _⟩
          · obtain ⟨m, hm, em'⟩ := List.mem_iff_getElem.mp c1
            rw [List.length_take] at hm
            rw [List.getElem_take] at em'
            have := List.pairwise_iff_getElem.mp hs m i (by omega) hi (by omega)
            rw [em', ei] at this
            exact .inr this
          · rw [hp] at c1
            cases c1
            exact .inl rfl
        · exact absurd b no
/-- one more put down -/
theorem LGs.put {ps : List (List Int)} {ls : List Int} {ws : List (Int × Int)} {l : Int} {lg : List (List Int)} {kvs : List (Key × V)} {i j : Nat} {p : List Int} {h : Int} (hp : ps[i]? = some p) (hh : ls[j]? = some h) (hs : ps.Pairwise sl) (hl : ls.Pairwise (· < ·))
    (G : LGs ws l (Pd ps ls i j) ls lg kvs) (new : (valV kvs (.inl h)).isSome = false) (hw : (lastI l p, h) ∈ ws) : LGs ws l (Pd ps ls i (j + 1)) ls (lg ++ [p ++ [h]]) (putK kvs (.inl h) (.bl true)) := by
  obtain ⟨hj, ej⟩ := List.getElem?_eq_some_iff.mp hh
  obtain ⟨hi, ei⟩ := List.getElem?_eq_some_iff.mp hp
  have tk : ∀ x, x ∈ ls.take (j + 1) ↔ x ∈ ls.take j ∨ x = h := fun x => by rw [List.take_succ_eq_append_getElem hj, List.mem_append, List.mem_singleton, ej]
  have lh : lastI l (p ++ [h]) = h := by rw [last_app]; rfl
  have nh : h ∉ lg.map (lastI l) := fun z => by rw [(G.rc h).mpr z] at new; cases new
  refine ⟨⟨fun q hq => ?_, ?_, fun p' x a b => ?_⟩, ?_, fun x hx => ?_, fun x => ?_, ?_⟩
  · rcases List.mem_append.mp hq with hq | hq
    · obtain ⟨p', x, a, b⟩ := G.g.mem q hq
      exact ⟨p', x, a.imp id fun z => ⟨z.1, (tk x).mpr (.inl z.2)⟩, b⟩
    · rw [List.mem_singleton.mp hq]
      exact ⟨p, h, .inr ⟨hp, (tk h).mpr (.inr rfl)⟩, rfl, hw⟩
  · refine List.pairwise_append.mpr ⟨G.g.srt, by simp, fun q hq q' hq' => ?_⟩
    rw [List.mem_singleton.mp hq']
    obtain ⟨p', x, a, rfl, b⟩ := G.g.mem q hq
    rcases a with ⟨a, _⟩ | ⟨a1, a2⟩
    · obtain ⟨m, hm, em'⟩ := List.mem_iff_getElem.mp a
      rw [List.length_take] at hm
      rw [List.getElem_take] at em'
      have := List.pairwise_iff_getElem.mp hs m i (by omega) hi (by omega)
      rw [em', ei] at this
      exact sl_snoc x h this
    · rw [hp] at a1
      cases a1
      obtain ⟨m, hm, em'⟩ := List.mem_iff_getElem.mp a2
      rw [List.length_take] at hm
      rw [List.getElem_take] at em'
      have := List.pairwise_iff_getElem.mp hl m j (by omega) hj (by omega)
      rw [em', ej] at this
      exact sl_same this
  · have old : ∀ p' x, Pd ps ls i j p' x → (lastI l p', x) ∈ ws → ∃ p'', p'' ++ [x] ∈ lg ++ [p ++ [h]] ∧ (p'' = p' ∨ sl p'' p') := fun p' x a b => let ⟨p'', k1, k2⟩ := G.g.has p' x a b; ⟨p'', List.mem_append_left _ k1, k2⟩
    rcases a with a | ⟨a1, a2⟩
    · exact old p' x (.inl a) b
    · rcases (tk x).mp a2 with a2 | rfl
      · exact old p' x (.inr ⟨a1, a2⟩) b
      · rw [hp] at a1
        cases a1
        exact ⟨p, List.mem_append_right _ (List.mem_singleton.mpr rfl), .inl rfl⟩
  · rw [List.map_append, List.map_singleton, lh]
    refine List.nodup_append.mpr ⟨G.nd, by simp, fun a ha b hb => ?_⟩
    rw [List.mem_singleton.mp hb]
    rintro rfl
    exact nh ha
  · rw [List.map_append, List.map_singleton, lh] at hx
    rcases List.mem_append.mp hx with hx | hx
    · exact G.sub x hx
    · rw [List.mem_singleton.mp hx, ← ej]
      exact List.getElem_mem hj
  · rw [List.map_append, List.map_singleton, lh, valV_put, List.mem_append, List.mem_singleton]
    by_cases e : x = h
    · subst e
      rw [if_pos rfl]
      exact ⟨fun _ => .inr rfl, fun _ => rfl⟩
    · rw [if_neg (fun z => e (Sum.inl.inj z)), G.rc]
      exact ⟨.inl, fun z => z.elim id fun w => absurd w e⟩
  · rw [List.length_append]
    have := length_putK kvs (.inl h) (.bl true)
    have := G.len
    simp
    omega
end M

namespace T
open PySem PySem.Spec PyProof.Rows L2 Own M Pu
section
variable {P : Program} {w : World} {K : PySem.W.Frag} {mg : Str → Option Value} {base : Heap}
theorem ok_longer_paths (G : Glob K mg) (DD : Def K mg "longer_paths" s_longer_paths ["paths", "left", "wishes"])
    : Callee P w K mg base CX0 1 "longer_paths" ["paths", "left", "wishes"] (Pu.spOf mg pc_longer_paths K) := by
  refine DD.ok (k := 0) sc_longer_paths (fun vs H Q E h => spOf_len h (fun ds R X h => ?_)) (fun f cdv A outer s H vs Q E hr h => ?_)
  · obtain ⟨l, ps, ls, ws, rfl, hs, hl, hpl, hll, hR⟩ := h
    rfl
  · refine ⟨_, (pss_cons (ps_set (i := 3) sc_longer_paths.nd rfl (by first | exact Or.inl rfl | exact Or.inr rfl) (pe_lst pa_nil))
      (pss_cons (ps_set (i := 4) sc_longer_paths.nd rfl (by first | exact Or.inl rfl | exact Or.inr rfl) pe_dnewK)
      (pss_cons (ps_for PassesOwn.never rfl (Pu.pi_listK (K := K) (pv 0)) (pg_name (i := 5) sc_longer_paths.nd rfl (by first | exact Or.inl rfl | exact Or.inr rfl))
      (pss_one (ps_for PassesOwn.never rfl (Pu.pi_listK (K := K) (pv 1)) (pg_name (i := 6) sc_longer_paths.nd rfl (by first | exact Or.inl rfl | exact Or.inr rfl))
      (pss_one (ps_if (PW.pt (pw_and (pt_cmp (pc_dnotin (hu_of hr) (pv 6) (pv 4))) (pw_and1 (pt_cmpR (Pu.op_inU (K := K) (show _ < cLine from hu_of hr)) (pe_tup (pa_cons (pe_ix (Own.ix_ltK (K := K)) (pv 5) (pe_un un_neg pe_int) (fun _ _ => rfl)) (pa_cons (pv 6) pa_nil))) (pv 2) (by with_unfolding_all rfl)))))
      (pss_cons (ps_dput (hu_of hr) (pv 4) (pv 6) pe_bl rfl)
      (pss_one (ps_expr (pe_bm PySem.F.plainAttrs_list PySem.F.slot_list_append PySem.F.type_list_append mt_append (pv 3) (pa_cons (pe_op op_cat (pv 5) (pe_lst (pa_cons (pv 6) pa_nil))) pa_nil)))))
      pss_nil)))))
      (pss_one (ps_ret (pv 3)))))), Pu.fn_use (n := 3) h
      (ss_seq (ss_asg (se_lst sa_nil) (sg_name 3))
        (ss_seq (ss_asg se_dnewK (sg_name 4))
        (ss_seq (ss_frz 1 (ss_frz 0 (ss_for [5, 6] (si_list (se_var 0)) (sg_name 5)
        (ss_frz 1 (ss_for [6] (si_list (se_var 1)) (sg_name 6)
        (ss_if (st_and (st_b (se_dnotin (se_var 6) (se_var 4))) (st_test (se_in (se_tup (sa_cons (se_ix (se_var 5) (se_neg se_int)) (sa_cons (se_var 6) sa_nil))) (se_var 2)))) (ss_seq (ss_dput 4 (se_var 6) se_bl)
        (ss_frz 6 (ss_append 3 (se_cat (se_var 5) (se_lst (sa_cons (se_var 6) sa_nil)))))) ss_next))))))
        (ss_retV 3)))) (by decide) (fun ds R X h => ?_)⟩
    obtain ⟨l, ps, ls, ws, rfl, hs, hl, hpl, hll, hR⟩ := h
    refine ⟨rfl, ?_⟩
    refine ⟨by simp, rfl, for_of (xs := ps) (emb := em l) (fun i γ' => ∃ lg kvs, γ' = [some (.bor (.lst (ps.map (em l)))), some (.bor (.lst (ls.map D.int))), some (.bor (.lst (ws.map prD))), some (.own (lg.map (em l))), some (.own (.dK kvs)), none, none] ∧ LGs ws l (Pd ps ls i 0) ls lg kvs)
      ⟨[], [], rfl, LGs.start⟩ ?_ ?_⟩
    · rintro i hi γ' ⟨lg, kvs, rfl, G⟩
      have hp : ps[i]? = some ps[i] := List.getElem?_eq_getElem hi
      have hpi := hpl ps[i] (List.getElem_mem hi)
      generalize ps[i] = p at hp hpi ⊢
      refine ⟨rfl, for_of (xs := ls) (emb := D.int) (fun j γ' => ∃ lg kvs, γ' = [some (.bor (.lst (ps.map (em l)))), some (.bor (.lst (ls.map D.int))), some (.bor (.lst (ws.map prD))), some (.own (lg.map (em l))), some (.own (.dK kvs)), some (.bor (em l p)), none] ∧ LGs ws l (Pd ps ls i j) ls lg kvs) ⟨lg, kvs, rfl, G⟩ ?_ ?_⟩
      · rintro j hj γ' ⟨lg, kvs, rfl, G⟩
        have hh : ls[j]? = some ls[j] := List.getElem?_eq_getElem hj
        generalize ls[j] = h at hh ⊢
        have hlen := G.len_le
        have hkl := G.len
        refine ⟨.inl h, rfl, ite2 (fun g => ?_) (fun g => ?_)⟩
        · have g' : (valV kvs (.inl h)).isSome = false := by
            cases e : (valV kvs (.inl h)).isSome with
            | false => rfl
            | true => rw [e] at g; cases g
          refine ⟨_, at_last l p, by simp, _, .lp (lastI l p, h) ws, ite2 (fun g2 => ?_) (fun g2 => ?_)⟩
          · refine ⟨.inl h, .bl true, rfl, rfl, by omega, by simp, imms_ints _, rfl, by simp; omega, by rw [List.length_map]; omega, lg ++ [p ++ [h]], _, ?_, G.put hp hh hs hl g' (of_decide_eq_true g2)⟩
            rw [List.map_append]
            have e : em l (p ++ [h]) = .lst ((l :: p).map D.int ++ [.int h]) := by
              unfold em
              rw [← List.cons_append, List.map_append]
              rfl
            rw [List.map_singleton, e]
            rfl
          · exact ⟨lg, kvs, rfl, G.skip hp hh hs (.inr fun z => g2 (decide_eq_true z))⟩
        · have g' : (valV kvs (.inl h)).isSome = true := by
            cases e : (valV kvs (.inl h)).isSome with
            | true => rfl
            | false => rw [e] at g; exact absurd rfl g
          exact iteF ⟨lg, kvs, rfl, G.skip hp hh hs (.inl g')⟩
      · rintro γ' ⟨lg, kvs, rfl, G⟩
        refine ⟨lg, kvs, rfl, G.congr fun p' x => ?_⟩
        unfold Pd
        rw [List.take_length, List.take_zero]
        obtain ⟨hi', ei⟩ := List.getElem?_eq_some_iff.mp hp
        rw [List.take_succ_eq_append_getElem hi, List.mem_append, List.mem_singleton, hp, ei]
        constructor
        · rintro (⟨a, b⟩ | ⟨a, b⟩)
          · exact .inl ⟨.inl a, b⟩
          · exact .inl ⟨.inr (Option.some.inj a).symm, b⟩
        · rintro (⟨a | a, b⟩ | ⟨_, a⟩)
          · exact .inl ⟨a, b⟩
          · exact .inr ⟨congrArg some a.symm, b⟩
          · cases a
    · rintro γ' ⟨lg, kvs, rfl, G⟩
      refine hR lg (G.g.congr fun p' x => ?_) G.len_le
      unfold Pd
      rw [List.take_length, List.take_zero]
      exact ⟨(fun z => z.elim id fun w => by cases w.2), .inl⟩
end
end T


namespace T
open PySem PySem.Spec PyProof.Rows L2 Own M Pu
section
variable {P : Program} {w : World} {K : PySem.W.Frag} {mg : Str → Option Value} {base : Heap}
theorem ok_sets_of (G : Glob K mg) (DD : Def K mg "sets_of" s_sets_of ["holders"])
    : Callee P w K mg base CX0 1 "sets_of" ["holders"] (Pu.spOf mg pc_sets_of K) := by
  refine DD.ok (k := 0) sc_sets_of (fun vs H Q E h => spOf_len h (fun ds R X h => ?_)) (fun f cdv A outer s H vs Q E hr h => ?_)
  · obtain ⟨hs, rfl, hz, hR⟩ := h
    rfl
  · refine ⟨_, (pss_cons (ps_set (i := 1) sc_sets_of.nd rfl (by first | exact Or.inl rfl | exact Or.inr rfl) (pe_lst (pa_cons (pe_tup pa_nil) pa_nil)))
      (pss_cons (ps_for PassesOwn.never rfl (Pu.pi_listK (K := K) (pv 0)) (pg_name (i := 2) sc_sets_of.nd rfl (by first | exact Or.inl rfl | exact Or.inr rfl))
      (pss_one (ps_set (i := 1) sc_sets_of.nd rfl (by first | exact Or.inl rfl | exact Or.inr rfl) (pe_op op_cat (pv 1) (Own.pe_comp (N' := ["members", "holder"]) (φ := [none, some 2]) rfl (Own.CompOk.of (by rfl)) (Pu.pi_listK (K := K) (pv 1)) (fun _ _ _ _ _ => ⟨(pg_name (i := 0) (show (["members", "holder"] : List Str).Nodup from by decide +kernel) rfl (by first | exact Or.inl rfl | exact Or.inr rfl)), Own.pifs_nil, (pe_op (Own.op_catU (K := K)) (pv 0) (pe_tup (pa_cons (pv 1) pa_nil)))⟩))))))
      (pss_one (ps_ret (pv 1))))), Pu.fn_use (n := 1) h
      (ss_seq (ss_asg (se_lst (sa_cons (se_tup sa_nil) sa_nil)) (sg_name 1))
        (ss_seq (ss_frz 0 (ss_for [2] (si_list (se_var 0)) (sg_name 2)
        (ss_frz 2 (ss_asg (se_cat (se_var 1) (se_comp (si_listC (se_var 1)) (sg_name 0) st_yes (se_catU (se_var 0) (se_tup (sa_cons (se_var 1) sa_nil))))) (sg_name 1)))))
        (ss_retV 1))) (by decide) (fun ds R X h => ?_)⟩
    obtain ⟨hs, rfl, hz, hR⟩ := h
    refine ⟨rfl, ?_⟩
    refine ⟨by simp, by simp, rfl, for_of (xs := hs) (emb := D.int) (fun i γ' => γ' = [some (.bor (.lst (hs.map D.int))), some (.own ((setsM (hs.take i)).map tD)), none]) rfl ?_ ?_⟩
    · rintro i hi γ' rfl
      have hlen : (setsM (hs.take i)).length ≤ 1024 := by
        rw [setsM_len, List.length_take]
        exact Nat.pow_le_pow_right (j := 10) (by decide) (by omega)
      have hel : ∀ ms ∈ setsM (hs.take i), ms.length ≤ 10 := fun ms hm => by
        have := (setsM_sub _ ms hm).length_le
        rw [List.length_take] at this
        omega
      rw [List.take_succ_eq_append_getElem hi, setsM_snoc]
      generalize setsM (hs.take i) = S at hlen hel ⊢
      generalize hs[i] = h
      refine comp_of (xs := S) (emb := tD) (fun ms => some (tD (ms ++ [h]))) (by omega) (fun ms hm => ?_) ?_
      · refine ⟨by simp, _, _, tupD_tD ms, rfl, ?_, _, rfl, ?_⟩
        · have := hel ms hm
          rw [List.length_map]
          show ms.length + 1 ≤ 100000
          omega
        · unfold tD
          rw [List.map_append]
          rfl
      · rw [mapD]
        refine ⟨rfl, rfl, ?_, ?_⟩
        · rw [List.length_map, List.length_map]
          omega
        · show [_, _, _] = [_, _, _]
          rw [List.map_append, List.map_map]
          rfl
    · rintro γ' rfl
      rw [List.take_length]
      exact hR
end
end T


namespace T
open PySem PySem.Spec PyProof.Rows L2 Own M Pu
section
variable {P : Program} {w : World} {K : PySem.W.Frag} {mg : Str → Option Value} {base : Heap}
theorem ok_without (G : Glob K mg) (DD : Def K mg "without" s_without ["members", "holder"])
    : Callee P w K mg base CX0 1 "without" ["members", "holder"] (Pu.spOf mg pc_without K) := by
  refine DD.ok (k := 0) sc_without (fun vs H Q E h => spOf_len h (fun ds R X h => ?_)) (fun f cdv A outer s H vs Q E hr h => ?_)
  · obtain ⟨ms, h, rfl, hz, hR⟩ := h
    rfl
  · refine ⟨_, (pss_one (ps_ret (pe_callTy (Pu.call_tupleK (K := K)) (by rfl) G.tuple boot_tuple (pa_cons (Own.pe_comp (N' := ["member", "holder"]) (φ := [none, some 1]) rfl (Own.CompOk.of (by rfl)) (Pu.pi_tupK (K := K) (pv 0)) (fun _ _ _ _ _ => ⟨(pg_name (i := 0) (show (["member", "holder"] : List Str).Nodup from by decide +kernel) rfl (by first | exact Or.inl rfl | exact Or.inr rfl)), (Own.pifs_one (pt_cmpR (Pu.op_neU (K := K) (show _ < cLine from hr.units0)) (pv 0) (pv 1) (nomark _))), (pv 0)⟩)) pa_nil)))), Pu.fn_use (n := 2) h
      (ss_ret (se_tuple (sa_cons (se_comp (SndI.c (si_tup (se_var 0))) (sg_name 0) (st_test (se_neU (se_var 0) (se_var 1))) (se_var 0)) sa_nil))) (by decide) (fun ds R X h => ?_)⟩
    obtain ⟨ms, h, rfl, hz, hR⟩ := h
    refine ⟨rfl, ?_⟩
    rw [start_tD]
    refine ⟨_, rfl, comp_of (s := .sh .non) (xs := ms) (emb := D.int) (fun m => if decide (m ≠ h) = true then some (.int m) else none) (by omega) (fun m hm => ?_) ?_⟩
    · show if (!decide (m = h)) = true then _ else _
      by_cases e : m = h
      · rw [decide_eq_true e]
        exact iteF (by simp [e])
      · rw [decide_eq_false e]
        exact iteT ⟨_, rfl, if_pos (decide_eq_true e)⟩
    · rw [pickD (fun m => decide (m ≠ h))]
      exact ⟨rfl, hR⟩
end
end T


namespace T
open PySem PySem.Spec PyProof.Rows L2 Own M Pu
section
variable {P : Program} {w : World} {K : PySem.W.Frag} {mg : Str → Option Value} {base : Heap}
theorem ok_may_lie_last (G : Glob K mg) (DD : Def K mg "may_lie_last" s_may_lie_last ["members", "holder", "wishes"])
    : Callee P w K mg base CX0 1 "may_lie_last" ["members", "holder", "wishes"] (Pu.spOf mg pc_may_lie_last K) := by
  refine DD.ok (k := 0) sc_may_lie_last (fun vs H Q E h => spOf_len h (fun ds R X h => ?_)) (fun f cdv A outer s H vs Q E hr h => ?_)
  · obtain ⟨ms, h, ws, rfl, hz, hR⟩ := h
    rfl
  · refine ⟨_, (pss_one (ps_ret (pe_not (pe_callB (Own.call_anyL (K := K) rfl) (by rfl) G.any boot_any (pa_cons (Own.pe_comp (N' := ["ahead", "behind", "holder", "members"]) (φ := [none, none, some 1, some 0]) rfl (Own.CompOk.of (by rfl)) (Pu.pi_listK (K := K) (pv 2)) (fun _ _ _ _ _ => ⟨(Own.pg_tupK (K := K) (n := 2) rfl (pgs_cons (pg_name (i := 0) (show (["ahead", "behind", "holder", "members"] : List Str).Nodup from by decide +kernel) rfl (by first | exact Or.inl rfl | exact Or.inr rfl)) (pgs_cons (pg_name (i := 1) (show (["ahead", "behind", "holder", "members"] : List Str).Nodup from by decide +kernel) rfl (by first | exact Or.inl rfl | exact Or.inr rfl)) pgs_nil))), Own.pifs_nil, (pe_and (pe_cmpR (Pu.op_eqU (K := K) (show _ < cLine from hr.units0)) (pv 0) (pv 2) (nomark _)) (pe_one (pe_cmpR (Pu.op_inU (K := K) (show _ < cLine from hu_of hr)) (pv 1) (pv 3) (by with_unfolding_all rfl))))⟩)) pa_nil))))), Pu.fn_use (n := 3) h
      (ss_ret (se_notV (se_anyL (sa_cons (se_comp (si_listC (se_var 2)) (sg_tup (sgj_cons (sg_name 0) (sgj_cons (sg_name 1) sgj_nil))) st_yes (se_andV (se_eqU (se_var 0) (se_var 2)) (se_in (se_var 1) (se_var 3)))) sa_nil)))) (by decide) (fun ds R X h => ?_)⟩
    obtain ⟨ms, h, ws, rfl, hz, hR⟩ := h
    refine ⟨rfl, ?_⟩
    rw [start_tD]
    refine comp_of (xs := ws) (emb := prD) (fun q => some (.bl (decide (q.1 = h) && decide (q.2 ∈ ms)))) (by omega) (fun q hq => ?_) ?_
    · refine ⟨rfl, ?_⟩
      show if true = true then (if decide (q.1 = h) = true then _ else _) else (some (D.bl (decide (q.1 = h) && decide (q.2 ∈ ms))) = none)
      refine iteT (ite2 (fun g => ⟨_, .ti _ _, ?_⟩) (fun g => ?_))
      · refine ⟨_, rfl, ?_⟩
        rw [g, Bool.true_and]
        rfl
      · refine ⟨_, rfl, ?_⟩
        rw [Bool.eq_false_iff.mpr g, Bool.false_and]
    · rw [mapD]
      refine ⟨ws.map fun q => decide (q.1 = h) && decide (q.2 ∈ ms), by rw [List.map_map]; rfl, ?_⟩
      rw [List.any_map]
      exact hR
end
end T


namespace T
open PySem PySem.Spec PyProof.Rows L2 Own M Pu
section
variable {P : Program} {w : World} {K : PySem.W.Frag} {mg : Str → Option Value} {base : Heap}
theorem ok_may_lie_first (G : Glob K mg) (DD : Def K mg "may_lie_first" s_may_lie_first ["members", "holder", "wishes"])
    : Callee P w K mg base CX0 1 "may_lie_first" ["members", "holder", "wishes"] (Pu.spOf mg pc_may_lie_first K) := by
  refine DD.ok (k := 0) sc_may_lie_first (fun vs H Q E h => spOf_len h (fun ds R X h => ?_)) (fun f cdv A outer s H vs Q E hr h => ?_)
  · obtain ⟨ms, h, ws, rfl, hz, hR⟩ := h
    rfl
  · refine ⟨_, (pss_one (ps_ret (pe_not (pe_callB (Own.call_anyL (K := K) rfl) (by rfl) G.any boot_any (pa_cons (Own.pe_comp (N' := ["ahead", "behind", "holder", "members"]) (φ := [none, none, some 1, some 0]) rfl (Own.CompOk.of (by rfl)) (Pu.pi_listK (K := K) (pv 2)) (fun _ _ _ _ _ => ⟨(Own.pg_tupK (K := K) (n := 2) rfl (pgs_cons (pg_name (i := 0) (show (["ahead", "behind", "holder", "members"] : List Str).Nodup from by decide +kernel) rfl (by first | exact Or.inl rfl | exact Or.inr rfl)) (pgs_cons (pg_name (i := 1) (show (["ahead", "behind", "holder", "members"] : List Str).Nodup from by decide +kernel) rfl (by first | exact Or.inl rfl | exact Or.inr rfl)) pgs_nil))), Own.pifs_nil, (pe_and (pe_cmpR (Pu.op_eqU (K := K) (show _ < cLine from hr.units0)) (pv 1) (pv 2) (nomark _)) (pe_one (pe_cmpR (Pu.op_inU (K := K) (show _ < cLine from hu_of hr)) (pv 0) (pv 3) (by with_unfolding_all rfl))))⟩)) pa_nil))))), Pu.fn_use (n := 3) h
      (ss_ret (se_notV (se_anyL (sa_cons (se_comp (si_listC (se_var 2)) (sg_tup (sgj_cons (sg_name 0) (sgj_cons (sg_name 1) sgj_nil))) st_yes (se_andV (se_eqU (se_var 1) (se_var 2)) (se_in (se_var 0) (se_var 3)))) sa_nil)))) (by decide) (fun ds R X h => ?_)⟩
    obtain ⟨ms, h, ws, rfl, hz, hR⟩ := h
    refine ⟨rfl, ?_⟩
    rw [start_tD]
    refine comp_of (xs := ws) (emb := prD) (fun q => some (.bl (decide (q.2 = h) && decide (q.1 ∈ ms)))) (by omega) (fun q hq => ?_) ?_
    · refine ⟨rfl, ?_⟩
      show if true = true then (if decide (q.2 = h) = true then _ else _) else (some (D.bl (decide (q.2 = h) && decide (q.1 ∈ ms))) = none)
      refine iteT (ite2 (fun g => ⟨_, .ti _ _, ?_⟩) (fun g => ?_))
      · refine ⟨_, rfl, ?_⟩
        rw [g, Bool.true_and]
        rfl
      · refine ⟨_, rfl, ?_⟩
        rw [Bool.eq_false_iff.mpr g, Bool.false_and]
    · rw [mapD]
      refine ⟨ws.map fun q => decide (q.2 = h) && decide (q.1 ∈ ms), by rw [List.map_map]; rfl, ?_⟩
      rw [List.any_map]
      exact hR
end
end T


namespace T
open PySem PySem.Spec PyProof.Rows L2 Own M
section
variable {P : Program} {w : World} {K : PySem.W.Frag} {mg : Str → Option Value} {base : Heap}
theorem ok_law_at (G : Glob K mg) (D : Def K mg "_law_at" s_law_at ["_law_script", "_law_k"])
    : Callee P w K mg base CX0 1 "_law_at" ["_law_script", "_law_k"] (sp_law_at K) := by
  refine D.ok (k := 0) sc_law_at (fun vs H Q E h => ?_) (fun f cdv A outer s H vs Q E hr h => ?_)
  · obtain ⟨a, ns, k, rfl, hS, hk, q⟩ := h
    rfl
  · obtain ⟨a, ns, k, rfl, hS, hk, q⟩ := h
    refine ⟨_, (pss_cons (ps_if (pt_cmpR op_lt (pv 1) (pe_callB call_len (by rfl) G.len PySem.boot_len (pa_cons (pv 0) pa_nil)) (nomark _))
      (pss_one (ps_ret (pe_ix Own.ix_lt (pv 0) (pv 1) (fun _ _ => rfl))))
      pss_nil)
      (pss_one (ps_ret pe_int))), ?_⟩
    refine ⟨_, rfl, _, rfl, _, _, rfl, .inl ⟨_, hS, rfl⟩, _, _, rfl, rfl, _, rfl, ?_⟩
    refine ite2 (fun h => ?_) (fun h => ?_)
    · have h' : k < ((ns.map V.int).length : Int) := of_decide_eq_true h
      rw [List.length_map] at h'
      have hn : k.toNat < ns.length := by omega
      refine ⟨_, rfl, _, rfl, .inl ⟨_, _, _, .int (ns.getD k.toNat 0), rfl, rfl, hS, atI_pos hk ?_, q⟩⟩
      rw [List.getElem?_map, List.getD_eq_getElem?_getD, List.getElem?_eq_getElem hn]
      rfl
    · have h' : ¬ k < ((ns.map V.int).length : Int) := fun z => h (decide_eq_true z)
      rw [List.length_map] at h'
      have e : ns.getD k.toNat 0 = 0 := by
        rw [List.getD_eq_getElem?_getD, List.getElem?_eq_none_iff.mpr (by omega)]
        rfl
      rw [e] at q
      exact q
end
end T


namespace T
open PySem PySem.Spec PyProof.Rows L2 Own M
section
variable {P : Program} {w : World} {K : PySem.W.Frag} {mg : Str → Option Value} {base : Heap}
theorem ok_law_whole (G : Glob K mg) (D : Def K mg "_law_whole" s_law_whole ["_law_found"])
    : Callee P w K mg base CX0 1 "_law_whole" ["_law_found"] (sp_law_whole K) := by
  refine D.ok (k := 0) sc_law_whole (fun vs H Q E h => ?_) (fun f cdv A outer s H vs Q E hr h => ?_)
  · obtain ⟨i, rfl, q⟩ := h
    rfl
  · obtain ⟨i, rfl, q⟩ := h
    refine ⟨_, (pss_one (ps_ret (pe_and (pe_callB Own.call_isi (by rfl) G.isinstance boot_isinstance (pa_cons (pv 0) (pa_cons (pe_bltn (v := .ty "int") rfl G.int boot_int rfl) pa_nil))) (pe_one (pe_not (pe_callB Own.call_isi (by rfl) G.isinstance boot_isinstance (pa_cons (pv 0) (pa_cons (pe_bltn (v := .ty "bool") rfl G.bool boot_bool rfl) pa_nil)))))))), ?_⟩
    refine ⟨_, rfl, _, _, _, _, rfl, .int _, kit_same _ _, _, rfl, iteT ?_⟩
    exact ⟨_, rfl, _, _, _, _, rfl, .int _, kit_int_bool _, _, rfl, q⟩
end
end T


namespace T
open PySem PySem.Spec PyProof.Rows L2 Own M
section
variable {P : Program} {w : World} {K : PySem.W.Frag} {mg : Str → Option Value} {base : Heap}
theorem ok_law_mix (G : Glob K mg) (D : Def K mg "_law_mix" s_law_mix ["_law_cell", "_law_place"])
    : Callee P w K mg base CX0 1 "_law_mix" ["_law_cell", "_law_place"] (sp_law_mix K) := by
  refine D.ok (k := 0) sc_law_mix (fun vs H Q E h => ?_) (fun f cdv A outer s H vs Q E hr h => ?_)
  · obtain ⟨c, p, rfl, q⟩ := h
    rfl
  · obtain ⟨c, p, rfl, q⟩ := h
    refine ⟨_, (pss_cons (ps_set (i := 2) sc_law_mix.nd rfl (by first | exact Or.inl rfl | exact Or.inr rfl) (pe_op op_mod (pe_op op_mul (pe_op op_add (pe_op op_add (pe_op op_mod (pv 0) pe_int) (pe_op op_mul pe_int (pv 1))) pe_int) pe_int) pe_int))
      (pss_one (ps_ret (pe_op op_mod (pe_op op_mul (pe_op op_add (pe_op op_add (pv 2) (pe_op op_mul pe_int (pv 1))) pe_int) pe_int) pe_int)))), ?_⟩
    refine ⟨_, rfl, _, _, rfl, rfl, (by show (0 : Int) < 2147483647; decide), _, rfl, _, _, rfl, rfl, .inl ⟨by decide, by decide⟩, _, _, rfl, rfl, _, _, rfl, rfl, _, _, rfl, rfl, .inr ⟨by decide, by decide⟩, _, _, rfl, rfl, (by show (0 : Int) < 2147483647; decide), ?_⟩
    refine ⟨_, rfl, _, rfl, _, _, rfl, rfl, .inl ⟨by decide, by decide⟩, _, _, rfl, rfl, _, _, rfl, rfl, _, _, rfl, rfl, .inr ⟨by decide, by decide⟩, _, _, rfl, rfl, (by show (0 : Int) < 2147483647; decide), ?_⟩
    exact q
end
end T


namespace T
open PySem PySem.Spec PyProof.Rows L2 Own M
section
variable {P : Program} {w : World} {K : PySem.W.Frag} {mg : Str → Option Value} {base : Heap}
theorem ok_law_menu (G : Glob K mg) (D : Def K mg "_law_menu" s_law_menu ["_law_cell"])
    : Callee P w K mg base CX0 1 "_law_menu" ["_law_cell"] (sp_law_menu K) := by
  refine D.ok (k := 0) sc_law_menu (fun vs H Q E h => ?_) (fun f cdv A outer s H vs Q E hr h => ?_)
  · obtain ⟨c, rfl, q⟩ := h
    rfl
  · obtain ⟨c, rfl, q⟩ := h
    refine ⟨_, (pss_cons (ps_set (i := 1) sc_law_menu.nd rfl (by first | exact Or.inl rfl | exact Or.inr rfl) (pe_ix Own.ix_lt (pe_lst (pa_cons pe_int (pa_cons pe_int (pa_cons pe_int (pa_cons pe_int (pa_cons pe_int pa_nil)))))) (pe_op op_mod (pe_op op_fdiv (pv 0) pe_int) pe_int) (fun _ _ => rfl)))
      (pss_cons (ps_set (i := 2) sc_law_menu.nd rfl (by first | exact Or.inl rfl | exact Or.inr rfl) (pe_ix Own.ix_lt (pe_lst (pa_cons pe_int (pa_cons pe_int (pa_cons pe_int (pa_cons pe_int (pa_cons pe_int pa_nil)))))) (pe_op op_mod (pe_op op_fdiv (pv 0) pe_int) pe_int) (fun _ _ => rfl)))
      (pss_one (ps_ret (pe_lst (pa_cons (pe_op op_add pe_int (pe_op op_mod (pv 0) pe_int)) (pa_cons (pe_ix Own.ix_lt (pe_lst (pa_cons pe_int (pa_cons pe_int (pa_cons pe_int (pa_cons pe_int pa_nil))))) (pe_op op_mod (pe_op op_fdiv (pv 0) pe_int) pe_int) (fun _ _ => rfl)) (pa_cons (pe_op op_mod (pe_op op_fdiv (pv 0) pe_int) pe_int) (pa_cons (pv 1) (pa_cons (pv 2) pa_nil)))))))))), ?_⟩
    have h1 : 0 ≤ c / 10 % 4 ∧ c / 10 % 4 < 4 := by omega
    have h2 : 0 ≤ c / 400 % 5 ∧ c / 400 % 5 < 5 := by omega
    refine ⟨by decide, fun l1 n1 => ⟨_, rfl, _, _, rfl, rfl, ⟨by decide, by decide⟩, _, _, rfl, rfl, (by show (0 : Int) < 5; decide), .inl ⟨_, _, _, _, rfl, rfl, SqL.of upd_same, getD_of (xs := [1000, 3, 1, 2, 3]) h2.1 h2.2, ?_⟩⟩⟩
    refine ⟨by decide, fun l2 n2 => ⟨_, rfl, _, _, rfl, rfl, ⟨by decide, by decide⟩, _, _, rfl, rfl, (by show (0 : Int) < 5; decide), .inl ⟨_, _, _, _, rfl, rfl, SqL.of upd_same, getD_of (xs := [1, 1, 1, 1, 998]) h2.1 h2.2, ?_⟩⟩⟩
    refine ⟨_, rfl, _, _, rfl, rfl, (by show (0 : Int) < 10; decide), _, _, rfl, rfl, by decide, fun l3 n3 => ⟨_, rfl, _, _, rfl, rfl, ⟨by decide, by decide⟩, _, _, rfl, rfl, (by show (0 : Int) < 4; decide), .inl ⟨_, _, _, _, rfl, rfl, SqL.of upd_same, getD_of (xs := [1, 3, 7, 9]) h1.1 h1.2, ?_⟩⟩⟩
    refine ⟨_, rfl, _, _, rfl, rfl, ⟨by decide, by decide⟩, _, _, rfl, rfl, (by show (0 : Int) < 10; decide), _, rfl, _, rfl, (by show 5 ≤ sizeLine; decide), fun l4 n4 => ?_⟩
    have S1 : Same H (upd H l1 (.lst ([1000, 3, 1, 2, 3].map V.int))) := same_upd n1
    have S2 := Own.Same.new (o := .lst ([1, 1, 1, 1, 998].map V.int)) S1 n2
    have S3 := Own.Same.new (o := .lst ([1, 3, 7, 9].map V.int)) S2 n3
    have S4 := Own.Same.new (o := .lst ((menuM c).map V.int)) S3 n4
    exact q l4 _ (S3.free n4) S4 upd_same (menu_ok c)
end
end T


namespace T
open PySem PySem.Spec PyProof.Rows L2 Own M
section
variable {P : Program} {w : World} {K : PySem.W.Frag} {mg : Str → Option Value} {base : Heap}
theorem ok_law_holder (G : Glob K mg) (D : Def K mg "_law_holder" s_law_holder ["_law_menu_here", "_law_k"])
    : Callee P w K mg base CX0 1 "_law_holder" ["_law_menu_here", "_law_k"] (sp_law_holder K) := by
  refine D.ok (k := 0) sc_law_holder (fun vs H Q E h => ?_) (fun f cdv A outer s H vs Q E hr h => ?_)
  · obtain ⟨l, m, k, rfl, hS, hM, q⟩ := h
    rfl
  · obtain ⟨l, m, k, rfl, hS, hM, q⟩ := h
    refine ⟨_, (pss_one (ps_ret (pe_op op_add pe_int (pe_op op_mod (pe_op op_add (pe_op op_mul (pv 1) (pe_ix Own.ix_lt (pv 0) pe_int (fun _ _ => rfl))) (pe_ix Own.ix_lt (pv 0) pe_int (fun _ _ => rfl))) pe_int)))), ?_⟩
    obtain ⟨a, b, c, d, e, rfl, ha, hb, hc, hd, he⟩ := hM
    refine ⟨_, rfl, _, rfl, .inl ⟨_, _, _, _, rfl, rfl, hS, rfl, ?_⟩⟩
    refine ⟨_, _, rfl, rfl, .inr ⟨by omega, by omega⟩, _, rfl, .inl ⟨_, _, _, _, rfl, rfl, hS, rfl, ?_⟩⟩
    exact ⟨_, _, rfl, rfl, _, _, rfl, rfl, (by show (0 : Int) < 10; decide), _, _, rfl, rfl, q⟩
end
end T


namespace T
open PySem PySem.Spec PyProof.Rows L2 Own M
section
variable {P : Program} {w : World} {K : PySem.W.Frag} {mg : Str → Option Value} {base : Heap}
theorem ok_law_present (G : Glob K mg) (D : Def K mg "_law_present" s_law_present ["_law_strips_here"])
    : Callee P w K mg base CX0 1 "_law_present" ["_law_strips_here"] (sp_law_present K) := by
  refine D.ok (k := 0) sc_law_present (fun vs H Q E h => ?_) (fun f cdv A outer s H vs Q E hr h => ?_)
  · obtain ⟨l, ps, rfl, ⟨vs, hl, hv⟩, hz, q⟩ := h
    rfl
  · obtain ⟨l, ps, rfl, ⟨vs, hl, hv⟩, hz, q⟩ := h
    refine ⟨_, (pss_cons (ps_set (i := 1) sc_law_present.nd rfl (by first | exact Or.inl rfl | exact Or.inr rfl) (Own.pe_comp (N' := ["_law_strip"]) (φ := [none]) rfl (Own.CompOk.of (by rfl)) (pi_list (pv 0)) (fun _ _ _ _ _ => ⟨(pg_name (i := 0) (show (["_law_strip"] : List Str).Nodup from by decide +kernel) rfl (by first | exact Or.inl rfl | exact Or.inr rfl)), Own.pifs_nil, (pe_ix (Own.ix_ltK (K := K)) (pv 0) pe_int (fun _ _ => rfl))⟩)))
      (pss_one (ps_ret (Own.pe_comp (N' := ["_law_holder_here", "_law_owners"]) (φ := [none, some 1]) rfl (Own.CompOk.of (by rfl)) (pi_range2 rfl G.range (pa_cons pe_int (pa_cons pe_int pa_nil))) (fun _ _ _ _ _ => ⟨(pg_name (i := 0) (show (["_law_holder_here", "_law_owners"] : List Str).Nodup from by decide +kernel) rfl (by first | exact Or.inl rfl | exact Or.inr rfl)), (Own.pifs_one (pt_cmpR (Own.op_inK (K := K)) (pv 0) (pv 1) (by with_unfolding_all rfl))), (pv 0)⟩))))), ?_⟩
    have e1 := hv.1
    refine ⟨_, rfl, l, rfl, ⟨_, SqL.of hl⟩, fun D nD => comp_list (ds := ps) (fun d => some (V.int d.1)) (SqL.of hl) e1 nD (Nat.le_trans hz (by decide)) (fun i x d H2 hx hd S k hk => ?_) ?_⟩
    · obtain ⟨d', hd', a, rfl, ha⟩ := hv.get hx
      rw [hd] at hd'
      cases hd'
      exact ⟨.skip .refl, _, rfl, .inr ⟨_, _, _, _, rfl, rfl, SqT.of (S _ _ ha), rfl, hk⟩⟩
    · have em : ps.filterMap (fun d => some (V.int d.1)) = (ps.map (·.1)).map V.int := by
        rw [List.filterMap_eq_map', List.map_map]
        rfl
      rw [em]
      have S1 : Same H (upd H D (.lst ((ps.map (·.1)).map V.int))) := same_upd nD
      have hD : (upd H D (.lst ((ps.map (·.1)).map V.int))) D = some (.lst ((ps.map (·.1)).map V.int)) := upd_same
      generalize upd H D (.lst ((ps.map (·.1)).map V.int)) = H1 at S1 hD ⊢
      refine ⟨1, 11, rfl, by decide, fun D2 nD2 => comp_range (fun i => if decide ((1 : Int) + (i : Int) ∈ ps.map (·.1)) = true then some (V.int (1 + (i : Int))) else none) nD2 (by decide) (fun i H2 hi S2 k hk => ?_) ?_⟩
      · refine ⟨.skip (.keep .refl), _, rfl, _, rfl, D, _, rfl, .inl (SqL.of (S2 _ _ hD)), rfl, flat_ints _, _, rfl, ?_⟩
        show if inV (V.int (1 + (i : Int))) ((ps.map (·.1)).map V.int) = true then _ else _
        rw [in_ints]
        by_cases h : (1 : Int) + (i : Int) ∈ ps.map (·.1)
        · rw [decide_eq_true h] at hk ⊢
          exact iteT ⟨_, rfl, hk⟩
        · rw [decide_eq_false h] at hk ⊢
          exact iteF hk
      · have e10 : ((11 : Int) - 1).toNat = 10 := rfl
        rw [e10, holdM_range]
        exact q D2 _ (S1.free nD2) (Own.Same.new S1 nD2) upd_same
end
end T


namespace T
open PySem PySem.Spec PyProof.Rows L2 Own M
section
variable {P : Program} {w : World} {K : PySem.W.Frag} {mg : Str → Option Value} {base : Heap}
theorem ok_law_price (G : Glob K mg) (D : Def K mg "_law_price" s_law_price ["_law_strips_here", "_law_order"])
    : Callee P w K mg base CX0 1 "_law_price" ["_law_strips_here", "_law_order"] (sp_law_price K) := by
  refine D.ok (k := 0) sc_law_price (fun vs H Q E h => ?_) (fun f cdv A outer s H vs Q E hr h => ?_)
  · obtain ⟨l, o, ps, os, rfl, ⟨vs, hl, hv⟩, hF, hz, ho, hin, q⟩ := h
    rfl
  · obtain ⟨l, o, ps, os, rfl, ⟨vs, hl, hv⟩, hF, hz, ho, hin, q⟩ := h
    refine ⟨_, (pss_cons (Own.ps_setComp (N' := ["_law_strip", "_law_order"]) (φ := [none, some 1]) (i := 2) sc_law_price.nd rfl rfl rfl (Own.CompOk.of (by rfl)) (pi_list (pv 0)) (fun _ _ _ _ _ => ⟨(pg_name (i := 0) (show (["_law_strip", "_law_order"] : List Str).Nodup from by decide +kernel) rfl (by first | exact Or.inl rfl | exact Or.inr rfl)), Own.pifs_nil, (Own.pe_bmK (K := K) PySem.F.plainAttrs_list PySem.F.slot_list_index PySem.F.type_list_index (Own.mt_indexK (K := K)) (pv 1) (pa_cons (pe_ix (Own.ix_ltK (K := K)) (pv 0) pe_int (fun _ _ => rfl)) pa_nil))⟩))
      (pss_cons (ps_set (i := 3) sc_law_price.nd rfl (by first | exact Or.inl rfl | exact Or.inr rfl) pe_int)
      (pss_cons (ps_for PassesOwn.never rfl (pi_range1 rfl G.range (pa_cons (pe_callB call_len (by rfl) G.len PySem.boot_len (pa_cons (pv 0) pa_nil)) pa_nil)) (pg_name (i := 4) sc_law_price.nd rfl (by first | exact Or.inl rfl | exact Or.inr rfl))
      (pss_one (ps_for PassesOwn.never rfl (pi_range1 rfl G.range (pa_cons (pv 4) pa_nil)) (pg_name (i := 5) sc_law_price.nd rfl (by first | exact Or.inl rfl | exact Or.inr rfl))
      (pss_one (ps_if (pt_cmpR op_gt (pe_ix Own.ix_lt (pv 2) (pv 5) (fun _ _ => rfl)) (pe_ix Own.ix_lt (pv 2) (pv 4) (fun _ _ => rfl)) (nomark _))
      (pss_one (ps_set (i := 3) sc_law_price.nd rfl (by first | exact Or.inl rfl | exact Or.inr rfl) (pe_op op_add (pv 3) (pe_op op_mul (pe_ix Own.ix_lt (pe_ix Own.ix_lt (pv 0) (pv 5) (fun _ _ => rfl)) pe_int (fun _ _ => rfl)) (pe_ix Own.ix_lt (pe_ix Own.ix_lt (pv 0) (pv 4) (fun _ _ => rfl)) pe_int (fun _ _ => rfl))))))
      pss_nil)))))
      (pss_one (ps_ret (pv 3)))))), ?_⟩
    have e1 := hv.1
    refine ⟨_, rfl, l, rfl, ⟨_, SqL.of hl⟩, fun D nD => comp_list (ds := ps) (fun d => some (V.int (os.idxOf d.1 : Nat))) (SqL.of hl) e1 nD (Nat.le_trans hz (by decide)) (fun i x d H2 hx hd S k hk => ?_) ?_⟩
    · obtain ⟨d', hd', a, rfl, ha⟩ := hv.get hx
      rw [hd] at hd'
      cases hd'
      exact ⟨.skip (.keep .refl), _, rfl, .inl ⟨rfl, _, S.seq ho⟩, _, rfl, .inr ⟨_, _, _, _, rfl, rfl, SqT.of (S _ _ ha), rfl, o, os, _, rfl, rfl, S.seq ho, hin d (List.mem_of_getElem? hd), hk⟩⟩
    · have em : ps.filterMap (fun d => some (V.int (os.idxOf d.1 : Nat))) = (ps.map fun d => (os.idxOf d.1 : Int)).map V.int := by
        rw [List.filterMap_eq_map', List.map_map]
        rfl
      rw [em]
      generalize er : ps.map (fun d => (os.idxOf d.1 : Int)) = rs
      have lr : rs.length = ps.length := by rw [← er, List.length_map]
      have gr : ∀ (j : Nat) (hj : j < ps.length), atI (rs.map V.int) (0 + (j : Int)) = some (.int (os.idxOf ps[j].1 : Nat)) := fun j hj => by
        have ez : (0 : Int) + (j : Int) = (j : Int) := by omega
        rw [ez, ← er]
        exact atI_map (atI_nat (by rw [List.getElem?_map, List.getElem?_eq_getElem hj]; rfl))
      have S1 := same_upd (o := .lst (rs.map V.int)) nD
      have hD : (upd H D (.lst (rs.map V.int))) D = some (.lst (rs.map V.int)) := upd_same
      have hl1 := S1 _ _ hl
      have hv1 := hv.mono PairR.mono S1
      generalize upd H D (.lst (rs.map V.int)) = H1 at S1 hD hl1 hv1 ⊢
      have hP := SqL.of (K := K) hl1
      have hDs := SqL.of (K := K) hD
      refine ⟨_, rfl, _, _, rfl, .inl ⟨_, hP, rfl⟩, _, rfl, by omega, by omega, for_range (fun k σ H' => H1 = H' ∧ ∃ u v : Option V, σ = [some (.ref l), some (.ref o), some (.ref D), some (.int (priM ps os k)), u, v]) ⟨rfl, none, none, rfl⟩ ?_ ?_⟩
      · rintro k σ H' hk ⟨rfl, u, v, rfl⟩
        have hk' : k < ps.length := by omega
        have ek : (0 : Int) + (k : Int) = (k : Int) := by omega
        obtain ⟨vk, evk, b, rfl, hb⟩ := hv1.2 k ps[k] (by simp [hk'])
        have avk : atI vs (0 + (k : Int)) = some (.ref b) := by rw [ek]; exact atI_nat evk
        have hgk : ps.getD k (0, 0) = ps[k] := by rw [List.getD_eq_getElem?_getD, List.getElem?_eq_getElem hk']; rfl
        have hwk := hF ps[k] (List.getElem_mem hk')
        refine ⟨_, rfl, _, rfl, by omega, by omega, for_range (fun j σ H' => H1 = H' ∧ ∃ v : Option V, σ = [some (.ref l), some (.ref o), some (.ref D), some (.int (priM ps os k + rsM ps os ps[k].1 j * ps[k].2)), some (.int (0 + (k : Int))), v]) ⟨rfl, v, by simp [rsM]⟩ ?_ ?_⟩
        · rintro j σ H' hj ⟨rfl, v, rfl⟩
          have hj' : j < ps.length := by omega
          have ej : (0 : Int) + (j : Int) = (j : Int) := by omega
          obtain ⟨vj, evj, d, rfl, hd'⟩ := hv1.2 j ps[j] (by simp [hj'])
          have avj : atI vs (0 + (j : Int)) = some (.ref d) := by rw [ej]; exact atI_nat evj
          have hgj : ps.getD j (0, 0) = ps[j] := by rw [List.getD_eq_getElem?_getD, List.getElem?_eq_getElem hj']; rfl
          have hwj := hF ps[j] (List.getElem_mem hj')
          refine ⟨_, rfl, _, rfl, .inl ⟨_, _, _, _, rfl, rfl, hDs, gr j hj', _, rfl, _, rfl, .inl ⟨_, _, _, _, rfl, rfl, hDs, gr k hk', _, _, rfl, rfl, _, rfl, ?_⟩⟩⟩
          have step : rsM ps os ps[k].1 (j + 1) = rsM ps os ps[k].1 j + (if os.idxOf ps[k].1 < os.idxOf ps[j].1 then ps[j].2 else 0) := by simp only [rsM]; rw [hgj]
          by_cases hlt : os.idxOf ps[k].1 < os.idxOf ps[j].1
          · rw [decide_eq_true (show ((os.idxOf ps[k].1 : Nat) : Int) < ((os.idxOf ps[j].1 : Nat) : Int) by omega)]
            refine iteT ⟨_, rfl, _, rfl, _, rfl, .inl ⟨_, _, _, _, rfl, rfl, hP, avj, .inr ⟨_, _, _, _, rfl, rfl, SqT.of hd', rfl, _, rfl, _, rfl, .inl ⟨_, _, _, _, rfl, rfl, hP, avk, .inr ⟨_, _, _, _, rfl, rfl, SqT.of hb, rfl, _, _, rfl, rfl, .inl ⟨by omega, by omega⟩, _, _, rfl, rfl, rfl, some (.int (0 + (j : Int))), ?_⟩⟩⟩⟩⟩
            rw [step, if_pos hlt, Int.add_mul, ← Int.add_assoc]
            rfl
          · rw [decide_eq_false (show ¬ ((os.idxOf ps[k].1 : Nat) : Int) < ((os.idxOf ps[j].1 : Nat) : Int) by omega)]
            refine iteF ⟨rfl, some (.int (0 + (j : Int))), ?_⟩
            rw [step, if_neg hlt, Int.add_zero]
            rfl
        · rintro σ H' ⟨rfl, v, rfl⟩
          refine ⟨rfl, some (.int (0 + (k : Int))), v, ?_⟩
          have e2 : priM ps os (k + 1) = priM ps os k + rsM ps os ps[k].1 ((0 : Int) + (k : Int)).toNat * ps[k].2 := by
            rw [ek, Int.toNat_natCast]
            simp only [priM]
            rw [hgk]
          rw [e2]
      · rintro σ H' ⟨rfl, u, v, rfl⟩
        have e3 : ((vs.length : Int)).toNat = ps.length := by omega
        rw [e3]
        exact ⟨_, rfl, q H1 S1⟩
end
end T


namespace T
open PySem PySem.Spec PyProof.Rows L2 Own M Pu
section
variable {P : Program} {w : World} {K : PySem.W.Frag} {mg : Str → Option Value} {base : Heap}
theorem ok_law_kept (G : Glob K mg) (DD : Def K mg "_law_kept" s_law_kept ["_law_order", "_law_wishes_here"])
    : Callee P w K mg base CX0 1 "_law_kept" ["_law_order", "_law_wishes_here"] (Pu.spOf mg pc_law_kept K) := by
  refine DD.ok (k := 0) sc_law_kept (fun vs H Q E h => spOf_len h (fun ds R X h => ?_)) (fun f cdv A outer s H vs Q E hr h => ?_)
  · obtain ⟨os, ws, rfl, hR1, hR2⟩ := h
    rfl
  · refine ⟨_, (pss_cons (ps_for PassesOwn.never rfl (Pu.pi_listK (K := K) (pv 1)) (Own.pg_tupK (K := K) (n := 2) rfl (pgs_cons (pg_name (i := 2) sc_law_kept.nd rfl (by first | exact Or.inl rfl | exact Or.inr rfl)) (pgs_cons (pg_name (i := 3) sc_law_kept.nd rfl (by first | exact Or.inl rfl | exact Or.inr rfl)) pgs_nil)))
      (pss_one (ps_if (PW.pt (pw_and (pt_cmpR (Pu.op_inU (K := K) (show _ < cLine from hu_of hr)) (pv 2) (pv 0) (by with_unfolding_all rfl)) (pw_and (pt_cmpR (Pu.op_inU (K := K) (show _ < cLine from hu_of hr)) (pv 3) (pv 0) (by with_unfolding_all rfl)) (pw_and1 (pt_cmpR op_gt (Own.pe_bmK (K := K) PySem.F.plainAttrs_list PySem.F.slot_list_index PySem.F.type_list_index (Own.mt_indexK (K := K)) (pv 0) (pa_cons (pv 2) pa_nil)) (Own.pe_bmK (K := K) PySem.F.plainAttrs_list PySem.F.slot_list_index PySem.F.type_list_index (Own.mt_indexK (K := K)) (pv 0) (pa_cons (pv 3) pa_nil)) (nomark _))))))
      (pss_one (ps_ret pe_bl))
      pss_nil)))
      (pss_one (ps_ret pe_bl))), Pu.fn_use (n := 2) h
      (ss_seq (ss_frz 1 (ss_for [2, 3] (si_list (se_var 1)) (sg_tup (sgj_cons (sg_name 2) (sgj_cons (sg_name 3) sgj_nil)))
        (ss_if (st_and (st_test (se_in (se_var 2) (se_var 0))) (st_and (st_test (se_in (se_var 3) (se_var 0))) (st_test (se_gt (se_index (se_var 0) (sa_cons (se_var 2) sa_nil)) (se_index (se_var 0) (sa_cons (se_var 3) sa_nil)))))) (ss_ret se_bl) ss_next)))
        (ss_ret se_bl)) (by decide) (fun ds R X h => ?_)⟩
    obtain ⟨os, ws, rfl, hR1, hR2⟩ := h
    refine ⟨rfl, ?_⟩
    refine ⟨rfl, for_of (xs := ws) (emb := prD) (fun i γ' => γ' = [some (.bor (.lst (os.map D.int))), some (.bor (.lst (ws.map prD))), none, none] ∧ ∀ q ∈ ws.take i, badM os q = false) ⟨rfl, by simp⟩ ?_ ?_⟩
    · rintro i hi γ' ⟨rfl, hb⟩
      have hq := List.getElem_mem hi
      have next : badM os ws[i] = false → ∀ q ∈ ws.take (i + 1), badM os q = false := fun h q hq => by
        rw [List.take_succ_eq_append_getElem hi, List.mem_append, List.mem_singleton] at hq
        rcases hq with hq | hq
        · exact hb q hq
        · rw [hq]
          exact h
      generalize ws[i] = q at hq next ⊢
      refine ⟨rfl, _, .li _ _, ite2 (fun g1 => ⟨_, .li _ _, ite2 (fun g2 => ?_) (fun g2 => ?_)⟩) (fun g1 => ?_)⟩
      · have g1' : decide (q.1 ∈ os) = true := g1
        have g2' : decide (q.2 ∈ os) = true := g2
        refine ⟨⟨_, rfl⟩, os, rfl, of_decide_eq_true g1', ⟨_, rfl⟩, os, rfl, of_decide_eq_true g2', ?_⟩
        refine ite2 (fun g3 => ?_) (fun g3 => ?_)
        · have g3' := of_decide_eq_true g3
          refine hR2 ⟨q, hq, ?_⟩
          unfold badM
          rw [g1', g2', decide_eq_true (by omega)]
          rfl
        · have g3' : ¬ ((os.idxOf q.2 : Nat) : Int) < ((os.idxOf q.1 : Nat) : Int) := fun z => g3 (decide_eq_true z)
          refine ⟨rfl, next ?_⟩
          unfold badM
          rw [g1', g2', decide_eq_false (by omega)]
          rfl
      · refine iteF ⟨rfl, next ?_⟩
        have g2' : decide (q.2 ∈ os) = false := Bool.eq_false_iff.mpr g2
        unfold badM
        rw [g2', Bool.false_and, Bool.and_false]
      · refine iteF ⟨rfl, next ?_⟩
        have g1' : decide (q.1 ∈ os) = false := Bool.eq_false_iff.mpr g1
        unfold badM
        rw [g1', Bool.false_and]
    · rintro γ' ⟨rfl, hb⟩
      rw [List.take_length] at hb
      exact hR1 hb
end
end T

namespace M
open PySem PySem.Spec PyProof.Rows L2 Own Pu
theorem next_map (hs r : List Int) : (hs.filter fun h => !decide (h ∈ r)).map (fun h => D.lst (r.map D.int ++ [D.int h])) = (nextM hs r).map ilD := by
  unfold nextM ilD
  rw [List.map_map]
  apply List.map_congr_left
  intro h _
  show _ = D.lst ((r ++ [h]).map D.int)
  rw [List.map_append]
  rfl
theorem flat_take {hs : List Int} {rows : List (List Int)} {j : Nat} (h : j < rows.length) : ((rows.take (j + 1)).flatMap (nextM hs)) = (rows.take j).flatMap (nextM hs) ++ nextM hs rows[j] := by
  rw [List.take_succ_eq_append_getElem h, List.flatMap_append]
  simp
end M

namespace T
open PySem PySem.Spec PyProof.Rows L2 Own M Pu
section
variable {P : Program} {w : World} {K : PySem.W.Frag} {mg : Str → Option Value} {base : Heap}
theorem ok_law_orders (G : Glob K mg) (DD : Def K mg "_law_orders" s_law_orders ["_law_holders"])
    : Callee P w K mg base CX0 1 "_law_orders" ["_law_holders"] (Pu.spOf mg pc_law_orders K) := by
  refine DD.ok (k := 0) sc_law_orders (fun vs H Q E h => spOf_len h (fun ds R X h => ?_)) (fun f cdv A outer s H vs Q E hr h => ?_)
  · obtain ⟨hs, rfl, hz, hR⟩ := h
    rfl
  · refine ⟨_, (pss_cons (ps_set (i := 1) sc_law_orders.nd rfl (by first | exact Or.inl rfl | exact Or.inr rfl) (pe_lst (pa_cons (pe_lst pa_nil) pa_nil)))
      (pss_cons (ps_for PassesOwn.never rfl (Pu.pi_listK (K := K) (pv 0)) (pg_name (i := 2) sc_law_orders.nd rfl (by first | exact Or.inl rfl | exact Or.inr rfl))
      (pss_cons (ps_set (i := 3) sc_law_orders.nd rfl (by first | exact Or.inl rfl | exact Or.inr rfl) (pe_lst pa_nil))
      (pss_cons (ps_for PassesOwn.never rfl (Pu.pi_listK (K := K) (pv 1)) (pg_name (i := 4) sc_law_orders.nd rfl (by first | exact Or.inl rfl | exact Or.inr rfl))
      (pss_one (ps_expr (pe_bm PySem.F.plainAttrs_list PySem.F.slot_list_extend PySem.F.type_list_extend mt_extend (pv 3) (pa_cons (Own.pe_comp (N' := ["_law_holder_here", "_law_row_here"]) (φ := [none, some 4]) rfl (Own.CompOk.of (by rfl)) (Pu.pi_listK (K := K) (pv 0)) (fun _ _ _ _ _ => ⟨(pg_name (i := 0) (show (["_law_holder_here", "_law_row_here"] : List Str).Nodup from by decide +kernel) rfl (by first | exact Or.inl rfl | exact Or.inr rfl)), (Own.pifs_one (pt_cmpR (Pu.op_notInU (K := K) (show _ < cLine from hu_of hr)) (pv 0) (pv 1) (by with_unfolding_all rfl))), (pe_op op_cat (pv 1) (pe_lst (pa_cons (pv 0) pa_nil)))⟩)) pa_nil)))))
      (pss_one (ps_set (i := 1) sc_law_orders.nd rfl (by first | exact Or.inl rfl | exact Or.inr rfl) (pv 3))))))
      (pss_one (ps_ret (pv 1))))), Pu.fn_use (n := 1) h
      (ss_seq (ss_asg (se_lst (sa_cons (se_lst sa_nil) sa_nil)) (sg_name 1))
        (ss_seq (ss_frz 1 (ss_frz 0 (ss_for [2, 3, 4] (si_list (se_var 0)) (sg_name 2)
        (ss_seq (ss_asg (se_lst sa_nil) (sg_name 3))
        (ss_seq (ss_frz 1 (ss_for [4] (si_list (se_var 1)) (sg_name 4)
        (ss_extend 3 (se_comp (si_listC (se_var 0)) (sg_name 0) (st_test (se_in (se_var 0) (se_var 1))) (se_cat (se_var 1) (se_lst (sa_cons (se_var 0) sa_nil)))))))
        (ss_frz 3 (ss_asg (se_var 3) (sg_name 1))))))))
        (ss_retV 1))) (by decide) (fun ds R X h => ?_)⟩
    obtain ⟨hs, rfl, hz, hR⟩ := h
    refine ⟨rfl, ?_⟩
    have h5 : ∀ k, k ≤ 5 → (rowsM hs k).length ≤ 3125 := fun k hk => Nat.le_trans (rows_len hz k) (Nat.pow_le_pow_right (n := 5) (by decide) hk)
    refine ⟨by simp, by simp, ?_⟩
    refine ⟨rfl, for_of (xs := hs) (emb := D.int) (fun i γ' => γ' = [some (.bor (.lst (hs.map D.int))), some (.sh (.lst ((rowsM hs i).map ilD))), none, none, none]) rfl ?_ ?_⟩
    · rintro i hi γ' rfl
      have hr := h5 i (by omega)
      refine ⟨by simp, ?_⟩
      refine ⟨rfl, for_of (xs := rowsM hs i) (emb := ilD) (fun j γ' => ∃ t, γ' = [some (.bor (.lst (hs.map D.int))), some (.sh (.lst ((rowsM hs i).map ilD))), t, some (.own ((((rowsM hs i).take j).flatMap (nextM hs)).map ilD)), none]) ⟨_, rfl⟩ ?_ ?_⟩
      · rintro j hj γ' ⟨t, rfl⟩
        have ef := flat_take (hs := hs) hj
        have hfl := flat_len hz ((rowsM hs i).take j)
        have htl : ((rowsM hs i).take j).length ≤ 3125 := by rw [List.length_take]; omega
        have hnl := next_len hs (rowsM hs i)[j]
        have hrl : (rowsM hs i)[j].length ≤ 5 := by
          have := (rows_mem.mp (List.getElem_mem hj)).1
          omega
        generalize (rowsM hs i)[j] = r at ef hnl hrl ⊢
        refine comp_of (xs := hs) (emb := D.int) (fun h => if (!decide (h ∈ r)) = true then some (D.lst (r.map D.int ++ [D.int h])) else none) (by omega) (fun h _ => ?_) ?_
        · refine ⟨_, .li _ _, ite2 (fun g => ⟨by simp, rfl, rfl, ?_, _, rfl, if_pos g⟩) (fun g => if_neg g)⟩
          show (r.map D.int).length + 1 ≤ 100000
          rw [List.length_map]
          omega
        · rw [pickD (fun h => !decide (h ∈ r)), next_map]
          refine ⟨?_, t, ?_⟩
          · rw [List.length_map, List.length_map]
            have : ((rowsM hs i).take j).length * 5 ≤ 3125 * 5 := Nat.mul_le_mul_right _ htl
            omega
          · rw [ef, List.map_append]
            rfl
      · rintro γ' ⟨t, rfl⟩
        rw [List.take_length]
        rfl
    · rintro γ' rfl
      exact hR
end
end T

namespace M
open PySem PySem.Spec PyProof.Rows L2 Own Pu
theorem pick_ints (bs : List Int) : ∀ ls : List Int, ls.filterMap (fun h => if decide (h ∈ bs) = true then some (V.int h) else none) = (ls.filter fun h => decide (h ∈ bs)).map V.int
  | [] => rfl
  | x :: r => by
    by_cases c1 : x ∈ bs
    · rw [List.filterMap_cons_some (b := V.int x) (by rw [decide_eq_true c1]; rfl), List.filter_cons_of_pos (by exact decide_eq_true c1), List.map_cons, pick_ints bs r]
    · rw [List.filterMap_cons_none (by rw [decide_eq_false c1]; rfl), List.filter_cons_of_neg (by rw [decide_eq_false c1]; decide), pick_ints bs r]
end M

namespace T
open PySem PySem.Spec PyProof.Rows L2 Own M
section
variable {P : Program} {w : World} {K : PySem.W.Frag} {mg : Str → Option Value} {base : Heap}
theorem ok_law_no_ring (G : Glob K mg) (D : Def K mg "_law_no_ring" s_law_no_ring ["_law_holders", "_law_wishes_here"])
    : Callee P w K mg base CX0 1 "_law_no_ring" ["_law_holders", "_law_wishes_here"] (sp_law_no_ring K) := by
  refine D.ok (k := 0) sc_law_no_ring (fun vs H Q E h => ?_) (fun f cdv A outer s H vs Q E hr h => ?_)
  · obtain ⟨l, p, hs, ws, rfl, hl, hz, hp, hw, q⟩ := h
    rfl
  · obtain ⟨l, p, hs, ws, rfl, hl, hz, hp, hw, q⟩ := h
    refine ⟨_, (pss_cons (ps_set (i := 2) sc_law_no_ring.nd rfl (by first | exact Or.inl rfl | exact Or.inr rfl) (pe_callTy call_list_of (by rfl) G.list boot_list (pa_cons (pv 0) pa_nil)))
      (pss_cons (ps_for PassesOwn.never rfl (pi_list (pv 0)) (pg_name (i := 3) sc_law_no_ring.nd rfl (by first | exact Or.inl rfl | exact Or.inr rfl))
      (pss_cons (Own.ps_setComp (N' := ["_law_pair", "_law_left"]) (φ := [none, some 2]) (i := 4) sc_law_no_ring.nd rfl rfl rfl (Own.CompOk.of (by rfl)) (pi_list (pv 1)) (fun _ _ _ _ _ => ⟨(pg_name (i := 0) (show (["_law_pair", "_law_left"] : List Str).Nodup from by decide +kernel) rfl (by first | exact Or.inl rfl | exact Or.inr rfl)), (Own.pifs_one (PW.pt (pw_and (pt_cmpR (Own.op_inK (K := K)) (pe_ix (Own.ix_ltK (K := K)) (pv 0) pe_int (fun _ _ => rfl)) (pv 1) (by with_unfolding_all rfl)) (pw_and1 (pt_cmpR (Own.op_inK (K := K)) (pe_ix (Own.ix_ltK (K := K)) (pv 0) pe_int (fun _ _ => rfl)) (pv 1) (by with_unfolding_all rfl)))))), (pv 0)⟩))
      (pss_cons (ps_set (i := 5) sc_law_no_ring.nd rfl (by first | exact Or.inl rfl | exact Or.inr rfl) (Own.pe_comp (N' := ["_law_pair"]) (φ := [none]) rfl (Own.CompOk.of (by rfl)) (pi_list (pv 4)) (fun _ _ _ _ _ => ⟨(pg_name (i := 0) (show (["_law_pair"] : List Str).Nodup from by decide +kernel) rfl (by first | exact Or.inl rfl | exact Or.inr rfl)), Own.pifs_nil, (pe_ix (Own.ix_ltK (K := K)) (pv 0) pe_int (fun _ _ => rfl))⟩)))
      (pss_one (ps_set (i := 2) sc_law_no_ring.nd rfl (by first | exact Or.inl rfl | exact Or.inr rfl) (Own.pe_comp (N' := ["_law_holder_here", "_law_behind"]) (φ := [none, some 5]) rfl (Own.CompOk.of (by rfl)) (pi_list (pv 2)) (fun _ _ _ _ _ => ⟨(pg_name (i := 0) (show (["_law_holder_here", "_law_behind"] : List Str).Nodup from by decide +kernel) rfl (by first | exact Or.inl rfl | exact Or.inr rfl)), (Own.pifs_one (pt_cmpR (Own.op_inK (K := K)) (pv 0) (pv 1) (by with_unfolding_all rfl))), (pv 0)⟩)))))))
      (pss_one (ps_ret (pe_cmpR (Own.op_eqL hr.units0) (pv 2) (pe_lst pa_nil) (nomark _)))))), ?_⟩
    refine ⟨_, rfl, _, _, rfl, .inl hl, fun L nL => ?_⟩
    have S1 := same_upd (o := .lst (hs.map V.int)) nL
    have hL : (upd H L (.lst (hs.map V.int))) L = some (.lst (hs.map V.int)) := upd_same
    generalize upd H L (.lst (hs.map V.int)) = H1 at S1 hL ⊢
    refine ⟨_, rfl, l, rfl, ⟨_, S1.seq hl⟩, for_list (xs := hs.map V.int) (fun i σ H' => Same H H' ∧ ∃ (c : Addr) (y1 y2 y3 : Option V), σ = [some (.ref l), some (.ref p), some (.ref c), y1, y2, y3] ∧ H' c = some (.lst ((peelsM ws hs i).map V.int)) ∧ (peelsM ws hs i).length ≤ 50) ⟨S1, L, none, none, none, rfl, hL, hz⟩ (fun i σ H' _ h => h.1.seq hl) ?_ ?_⟩
    · rintro i x σ H2 hi ⟨S2, c, y1, y2, y3, rfl, hc, hcz⟩
      generalize els : peelsM ws hs i = ls at hc hcz
      have hp2 := hp.mono PairR.mono S2
      obtain ⟨us, hp1, hu⟩ := id hp2
      refine ⟨_, rfl, p, rfl, ⟨_, SqL.of hp1⟩, fun D nD => comp_list (ds := us.zip ws) (pick fun q => decide (q.1 ∈ ls) && decide (q.2 ∈ ls)) (SqL.of hp1) (by rw [hu.zip_len, hu.1]) nD (Nat.le_trans (show (us.zip ws).length ≤ 50 by rw [hu.zip_len]; exact hw) (by decide)) (fun j x d H3 hx hd S k hk => ?_) ?_⟩
      · obtain ⟨e0, b, eb, hb⟩ := hu.zip_get hx hd
        subst eb
        have hb3 := S _ _ hb
        have hc3 := S _ _ hc
        refine ⟨.skip (.keep .refl), _, rfl, .inr ⟨_, _, _, _, rfl, rfl, SqT.of hb3, rfl, _, rfl, c, _, rfl, .inl (SqL.of hc3), rfl, flat_ints _, _, rfl, ?_⟩⟩
        show if inV (V.int d.2.1) (ls.map V.int) = true then _ else _
        rw [in_ints]
        by_cases c1 : d.2.1 ∈ ls
        · rw [decide_eq_true c1]
          refine iteT ⟨_, rfl, .inr ⟨_, _, _, _, rfl, rfl, SqT.of hb3, rfl, _, rfl, c, _, rfl, .inl (SqL.of hc3), rfl, flat_ints _, _, rfl, ?_⟩⟩
          show if inV (V.int d.2.2) (ls.map V.int) = true then _ else _
          rw [in_ints]
          by_cases c2 : d.2.2 ∈ ls
          · rw [decide_eq_true c2]
            refine iteT ⟨_, rfl, ?_⟩
            have e2 : pick (fun q : Int × Int => decide (q.1 ∈ ls) && decide (q.2 ∈ ls)) d = some (.ref b) := (if_pos (show (decide (d.2.1 ∈ ls) && decide (d.2.2 ∈ ls)) = true by rw [decide_eq_true c1, decide_eq_true c2]; rfl)).trans (congrArg some e0)
            rw [e2] at hk
            exact hk
          · rw [decide_eq_false c2]
            have e2 : pick (fun q : Int × Int => decide (q.1 ∈ ls) && decide (q.2 ∈ ls)) d = none := if_neg (show ¬ (decide (d.2.1 ∈ ls) && decide (d.2.2 ∈ ls)) = true by rw [decide_eq_false c2, Bool.and_false]; decide)
            rw [e2] at hk
            exact iteF hk
        · rw [decide_eq_false c1]
          have e2 : pick (fun q : Int × Int => decide (q.1 ∈ ls) && decide (q.2 ∈ ls)) d = none := if_neg (show ¬ (decide (d.2.1 ∈ ls) && decide (d.2.2 ∈ ls)) = true by rw [decide_eq_false c1, Bool.false_and]; decide)
          rw [e2] at hk
          exact iteF (iteF hk)
      have S3 := same_upd (o := .lst ((us.zip ws).filterMap (pick fun q => decide (q.1 ∈ ls) && decide (q.2 ∈ ls)))) nD
      have hD : LAt PairR (upd H2 D (.lst ((us.zip ws).filterMap (pick fun q => decide (q.1 ∈ ls) && decide (q.2 ∈ ls))))) D (insideM ws ls) := ⟨_, upd_same, (hu.pick _).mono PairR.mono S3⟩
      generalize upd H2 D (.lst ((us.zip ws).filterMap (pick fun q => decide (q.1 ∈ ls) && decide (q.2 ∈ ls)))) = H3 at S3 hD ⊢
      have hil : (insideM ws ls).length ≤ 50 := Nat.le_trans (List.length_filter_le _ _) hw
      unfold peelsM
      rw [els]
      unfold peelM
      generalize insideM ws ls = is at hD hil ⊢
      obtain ⟨vs, hD1, hv⟩ := id hD
      refine ⟨_, rfl, D, rfl, ⟨_, SqL.of hD1⟩, fun B nB => comp_list (ds := is) (fun d => some (V.int d.2)) (SqL.of hD1) hv.1 nB (Nat.le_trans hil (by decide)) (fun j x d H4 hx hd S k hk => ?_) ?_⟩
      · obtain ⟨d', hd', b, rfl, hb⟩ := hv.get hx
        rw [hd] at hd'
        cases hd'
        exact ⟨.skip .refl, _, rfl, .inr ⟨_, _, _, _, rfl, rfl, SqT.of (S _ _ hb), rfl, hk⟩⟩
      have em : is.filterMap (fun d => some (V.int d.2)) = (is.map (·.2)).map V.int := by
        rw [List.filterMap_eq_map', List.map_map]
        rfl
      rw [em]
      have S4 := same_upd (o := .lst ((is.map (·.2)).map V.int)) nB
      have hB : (upd H3 B (.lst ((is.map (·.2)).map V.int))) B = some (.lst ((is.map (·.2)).map V.int)) := upd_same
      generalize upd H3 B (.lst ((is.map (·.2)).map V.int)) = H4 at S4 hB ⊢
      generalize is.map (·.2) = bs at hB ⊢
      have hc4 := S4 _ _ (S3 _ _ hc)
      refine ⟨_, rfl, c, rfl, ⟨_, SqL.of hc4⟩, fun N nN => comp_list (ds := ls) (fun h => if decide (h ∈ bs) = true then some (V.int h) else none) (SqL.of hc4) (by rw [List.length_map]) nN (Nat.le_trans hcz (by decide)) (fun j x h H5 hx hd S k hk => ?_) ?_⟩
      · have ex : x = .int h := by
          rw [List.getElem?_map, hd] at hx
          exact (Option.some.inj hx).symm
        subst ex
        refine ⟨.skip (.keep .refl), _, rfl, _, rfl, B, _, rfl, .inl (SqL.of (S _ _ hB)), rfl, flat_ints _, _, rfl, ?_⟩
        show if inV (V.int h) (bs.map V.int) = true then _ else _
        rw [in_ints]
        by_cases c1 : h ∈ bs
        · rw [decide_eq_true c1] at hk ⊢
          exact iteT ⟨_, rfl, hk⟩
        · rw [decide_eq_false c1] at hk ⊢
          exact iteF hk
      have en : ls.filterMap (fun h => if decide (h ∈ bs) = true then some (V.int h) else none) = (ls.filter fun h => decide (h ∈ bs)).map V.int := by
        exact pick_ints _ _
      rw [en]
      refine ⟨((S2.trans S3).trans S4).trans (same_upd nN), N, _, _, _, rfl, upd_same, Nat.le_trans (List.length_filter_le _ _) hcz⟩
    · rintro σ H2 ⟨S2, c, y1, y2, y3, rfl, hc, hcz⟩
      rw [List.length_map] at hc hcz
      refine ⟨_, rfl, by decide, fun e ne => ⟨c, e, _, _, rfl, rfl, SqL.of (same_upd ne _ _ hc), SqL.of upd_same, flat_ints _, rfl, ?_⟩⟩
      show Q (.bl (eqL ((peelsM ws hs hs.length).map V.int) (([] : List Int).map V.int))) _
      rw [eqL_ints]
      exact q _ (S2.trans (same_upd ne))
end
end T

namespace M
open PySem PySem.Spec PyProof.Rows L2 Own Pu
theorem filter_first {α : Type} {c : α → Bool} : ∀ {xs : List α} {x : α} {r : List α}, xs.filter c = x :: r → ∃ i, ∃ hi : i < xs.length, xs[i] = x ∧ c x = true ∧ ∀ j (hj : j < xs.length), j < i → c xs[j] = false
  | [], x, r, h => by cases h
  | y :: ys, x, r, h => by
    by_cases hy : c y = true
    · rw [List.filter_cons_of_pos hy] at h
      cases h
      exact ⟨0, by simp, rfl, hy, fun j _ hj => by omega⟩
    · rw [List.filter_cons_of_neg hy] at h
      obtain ⟨i, hi, e1, e2, e3⟩ := filter_first h
      refine ⟨i + 1, by simp; omega, by simpa using e1, e2, fun j hj hji => ?_⟩
      cases j with
      | zero => simpa using hy
      | succ j => simpa using e3 j (by simpa using hj) (by omega)
theorem pickI (c : Int → Bool) : ∀ ws : List Int, ws.filterMap (fun q => if c q = true then some (D.int q) else none) = (ws.filter c).map D.int := pickD c D.int
end M

namespace T
open PySem PySem.Spec PyProof.Rows L2 Own M Pu
section
variable {P : Program} {w : World} {K : PySem.W.Frag} {mg : Str → Option Value} {base : Heap}
theorem ok_ring_from (G : Glob K mg) (DD : Def K mg "ring_from" s_ring_from ["least", "holders", "wishes"])
    (c_longer_paths : Callee P w K mg base CX0 1 "longer_paths" ["paths", "left", "wishes"] (Pu.spOf mg pc_longer_paths K))
    : Callee P w K mg base CX0 2 "ring_from" ["least", "holders", "wishes"] (Pu.spOf mg pc_ring_from K) := by
  refine DD.ok (k := 1) sc_ring_from (fun vs H Q E h => spOf_len h (fun ds R X h => ?_)) (fun f cdv A outer s H vs Q E hr h => ?_)
  · obtain ⟨l, hs, ws, rfl, hnd, hz, hR⟩ := h
    rfl
  · refine ⟨_, (pss_cons (ps_set (i := 3) sc_ring_from.nd rfl (by first | exact Or.inl rfl | exact Or.inr rfl) (pe_lst (pa_cons (pe_lst (pa_cons (pv 0) pa_nil)) pa_nil)))
      (pss_cons (ps_set (i := 4) sc_ring_from.nd rfl (by first | exact Or.inl rfl | exact Or.inr rfl) (pe_callB (Pu.call_sortedK (K := K) (w := w) rfl) (by rfl) G.sorted boot_sorted (pa_cons (Own.pe_comp (N' := ["holder", "least"]) (φ := [none, some 0]) rfl (Own.CompOk.of (by rfl)) (Pu.pi_listK (K := K) (pv 1)) (fun _ _ _ _ _ => ⟨(pg_name (i := 0) (show (["holder", "least"] : List Str).Nodup from by decide +kernel) rfl (by first | exact Or.inl rfl | exact Or.inr rfl)), (Own.pifs_one (pt_cmpR op_gt (pv 0) (pv 1) (nomark _))), (pv 0)⟩)) pa_nil)))
      (pss_cons (ps_while PassesOwn.never (Pu.pt_tru (K := K) (pv 3))
      (pss_cons (Own.ps_setComp (N' := ["path", "wishes", "least"]) (φ := [none, some 2, some 0]) (i := 5) sc_ring_from.nd rfl rfl rfl (Own.CompOk.of (by rfl)) (Pu.pi_listK (K := K) (pv 3)) (fun _ _ _ _ _ => ⟨(pg_name (i := 0) (show (["path", "wishes", "least"] : List Str).Nodup from by decide +kernel) rfl (by first | exact Or.inl rfl | exact Or.inr rfl)), (Own.pifs_one (pt_cmpR (Pu.op_inU (K := K) (show _ < cLine from hu_of hr)) (pe_tup (pa_cons (pe_ix (Own.ix_ltK (K := K)) (pv 0) (pe_un un_neg pe_int) (fun _ _ => rfl)) (pa_cons (pv 2) pa_nil))) (pv 1) (by with_unfolding_all rfl))), (pv 0)⟩))
      (pss_cons (ps_if (Pu.pt_tru (K := K) (pv 5))
      (pss_one (ps_ret (pe_ix (Own.ix_ltK (K := K)) (pv 5) pe_int (fun _ _ => rfl))))
      pss_nil)
      (pss_cons (ps_set (i := 3) sc_ring_from.nd rfl (by first | exact Or.inl rfl | exact Or.inr rfl) (Own.pe_fn c_longer_paths (hr.mono (by decide)) pass0 (pa_cons (pv 3) (pa_cons (pv 4) (pa_cons (pv 2) pa_nil)))))
      (pss_cons (ps_set (i := 6) sc_ring_from.nd rfl (by first | exact Or.inl rfl | exact Or.inr rfl) (Own.pe_comp (N' := ["path"]) (φ := [none]) rfl (Own.CompOk.of (by rfl)) (Pu.pi_listK (K := K) (pv 3)) (fun _ _ _ _ _ => ⟨(pg_name (i := 0) (show (["path"] : List Str).Nodup from by decide +kernel) rfl (by first | exact Or.inl rfl | exact Or.inr rfl)), Own.pifs_nil, (pe_ix (Own.ix_ltK (K := K)) (pv 0) (pe_un un_neg pe_int) (fun _ _ => rfl))⟩)))
      (pss_one (Own.ps_setComp (N' := ["holder", "reached"]) (φ := [none, some 6]) (i := 4) sc_ring_from.nd rfl rfl rfl (Own.CompOk.of (by rfl)) (Pu.pi_listK (K := K) (pv 4)) (fun _ _ _ _ _ => ⟨(pg_name (i := 0) (show (["holder", "reached"] : List Str).Nodup from by decide +kernel) rfl (by first | exact Or.inl rfl | exact Or.inr rfl)), (Own.pifs_one (pt_cmpR (Pu.op_notInU (K := K) (show _ < cLine from hu_of hr)) (pv 0) (pv 1) (by with_unfolding_all rfl))), (pv 0)⟩))))))))
      (pss_one (ps_ret (pe_lst pa_nil)))))), Pu.fn_use (n := 3) h
      (ss_seq (ss_frz 0 (ss_asg (se_lst (sa_cons (se_lst (sa_cons (se_var 0) sa_nil)) sa_nil)) (sg_name 3)))
        (ss_seq (ss_asg (se_sorted (sa_cons (se_comp (si_listC (se_var 1)) (sg_name 0) (st_test (se_gt (se_var 0) (se_var 1))) (se_var 0)) sa_nil)) (sg_name 4))
        (ss_seq (ss_while [5, 6] (st_tru (se_var 3))
        (ss_seq (ss_frz 0 (ss_asg (se_comp (si_listC (se_var 3)) (sg_name 0) (st_test (se_in (se_tup (sa_cons (se_ix (se_var 0) (se_neg se_int)) (sa_cons (se_var 2) sa_nil))) (se_var 1))) (se_var 0)) (sg_name 5)))
        (ss_seq (ss_if (st_tru (se_var 5)) (ss_retS (se_ix (se_var 5) se_int)) ss_next)
        (ss_seq (ss_asg (se_call (sa_cons (se_var 3) (sa_cons (se_var 4) (sa_cons (se_var 2) sa_nil)))) (sg_name 3))
        (ss_seq (ss_asg (se_comp (si_listC (se_var 3)) (sg_name 0) st_yes (se_ix (se_var 0) (se_neg se_int))) (sg_name 6))
        (ss_asg (se_comp (si_listC (se_var 4)) (sg_name 0) (st_test (se_in (se_var 0) (se_var 1))) (se_var 0)) (sg_name 4)))))))
        (ss_retS (se_lst sa_nil))))) (by decide) (fun ds R X h => ?_)⟩
    obtain ⟨l, hs, ws, rfl, hnd, hz, hR⟩ := h
    refine ⟨rfl, ?_⟩
    refine ⟨by simp, by simp, comp_of (xs := hs) (emb := D.int) (fun h => if decide (l < h) = true then some (.int h) else none) (by omega) (fun h _ => ite2 (fun g => ⟨_, rfl, if_pos g⟩) (fun g => if_neg g)) ?_⟩
    rw [pickI fun h => decide (l < h)]
    refine ⟨hs.filter fun h => decide (l < h), rfl, Nat.lt_of_le_of_lt (List.length_filter_le _ _) (by omega), fun ls hp hsrt => ?_⟩
    have hlt : ls.Pairwise (· < ·) := lt_of_le_nodup hsrt (hp.nodup_iff.mpr (hnd.filter _))
    have hm : ∀ h, h ∈ ls ↔ Gr hs l h := fun h => by
      rw [hp.mem_iff, List.mem_filter, decide_eq_true_eq]
      exact Iff.rfl
    have hlen : ls.length ≤ hs.length := by
      rw [hp.length_eq]
      exact List.length_filter_le _ _
    refine while_of (fun γ' => ∃ k ps ls, γ' = [some (.sh (.int l)), some (.bor (.lst (hs.map D.int))), some (.bor (.lst (ws.map prD))), some (.own (ps.map (em l))), some (.own (ls.map D.int)), none, none] ∧ Lev hs ws l k ps ls ∧ ps.length ≤ 60 ∧ ls.length ≤ hs.length ∧ (k + ls.length ≤ hs.length ∨ (ps = [] ∧ k ≤ hs.length + 1)))
      (fun γ => 2 * lenAt 4 γ + min 1 (lenAt 3 γ)) ⟨0, [[]], ls, rfl, Lev.start hlt hm, by simp, hlen, .inl (by omega)⟩ ?_
    rintro γ' ⟨k, ps, ls, rfl, L, hpl, hll, hk⟩
    have emp : (!(ps.map (em l)).isEmpty) = decide (ps ≠ []) := by cases ps <;> simp
    show if (!(ps.map (em l)).isEmpty) = true then _ else _
    rw [emp]
    refine ite2 (fun g => ?_) (fun g => ?_)
    · have hne : ps ≠ [] := of_decide_eq_true g
      have hk' : k + ls.length ≤ hs.length := hk.elim id fun z => absurd z.1 hne
      have hpk : ∀ p ∈ ps, p.length ≤ 60 := fun p hp => by rw [(L.way p hp).1]; omega
      refine comp_of (xs := ps) (emb := em l) (fun p => if decide ((lastI l p, l) ∈ ws) = true then some (em l p) else none) (by omega) (fun p hp => ⟨_, at_last l p, by simp, _, .lp (lastI l p, l) ws, ite2 (fun g => ⟨_, rfl, if_pos g⟩) (fun g => if_neg g)⟩) ?_
      rw [pickD fun p => decide ((lastI l p, l) ∈ ws)]
      generalize ef : (ps.filter fun p => decide ((lastI l p, l) ∈ ws)) = fs
      have emp2 : (!(fs.map (em l)).isEmpty) = decide (fs ≠ []) := by cases fs <;> simp
      show if (!(fs.map (em l)).isEmpty) = true then _ else _
      rw [emp2]
      refine ite2 (fun g2 => ?_) (fun g2 => ?_)
      · have hfe : fs ≠ [] := of_decide_eq_true g2
        cases fs with
        | nil => exact absurd rfl hfe
        | cons p r =>
          obtain ⟨i, hi, e1, e2, e3⟩ := filter_first ef
          have hp : p ∈ ps := by rw [← e1]; exact List.getElem_mem hi
          refine ⟨em l p, at_head _ _, hR (l :: p) (L.found hi e1 (of_decide_eq_true e2) fun j hj hji z => ?_) (by have := (L.way p hp).1; simp; omega)⟩
          have := e3 j hj hji
          rw [decide_eq_true z] at this
          cases this
      · have hfe : fs = [] := Classical.byContradiction fun z => g2 (decide_eq_true z)
        have hn : ∀ p ∈ ps, (lastI l p, l) ∉ ws := fun p hp z => by
          have : p ∈ fs := by rw [← ef]; exact List.mem_filter.mpr ⟨hp, decide_eq_true z⟩
          rw [hfe] at this
          cases this
        refine ⟨l, ps, ls, ws, rfl, L.srt, L.lsrt, fun p hp => Nat.le_trans (hpk p hp) (by decide), by omega, fun lg G hlg => ?_⟩
        refine comp_of (xs := lg) (emb := em l) (fun p => some (.int (lastI l p))) (by omega) (fun p _ => ⟨_, at_last l p, _, rfl, rfl⟩) ?_
        have e1 : lg.filterMap (fun p => some (D.int (lastI l p))) = (lg.map (lastI l)).map D.int := by rw [List.filterMap_eq_map', List.map_map]; rfl
        rw [e1]
        refine comp_of (xs := ls) (emb := D.int) (fun h => if decide (¬ h ∈ lg.map (lastI l)) = true then some (.int h) else none) (by omega) (fun h _ => ⟨_, .li h _, ?_⟩) ?_
        · by_cases c : h ∈ lg.map (lastI l)
          · simp only [decide_eq_true c]
            exact iteF (if_neg (by simp [c]))
          · simp only [decide_eq_false c]
            exact iteT ⟨_, rfl, if_pos (by simp [c])⟩
        rw [pickI fun h => decide (¬ h ∈ lg.map (lastI l))]
        have L' := L.next hn G rfl
        have hsub : ∀ h ∈ lg.map (lastI l), h ∈ ls := fun h hh => by
          obtain ⟨q, hq, e⟩ := List.mem_map.mp hh
          obtain ⟨p, x, ⟨_, a⟩, rfl, _⟩ := G.mem q hq
          rw [last_app] at e
          rw [← e]
          exact a
        have hfl := List.length_filter_le (fun h => decide (¬ h ∈ lg.map (lastI l))) ls
        have hless : lg ≠ [] → (ls.filter fun h => decide (¬ h ∈ lg.map (lastI l))).length < ls.length := fun hne => by
          obtain ⟨q, hq⟩ := List.exists_mem_of_ne_nil lg hne
          have hm : lastI l q ∈ ls := hsub _ (List.mem_map_of_mem hq)
          refine Nat.lt_of_le_of_ne hfl fun z => ?_
          have := List.filter_eq_self.mp (List.Sublist.eq_of_length (List.filter_sublist (l := ls)) z) (lastI l q) hm
          rw [decide_eq_true_eq] at this
          exact this (List.mem_map_of_mem hq)
        refine ⟨⟨k + 1, lg, _, rfl, L', by omega, by omega, ?_⟩, ?_⟩
        · by_cases c : lg = []
          · exact .inr ⟨c, by omega⟩
          · have := hless c
            exact .inl (by omega)
        · show 2 * ((ls.filter fun h => decide (¬ h ∈ lg.map (lastI l))).map D.int).length + min 1 (lg.map (em l)).length < 2 * (ls.map D.int).length + min 1 (ps.map (em l)).length
          rw [List.length_map, List.length_map, List.length_map, List.length_map]
          have : 0 < ps.length := List.length_pos_iff.mpr hne
          by_cases c : lg = []
          · rw [c]
            rw [c] at hfl
            simp only [List.length_nil]
            omega
          · have := hless c
            omega
    · have hpe : ps = [] := Classical.byContradiction fun z => g (decide_eq_true z)
      subst hpe
      exact ⟨by simp, hR [] L.over (by simp)⟩
end
end T


namespace T
open PySem PySem.Spec PyProof.Rows L2 Own M Pu
section
variable {P : Program} {w : World} {K : PySem.W.Frag} {mg : Str → Option Value} {base : Heap}
theorem ok_pair_costs (G : Glob K mg) (DD : Def K mg "pair_costs" s_pair_costs ["strips"])
    (c_holders_of : Callee P w K mg base CX0 1 "holders_of" ["strips"] (Pu.spOf mg pc_holders_of K))
    (c_pair_cost : Callee P w K mg base CX0 1 "pair_cost" ["strips", "ahead", "behind"] (Pu.spOf mg pc_pair_cost K))
    : Callee P w K mg base CX0 2 "pair_costs" ["strips"] (Pu.spOf mg pc_pair_costs K) := by
  refine DD.ok (k := 1) sc_pair_costs (fun vs H Q E h => spOf_len h (fun ds R X h => ?_)) (fun f cdv A outer s H vs Q E hr h => ?_)
  · obtain ⟨ps, rfl, hF, hz, hR⟩ := h
    rfl
  · refine ⟨_, (pss_cons (ps_set (i := 1) sc_pair_costs.nd rfl (by first | exact Or.inl rfl | exact Or.inr rfl) (Own.pe_fn c_holders_of (hr.mono (by decide)) pass0 (pa_cons (pv 0) pa_nil)))
      (pss_cons (ps_set (i := 2) sc_pair_costs.nd rfl (by first | exact Or.inl rfl | exact Or.inr rfl) pe_dnewT)
      (pss_cons (ps_for PassesOwn.never rfl (Pu.pi_listK (K := K) (pv 1)) (pg_name (i := 3) sc_pair_costs.nd rfl (by first | exact Or.inl rfl | exact Or.inr rfl))
      (pss_one (ps_for PassesOwn.never rfl (Pu.pi_listK (K := K) (pv 1)) (pg_name (i := 4) sc_pair_costs.nd rfl (by first | exact Or.inl rfl | exact Or.inr rfl))
      (pss_one (ps_dput (hu_of hr) (pv 2) (pe_tup (pa_cons (pv 3) (pa_cons (pv 4) pa_nil))) (Own.pe_fn c_pair_cost (hr.mono (by decide)) pass0 (pa_cons (pv 0) (pa_cons (pv 3) (pa_cons (pv 4) pa_nil)))) rfl)))))
      (pss_one (ps_ret (pv 2)))))), Pu.fn_use (n := 1) h
      (ss_seq (ss_asg (se_call (sa_cons (se_var 0) sa_nil)) (sg_name 1))
        (ss_seq (ss_asg se_dnewT (sg_name 2))
        (ss_seq (ss_frz 1 (ss_for [3, 4] (si_list (se_var 1)) (sg_name 3)
        (ss_frz 1 (ss_for [4] (si_list (se_var 1)) (sg_name 4)
        (ss_frz 4 (ss_frz 3 (ss_dput 2 (se_tup (sa_cons (se_var 3) (sa_cons (se_var 4) sa_nil))) (se_call (sa_cons (se_var 0) (sa_cons (se_var 3) (sa_cons (se_var 4) sa_nil)))))))))))
        (ss_retV 2)))) (by decide) (fun ds R X h => ?_)⟩
    obtain ⟨ps, rfl, hF, hz, hR⟩ := h
    refine ⟨rfl, ?_⟩
    refine ⟨ps, rfl, hF, hz, ?_⟩
    have hh := holdM_len ps
    generalize holdM ps = hs at hh hR ⊢
    refine ⟨rfl, for_of (xs := hs) (emb := D.int) (fun i γ' => ∃ kvs : List (List Key × V), γ' = [some (.bor (.lst (ps.map prD))), some (.sh (.lst (hs.map D.int))), some (.own (.dT kvs)), none, none] ∧ kvs.length ≤ i * 10 ∧
      ∀ x ∈ hs.take i, ∀ y ∈ hs, valV kvs [.inl x, .inl y] = some (.int (pcM ps x y ps.length))) ⟨[], rfl, by simp, by simp⟩ ?_ ?_⟩
    · rintro i hi γ' ⟨kvs, rfl, hl, hv⟩
      refine ⟨rfl, for_of (xs := hs) (emb := D.int) (fun j γ' => ∃ kvs : List (List Key × V), γ' = [some (.bor (.lst (ps.map prD))), some (.sh (.lst (hs.map D.int))), some (.own (.dT kvs)), some (.sh (.int hs[i])), none] ∧ kvs.length ≤ i * 10 + j ∧
        (∀ x ∈ hs.take i, ∀ y ∈ hs, valV kvs [.inl x, .inl y] = some (.int (pcM ps x y ps.length))) ∧ ∀ y ∈ hs.take j, valV kvs [.inl hs[i], .inl y] = some (.int (pcM ps hs[i] y ps.length))) ⟨kvs, rfl, by omega, hv, by simp⟩ ?_ ?_⟩
      · rintro j hj γ' ⟨kvs, rfl, hl, hv, hw⟩
        refine ⟨ps, _, _, rfl, hF, by simp, _, _, rfl, rfl, by omega, _, rfl, Nat.le_trans (length_putK _ _ _) (by omega), fun x hx y hy => ?_, fun y hy => ?_⟩
        · rw [valV_put]
          by_cases e : ([.inl x, .inl y] : List Key) = [.inl hs[i], .inl hs[j]]
          · rw [if_pos e]
            simp only [List.cons.injEq, Sum.inl.injEq, and_true] at e
            rw [e.1, e.2]
          · rw [if_neg e]
            exact hv x hx y hy
        · rw [valV_put]
          by_cases e : ([.inl hs[i], .inl y] : List Key) = [.inl hs[i], .inl hs[j]]
          · rw [if_pos e]
            simp only [List.cons.injEq, Sum.inl.injEq, and_true] at e
            rw [e.2]
          · rw [if_neg e]
            rw [List.take_succ_eq_append_getElem hj, List.mem_append, List.mem_singleton] at hy
            rcases hy with hy | hy
            · exact hw y hy
            · subst hy
              exact absurd rfl e
      · rintro γ' ⟨kvs, rfl, hl, hv, hw⟩
        rw [List.take_length] at hw
        refine ⟨kvs, rfl, by omega, fun x hx y hy => ?_⟩
        rw [List.take_succ_eq_append_getElem hi, List.mem_append, List.mem_singleton] at hx
        rcases hx with hx | hx
        · exact hv x hx y hy
        · subst hx
          exact hw y hy
    · rintro γ' ⟨kvs, rfl, hl, hv⟩
      rw [List.take_length] at hv
      exact hR kvs hv
end
end T


namespace T
open PySem PySem.Spec PyProof.Rows L2 Own M Pu
section
variable {P : Program} {w : World} {K : PySem.W.Frag} {mg : Str → Option Value} {base : Heap}
theorem ok_cost_with_last (G : Glob K mg) (DD : Def K mg "cost_with_last" s_cost_with_last ["members", "last", "least", "pairs"])
    (c_without : Callee P w K mg base CX0 1 "without" ["members", "holder"] (Pu.spOf mg pc_without K))
    : Callee P w K mg base CX0 2 "cost_with_last" ["members", "last", "least", "pairs"] (Pu.spOf mg pc_cost_with_last K) := by
  refine DD.ok (k := 1) sc_cost_with_last (fun vs H Q E h => spOf_len h (fun ds R X h => ?_)) (fun f cdv A outer s H vs Q E hr h => ?_)
  · obtain ⟨ms, l, le, pa, c, v, rfl, hz, hv, hc, hR⟩ := h
    rfl
  · refine ⟨_, (pss_cons (ps_set (i := 4) sc_cost_with_last.nd rfl (by first | exact Or.inl rfl | exact Or.inr rfl) (Own.pe_fn c_without (hr.mono (by decide)) pass0 (pa_cons (pv 0) (pa_cons (pv 1) pa_nil))))
      (pss_one (ps_ret (pe_op op_add (pe_dget (hu_of hr) (pv 2) (pv 4) (fun _ _ => rfl)) (pe_callB (Own.call_sumL (K := K) rfl) (by rfl) G.sum boot_sum (pa_cons (Own.pe_comp (N' := ["other", "pairs", "last"]) (φ := [none, some 3, some 1]) rfl (Own.CompOk.of (by rfl)) (Pu.pi_tupK (K := K) (pv 4)) (fun _ _ _ _ _ => ⟨(pg_name (i := 0) (show (["other", "pairs", "last"] : List Str).Nodup from by decide +kernel) rfl (by first | exact Or.inl rfl | exact Or.inr rfl)), Own.pifs_nil, (pe_dget (hu_of hr) (pv 1) (pe_tup (pa_cons (pv 0) (pa_cons (pv 2) pa_nil))) (fun _ _ => rfl))⟩)) pa_nil)))))), Pu.fn_use (n := 4) h
      (ss_seq (ss_asg (se_call (sa_cons (se_var 0) (sa_cons (se_var 1) sa_nil))) (sg_name 4))
        (ss_frz 1 (ss_ret (se_add (se_dget (se_var 2) (se_var 4)) (se_sumL (sa_cons (se_comp (SndI.c (si_tup (se_var 4))) (sg_name 0) st_yes (se_dget (se_var 1) (se_tup (sa_cons (se_var 0) (sa_cons (se_var 2) sa_nil))))) sa_nil)))))) (by decide) (fun ds R X h => ?_)⟩
    obtain ⟨ms, l, le, pa, c, v, rfl, hz, hv, hc, hR⟩ := h
    refine ⟨rfl, ?_⟩
    rw [start_tD]
    have hz' : (lessM ms l).length ≤ 1000 := Nat.le_trans less_sub.length_le hz
    refine ⟨ms, l, rfl, hz, _, _, keysD_tD _, hv, rfl, _, rfl, comp_of (s := .sh .non) (xs := lessM ms l) (emb := D.int) (fun m => some (.int (c m))) (by omega) (fun m hm => ?_) ?_⟩
    · exact ⟨by simp, _, _, rfl, hc m hm, rfl, _, rfl, rfl⟩
    · rw [mapD]
      exact ⟨(lessM ms l).map c, by rw [List.map_map]; rfl, hR⟩
end
end T


namespace T
open PySem PySem.Spec PyProof.Rows L2 Own M Pu
section
variable {P : Program} {w : World} {K : PySem.W.Frag} {mg : Str → Option Value} {base : Heap}
theorem ok_cost_with_first (G : Glob K mg) (DD : Def K mg "cost_with_first" s_cost_with_first ["members", "first", "least", "pairs"])
    (c_without : Callee P w K mg base CX0 1 "without" ["members", "holder"] (Pu.spOf mg pc_without K))
    : Callee P w K mg base CX0 2 "cost_with_first" ["members", "first", "least", "pairs"] (Pu.spOf mg pc_cost_with_first K) := by
  refine DD.ok (k := 1) sc_cost_with_first (fun vs H Q E h => spOf_len h (fun ds R X h => ?_)) (fun f cdv A outer s H vs Q E hr h => ?_)
  · obtain ⟨ms, l, le, pa, c, v, rfl, hz, hv, hc, hR⟩ := h
    rfl
  · refine ⟨_, (pss_cons (ps_set (i := 4) sc_cost_with_first.nd rfl (by first | exact Or.inl rfl | exact Or.inr rfl) (Own.pe_fn c_without (hr.mono (by decide)) pass0 (pa_cons (pv 0) (pa_cons (pv 1) pa_nil))))
      (pss_one (ps_ret (pe_op op_add (pe_dget (hu_of hr) (pv 2) (pv 4) (fun _ _ => rfl)) (pe_callB (Own.call_sumL (K := K) rfl) (by rfl) G.sum boot_sum (pa_cons (Own.pe_comp (N' := ["other", "pairs", "first"]) (φ := [none, some 3, some 1]) rfl (Own.CompOk.of (by rfl)) (Pu.pi_tupK (K := K) (pv 4)) (fun _ _ _ _ _ => ⟨(pg_name (i := 0) (show (["other", "pairs", "first"] : List Str).Nodup from by decide +kernel) rfl (by first | exact Or.inl rfl | exact Or.inr rfl)), Own.pifs_nil, (pe_dget (hu_of hr) (pv 1) (pe_tup (pa_cons (pv 2) (pa_cons (pv 0) pa_nil))) (fun _ _ => rfl))⟩)) pa_nil)))))), Pu.fn_use (n := 4) h
      (ss_seq (ss_asg (se_call (sa_cons (se_var 0) (sa_cons (se_var 1) sa_nil))) (sg_name 4))
        (ss_frz 1 (ss_ret (se_add (se_dget (se_var 2) (se_var 4)) (se_sumL (sa_cons (se_comp (SndI.c (si_tup (se_var 4))) (sg_name 0) st_yes (se_dget (se_var 1) (se_tup (sa_cons (se_var 2) (sa_cons (se_var 0) sa_nil))))) sa_nil)))))) (by decide) (fun ds R X h => ?_)⟩
    obtain ⟨ms, l, le, pa, c, v, rfl, hz, hv, hc, hR⟩ := h
    refine ⟨rfl, ?_⟩
    rw [start_tD]
    have hz' : (lessM ms l).length ≤ 1000 := Nat.le_trans less_sub.length_le hz
    refine ⟨ms, l, rfl, hz, _, _, keysD_tD _, hv, rfl, _, rfl, comp_of (s := .sh .non) (xs := lessM ms l) (emb := D.int) (fun m => some (.int (c m))) (by omega) (fun m hm => ?_) ?_⟩
    · exact ⟨by simp, _, _, rfl, hc m hm, rfl, _, rfl, rfl⟩
    · rw [mapD]
      exact ⟨(lessM ms l).map c, by rw [List.map_map]; rfl, hR⟩
end
end T


namespace T
open PySem PySem.Spec PyProof.Rows L2 Own M
section
variable {P : Program} {w : World} {K : PySem.W.Frag} {mg : Str → Option Value} {base : Heap}
theorem ok_law_draw (G : Glob K mg) (D : Def K mg "_law_draw" s_law_draw ["_law_script", "_law_k"])
    (c_law_mix : Callee P w K mg base CX0 1 "_law_mix" ["_law_cell", "_law_place"] (sp_law_mix K))
    (c_law_at : Callee P w K mg base CX0 1 "_law_at" ["_law_script", "_law_k"] (sp_law_at K))
    : Callee P w K mg base CX0 2 "_law_draw" ["_law_script", "_law_k"] (sp_law_draw K) := by
  refine D.ok (k := 1) sc_law_draw (fun vs H Q E h => ?_) (fun f cdv A outer s H vs Q E hr h => ?_)
  · obtain ⟨a, ns, k, rfl, hS, hk, q⟩ := h
    rfl
  · obtain ⟨a, ns, k, rfl, hS, hk, q⟩ := h
    refine ⟨_, (pss_cons (ps_if (pt_cmpR op_eq (pe_op op_mod (Own.pe_fn c_law_at (hr.mono (by decide)) pass0 (pa_cons (pv 0) (pa_cons pe_int pa_nil))) pe_int) pe_int (nomark _))
      (pss_one (ps_ret (Own.pe_fn c_law_at (hr.mono (by decide)) pass0 (pa_cons (pv 0) (pa_cons (pe_op op_add pe_int (pv 1)) pa_nil)))))
      pss_nil)
      (pss_one (ps_ret (Own.pe_fn c_law_mix (hr.mono (by decide)) pass0 (pa_cons (Own.pe_fn c_law_at (hr.mono (by decide)) pass0 (pa_cons (pv 0) (pa_cons pe_int pa_nil))) (pa_cons (pv 1) pa_nil)))))), ?_⟩
    refine ⟨_, rfl, a, ns, 0, rfl, hS, by decide, _, _, rfl, rfl, (by show (0 : Int) < 2; decide), rfl, _, rfl, ?_⟩
    refine ite2 (fun h => ?_) (fun h => ?_)
    · have e : ns.getD 0 0 % 2 = 0 := V.int.inj (of_decide_eq_true h)
      unfold drawM at q
      rw [if_pos e] at q
      exact ⟨_, rfl, _, rfl, _, _, rfl, rfl, a, ns, _, rfl, hS, by omega, q⟩
    · have e : ¬ ns.getD 0 0 % 2 = 0 := fun z => h (decide_eq_true (congrArg V.int z))
      unfold drawM at q
      rw [if_neg e] at q
      exact ⟨_, rfl, a, ns, 1, rfl, hS, by decide, _, rfl, _, _, rfl, q⟩
end
end T


namespace T
open PySem PySem.Spec PyProof.Rows L2 Own M
section
variable {P : Program} {w : World} {K : PySem.W.Frag} {mg : Str → Option Value} {base : Heap}
theorem ok_law_row (G : Glob K mg) (D : Def K mg "_law_row" s_law_row ["_law_found", "_law_due"])
    (c_law_whole : Callee P w K mg base CX0 1 "_law_whole" ["_law_found"] (sp_law_whole K))
    : Callee P w K mg base CX0 2 "_law_row" ["_law_found", "_law_due"] (sp_law_row K) := by
  refine D.ok (k := 1) sc_law_row (fun vs H Q E h => ?_) (fun f cdv A outer s H vs Q E hr h => ?_)
  · obtain ⟨l, l', xs, rfl, hl, hl', hz, q⟩ := h
    rfl
  · obtain ⟨l, l', xs, rfl, hl, hl', hz, q⟩ := h
    refine ⟨_, (pss_cons (ps_if (PW.pt (pw_or (pt_not (pt_val (pe_callB Own.call_isi (by rfl) G.isinstance boot_isinstance (pa_cons (pv 0) (pa_cons (pe_bltn (v := .ty "list") rfl G.list boot_list rfl) pa_nil))))) (pw_or1 (pt_cmpR op_ne (pe_callB call_len (by rfl) G.len PySem.boot_len (pa_cons (pv 0) pa_nil)) (pe_callB call_len (by rfl) G.len PySem.boot_len (pa_cons (pv 1) pa_nil)) (nomark _)))))
      (pss_one (ps_ret pe_bl))
      pss_nil)
      (pss_cons (ps_for PassesOwn.never rfl (pi_range1 rfl G.range (pa_cons (pe_callB call_len (by rfl) G.len PySem.boot_len (pa_cons (pv 1) pa_nil)) pa_nil)) (pg_name (i := 2) sc_law_row.nd rfl (by first | exact Or.inl rfl | exact Or.inr rfl))
      (pss_one (ps_if (PW.pt (pw_or (pt_not (pt_val (Own.pe_fn c_law_whole (hr.mono (by decide)) pass0 (pa_cons (pe_ix Own.ix_lt (pv 0) (pv 2) (fun _ _ => rfl)) pa_nil)))) (pw_or1 (pt_cmpR op_ne (pe_ix Own.ix_lt (pv 0) (pv 2) (fun _ _ => rfl)) (pe_ix Own.ix_lt (pv 1) (pv 2) (fun _ _ => rfl)) (nomark _)))))
      (pss_one (ps_ret pe_bl))
      pss_nil)))
      (pss_one (ps_ret pe_bl)))), ?_⟩
    refine ⟨_, rfl, _, _, _, _, rfl, .lst hl, kit_same _ _, _, rfl, iteF ⟨_, rfl, _, _, rfl, .inl ⟨_, SqL.of hl, rfl⟩, _, rfl, _, _, rfl, .inl ⟨_, hl', rfl⟩, rfl, _, rfl, iteNS rfl ?_⟩⟩
    refine ⟨_, rfl, _, _, rfl, .inl ⟨_, hl', rfl⟩, _, rfl, by rw [List.length_map]; omega, by rw [List.length_map]; omega, for_range (fun i σ H2 => H = H2 ∧ ∃ (x : Option V), σ = [some (.ref l), some (.ref l'), x]) ⟨rfl, none, rfl⟩ ?_ ?_⟩
    · rintro i σ H2 hi ⟨rfl, x, rfl⟩
      rw [List.length_map, Int.toNat_natCast] at hi
      have ez : (0 : Int) + (i : Int) = (i : Int) := by omega
      have av : atI (xs.map V.int) (0 + (i : Int)) = some (.int xs[i]) := by rw [ez]; exact atI_map (atI_nat (by simp [hi]))
      refine ⟨_, rfl, _, rfl, .inl ⟨_, _, _, _, rfl, rfl, SqL.of hl, av, _, rfl, _, rfl, iteF ⟨_, rfl, _, rfl, .inl ⟨_, _, _, _, rfl, rfl, SqL.of hl, av, _, rfl, _, rfl, .inl ⟨_, _, _, _, rfl, rfl, hl', av, rfl, _, rfl, iteNS rfl ?_⟩⟩⟩⟩⟩
      exact ⟨rfl, _, rfl⟩
    · rintro σ H2 ⟨rfl, x, rfl⟩
      exact q
end
end T


namespace T
open PySem PySem.Spec PyProof.Rows L2 Own M
section
variable {P : Program} {w : World} {K : PySem.W.Frag} {mg : Str → Option Value} {base : Heap}
theorem ok_law_tuples (G : Glob K mg) (D : Def K mg "_law_tuples" s_law_tuples ["_law_found", "_law_due"])
    (c_law_whole : Callee P w K mg base CX0 1 "_law_whole" ["_law_found"] (sp_law_whole K))
    : Callee P w K mg base CX0 2 "_law_tuples" ["_law_found", "_law_due"] (sp_law_tuples K) := by
  refine D.ok (k := 1) sc_law_tuples (fun vs H Q E h => ?_) (fun f cdv A outer s H vs Q E hr h => ?_)
  · obtain ⟨l, l', ps, rfl, ⟨vs, hl, hv⟩, ⟨us, hl', hu⟩, hz, q⟩ := h
    rfl
  · obtain ⟨l, l', ps, rfl, ⟨vs, hl, hv⟩, ⟨us, hl', hu⟩, hz, q⟩ := h
    refine ⟨_, (pss_cons (ps_if (PW.pt (pw_or (pt_not (pt_val (pe_callB Own.call_isi (by rfl) G.isinstance boot_isinstance (pa_cons (pv 0) (pa_cons (pe_bltn (v := .ty "list") rfl G.list boot_list rfl) pa_nil))))) (pw_or1 (pt_cmpR op_ne (pe_callB call_len (by rfl) G.len PySem.boot_len (pa_cons (pv 0) pa_nil)) (pe_callB call_len (by rfl) G.len PySem.boot_len (pa_cons (pv 1) pa_nil)) (nomark _)))))
      (pss_one (ps_ret pe_bl))
      pss_nil)
      (pss_cons (ps_for PassesOwn.never rfl (pi_range1 rfl G.range (pa_cons (pe_callB call_len (by rfl) G.len PySem.boot_len (pa_cons (pv 1) pa_nil)) pa_nil)) (pg_name (i := 2) sc_law_tuples.nd rfl (by first | exact Or.inl rfl | exact Or.inr rfl))
      (pss_cons (ps_if (PW.pt (pw_or (pt_not (pt_val (pe_callB Own.call_isi (by rfl) G.isinstance boot_isinstance (pa_cons (pe_ix Own.ix_lt (pv 0) (pv 2) (fun _ _ => rfl)) (pa_cons (pe_bltn (v := .ty "tuple") rfl G.tuple boot_tuple rfl) pa_nil))))) (pw_or1 (pt_cmpR op_ne (pe_callB call_len (by rfl) G.len PySem.boot_len (pa_cons (pe_ix Own.ix_lt (pv 0) (pv 2) (fun _ _ => rfl)) pa_nil)) (pe_callB call_len (by rfl) G.len PySem.boot_len (pa_cons (pe_ix Own.ix_lt (pv 1) (pv 2) (fun _ _ => rfl)) pa_nil)) (nomark _)))))
      (pss_one (ps_ret pe_bl))
      pss_nil)
      (pss_one (ps_for PassesOwn.never rfl (pi_range1 rfl G.range (pa_cons (pe_callB call_len (by rfl) G.len PySem.boot_len (pa_cons (pe_ix Own.ix_lt (pv 1) (pv 2) (fun _ _ => rfl)) pa_nil)) pa_nil)) (pg_name (i := 3) sc_law_tuples.nd rfl (by first | exact Or.inl rfl | exact Or.inr rfl))
      (pss_one (ps_if (PW.pt (pw_or (pt_not (pt_val (Own.pe_fn c_law_whole (hr.mono (by decide)) pass0 (pa_cons (pe_ix Own.ix_lt (pe_ix Own.ix_lt (pv 0) (pv 2) (fun _ _ => rfl)) (pv 3) (fun _ _ => rfl)) pa_nil)))) (pw_or1 (pt_cmpR op_ne (pe_ix Own.ix_lt (pe_ix Own.ix_lt (pv 0) (pv 2) (fun _ _ => rfl)) (pv 3) (fun _ _ => rfl)) (pe_ix Own.ix_lt (pe_ix Own.ix_lt (pv 1) (pv 2) (fun _ _ => rfl)) (pv 3) (fun _ _ => rfl)) (nomark _)))))
      (pss_one (ps_ret pe_bl))
      pss_nil))))))
      (pss_one (ps_ret pe_bl)))), ?_⟩
    have e1 := hv.1
    have e2 := hu.1
    refine ⟨_, rfl, _, _, _, _, rfl, .lst hl, kit_same _ _, _, rfl, iteF ⟨_, rfl, _, _, rfl, .inl ⟨_, SqL.of hl, rfl⟩, _, rfl, _, _, rfl, .inl ⟨_, SqL.of hl', rfl⟩, rfl, _, rfl, iteNS (by rw [e1, e2]) ?_⟩⟩
    refine ⟨_, rfl, _, _, rfl, .inl ⟨_, SqL.of hl', rfl⟩, _, rfl, by omega, by omega, for_range (fun i σ H2 => H = H2 ∧ ∃ (x y : Option V), σ = [some (.ref l), some (.ref l'), x, y]) ⟨rfl, none, none, rfl⟩ ?_ ?_⟩
    · rintro i σ H2 hi ⟨rfl, x, y, rfl⟩
      have hi' : i < ps.length := by omega
      obtain ⟨v, ev, a, rfl, ha⟩ := hv.2 i ps[i] (by simp [hi'])
      obtain ⟨u, eu, b, rfl, hb⟩ := hu.2 i ps[i] (by simp [hi'])
      have ez : (0 : Int) + (i : Int) = (i : Int) := by omega
      have av : atI vs (0 + (i : Int)) = some (.ref a) := by rw [ez]; exact atI_nat ev
      have au : atI us (0 + (i : Int)) = some (.ref b) := by rw [ez]; exact atI_nat eu
      refine ⟨_, rfl, _, rfl, .inl ⟨_, _, _, _, rfl, rfl, SqL.of hl, av, _, _, _, _, rfl, .tup ha, kit_same _ _, _, rfl, iteF ?_⟩⟩
      refine ⟨_, rfl, _, rfl, .inl ⟨_, _, _, _, rfl, rfl, SqL.of hl, av, _, _, rfl, .inr ⟨_, SqT.of ha, rfl⟩, _, rfl, _, rfl, .inl ⟨_, _, _, _, rfl, rfl, SqL.of hl', au, _, _, rfl, .inr ⟨_, SqT.of hb, rfl⟩, rfl, _, rfl, iteNS rfl ?_⟩⟩⟩
      refine ⟨_, rfl, _, rfl, .inl ⟨_, _, _, _, rfl, rfl, SqL.of hl', au, _, _, rfl, .inr ⟨_, SqT.of hb, rfl⟩, _, rfl, (by show -(2 ^ 62) ≤ (2 : Int); decide), (by show (2 : Int) < 2 ^ 62; decide), for_range (fun j σ H2 => H = H2 ∧ ∃ (y : Option V), σ = [some (.ref l), some (.ref l'), some (.int (0 + (i : Int))), y]) ⟨rfl, _, rfl⟩ ?_ ?_⟩⟩
      · rintro j σ H2 hj ⟨rfl, y, rfl⟩
        have hj2 : j < 2 := hj
        obtain ⟨z, ea⟩ : ∃ z : Int, atI [V.int ps[i].1, V.int ps[i].2] (0 + (j : Int)) = some (.int z) := by
          have : j = 0 ∨ j = 1 := by omega
          rcases this with rfl | rfl
          · exact ⟨_, rfl⟩
          · exact ⟨_, rfl⟩
        refine ⟨_, rfl, _, rfl, .inl ⟨_, _, _, _, rfl, rfl, SqL.of hl, av, _, rfl, .inr ⟨_, _, _, _, rfl, rfl, SqT.of ha, ea, z, rfl, _, rfl, iteF ?_⟩⟩⟩
        refine ⟨_, rfl, _, rfl, .inl ⟨_, _, _, _, rfl, rfl, SqL.of hl, av, _, rfl, .inr ⟨_, _, _, _, rfl, rfl, SqT.of ha, ea, _, rfl, _, rfl, .inl ⟨_, _, _, _, rfl, rfl, SqL.of hl', au, _, rfl, .inr ⟨_, _, _, _, rfl, rfl, SqT.of hb, ea, rfl, _, rfl, iteNS rfl ?_⟩⟩⟩⟩⟩
        exact ⟨rfl, _, rfl⟩
      · rintro σ H2 ⟨rfl, y, rfl⟩
        exact ⟨rfl, _, _, rfl⟩
    · rintro σ H2 ⟨rfl, x, y, rfl⟩
      exact q
end
end T

namespace M
open PySem PySem.Spec PyProof.Rows L2 Own Pu
theorem oc_ordB (ps : List (Int × Int)) : ∀ o : List Int, oc (fun x y => pcM ps x y ps.length) o = ordM ps ps.length o
  | [] => rfl
  | a :: r => by
    unfold oc ordM
    rw [oc_ordB ps r]
theorem keeps_of {ws : List (Int × Int)} {o : List Int} (nd : o.Nodup) (h : ∀ q ∈ ws, badM o q = false) : Keeps ws o := by
  unfold Keeps
  rw [List.pairwise_iff_getElem]
  intro i j hi hj hij hw
  have := h _ hw
  unfold badM at this
  rw [nd.idxOf_getElem i hi, nd.idxOf_getElem j hj, decide_eq_true (List.getElem_mem hi), decide_eq_true (List.getElem_mem hj), decide_eq_true hij] at this
  cases this
theorem keeps_goodB {ws : List (Int × Int)} {o : List Int} (hk : Keeps ws o) : ∀ q ∈ ws, badM o q = false := fun q hq => by
  cases hb : badM o q with
  | false => rfl
  | true =>
    unfold badM at hb
    rw [Bool.and_eq_true, Bool.and_eq_true] at hb
    have h1 := of_decide_eq_true hb.1
    have h2 := of_decide_eq_true hb.2.1
    have h3 := of_decide_eq_true hb.2.2
    have g1 := List.idxOf_lt_length_iff.mpr h1
    have g2 := List.idxOf_lt_length_iff.mpr h2
    have := List.pairwise_iff_getElem.mp hk _ _ g2 g1 h3
    rw [List.getElem_idxOf g2, List.getElem_idxOf g1] at this
    exact absurd hq this
noncomputable def fndL (ps : List (Int × Int)) : Option (List Int) → List D
  | none => []
  | some q => [.int (priM ps q ps.length), .lst (q.map D.int)]
theorem fnd_emp (ps : List (Int × Int)) (b : Option (List Int)) : (fndL ps b).isEmpty = decide (b = none) := by cases b <;> simp [fndL]
end M

namespace T
open PySem PySem.Spec PyProof.Rows L2 Own M Pu
section
variable {P : Program} {w : World} {K : PySem.W.Frag} {mg : Str → Option Value} {base : Heap}
theorem ok_law_best (G : Glob K mg) (DD : Def K mg "_law_best" s_law_best ["_law_strips_here", "_law_wishes_here"])
    (c_law_orders : Callee P w K mg base CX0 1 "_law_orders" ["_law_holders"] (Pu.spOf mg pc_law_orders K))
    (c_law_present : Callee P w K mg base CX0 1 "_law_present" ["_law_strips_here"] (Pu.spOf mg pc_law_present K))
    (c_law_kept : Callee P w K mg base CX0 1 "_law_kept" ["_law_order", "_law_wishes_here"] (Pu.spOf mg pc_law_kept K))
    (c_law_price : Callee P w K mg base CX0 1 "_law_price" ["_law_strips_here", "_law_order"] (Pu.spOf mg pc_law_price K))
    : Callee P w K mg base CX0 2 "_law_best" ["_law_strips_here", "_law_wishes_here"] (Pu.spOf mg pc_law_best K) := by
  refine DD.ok (k := 1) sc_law_best (fun vs H Q E h => spOf_len h (fun ds R X h => ?_)) (fun f cdv A outer s H vs Q E hr h => ?_)
  · obtain ⟨ps, ws, o, rfl, hF, hz, h5, hB, hR⟩ := h
    rfl
  · refine ⟨_, (pss_cons (ps_set (i := 2) sc_law_best.nd rfl (by first | exact Or.inl rfl | exact Or.inr rfl) (pe_lst pa_nil))
      (pss_cons (ps_for PassesOwn.never rfl (Pu.pi_listK (K := K) (Own.pe_fn c_law_orders (hr.mono (by decide)) pass0 (pa_cons (Own.pe_fn c_law_present (hr.mono (by decide)) pass0 (pa_cons (pv 0) pa_nil)) pa_nil))) (pg_name (i := 3) sc_law_best.nd rfl (by first | exact Or.inl rfl | exact Or.inr rfl))
      (pss_one (ps_if (Pu.pt_tru (K := K) (Own.pe_fn c_law_kept (hr.mono (by decide)) pass0 (pa_cons (pv 3) (pa_cons (pv 1) pa_nil))))
      (pss_cons (ps_set (i := 4) sc_law_best.nd rfl (by first | exact Or.inl rfl | exact Or.inr rfl) (Own.pe_fn c_law_price (hr.mono (by decide)) pass0 (pa_cons (pv 0) (pa_cons (pv 3) pa_nil))))
      (pss_one (ps_if (PW.pt (pw_or (pt_cmpR (Own.op_eqE (K := K) (show _ < cLine from hr.units0)) (pv 2) (pe_lst pa_nil) (nomark _)) (pw_or1 (pt_cmpR op_lt (pv 4) (pe_ix (Own.ix_ltK (K := K)) (pv 2) pe_int (fun _ _ => rfl)) (nomark _)))))
      (pss_one (ps_set (i := 2) sc_law_best.nd rfl (by first | exact Or.inl rfl | exact Or.inr rfl) (pe_lst (pa_cons (pv 4) (pa_cons (pv 3) pa_nil)))))
      pss_nil)))
      pss_nil)))
      (pss_one (ps_ret (pv 2))))), Pu.fn_use (n := 2) h
      (ss_seq (ss_asg (se_lst sa_nil) (sg_name 2))
        (ss_seq (ss_for [3, 4] (si_list (se_call (sa_cons (se_call (sa_cons (se_var 0) sa_nil)) sa_nil))) (sg_name 3)
        (ss_if (st_tru (se_call (sa_cons (se_var 3) (sa_cons (se_var 1) sa_nil)))) (ss_seq (ss_asg (se_call (sa_cons (se_var 0) (sa_cons (se_var 3) sa_nil))) (sg_name 4))
        (ss_if (st_or (st_test (se_eqE (se_var 2) (se_lst sa_nil))) (st_test (se_lt (se_var 4) (se_ix (se_var 2) se_int)))) (ss_frz 3 (ss_frz 4 (ss_asg (se_lst (sa_cons (se_var 4) (sa_cons (se_var 3) sa_nil))) (sg_name 2)))) ss_next)) ss_next))
        (ss_retV 2))) (by decide) (fun ds R X h => ?_)⟩
    obtain ⟨ps, ws, o, rfl, hF, hz, h5, hB, hR⟩ := h
    refine ⟨rfl, ?_⟩
    have nd : (holdM ps).Nodup := (holdM_rising ps).imp (fun h => Int.ne_of_lt h)
    have hin : ∀ z : List Int, z.Perm (holdM ps) → ∀ p ∈ ps, p.1 ∈ z := fun z hz p hp => hz.mem_iff.mpr ((mem_holdM hF).mpr (List.mem_map.mpr ⟨p, hp, rfl⟩))
    have pri : ∀ z : List Int, z.Perm (holdM ps) → oc (fun x y => pcM ps x y ps.length) z = priM ps z ps.length := fun z hz => by
      rw [oc_ordB]
      refine ord_pri (hz.nodup_iff.mpr nd) ps.length fun j hj => ?_
      rw [List.getD_eq_getElem?_getD, List.getElem?_eq_getElem hj]
      exact hin z hz _ (List.getElem_mem hj)
    refine ⟨by simp, ps, rfl, hz, holdM ps, rfl, h5, ?_⟩
    refine ⟨rfl, for_of (xs := rowsM (holdM ps) (holdM ps).length) (emb := ilD) (fun i γ' => ∃ b, γ' = [some (.bor (.lst (ps.map prD))), some (.bor (.lst (ws.map prD))), some (.own (.lst (fndL ps b))), none, none] ∧ Fnd (fun q => priM ps q ps.length) (fun q => ∀ w ∈ ws, badM q w = false) ((rowsM (holdM ps) (holdM ps).length).take i) b) ⟨none, rfl, by simp [Fnd]⟩ ?_ ?_⟩
    · rintro i hi γ' ⟨b, rfl, hb⟩
      have hmem := List.getElem_mem hi
      have hperm := (rows_perm nd).mp hmem
      have hts : (rowsM (holdM ps) (holdM ps).length).take (i + 1) = (rowsM (holdM ps) (holdM ps).length).take i ++ [(rowsM (holdM ps) (holdM ps).length)[i]] := List.take_succ_eq_append_getElem hi
      have hsl : ∀ x ∈ (rowsM (holdM ps) (holdM ps).length).take i, sl x (rowsM (holdM ps) (holdM ps).length)[i] := fun x hx => by
        obtain ⟨j, hj, rfl⟩ := List.mem_iff_getElem.mp hx
        rw [List.length_take] at hj
        rw [List.getElem_take]
        exact List.pairwise_iff_getElem.mp (rows_sorted (holdM_rising ps) _) j i (by omega) hi (by omega)
      rw [hts]
      generalize (rowsM (holdM ps) (holdM ps).length)[i] = r at hmem hperm hsl ⊢
      refine ⟨r, ws, rfl, fun g => iteT ?_, fun g => iteF ⟨b, rfl, hb.no fun z => ?_⟩⟩
      · refine ⟨ps, r, rfl, hF, hz, hin r hperm, ?_⟩
        refine ⟨Nat.zero_le _, ?_⟩
        show if (fndL ps b).isEmpty = true then _ else _
        rw [fnd_emp]
        refine ite2 (fun k => iteT ?_) (fun k => ?_)
        · have k' : b = none := of_decide_eq_true k
          subst k'
          exact ⟨by simp, some r, rfl, hb.first g⟩
        · cases b with
          | none => exact absurd (decide_eq_true rfl) k
          | some q => exact ⟨_, rfl, ite2 (fun l => ⟨by simp, some r, rfl, hb.less g (of_decide_eq_true l)⟩) (fun l => ⟨some q, rfl, hb.more (fun z => l (decide_eq_true z)) hsl⟩)⟩
      · obtain ⟨w, hw, e⟩ := g
        rw [z w hw] at e
        cases e
    · rintro γ' ⟨b, rfl, hb⟩
      rw [List.take_length] at hb
      have hok := keeps_goodB hB.keeps
      have hmem := (rows_perm nd).mpr hB.perm
      cases b with
      | none => exact absurd hok (hb o hmem)
      | some q =>
        obtain ⟨q1, q2, q3⟩ := hb
        have qp := (rows_perm nd).mp q1
        have hq : Best ws (fun x y => pcM ps x y ps.length) (holdM ps) q := ⟨qp, keeps_of (qp.nodup_iff.mpr nd) q2, fun p hp hk => by
          rw [pri q qp, pri p hp]
          exact (q3 p ((rows_perm nd).mpr hp) (keeps_goodB hk)).1, fun p hp hk e => by
          rw [pri q qp, pri p hp] at e
          exact (q3 p ((rows_perm nd).mpr hp) (keeps_goodB hk)).2 e⟩
        have e := Pu.Best.uniq hB hq
        subst e
        exact hR
end
end T

namespace M
open PySem PySem.Spec PyProof.Rows L2 Own Pu
/-- of the first ones alone -/
noncomputable def FRi (hs : List Int) (ws : List (Int × Int)) (ns : List Int) (r : List Int) : Prop :=
  (r = [] ∧ ∀ l ∈ ns, ∀ t, ¬ Closed hs ws l t) ∨ ∃ l t, r = l :: t ∧ l ∈ ns ∧ Closed hs ws l t ∧ ∀ m ∈ ns, ∀ u, Closed hs ws m u → t.length < u.length ∨ (t.length = u.length ∧ (l < m ∨ (l = m ∧ (t = u ∨ sl t u))))
theorem FRi.keep {hs : List Int} {ws : List (Int × Int)} {ns r f : List Int} {l : Int} (h : FRi hs ws ns r) (hl : ∀ m ∈ ns, m < l) (hf : RF hs ws l f) (c : f = [] ∨ (r ≠ [] ∧ r.length ≤ f.length)) : FRi hs ws (ns ++ [l]) r := by
  rcases h with ⟨rfl, h⟩ | ⟨l', t, rfl, h1, h2, h3⟩
  · rcases c with rfl | ⟨c, _⟩
    · rcases hf with ⟨_, hf⟩ | ⟨t, e, _⟩
      · refine .inl ⟨rfl, fun m hm => ?_⟩
        rcases List.mem_append.mp hm with hm | hm
        · exact h m hm
        · rw [List.mem_singleton.mp hm]
          exact hf
      · cases e
    · exact absurd rfl c
  · refine .inr ⟨l', t, rfl, List.mem_append_left _ h1, h2, fun m hm u hu => ?_⟩
    rcases List.mem_append.mp hm with hm | hm
    · exact h3 m hm u hu
    · rw [List.mem_singleton.mp hm] at hu ⊢
      rcases hf with ⟨rfl, hf⟩ | ⟨s, rfl, _, hf⟩
      · exact absurd hu (hf u)
      · rcases c with c | ⟨_, c⟩
        · cases c
        · have hl' := hl l' h1
          simp at c
          rcases hf u hu with z | ⟨z, _⟩
          · exact .inl (by omega)
          · by_cases e : t.length < u.length
            · exact .inl e
            · exact .inr ⟨by omega, .inl hl'⟩
theorem FRi.take {hs : List Int} {ws : List (Int × Int)} {ns r f : List Int} {l : Int} (h : FRi hs ws ns r) (hl : ∀ m ∈ ns, m < l) (hf : RF hs ws l f) (c : f ≠ [] ∧ (r = [] ∨ f.length < r.length)) : FRi hs ws (ns ++ [l]) f := by
  rcases hf with ⟨rfl, _⟩ | ⟨s, rfl, f1, f2⟩
  · exact absurd rfl c.1
  · refine .inr ⟨l, s, rfl, List.mem_append_right _ (List.mem_singleton.mpr rfl), f1, fun m hm u hu => ?_⟩
    rcases List.mem_append.mp hm with hm | hm
    · rcases h with ⟨rfl, h⟩ | ⟨l', t, rfl, h1, h2, h3⟩
      · exact absurd hu (h m hm u)
      · rcases c.2 with c | c
        · cases c
        · simp at c
          rcases h3 m hm u hu with z | ⟨z, _⟩
          · exact .inl (by omega)
          · exact .inl (by omega)
    · rw [List.mem_singleton.mp hm] at hu ⊢
      rcases f2 u hu with z | ⟨z, z2⟩
      · exact .inl z
      · exact .inr ⟨z, .inr ⟨rfl, z2⟩⟩
theorem FRi.all {hs : List Int} {ws : List (Int × Int)} {ns r : List Int} (hp : ∀ z, z ∈ ns ↔ z ∈ hs) (h : FRi hs ws ns r) : FR hs ws r := by
  rcases h with ⟨rfl, h⟩ | ⟨l, t, rfl, h1, h2, h3⟩
  · exact .inl ⟨rfl, fun l hl => h l ((hp l).mpr hl)⟩
  · exact .inr ⟨l, t, rfl, (hp l).mp h1, h2, fun m hm => h3 m ((hp m).mpr hm)⟩
end M

namespace T
open PySem PySem.Spec PyProof.Rows L2 Own M Pu
section
variable {P : Program} {w : World} {K : PySem.W.Frag} {mg : Str → Option Value} {base : Heap}
theorem ok_find_ring (G : Glob K mg) (DD : Def K mg "find_ring" s_find_ring ["holders", "wishes"])
    (c_ring_from : Callee P w K mg base CX0 2 "ring_from" ["least", "holders", "wishes"] (Pu.spOf mg pc_ring_from K))
    : Callee P w K mg base CX0 3 "find_ring" ["holders", "wishes"] (Pu.spOf mg pc_find_ring K) := by
  refine DD.ok (k := 2) sc_find_ring (fun vs H Q E h => spOf_len h (fun ds R X h => ?_)) (fun f cdv A outer s H vs Q E hr h => ?_)
  · obtain ⟨hs, ws, rfl, hnd, hz, hR⟩ := h
    rfl
  · refine ⟨_, (pss_cons (ps_set (i := 2) sc_find_ring.nd rfl (by first | exact Or.inl rfl | exact Or.inr rfl) (pe_lst pa_nil))
      (pss_cons (ps_for PassesOwn.never rfl (Pu.pi_listK (K := K) (pe_callB (Pu.call_sortedK (K := K) (w := w) rfl) (by rfl) G.sorted boot_sorted (pa_cons (pv 0) pa_nil))) (pg_name (i := 3) sc_find_ring.nd rfl (by first | exact Or.inl rfl | exact Or.inr rfl))
      (pss_cons (ps_set (i := 4) sc_find_ring.nd rfl (by first | exact Or.inl rfl | exact Or.inr rfl) (Own.pe_fn c_ring_from (hr.mono (by decide)) pass0 (pa_cons (pv 3) (pa_cons (pv 0) (pa_cons (pv 1) pa_nil)))))
      (pss_one (ps_if (PW.pt (pw_and (Pu.pt_tru (K := K) (pv 4)) (pw_and1 (PW.pt (pw_or (pt_not (Pu.pt_tru (K := K) (pv 2))) (pw_or1 (pt_cmpR op_lt (pe_callB (Own.call_lenK (K := K)) (by rfl) G.len PySem.boot_len (pa_cons (pv 4) pa_nil)) (pe_callB (Own.call_lenK (K := K)) (by rfl) G.len PySem.boot_len (pa_cons (pv 2) pa_nil)) (nomark _))))))))
      (pss_one (ps_set (i := 2) sc_find_ring.nd rfl (by first | exact Or.inl rfl | exact Or.inr rfl) (pv 4)))
      pss_nil))))
      (pss_one (ps_ret (pv 2))))), Pu.fn_use (n := 2) h
      (ss_seq (ss_asg (se_lst sa_nil) (sg_name 2))
        (ss_seq (ss_frz 2 (ss_for [3, 4] (si_list (se_sorted (sa_cons (se_var 0) sa_nil))) (sg_name 3)
        (ss_seq (ss_asg (se_call (sa_cons (se_var 3) (sa_cons (se_var 0) (sa_cons (se_var 1) sa_nil)))) (sg_name 4))
        (ss_if (st_and (st_tru (se_var 4)) (st_or (st_not (st_tru (se_var 2))) (st_test (se_lt (se_len (sa_cons (se_var 4) sa_nil)) (se_len (sa_cons (se_var 2) sa_nil)))))) (ss_frz 4 (ss_asg (se_var 4) (sg_name 2))) ss_next))))
        (ss_frz 2 (ss_retV 2)))) (by decide) (fun ds R X h => ?_)⟩
    obtain ⟨hs, ws, rfl, hnd, hz, hR⟩ := h
    refine ⟨rfl, ?_⟩
    refine ⟨by simp, hs, rfl, by omega, fun ns hp hsrt => ?_⟩
    have hlt : ns.Pairwise (· < ·) := lt_of_le_nodup hsrt (hp.nodup_iff.mpr hnd)
    refine ⟨rfl, for_of (xs := ns) (emb := D.int) (fun i γ' => ∃ r, γ' = [some (.bor (.lst (hs.map D.int))), some (.bor (.lst (ws.map prD))), some (.sh (.lst (r.map D.int))), none, none] ∧ r.length ≤ 60 ∧ FRi hs ws (ns.take i) r) ⟨[], rfl, by simp, .inl ⟨rfl, fun l hl => by rw [List.take_zero] at hl; cases hl⟩⟩ ?_ ?_⟩
    · rintro i hi γ' ⟨r, rfl, hrl, F⟩
      have hbef : ∀ m ∈ ns.take i, m < ns[i] := fun m hm => by
        obtain ⟨j, hj, e⟩ := List.mem_iff_getElem.mp hm
        rw [List.length_take] at hj
        rw [List.getElem_take] at e
        rw [← e]
        exact List.pairwise_iff_getElem.mp hlt j i (by omega) hi (by omega)
      rw [List.take_succ_eq_append_getElem hi]
      generalize ns[i] = l at hbef ⊢
      refine ⟨l, hs, ws, rfl, hnd, hz, fun f hf hfl => ?_⟩
      have ef : (!(f.map D.int).isEmpty) = decide (f ≠ []) := by cases f <;> simp
      have er : (!(r.map D.int).isEmpty) = decide (r ≠ []) := by cases r <;> simp
      show if (!(f.map D.int).isEmpty) = true then _ else _
      rw [ef]
      refine ite2 (fun g => ?_) (fun g => iteF ⟨r, rfl, hrl, F.keep hbef hf (.inl (Classical.byContradiction fun z => g (decide_eq_true z)))⟩)
      have hfe : f ≠ [] := of_decide_eq_true g
      show if (!(!(r.map D.int).isEmpty)) = true then _ else _
      rw [er]
      by_cases hre : r = []
      · rw [decide_eq_false (fun z => z hre)]
        exact iteT (iteT ⟨f, rfl, hfl, F.take hbef hf ⟨hfe, .inl hre⟩⟩)
      · rw [decide_eq_true hre]
        refine iteF ?_
        show if decide (((f.map D.int).length : Int) < ((r.map D.int).length : Int)) = true then _ else _
        rw [List.length_map, List.length_map]
        refine ite2 (fun g2 => ?_) (fun g2 => ?_)
        · have := of_decide_eq_true g2
          exact ⟨f, rfl, hfl, F.take hbef hf ⟨hfe, .inr (by omega)⟩⟩
        · have : ¬ (f.length : Int) < (r.length : Int) := fun z => g2 (decide_eq_true z)
          exact ⟨r, rfl, hrl, F.keep hbef hf (.inr ⟨hre, by omega⟩)⟩
    · rintro γ' ⟨r, rfl, hrl, F⟩
      rw [List.take_length] at F
      exact hR r (F.all fun z => hp.mem_iff) hrl
end
end T


namespace T
open PySem PySem.Spec PyProof.Rows L2 Own M Pu
section
variable {P : Program} {w : World} {K : PySem.W.Frag} {mg : Str → Option Value} {base : Heap}
theorem ok_least_costs (G : Glob K mg) (DD : Def K mg "least_costs" s_least_costs ["strips", "wishes", "pairs"])
    (c_sets_of : Callee P w K mg base CX0 1 "sets_of" ["holders"] (Pu.spOf mg pc_sets_of K))
    (c_holders_of : Callee P w K mg base CX0 1 "holders_of" ["strips"] (Pu.spOf mg pc_holders_of K))
    (c_may_lie_last : Callee P w K mg base CX0 1 "may_lie_last" ["members", "holder", "wishes"] (Pu.spOf mg pc_may_lie_last K))
    (c_cost_with_last : Callee P w K mg base CX0 2 "cost_with_last" ["members", "last", "least", "pairs"] (Pu.spOf mg pc_cost_with_last K))
    : Callee P w K mg base CX0 3 "least_costs" ["strips", "wishes", "pairs"] (Pu.spOf mg pc_least_costs K) := by
  refine DD.ok (k := 2) sc_least_costs (fun vs H Q E h => spOf_len h (fun ds R X h => ?_)) (fun f cdv A outer s H vs Q E hr h => ?_)
  · obtain ⟨ps, ws, pa, c, rfl, hF, hz, hw, hu, hc, hL, hR⟩ := h
    rfl
  · refine ⟨_, (pss_cons (ps_set (i := 3) sc_least_costs.nd rfl (by first | exact Or.inl rfl | exact Or.inr rfl) (Own.pe_dispT (hu_of hr) (pe_tup pa_nil) pe_int))
      (pss_cons (ps_for PassesOwn.never rfl (Pu.pi_listK (K := K) (pe_slice (Pu.sl_listK (K := K)) (Own.pe_fn c_sets_of (hr.mono (by decide)) pass0 (pa_cons (Own.pe_fn c_holders_of (hr.mono (by decide)) pass0 (pa_cons (pv 0) pa_nil)) pa_nil)) (po_some pe_int) po_none)) (pg_name (i := 4) sc_least_costs.nd rfl (by first | exact Or.inl rfl | exact Or.inr rfl))
      (pss_cons (Own.ps_setComp (N' := ["holder", "members", "wishes"]) (φ := [none, some 4, some 1]) (i := 5) sc_least_costs.nd rfl rfl rfl (Own.CompOk.of (by rfl)) (Pu.pi_tupK (K := K) (pv 4)) (fun _ _ _ _ _ => ⟨(pg_name (i := 0) (show (["holder", "members", "wishes"] : List Str).Nodup from by decide +kernel) rfl (by first | exact Or.inl rfl | exact Or.inr rfl)), (Own.pifs_one (Pu.pt_tru (K := K) (Own.pe_fn c_may_lie_last (hr.mono (by decide)) pass0 (pa_cons (pv 1) (pa_cons (pv 0) (pa_cons (pv 2) pa_nil)))))), (pv 0)⟩))
      (pss_one (ps_dput (hu_of hr) (pv 3) (pv 4) (pe_callB (Own.call_minL (K := K) rfl) (by rfl) G.min boot_min (pa_cons (Own.pe_comp (N' := ["last", "members", "least", "pairs"]) (φ := [none, some 4, some 3, some 2]) rfl (Own.CompOk.of (by rfl)) (Pu.pi_listK (K := K) (pv 5)) (fun _ _ _ _ _ => ⟨(pg_name (i := 0) (show (["last", "members", "least", "pairs"] : List Str).Nodup from by decide +kernel) rfl (by first | exact Or.inl rfl | exact Or.inr rfl)), Own.pifs_nil, (Own.pe_fn c_cost_with_last (hr.mono (by decide)) pass0 (pa_cons (pv 1) (pa_cons (pv 0) (pa_cons (pv 2) (pa_cons (pv 3) pa_nil)))))⟩)) pa_nil)) rfl))))
      (pss_one (ps_ret (pv 3))))), Pu.fn_use (n := 3) h
      (ss_seq (ss_asg (se_dispT (se_tup sa_nil) se_int) (sg_name 3))
        (ss_seq (ss_for [4, 5] (si_list (se_slice (se_call (sa_cons (se_call (sa_cons (se_var 0) sa_nil)) sa_nil)) (so_some se_int) so_none)) (sg_name 4)
        (ss_seq (ss_asg (se_comp (SndI.c (si_tup (se_var 4))) (sg_name 0) (st_tru (se_call (sa_cons (se_var 1) (sa_cons (se_var 0) (sa_cons (se_var 2) sa_nil))))) (se_var 0)) (sg_name 5))
        (ss_dput 3 (se_var 4) (se_minL (sa_cons (se_comp (si_listC (se_var 5)) (sg_name 0) st_yes (se_call (sa_cons (se_var 1) (sa_cons (se_var 0) (sa_cons (se_var 2) (sa_cons (se_var 3) sa_nil)))))) sa_nil)))))
        (ss_retV 3))) (by decide) (fun ds R X h => ?_)⟩
    obtain ⟨ps, ws, pa, c, rfl, hF, hz, hw, hu, hc, hL, hR⟩ := h
    refine ⟨rfl, ?_⟩
    refine ⟨by simp, _, _, rfl, rfl, ?_⟩
    refine ⟨ps, rfl, hF, hz, _, rfl, holdM_len ps, ?_⟩
    have hh := holdM_len ps
    have nd : (holdM ps).Nodup := (holdM_rising ps).imp (fun h => Int.ne_of_lt h)
    generalize holdM ps = hs at hh nd hc hL hR ⊢
    have hsl := setsM_len hs
    have hsub := setsM_sub hs
    have hbef := less_before nd
    have hsn := setsM_nodup nd
    have hlen : (setsM hs).length ≤ 1024 := by
      rw [hsl]
      exact Nat.pow_le_pow_right (j := 10) (by decide) hh
    obtain ⟨T, eT⟩ := setsM_cons hs
    rw [eT] at hsub hbef hsn hlen hR ⊢
    refine ⟨rfl, rfl, ?_⟩
    have ec : Pu.cutD (List.map tD ([] :: T)) (some 1) none = T.map tD := by
      rw [cutD_map, cutD_from _ (by decide)]
      rfl
    rw [ec]
    refine for_of (xs := T) (emb := tD) (fun i γ' => ∃ kvs : List (List Key × V), γ' = [some (.bor (.lst (ps.map prD))), some (.bor (.lst (ws.map prD))), some (.bor (.dT pa)), some (.own (.dT kvs)), none, none] ∧ Tab ws c ([] :: T.take i) kvs) ⟨_, rfl, tab_nil ws c⟩ ?_ ?_
    · rintro i hi γ' ⟨kvs, rfl, ht⟩
      have em : ([] :: T)[i + 1]? = some T[i] := by rw [List.getElem?_cons_succ, List.getElem?_eq_getElem hi]
      have hmem : T[i] ∈ [] :: T := List.mem_of_getElem? em
      have hsm := hsub _ hmem
      have hne : T[i] ≠ [] := fun e => (List.nodup_cons.mp hsn).1 (e ▸ List.getElem_mem hi)
      have hnew : T[i] ∉ [] :: T.take i := fun z => by
        rcases List.mem_cons.mp z with z | z
        · exact hne z
        · obtain ⟨j, hj, e⟩ := List.mem_iff_getElem.mp z
          rw [List.length_take] at hj
          rw [List.getElem_take] at e
          exact List.pairwise_iff_getElem.mp (List.nodup_cons.mp hsn).2 j i (by omega) hi (by omega) e
      have hml : T[i].length ≤ 10 := Nat.le_trans hsm.length_le hh
      have hless : ∀ l ∈ T[i], lessM T[i] l ∈ [] :: T.take i := fun l hl => by
        obtain ⟨j, hj, e⟩ := hbef (i + 1) _ em l hl
        have : ([] :: T.take i) = ([] :: T).take (i + 1) := by rw [List.take_succ_cons]
        rw [this]
        refine List.mem_of_getElem? (i := j) ?_
        rw [List.getElem?_take_of_lt hj]
        exact e
      have ndm : T[i].Nodup := nd.sublist hsm
      have hkl : kvs.length ≤ 1024 := by
        have := congrArg List.length ht.keys
        rw [List.length_map, List.length_map, List.length_cons, List.length_take] at this
        rw [List.length_cons] at hlen
        omega
      have etk : [] :: T.take (i + 1) = ([] :: T.take i) ++ [T[i]] := by rw [List.take_succ_eq_append_getElem hi]; rfl
      rw [etk]
      generalize T[i] = ms at *
      obtain ⟨vs, hvs⟩ := pick_fun fun l hl => ht.val _ (hless l hl)
      obtain ⟨l0, hl0, hl0'⟩ := hL ms hsm hne
      refine ⟨_, rfl, comp_of (s := .sh .non) (xs := ms) (emb := D.int) (fun h => if lastM ws ms h = true then some (.int h) else none) (by omega) (fun h hm => ?_) ?_⟩
      · refine ⟨ms, h, ws, rfl, hw, ?_⟩
        refine ite2 (fun g => ⟨_, rfl, if_pos g⟩) (fun g => if_neg g)
      · rw [pickD (fun h => lastM ws ms h)]
        refine comp_of (xs := ms.filter (fun h => lastM ws ms h)) (emb := D.int) (fun l => some (.int (vs l + ((lessM ms l).map (c · l)).sum))) (Nat.le_trans (List.length_filter_le _ _) (by omega)) (fun l hl => ?_) ?_
        · obtain ⟨hl1, hl2⟩ := List.mem_filter.mp hl
          exact ⟨ms, l, kvs, pa, (c · l), vs l, rfl, by omega, (hvs l hl1).1, fun m hm => hc m (hsm.subset (less_sub.subset hm)) l (hsm.subset hl1), _, rfl, rfl⟩
        · rw [mapD]
          refine ⟨(ms.filter (fun h => lastM ws ms h)).map fun l => vs l + ((lessM ms l).map (c · l)).sum, by rw [List.map_map]; rfl, ?_, fun M hM hle => ⟨_, _, keysD_tD ms, rfl, by omega, _, rfl, ht.put hnew (least_step ndm hu (fun l hl => (hvs l hl).2) ?_ ?_)⟩⟩
          · rw [List.length_map]
            exact List.length_pos_of_mem (List.mem_filter.mpr ⟨hl0, lastM_iff.mpr hl0'⟩)
          · obtain ⟨l, hl, e⟩ := List.mem_map.mp hM
            obtain ⟨hl1, hl2⟩ := List.mem_filter.mp hl
            exact ⟨l, hl1, hl2, e.symm⟩
          · intro l hl hlast
            exact hle _ (List.mem_map.mpr ⟨l, List.mem_filter.mpr ⟨hl, hlast⟩, rfl⟩)
    · rintro γ' ⟨kvs, rfl, ht⟩
      rw [List.take_length] at ht
      exact hR kvs ht
end
end T


namespace T
open PySem PySem.Spec PyProof.Rows L2 Own M
section
variable {P : Program} {w : World} {K : PySem.W.Frag} {mg : Str → Option Value} {base : Heap}
theorem ok_law_strips (G : Glob K mg) (D : Def K mg "_law_strips" s_law_strips ["_law_script", "_law_menu_here", "_law_many"])
    (c_law_draw : Callee P w K mg base CX0 2 "_law_draw" ["_law_script", "_law_k"] (sp_law_draw K))
    (c_law_holder : Callee P w K mg base CX0 1 "_law_holder" ["_law_menu_here", "_law_k"] (sp_law_holder K))
    : Callee P w K mg base CX0 3 "_law_strips" ["_law_script", "_law_menu_here", "_law_many"] (sp_law_strips K) := by
  refine D.ok (k := 2) sc_law_strips (fun vs H Q E h => ?_) (fun f cdv A outer s H vs Q E hr h => ?_)
  · obtain ⟨a, l, ns, m, n, rfl, hA, hL, hM, h0, h1, q⟩ := h
    rfl
  · obtain ⟨a, l, ns, m, n, rfl, hA, hL, hM, h0, h1, q⟩ := h
    refine ⟨_, (pss_cons (ps_set (i := 3) sc_law_strips.nd rfl (by first | exact Or.inl rfl | exact Or.inr rfl) (pe_lst pa_nil))
      (pss_cons (ps_for PassesOwn.never rfl (pi_range1 rfl G.range (pa_cons (pv 2) pa_nil)) (pg_name (i := 4) sc_law_strips.nd rfl (by first | exact Or.inl rfl | exact Or.inr rfl))
      (pss_cons (ps_set (i := 5) sc_law_strips.nd rfl (by first | exact Or.inl rfl | exact Or.inr rfl) (Own.pe_fn c_law_draw (hr.mono (by decide)) pass0 (pa_cons (pv 0) (pa_cons (pe_op op_add pe_int (pv 4)) pa_nil))))
      (pss_cons (ps_set (i := 6) sc_law_strips.nd rfl (by first | exact Or.inl rfl | exact Or.inr rfl) (pe_op op_add (pe_ix Own.ix_lt (pv 1) pe_int (fun _ _ => rfl)) (pe_op op_mod (pe_op op_fdiv (pv 5) (pe_ix Own.ix_lt (pv 1) pe_int (fun _ _ => rfl))) (pe_ix Own.ix_lt (pv 1) pe_int (fun _ _ => rfl)))))
      (pss_one (ps_expr (pe_bm PySem.F.plainAttrs_list PySem.F.slot_list_append PySem.F.type_list_append mt_append (pv 3) (pa_cons (pe_tup (pa_cons (Own.pe_fn c_law_holder (hr.mono (by decide)) pass0 (pa_cons (pv 1) (pa_cons (pe_op op_mod (pv 5) (pe_ix Own.ix_lt (pv 1) pe_int (fun _ _ => rfl))) pa_nil))) (pa_cons (pv 6) pa_nil))) pa_nil)))))))
      (pss_one (ps_ret (pv 3))))), ?_⟩
    have hMM := hM
    obtain ⟨m0, m1, m2, m3, m4, em, ha, hb, hc, hd, he⟩ := hM
    refine ⟨by decide, fun p np => ?_⟩
    have S0 : Same H (upd H p (.lst [])) := same_upd np
    refine ⟨_, rfl, _, rfl, by omega, by omega, for_range (fun i σ H2 => ∃ (vs : List V) (x y z : Option V), σ = [some (.ref a), some (.ref l), some (.int n), some (.ref p), x, y, z] ∧ Same H H2 ∧ H2 p = some (.lst vs) ∧ LV PairR H2 vs (stripsM ns m i)) ⟨[], none, none, none, rfl, S0, upd_same, LV.nil⟩ ?_ ?_⟩
    · rintro i σ H2 hi ⟨vs, x, y, z, rfl, S, hp, hv⟩
      have hA2 := S.seq hA
      have hL2 := S.seq hL
      refine ⟨_, rfl, _, rfl, _, _, rfl, rfl, a, ns, _, rfl, hA2, by omega, ?_⟩
      rw [em] at hL2
      have ez : (0 : Int) + (i : Int) = (i : Int) := by omega
      refine ⟨_, rfl, .inl ⟨_, _, _, _, rfl, rfl, hL2, rfl, _, rfl, _, rfl, .inl ⟨_, _, _, _, rfl, rfl, hL2, rfl, _, _, rfl, rfl, ⟨by omega, by omega⟩, _, rfl, .inl ⟨_, _, _, _, rfl, rfl, hL2, rfl, _, _, rfl, rfl, (by show 0 < m3; omega), _, _, rfl, rfl, ?_⟩⟩⟩⟩
      refine ⟨_, rfl, .inl ⟨rfl, _, SqL.of hp⟩, _, rfl, _, rfl, _, rfl, .inl ⟨_, _, _, _, rfl, rfl, hL2, rfl, _, _, rfl, rfl, (by show 0 < m0; omega), l, m, _, rfl, (by rw [em]; exact hL2), hMM, _, rfl, (by show 2 ≤ sizeLine; decide), fun t nt => ?_⟩⟩
      have npt : p ≠ t := ne_of_none hp nt
      refine ⟨p, vs, _, rfl, rfl, by rw [upd_ne npt]; exact hp, small1000 (by rw [hv.1, stripsM_len]; omega), ?_⟩
      have nt0 : H t = none := S.free nt
      refine ⟨_, _, _, _, rfl, fun b o e => ?_, upd_same, ?_⟩
      · rw [upd_ne (ne_of_none e np), upd_ne (ne_of_none e nt0)]
        exact S b o e
      · have key : ∀ v q, PairR H2 v q → PairR (upd (upd H2 t (.tup [V.int (holderM m (drawM ns (2 + (0 + (i : Int))) % m0)), V.int (m4 + drawM ns (2 + (0 + (i : Int))) / m0 % m3)])) p (.lst (vs ++ [V.ref t]))) v q := by
          rintro v q ⟨b, eb, hb'⟩
          have hbp : b ≠ p := by
            intro z
            rw [z, hp] at hb'
            cases hb'
          exact ⟨b, eb, by rw [upd_ne hbp, upd_ne (ne_of_none hb' nt)]; exact hb'⟩
        rw [stripsM_succ]
        refine LV.snoc ⟨hv.1, fun j x ex => let ⟨v, e1, e2⟩ := hv.2 j x ex; ⟨v, e1, key _ _ e2⟩⟩ ⟨t, rfl, ?_⟩
        rw [upd_ne npt.symm, upd_same]
        unfold stripM
        rw [em, ez]
        rfl
    · rintro σ H2 ⟨vs, x, y, z, rfl, S, hp, hv⟩
      exact ⟨_, rfl, q p H2 np S ⟨vs, hp, hv⟩⟩
end
end T


namespace T
open PySem PySem.Spec PyProof.Rows L2 Own M
section
variable {P : Program} {w : World} {K : PySem.W.Frag} {mg : Str → Option Value} {base : Heap}
theorem ok_law_wishes (G : Glob K mg) (D : Def K mg "_law_wishes" s_law_wishes ["_law_script", "_law_menu_here"])
    (c_law_draw : Callee P w K mg base CX0 2 "_law_draw" ["_law_script", "_law_k"] (sp_law_draw K))
    (c_law_holder : Callee P w K mg base CX0 1 "_law_holder" ["_law_menu_here", "_law_k"] (sp_law_holder K))
    : Callee P w K mg base CX0 3 "_law_wishes" ["_law_script", "_law_menu_here"] (sp_law_wishes K) := by
  refine D.ok (k := 2) sc_law_wishes (fun vs H Q E h => ?_) (fun f cdv A outer s H vs Q E hr h => ?_)
  · obtain ⟨a, l, ns, m, rfl, hA, hL, hM, q⟩ := h
    rfl
  · obtain ⟨a, l, ns, m, rfl, hA, hL, hM, q⟩ := h
    refine ⟨_, (pss_cons (ps_set (i := 2) sc_law_wishes.nd rfl (by first | exact Or.inl rfl | exact Or.inr rfl) (Own.pe_fn c_law_draw (hr.mono (by decide)) pass0 (pa_cons (pv 0) (pa_cons pe_int pa_nil))))
      (pss_cons (ps_set (i := 3) sc_law_wishes.nd rfl (by first | exact Or.inl rfl | exact Or.inr rfl) (pe_ix Own.ix_lt (pe_lst (pa_cons pe_int (pa_cons (pe_callB (call_max2 rfl) (by rfl) G.max boot_max (pa_cons pe_int (pa_cons (pe_ix Own.ix_lt (pv 1) pe_int (fun _ _ => rfl)) pa_nil))) pa_nil))) (pe_op op_mod (pe_op op_fdiv (pv 2) pe_int) pe_int) (fun _ _ => rfl)))
      (pss_cons (ps_set (i := 4) sc_law_wishes.nd rfl (by first | exact Or.inl rfl | exact Or.inr rfl) (pe_lst pa_nil))
      (pss_cons (ps_for PassesOwn.never rfl (pi_range1 rfl G.range (pa_cons (pe_op op_mod (pv 2) pe_int) pa_nil)) (pg_name (i := 5) sc_law_wishes.nd rfl (by first | exact Or.inl rfl | exact Or.inr rfl))
      (pss_cons (ps_set (i := 6) sc_law_wishes.nd rfl (by first | exact Or.inl rfl | exact Or.inr rfl) (Own.pe_fn c_law_draw (hr.mono (by decide)) pass0 (pa_cons (pv 0) (pa_cons (pe_op op_add pe_int (pv 5)) pa_nil))))
      (pss_cons (ps_set (i := 7) sc_law_wishes.nd rfl (by first | exact Or.inl rfl | exact Or.inr rfl) (pe_op op_mod (pv 6) (pv 3)))
      (pss_cons (ps_set (i := 8) sc_law_wishes.nd rfl (by first | exact Or.inl rfl | exact Or.inr rfl) (pe_op op_mod (pe_op op_add (pe_op op_add (pv 7) pe_int) (pe_op op_mod (pe_op op_fdiv (pv 6) (pv 3)) (pe_op op_sub (pv 3) pe_int))) (pv 3)))
      (Own.pss_join (ps_if (PW.pt (pw_and (pt_cmpR op_gt (pe_op op_mod (pe_op op_fdiv (pv 2) pe_int) pe_int) pe_int (nomark _)) (pw_and1 (pt_cmpR op_gt (pv 7) (pv 8) (nomark _)))))
      (pss_one (ps_par (i := 7) (j := 8) rfl sc_law_wishes.nd rfl rfl (by decide) rfl rfl (pa_cons (pv 8) (pa_cons (pv 7) pa_nil)) (by rfl)))
      pss_nil)
      (pss_cons (ps_set (i := 9) sc_law_wishes.nd rfl (by first | exact Or.inl rfl | exact Or.inr rfl) (pe_tup (pa_cons (Own.pe_fn c_law_holder (hr.mono (by decide)) pass0 (pa_cons (pv 1) (pa_cons (pv 7) pa_nil))) (pa_cons (Own.pe_fn c_law_holder (hr.mono (by decide)) pass0 (pa_cons (pv 1) (pa_cons (pv 8) pa_nil))) pa_nil))))
      (pss_one (ps_if (pt_cmpR (Own.op_notInP (show _ < cLine from hu_of hr)) (pv 9) (pv 4) (by with_unfolding_all rfl))
      (pss_one (ps_expr (pe_bm PySem.F.plainAttrs_list PySem.F.slot_list_append PySem.F.type_list_append mt_append (pv 4) (pa_cons (pv 9) pa_nil))))
      pss_nil))))))))
      (pss_one (ps_ret (pv 4))))))), ?_⟩
    have hMM := hM
    obtain ⟨m0, m1, m2, m3, m4, em, ha, hb, hc, hd, he⟩ := hM
    have hL' := hL
    rw [em] at hL'
    refine ⟨_, rfl, a, ns, 1, rfl, hA, by decide, ?_⟩
    generalize eh : drawM ns 1 = how
    refine ⟨_, rfl, .inl ⟨_, _, _, _, rfl, rfl, hL', rfl, _, _, rfl, (by show 2 ≤ sizeLine; decide), fun l1 n1 => ⟨_, rfl, _, _, rfl, rfl, ⟨by decide, by decide⟩, _, _, rfl, rfl, (by show (0 : Int) < 2; decide), .inl ⟨_, _, _, _, rfl, rfl, SqL.of upd_same, getD_of (xs := [10, if m0 > 2 then m0 else 2]) (by omega) (by show how / 63 % 2 < 2; omega), ?_⟩⟩⟩⟩
    have hpool : 2 ≤ [10, if m0 > 2 then m0 else 2].getD (how / 63 % 2).toNat 0 ∧ [10, if m0 > 2 then m0 else 2].getD (how / 63 % 2).toNat 0 ≤ 10 := by
      have : how / 63 % 2 = 0 ∨ how / 63 % 2 = 1 := by omega
      rcases this with e | e <;> rw [e] <;> show 2 ≤ _ ∧ _ ≤ (10 : Int) <;> simp <;> (try split) <;> omega
    generalize [10, if m0 > 2 then m0 else 2].getD (how / 63 % 2).toNat 0 = pool at hpool ⊢
    refine ⟨by decide, fun p np => ?_⟩
    have S0 : Same H (upd (upd H l1 (.lst ([10, if m0 > 2 then m0 else 2].map V.int))) p (.lst [])) := Own.Same.new (same_upd n1) np
    have np0 : H p = none := (same_upd n1).free np
    refine ⟨_, rfl, _, _, rfl, rfl, (by show (0 : Int) < 21; decide), _, rfl, (by show _ ≤ how % 21; omega), (by show how % 21 < _; omega), for_range (fun i σ H2 => ∃ (ws : List (Int × Int)) (x1 x2 x3 x4 x5 : Option V), σ = [some (.ref a), some (.ref l), some (.int how), some (.int pool), some (.ref p), x1, x2, x3, x4, x5] ∧ Same H H2 ∧ LAt PairR H2 p ws ∧ ws.length ≤ i ∧ ws.Nodup ∧ ∀ q ∈ ws, (1 ≤ q.1 ∧ q.1 ≤ 10 ∧ 1 ≤ q.2 ∧ q.2 ≤ 10) ∧ q.1 ≠ q.2) ⟨[], none, none, none, none, none, rfl, S0, ⟨[], upd_same, LV.nil⟩, Nat.le_refl _, List.nodup_nil, fun q hq => by cases hq⟩ ?_ ?_⟩
    · rintro i σ H2 hi ⟨ws, x1, x2, x3, x4, x5, rfl, S, hp, hlen, hnd, hin⟩
      have hA2 := S.seq hA
      have hL2 := S.seq hL
      refine ⟨_, rfl, _, rfl, _, _, rfl, rfl, a, ns, _, rfl, hA2, by omega, ?_⟩
      generalize drawM ns (42 + (0 + (i : Int))) = cell
      refine ⟨_, rfl, _, rfl, _, _, rfl, rfl, (by show 0 < pool; omega), ?_⟩
      refine ⟨_, rfl, _, _, rfl, rfl, _, rfl, _, rfl, _, _, rfl, rfl, ⟨by omega, by omega⟩, _, rfl, _, _, rfl, rfl, _, _, rfl, rfl, (by show 0 < pool - 1; omega), _, _, rfl, rfl, _, rfl, _, _, rfl, rfl, (by show 0 < pool; omega), ?_⟩
      have fit : (0 ≤ cell % pool ∧ cell % pool ≤ 9) ∧ (0 ≤ (cell % pool + 1 + cell / pool % (pool - 1)) % pool ∧ (cell % pool + 1 + cell / pool % (pool - 1)) % pool ≤ 9) ∧ cell % pool ≠ (cell % pool + 1 + cell / pool % (pool - 1)) % pool := by
        have g1 := Int.emod_nonneg cell (show pool ≠ 0 by omega)
        have g2 := Int.emod_lt_of_pos cell (show 0 < pool by omega)
        have g3 := Int.emod_nonneg (cell / pool) (show pool - 1 ≠ 0 by omega)
        have g4 := Int.emod_lt_of_pos (cell / pool) (show 0 < pool - 1 by omega)
        obtain ⟨⟨k1, k2⟩, k3⟩ := two_ne ⟨g1, g2⟩ ⟨g3, g4⟩
        exact ⟨⟨g1, by omega⟩, ⟨k1, by omega⟩, k3⟩
      refine ⟨fun σ' H' => H2 = H' ∧ ∃ (o t : Int), ((0 ≤ o ∧ o ≤ 9) ∧ (0 ≤ t ∧ t ≤ 9) ∧ o ≠ t) ∧ σ' = [some (.ref a), some (.ref l), some (.int how), some (.int pool), some (.ref p), some (.int (0 + (i : Int))), some (.int cell), some (.int o), some (.int t), x5], ?_, ?_⟩
      · refine ⟨_, rfl, _, _, rfl, rfl, ⟨by decide, by decide⟩, _, _, rfl, rfl, (by show (0 : Int) < 3; decide), _, _, rfl, rfl, _, rfl, ite2 (fun _ => ?_) (fun _ => ⟨rfl, _, _, fit, rfl⟩)⟩
        refine ⟨_, rfl, _, rfl, _, _, rfl, rfl, _, rfl, ite2 (fun _ => ?_) (fun _ => ⟨rfl, _, _, fit, rfl⟩)⟩
        exact ⟨_, rfl, _, rfl, _, _, rfl, rfl, _, _, ⟨fit.2.1, fit.1, fun z => fit.2.2 z.symm⟩, rfl⟩
      · rintro σ' H' ⟨rfl, o, t', hot, rfl⟩
        refine ⟨_, rfl, _, rfl, l, m, o, rfl, hL2, hMM, _, rfl, _, rfl, l, m, t', rfl, hL2, hMM, (by show 2 ≤ sizeLine; decide), fun t nt => ?_⟩
        have b1 := holderM_in (m := m) o
        have b2 := holderM_in (m := m) t'
        have b3 := holderM_ne hMM hot.1 hot.2.1 hot.2.2
        generalize holderM m o = h1 at b1 b3 ⊢
        generalize holderM m t' = h2 at b2 b3 ⊢
        have St := same_upd (o := .tup [.int h1, .int h2]) nt
        have ht : (upd H2 t (.tup [.int h1, .int h2])) t = some (.tup [.int h1, .int h2]) := upd_same
        have hp3 := hp.mono PairR.mono St
        have S3 := S.trans St
        generalize upd H2 t (.tup [.int h1, .int h2]) = H3 at St ht hp3 S3 ⊢
        refine ⟨_, rfl, _, rfl, p, ws, (h1, h2), rfl, ⟨t, rfl, ht⟩, hp3, _, rfl, ite2 (fun g => ?_) (fun g => ?_)⟩
        · have g' : ¬ (h1, h2) ∈ ws := fun z => by rw [if_pos rfl, decide_eq_true z] at g; cases g
          obtain ⟨vs, hv1, hv2⟩ := id hp3
          refine ⟨_, rfl, .inl ⟨rfl, _, SqL.of hv1⟩, _, rfl, p, vs, _, rfl, rfl, hv1, small1000 (by rw [hv2.1]; omega), ?_⟩
          refine ⟨ws ++ [(h1, h2)], _, _, _, _, _, rfl, fun b o e => ?_, ⟨_, upd_same, ?_⟩, by rw [List.length_append]; show ws.length + 1 ≤ i + 1; omega, ?_, ?_⟩
          · rw [upd_ne (ne_of_none e np0)]
            exact S3 b o e
          · have key : ∀ v q, PairR H3 v q → PairR (upd H3 p (.lst (vs ++ [V.ref t]))) v q := by
              rintro v q ⟨b, eb, hb'⟩
              refine ⟨b, eb, ?_⟩
              rw [upd_ne (fun z => by rw [z, hv1] at hb'; cases hb')]
              exact hb'
            exact LV.snoc ⟨hv2.1, fun j x ex => let ⟨v, e1, e2⟩ := hv2.2 j x ex; ⟨v, e1, key _ _ e2⟩⟩ (key _ _ ⟨t, rfl, ht⟩)
          · rw [List.nodup_append]
            exact ⟨hnd, by simp, fun x hx y hy e => by rw [List.mem_singleton] at hy; subst hy; exact g' (e ▸ hx)⟩
          · intro q hq
            rcases List.mem_append.mp hq with hq | hq
            · exact hin q hq
            · rw [List.mem_singleton.mp hq]
              exact ⟨⟨b1.1, b1.2, b2.1, b2.2⟩, b3⟩
        · exact ⟨ws, _, _, _, _, _, rfl, S3, hp3, by omega, hnd, hin⟩
    · rintro σ H2 ⟨ws, x1, x2, x3, x4, x5, rfl, S, hp, hlen, hnd, hin⟩
      refine ⟨_, rfl, q p H2 ws np0 S hp ⟨by omega, hnd, hin⟩⟩
end
end T


namespace T
open PySem PySem.Spec PyProof.Rows L2 Own M Pu
section
variable {P : Program} {w : World} {K : PySem.W.Frag} {mg : Str → Option Value} {base : Heap}
theorem ok_check_no_ring (G : Glob K mg) (DD : Def K mg "check_no_ring" s_check_no_ring ["strips", "wishes"])
    (c_find_ring : Callee P w K mg base CX0 3 "find_ring" ["holders", "wishes"] (Pu.spOf mg pc_find_ring K))
    (c_holders_of : Callee P w K mg base CX0 1 "holders_of" ["strips"] (Pu.spOf mg pc_holders_of K))
    : Callee P w K mg base CX0 4 "check_no_ring" ["strips", "wishes"] (Pu.spOf mg pc_check_no_ring K) := by
  refine DD.ok (k := 3) sc_check_no_ring (fun vs H Q E h => spOf_len h (fun ds R X h => ?_)) (fun f cdv A outer s H vs Q E hr h => ?_)
  · obtain ⟨ps, ws, rfl, hF, hz, hu, hN, hR⟩ := h
    rfl
  · refine ⟨_, (pss_cons (ps_set (i := 2) sc_check_no_ring.nd rfl (by first | exact Or.inl rfl | exact Or.inr rfl) (Own.pe_fn c_find_ring (hr.mono (by decide)) pass0 (pa_cons (Own.pe_fn c_holders_of (hr.mono (by decide)) pass0 (pa_cons (pv 0) pa_nil)) (pa_cons (pv 1) pa_nil))))
      (pss_one (ps_if (Pu.pt_tru (K := K) (pv 2))
      (pss_one ps_never)
      pss_nil))), Pu.fn_use (n := 2) h
      (ss_seq (ss_asg (se_call (sa_cons (se_call (sa_cons (se_var 0) sa_nil)) (sa_cons (se_var 1) sa_nil))) (sg_name 2))
        (ss_if (st_tru (se_var 2)) ss_never ss_next)) (by decide) (fun ds R X h => ?_)⟩
    obtain ⟨ps, ws, rfl, hF, hz, hu, hN, hR⟩ := h
    refine ⟨rfl, ?_⟩
    refine ⟨ps, rfl, hF, hz, _, ws, rfl, (holdM_rising ps).imp (fun h => Int.ne_of_lt h), Nat.le_trans (holdM_len ps) (by decide), fun r hr hl => ?_⟩
    have e := (hr.none_iff hu).mpr hN
    subst e
    exact iteF (A := False) hR
end
end T


namespace T
open PySem PySem.Spec PyProof.Rows L2 Own M Pu
section
variable {P : Program} {w : World} {K : PySem.W.Frag} {mg : Str → Option Value} {base : Heap}
theorem ok_cost_table (G : Glob K mg) (DD : Def K mg "cost_table" s_cost_table ["strips", "wishes"])
    (c_check_no_ring : Callee P w K mg base CX0 4 "check_no_ring" ["strips", "wishes"] (Pu.spOf mg pc_check_no_ring K))
    (c_least_costs : Callee P w K mg base CX0 3 "least_costs" ["strips", "wishes", "pairs"] (Pu.spOf mg pc_least_costs K))
    (c_pair_costs : Callee P w K mg base CX0 2 "pair_costs" ["strips"] (Pu.spOf mg pc_pair_costs K))
    : Callee P w K mg base CX0 5 "cost_table" ["strips", "wishes"] (Pu.spOf mg pc_cost_table K) := by
  refine DD.ok (k := 4) sc_cost_table (fun vs H Q E h => spOf_len h (fun ds R X h => ?_)) (fun f cdv A outer s H vs Q E hr h => ?_)
  · obtain ⟨ps, ws, rfl, hF, hz, hw, hu, hN, hR⟩ := h
    rfl
  · refine ⟨_, (pss_cons (ps_expr (Own.pe_fn c_check_no_ring (hr.mono (by decide)) pass0 (pa_cons (pv 0) (pa_cons (pv 1) pa_nil))))
      (pss_cons (ps_set (i := 2) sc_cost_table.nd rfl (by first | exact Or.inl rfl | exact Or.inr rfl) (Own.pe_fn c_least_costs (hr.mono (by decide)) pass0 (pa_cons (pv 0) (pa_cons (pv 1) (pa_cons (Own.pe_fn c_pair_costs (hr.mono (by decide)) pass0 (pa_cons (pv 0) pa_nil)) pa_nil)))))
      (pss_one (ps_ret (pe_callTy (Own.call_listV rfl) (by rfl) G.list boot_list (pa_cons (Own.pe_valsK (K := K) (pv 2)) pa_nil)))))), Pu.fn_use (n := 2) h
      (ss_seq (ss_drop (se_call (sa_cons (se_var 0) (sa_cons (se_var 1) sa_nil))))
        (ss_seq (ss_asg (se_call (sa_cons (se_var 0) (sa_cons (se_var 1) (sa_cons (se_call (sa_cons (se_var 0) sa_nil)) sa_nil)))) (sg_name 2))
        (ss_ret (se_vals (se_var 2))))) (by decide) (fun ds R X h => ?_)⟩
    obtain ⟨ps, ws, rfl, hF, hz, hw, hu, hN, hR⟩ := h
    refine ⟨rfl, ?_⟩
    refine ⟨ps, ws, rfl, hF, hz, hu, hN, ps, rfl, hF, hz, fun pa hpa => ⟨ps, ws, pa, pcc ps, rfl, hF, hz, hw, hu, hpa, hasLast_of hu hN, fun kvs T => ?_⟩⟩
    have nd : (holdM ps).Nodup := (holdM_rising ps).imp (fun h => Int.ne_of_lt h)
    obtain ⟨vs, e, hv⟩ := T.vals (setsM_nodup nd)
    obtain ⟨e1, e2⟩ := scalBs_ints e
    refine ⟨kvs, rfl, e1, ?_⟩
    rw [e2]
    exact hR vs hv
end
end T

namespace M
open PySem PySem.Spec PyProof.Rows L2 Own Pu
noncomputable def tupLen (γ : List (Option Pu.S)) : Nat := match γ[4]? with
  | some (some (Pu.S.sh (Pu.D.tup ds))) => ds.length
  | _ => 0
end M

namespace T
open PySem PySem.Spec PyProof.Rows L2 Own M Pu
section
variable {P : Program} {w : World} {K : PySem.W.Frag} {mg : Str → Option Value} {base : Heap}
theorem ok_best_order (G : Glob K mg) (DD : Def K mg "best_order" s_best_order ["strips", "wishes"])
    (c_check_no_ring : Callee P w K mg base CX0 4 "check_no_ring" ["strips", "wishes"] (Pu.spOf mg pc_check_no_ring K))
    (c_pair_costs : Callee P w K mg base CX0 2 "pair_costs" ["strips"] (Pu.spOf mg pc_pair_costs K))
    (c_least_costs : Callee P w K mg base CX0 3 "least_costs" ["strips", "wishes", "pairs"] (Pu.spOf mg pc_least_costs K))
    (c_holders_of : Callee P w K mg base CX0 1 "holders_of" ["strips"] (Pu.spOf mg pc_holders_of K))
    (c_without : Callee P w K mg base CX0 1 "without" ["members", "holder"] (Pu.spOf mg pc_without K))
    (c_may_lie_first : Callee P w K mg base CX0 1 "may_lie_first" ["members", "holder", "wishes"] (Pu.spOf mg pc_may_lie_first K))
    (c_cost_with_first : Callee P w K mg base CX0 2 "cost_with_first" ["members", "first", "least", "pairs"] (Pu.spOf mg pc_cost_with_first K))
    : Callee P w K mg base CX0 5 "best_order" ["strips", "wishes"] (Pu.spOf mg pc_best_order K) := by
  refine DD.ok (k := 4) sc_best_order (fun vs H Q E h => spOf_len h (fun ds R X h => ?_)) (fun f cdv A outer s H vs Q E hr h => ?_)
  · obtain ⟨ps, ws, rfl, hF, hz, hw, hu, hN, hR⟩ := h
    rfl
  · refine ⟨_, (pss_cons (ps_expr (Own.pe_fn c_check_no_ring (hr.mono (by decide)) pass0 (pa_cons (pv 0) (pa_cons (pv 1) pa_nil))))
      (pss_cons (ps_set (i := 2) sc_best_order.nd rfl (by first | exact Or.inl rfl | exact Or.inr rfl) (Own.pe_fn c_pair_costs (hr.mono (by decide)) pass0 (pa_cons (pv 0) pa_nil)))
      (pss_cons (ps_set (i := 3) sc_best_order.nd rfl (by first | exact Or.inl rfl | exact Or.inr rfl) (Own.pe_fn c_least_costs (hr.mono (by decide)) pass0 (pa_cons (pv 0) (pa_cons (pv 1) (pa_cons (pv 2) pa_nil)))))
      (pss_cons (ps_set (i := 4) sc_best_order.nd rfl (by first | exact Or.inl rfl | exact Or.inr rfl) (pe_callTy (Pu.call_tupleK (K := K)) (by rfl) G.tuple boot_tuple (pa_cons (Own.pe_fn c_holders_of (hr.mono (by decide)) pass0 (pa_cons (pv 0) pa_nil)) pa_nil)))
      (pss_cons (ps_set (i := 5) sc_best_order.nd rfl (by first | exact Or.inl rfl | exact Or.inr rfl) (pe_lst pa_nil))
      (pss_cons (ps_while PassesOwn.never (Pu.pt_tru (K := K) (pv 4))
      (pss_cons (Own.ps_setComp (N' := ["holder", "members", "wishes"]) (φ := [none, some 4, some 1]) (i := 6) sc_best_order.nd rfl rfl rfl (Own.CompOk.of (by rfl)) (Pu.pi_tupK (K := K) (pv 4)) (fun _ _ _ _ _ => ⟨(pg_name (i := 0) (show (["holder", "members", "wishes"] : List Str).Nodup from by decide +kernel) rfl (by first | exact Or.inl rfl | exact Or.inr rfl)), (Own.pifs_one (Pu.pt_tru (K := K) (Own.pe_fn c_may_lie_first (hr.mono (by decide)) pass0 (pa_cons (pv 1) (pa_cons (pv 0) (pa_cons (pv 2) pa_nil)))))), (pv 0)⟩))
      (pss_cons (Own.ps_setComp (N' := ["first", "members", "least", "pairs"]) (φ := [none, some 4, some 3, some 2]) (i := 7) sc_best_order.nd rfl rfl rfl (Own.CompOk.of (by rfl)) (Pu.pi_listK (K := K) (pv 6)) (fun _ _ _ _ _ => ⟨(pg_name (i := 0) (show (["first", "members", "least", "pairs"] : List Str).Nodup from by decide +kernel) rfl (by first | exact Or.inl rfl | exact Or.inr rfl)), (Own.pifs_one (pt_cmpR (Pu.op_eqU (K := K) (show _ < cLine from hr.units0)) (Own.pe_fn c_cost_with_first (hr.mono (by decide)) pass0 (pa_cons (pv 1) (pa_cons (pv 0) (pa_cons (pv 2) (pa_cons (pv 3) pa_nil))))) (pe_dget (hu_of hr) (pv 2) (pv 1) (fun _ _ => rfl)) (nomark _))), (pv 0)⟩))
      (pss_cons (ps_expr (pe_bm PySem.F.plainAttrs_list PySem.F.slot_list_append PySem.F.type_list_append mt_append (pv 5) (pa_cons (pe_ix (Own.ix_ltK (K := K)) (pv 7) pe_int (fun _ _ => rfl)) pa_nil)))
      (pss_one (ps_set (i := 4) sc_best_order.nd rfl (by first | exact Or.inl rfl | exact Or.inr rfl) (Own.pe_fn c_without (hr.mono (by decide)) pass0 (pa_cons (pv 4) (pa_cons (pe_ix (Own.ix_ltK (K := K)) (pv 7) pe_int (fun _ _ => rfl)) pa_nil)))))))))
      (pss_one (ps_ret (pv 5))))))))), Pu.fn_use (n := 2) h
      (ss_seq (ss_drop (se_call (sa_cons (se_var 0) (sa_cons (se_var 1) sa_nil))))
        (ss_seq (ss_asg (se_call (sa_cons (se_var 0) sa_nil)) (sg_name 2))
        (ss_seq (ss_asg (se_call (sa_cons (se_var 0) (sa_cons (se_var 1) (sa_cons (se_var 2) sa_nil)))) (sg_name 3))
        (ss_seq (ss_asg (se_tuple (sa_cons (se_call (sa_cons (se_var 0) sa_nil)) sa_nil)) (sg_name 4))
        (ss_seq (ss_asg (se_lst sa_nil) (sg_name 5))
        (ss_seq (ss_while [6, 7] (st_tru (se_var 4))
        (ss_seq (ss_asg (se_comp (SndI.c (si_tup (se_var 4))) (sg_name 0) (st_tru (se_call (sa_cons (se_var 1) (sa_cons (se_var 0) (sa_cons (se_var 2) sa_nil))))) (se_var 0)) (sg_name 6))
        (ss_seq (ss_asg (se_comp (si_listC (se_var 6)) (sg_name 0) (st_test (se_eqU (se_call (sa_cons (se_var 1) (sa_cons (se_var 0) (sa_cons (se_var 2) (sa_cons (se_var 3) sa_nil))))) (se_dget (se_var 2) (se_var 1)))) (se_var 0)) (sg_name 7))
        (ss_seq (ss_append 5 (se_ix (se_var 7) se_int))
        (ss_asg (se_call (sa_cons (se_var 4) (sa_cons (se_ix (se_var 7) se_int) sa_nil))) (sg_name 4))))))
        (ss_retV 5))))))) (by decide) (fun ds R X h => ?_)⟩
    obtain ⟨ps, ws, rfl, hF, hz, hw, hu, hN, hR⟩ := h
    refine ⟨rfl, ?_⟩
    refine ⟨ps, ws, rfl, hF, hz, hu, hN, ps, rfl, hF, hz, fun pa hpa => ⟨ps, ws, pa, pcc ps, rfl, hF, hz, hw, hu, hpa, hasLast_of hu hN, fun kvs T => ⟨ps, rfl, hF, hz, ?_⟩⟩⟩
    have hh := holdM_len ps
    have hri := holdM_rising ps
    have nd : (holdM ps).Nodup := hri.imp (fun h => Int.ne_of_lt h)
    have hpa' : ∀ x ∈ holdM ps, ∀ y ∈ holdM ps, valV pa [.inl x, .inl y] = some (.int (pcc ps x y)) := hpa
    generalize pcc ps = c at *
    generalize holdM ps = hs at *
    refine ⟨rfl, by simp, while_of (fun γ' => ∃ (ms o : List Int), γ' = [some (.bor (.lst (ps.map prD))), some (.bor (.lst (ws.map prD))), some (.own (.dT pa)), some (.own (.dT kvs)), some (.sh (tD ms)), some (.own (o.map D.int)), none, none] ∧ ms ∈ setsM hs ∧ o.length + ms.length ≤ 10 ∧
      ∀ p, Best ws c ms p → Best ws c hs (o ++ p)) tupLen ⟨hs, [], rfl, List.mem_of_getLast? (setsM_getLast hs), by simpa using hh, fun p hp => hp⟩ ?_⟩
    rintro γ' ⟨ms, o, rfl, hms, hol, hB⟩
    show if (!(ms.map D.int).isEmpty) = true then _ else _
    refine ite2 (fun g => ?_) (fun g => ?_)
    · have hsm := setsM_sub hs ms hms
      have hne : ms ≠ [] := fun e => by subst e; simp at g
      have ndm : ms.Nodup := nd.sublist hsm
      have hrm := hri.sublist hsm
      have hless : ∀ l ∈ ms, lessM ms l ∈ setsM hs := fun l hl => by
        obtain ⟨k, hk, e⟩ := List.mem_iff_getElem.mp hms
        obtain ⟨j, _, ej⟩ := less_before nd k ms (by rw [List.getElem?_eq_getElem hk, e]) l hl
        exact List.mem_of_getElem? ej
      obtain ⟨vs, hvs⟩ := pick_fun fun l hl => T.val _ (hless l hl)
      obtain ⟨V, hV1, hV2⟩ := T.val ms hms
      have hv2 : ∀ l ∈ ms, Least ws c (lessM ms l) (vs l) := fun l hl => (hvs l hl).2
      have hsome : ∃ f rest, (ms.filter (fun h => firstM ws ms h)).filter (fun f => decide (vs f + ((lessM ms f).map (c f)).sum = V)) = f :: rest := by
        obtain ⟨q, q1, q2, q3⟩ := hV2.is
        cases q with
        | nil => exact absurd q1.nil_eq.symm hne
        | cons g p =>
          obtain ⟨r1, r2, r3, _⟩ := head_ok ndm hu hv2 hV2 q1 q2 q3
          exact List.exists_cons_of_ne_nil (List.ne_nil_of_mem (List.mem_filter.mpr ⟨List.mem_filter.mpr ⟨r1, r2⟩, decide_eq_true r3⟩))
      obtain ⟨f, rest, ef⟩ := hsome
      have hfm : f ∈ (ms.filter (fun h => firstM ws ms h)).filter (fun f => decide (vs f + ((lessM ms f).map (c f)).sum = V)) := by rw [ef]; exact List.mem_cons_self ..
      obtain ⟨hfm, hf3⟩ := List.mem_filter.mp hfm
      obtain ⟨hf1, hf2⟩ := List.mem_filter.mp hfm
      have hmin : ∀ g ∈ ms, firstM ws ms g = true → vs g + ((lessM ms g).map (c g)).sum = V → f ≤ g := fun g h1 h2 h3 => by
        have hg : g ∈ (ms.filter (fun h => firstM ws ms h)).filter (fun f => decide (vs f + ((lessM ms f).map (c f)).sum = V)) := List.mem_filter.mpr ⟨List.mem_filter.mpr ⟨h1, h2⟩, decide_eq_true h3⟩
        have hr : (f :: rest).Pairwise (· < ·) := by
          rw [← ef]
          exact (hrm.filter _).filter _
        rw [ef] at hg
        rcases List.mem_cons.mp hg with e | hg
        · omega
        · have := (List.pairwise_cons.mp hr).1 g hg
          omega
      refine ⟨_, rfl, comp_of (s := .sh .non) (xs := ms) (emb := D.int) (fun h => if firstM ws ms h = true then some (.int h) else none) (by omega) (fun h hm => ?_) ?_⟩
      · refine ⟨ms, h, ws, rfl, hw, ?_⟩
        refine ite2 (fun g => ⟨_, rfl, if_pos g⟩) (fun g => if_neg g)
      · rw [pickD (fun h => firstM ws ms h)]
        refine comp_of (xs := ms.filter (fun h => firstM ws ms h)) (emb := D.int) (fun f => if decide (vs f + ((lessM ms f).map (c f)).sum = V) = true then some (.int f) else none) (Nat.le_trans (List.length_filter_le _ _) (by omega)) (fun l hl => ?_) ?_
        · obtain ⟨hl1, hl2⟩ := List.mem_filter.mp hl
          refine ⟨ms, l, kvs, pa, c l, vs l, rfl, by omega, (hvs l hl1).1, fun m hm => hpa' l (hsm.subset hl1) m (hsm.subset (less_sub.subset hm)), _, _, keysD_tD ms, hV1, rfl, ?_⟩
          refine ite2 (fun g => ⟨_, rfl, if_pos g⟩) (fun g => if_neg g)
        · rw [pickD (fun f => decide (vs f + ((lessM ms f).map (c f)).sum = V)), ef]
          refine ⟨_, at_head _ _, by rw [List.length_map]; omega, _, at_head _ _, ms, f, rfl, by omega, ⟨lessM ms f, o ++ [f], ?_, hless f hf1, ?_, fun p hp => ?_⟩, ?_⟩
          · rw [List.map_append]
            rfl
          · have := (less_perm ndm hf1).length_eq
            rw [List.length_append]
            rw [List.length_cons] at this
            show o.length + 1 + _ ≤ 10
            omega
          · rw [List.append_assoc]
            exact hB _ (best_step ndm hu hv2 hV2 hf1 hf2 (of_decide_eq_true hf3) hmin hp)
          · have := (less_perm ndm hf1).length_eq
            rw [List.length_cons] at this
            show ((lessM ms f).map D.int).length < (ms.map D.int).length
            rw [List.length_map, List.length_map]
            omega
    · have e : ms = [] := by
        cases ms with
        | nil => rfl
        | cons a r => exact absurd rfl g
      subst e
      have := hB [] (best_nil ws c)
      rw [List.append_nil] at this
      exact hR o this
end
end T

namespace M
open PySem PySem.Spec PyProof.Rows L2 Own Pu
theorem at_end {α : Type} {xs : List α} {x : α} (h : xs[xs.length - 1]? = some x) : atI xs (-1) = some x := by
  have hi := (List.getElem?_eq_some_iff.mp h).1
  unfold atI ixN
  rw [if_neg (by omega), if_pos (by omega)]
  show xs[_]? = some x
  rw [← h]
  congr 1
  omega
end M

namespace T
open PySem PySem.Spec PyProof.Rows L2 Own M Pu
section
variable {P : Program} {w : World} {K : PySem.W.Frag} {mg : Str → Option Value} {base : Heap}
theorem ok_least_cost (G : Glob K mg) (DD : Def K mg "least_cost" s_least_cost ["strips", "wishes"])
    (c_cost_table : Callee P w K mg base CX0 5 "cost_table" ["strips", "wishes"] (Pu.spOf mg pc_cost_table K))
    : Callee P w K mg base CX0 6 "least_cost" ["strips", "wishes"] (Pu.spOf mg pc_least_cost K) := by
  refine DD.ok (k := 5) sc_least_cost (fun vs H Q E h => spOf_len h (fun ds R X h => ?_)) (fun f cdv A outer s H vs Q E hr h => ?_)
  · obtain ⟨ps, ws, rfl, hF, hz, hw, hu, hN, hR⟩ := h
    rfl
  · refine ⟨_, (pss_one (ps_ret (pe_ix (Own.ix_ltK (K := K)) (Own.pe_fn c_cost_table (hr.mono (by decide)) pass0 (pa_cons (pv 0) (pa_cons (pv 1) pa_nil))) (pe_un un_neg pe_int) (fun _ _ => rfl)))), Pu.fn_use (n := 2) h
      (ss_ret (se_ix (se_call (sa_cons (se_var 0) (sa_cons (se_var 1) sa_nil))) (se_neg se_int))) (by decide) (fun ds R X h => ?_)⟩
    obtain ⟨ps, ws, rfl, hF, hz, hw, hu, hN, hR⟩ := h
    refine ⟨rfl, ?_⟩
    refine ⟨ps, ws, rfl, hF, hz, hw, hu, hN, fun vs hv => ?_⟩
    have e1 := setsM_getLast (holdM ps)
    rw [List.getLast?_eq_getElem?] at e1
    have hi := (List.getElem?_eq_some_iff.mp e1).1
    have hl := hv.1
    obtain ⟨v, h2⟩ : ∃ v, vs[(setsM (holdM ps)).length - 1]? = some v := ⟨_, List.getElem?_eq_getElem (by omega)⟩
    have L := hv.2 _ _ _ e1 h2
    rw [← hl] at h2
    exact ⟨_, atI_map (f := D.int) (at_end h2), hR _ L⟩
end
end T

namespace M
open PySem PySem.Spec PyProof.Rows L2 Own Pu
noncomputable def wishLen (γ : List (Option Pu.S)) : Nat := match γ[3]? with
  | some (some (Pu.S.own (Pu.O.lst ds))) => ds.length
  | _ => 0
theorem oc_ordL (ps : List (Int × Int)) : ∀ o : List Int, oc (pcc ps) o = ordM ps ps.length o
  | [] => rfl
  | a :: r => by
    unfold oc ordM
    rw [oc_ordL ps r]
    rfl
theorem menu_five {m : List Int} (h : Menu m) : Menu (m.set 0 (1 + m.getD 0 0 % 5)) ∧ (m.set 0 (1 + m.getD 0 0 % 5)).getD 0 0 ≤ 5 := by
  obtain ⟨a, b, c, d, e, rfl, ha, r⟩ := h
  have : 1 ≤ 1 + a % 5 ∧ 1 + a % 5 ≤ 5 := by omega
  exact ⟨⟨1 + a % 5, b, c, d, e, rfl, ⟨this.1, by omega⟩, r⟩, this.2⟩
theorem hold_few {ns m : List Int} (h : Menu m) (hm : m.getD 0 0 ≤ 5) (n : Nat) : (holdM (stripsM ns m n)).length ≤ 5 := by
  have h0 : 1 ≤ m.getD 0 0 := by
    obtain ⟨a, b, c, d, e, rfl, ha, r⟩ := id h
    exact ha.1
  have nd : (holdM (stripsM ns m n)).Nodup := (holdM_rising _).imp (fun h => Int.ne_of_lt h)
  have := List.Nodup.length_le_of_subset (l₂ := (List.range 5).map fun k : Nat => holderM m (k : Int)) nd (by
    intro x hx
    obtain ⟨q, hq, rfl⟩ := List.mem_map.mp ((mem_holdM (stripsM_field h n)).mp hx)
    obtain ⟨j, _, rfl⟩ := List.mem_map.mp hq
    refine List.mem_map.mpr ⟨(drawM ns (2 + (j : Int)) % m.getD 0 0).toNat, List.mem_range.mpr ?_, ?_⟩
    · have q1 := Int.emod_nonneg (drawM ns (2 + (j : Int))) (show m.getD 0 0 ≠ 0 by omega)
      have q2 := Int.emod_lt_of_pos (drawM ns (2 + (j : Int))) (show 0 < m.getD 0 0 by omega)
      omega
    · have q1 := Int.emod_nonneg (drawM ns (2 + (j : Int))) (show m.getD 0 0 ≠ 0 by omega)
      show holderM m _ = holderM m _
      rw [Int.toNat_of_nonneg q1])
  rwa [List.length_map, List.length_range] at this
end M

namespace T
open PySem PySem.Spec PyProof.Rows L2 Own M Pu
section
variable {P : Program} {w : World} {K : PySem.W.Frag} {mg : Str → Option Value} {base : Heap}
theorem ok_law (G : Glob K mg) (DD : Def K mg "law" s_law ["_law_script"])
    (c_law_menu : Callee P w K mg base CX0 1 "_law_menu" ["_law_cell"] (Pu.spOf mg pc_law_menu K))
    (c_law_strips : Callee P w K mg base CX0 3 "_law_strips" ["_law_script", "_law_menu_here", "_law_many"] (Pu.spOf mg pc_law_strips K))
    (c_law_wishes : Callee P w K mg base CX0 3 "_law_wishes" ["_law_script", "_law_menu_here"] (Pu.spOf mg pc_law_wishes K))
    (c_best_order : Callee P w K mg base CX0 5 "best_order" ["strips", "wishes"] (Pu.spOf mg pc_best_order K))
    (c_least_cost : Callee P w K mg base CX0 6 "least_cost" ["strips", "wishes"] (Pu.spOf mg pc_least_cost K))
    (c_law_best : Callee P w K mg base CX0 2 "_law_best" ["_law_strips_here", "_law_wishes_here"] (Pu.spOf mg pc_law_best K))
    (c_law_draw : Callee P w K mg base CX0 2 "_law_draw" ["_law_script", "_law_k"] (Pu.spOf mg pc_law_draw K))
    (c_law_no_ring : Callee P w K mg base CX0 1 "_law_no_ring" ["_law_holders", "_law_wishes_here"] (Pu.spOf mg pc_law_no_ring K))
    (c_law_row : Callee P w K mg base CX0 2 "_law_row" ["_law_found", "_law_due"] (Pu.spOf mg pc_law_row K))
    (c_law_whole : Callee P w K mg base CX0 1 "_law_whole" ["_law_found"] (Pu.spOf mg pc_law_whole K))
    (c_law_present : Callee P w K mg base CX0 1 "_law_present" ["_law_strips_here"] (Pu.spOf mg pc_law_present K))
    (c_law_tuples : Callee P w K mg base CX0 2 "_law_tuples" ["_law_found", "_law_due"] (Pu.spOf mg pc_law_tuples K))
    (c_law_at : Callee P w K mg base CX0 1 "_law_at" ["_law_script", "_law_k"] (Pu.spOf mg pc_law_at K))
    : Callee P w K mg base CX0 7 "law" ["_law_script"] (Pu.spOf mg pc_law K) := by
  refine DD.ok (k := 6) sc_law (fun vs H Q E h => spOf_len h (fun ds R X h => ?_)) (fun f cdv A outer s H vs Q E hr h => ?_)
  · obtain ⟨ns, rfl, hR⟩ := h
    rfl
  · refine ⟨_, (pss_cons (ps_set (i := 1) sc_law.nd rfl (by first | exact Or.inl rfl | exact Or.inr rfl) (Own.pe_fn c_law_menu (hr.mono (by decide)) pass0 (pa_cons (Own.pe_fn c_law_draw (hr.mono (by decide)) pass0 (pa_cons (pv 0) (pa_cons pe_int pa_nil))) pa_nil)))
      (pss_cons (ps_asg (pe_op op_add pe_int (pe_op op_mod (pe_ix (Own.ix_ltK (K := K)) (pv 1) pe_int (fun _ _ => rfl)) pe_int)) (pg_sub (pv 1) pe_int set_list))
      (pss_cons (ps_set (i := 2) sc_law.nd rfl (by first | exact Or.inl rfl | exact Or.inr rfl) (Own.pe_fn c_law_strips (hr.mono (by decide)) pass0 (pa_cons (pv 0) (pa_cons (pv 1) (pa_cons (pe_op op_mod (pe_op op_fdiv (Own.pe_fn c_law_at (hr.mono (by decide)) pass0 (pa_cons (pv 0) (pa_cons pe_int pa_nil))) pe_int) pe_int) pa_nil)))))
      (pss_cons (ps_set (i := 3) sc_law.nd rfl (by first | exact Or.inl rfl | exact Or.inr rfl) (Own.pe_fn c_law_wishes (hr.mono (by decide)) pass0 (pa_cons (pv 0) (pa_cons (pv 1) pa_nil))))
      (pss_cons (ps_while PassesOwn.never (pt_not (Pu.pt_tru (K := K) (Own.pe_fn c_law_no_ring (hr.mono (by decide)) pass0 (pa_cons (Own.pe_fn c_law_present (hr.mono (by decide)) pass0 (pa_cons (pv 2) pa_nil)) (pa_cons (pv 3) pa_nil)))))
      (pss_one (ps_expr (pe_bm0 PySem.F.plainAttrs_list PySem.F.slot_list_pop PySem.F.type_list_pop mt_pop (pv 3)))))
      (pss_cons (ps_set (i := 4) sc_law.nd rfl (by first | exact Or.inl rfl | exact Or.inr rfl) (pe_callTy (Pu.call_listK (K := K)) (by rfl) G.list boot_list (pa_cons (pv 2) pa_nil)))
      (pss_cons (ps_set (i := 5) sc_law.nd rfl (by first | exact Or.inl rfl | exact Or.inr rfl) (pe_callTy (Pu.call_listK (K := K)) (by rfl) G.list boot_list (pa_cons (pv 3) pa_nil)))
      (pss_cons (ps_set (i := 6) sc_law.nd rfl (by first | exact Or.inl rfl | exact Or.inr rfl) (Own.pe_fn c_best_order (hr.mono (by decide)) pass0 (pa_cons (pv 4) (pa_cons (pv 5) pa_nil))))
      (pss_cons (ps_set (i := 7) sc_law.nd rfl (by first | exact Or.inl rfl | exact Or.inr rfl) (Own.pe_fn c_least_cost (hr.mono (by decide)) pass0 (pa_cons (pv 4) (pa_cons (pv 5) pa_nil))))
      (pss_cons (ps_if (PW.pt (pw_or (pt_not (Pu.pt_tru (K := K) (Own.pe_fn c_law_tuples (hr.mono (by decide)) pass0 (pa_cons (pv 4) (pa_cons (pv 2) pa_nil))))) (pw_or1 (pt_not (Pu.pt_tru (K := K) (Own.pe_fn c_law_tuples (hr.mono (by decide)) pass0 (pa_cons (pv 5) (pa_cons (pv 3) pa_nil))))))))
      (pss_one (ps_ret pe_bl))
      pss_nil)
      (pss_cons (ps_set (i := 8) sc_law.nd rfl (by first | exact Or.inl rfl | exact Or.inr rfl) (Own.pe_fn c_law_best (hr.mono (by decide)) pass0 (pa_cons (pv 2) (pa_cons (pv 3) pa_nil))))
      (pss_one (ps_ret (pe_and (Own.pe_fn c_law_row (hr.mono (by decide)) pass0 (pa_cons (pv 6) (pa_cons (pe_ix (Own.ix_ltK (K := K)) (pv 8) pe_int (fun _ _ => rfl)) pa_nil))) (pe_and (Own.pe_fn c_law_whole (hr.mono (by decide)) pass0 (pa_cons (pv 7) pa_nil)) (pe_one (pe_cmpR (Pu.op_eqU (K := K) (show _ < cLine from hr.units0)) (pv 7) (pe_ix (Own.ix_ltK (K := K)) (pv 8) pe_int (fun _ _ => rfl)) (nomark _)))))))))))))))))), Pu.fn_use (n := 1) h
      (ss_seq (ss_asg (se_call (sa_cons (se_call (sa_cons (se_var 0) (sa_cons se_int sa_nil))) sa_nil)) (sg_name 1))
        (ss_seq (ss_setI 1 se_int (se_add se_int (se_mod (se_ix (se_var 1) se_int) se_int)))
        (ss_seq (ss_asg (se_call (sa_cons (se_var 0) (sa_cons (se_var 1) (sa_cons (se_mod (se_fdiv (se_call (sa_cons (se_var 0) (sa_cons se_int sa_nil))) se_int) se_int) sa_nil)))) (sg_name 2))
        (ss_seq (ss_asg (se_call (sa_cons (se_var 0) (sa_cons (se_var 1) sa_nil))) (sg_name 3))
        (ss_seq (ss_while [] (st_not (st_tru (se_call (sa_cons (se_call (sa_cons (se_var 2) sa_nil)) (sa_cons (se_var 3) sa_nil)))))
        (ss_pop 3))
        (ss_seq (ss_asg (se_list (sa_cons (se_var 2) sa_nil)) (sg_name 4))
        (ss_seq (ss_asg (se_list (sa_cons (se_var 3) sa_nil)) (sg_name 5))
        (ss_seq (ss_asg (se_call (sa_cons (se_var 4) (sa_cons (se_var 5) sa_nil))) (sg_name 6))
        (ss_seq (ss_asg (se_call (sa_cons (se_var 4) (sa_cons (se_var 5) sa_nil))) (sg_name 7))
        (ss_seq (ss_if (st_or (st_not (st_tru (se_call (sa_cons (se_var 4) (sa_cons (se_var 2) sa_nil))))) (st_not (st_tru (se_call (sa_cons (se_var 5) (sa_cons (se_var 3) sa_nil)))))) (ss_ret se_bl) ss_next)
        (ss_seq (ss_asg (se_call (sa_cons (se_var 2) (sa_cons (se_var 3) sa_nil))) (sg_name 8))
        (ss_ret (se_andV (se_call (sa_cons (se_var 6) (sa_cons (se_ix (se_var 8) se_int) sa_nil))) (se_andV (se_call (sa_cons (se_var 7) sa_nil)) (se_eqU (se_var 7) (se_ix (se_var 8) se_int)))))))))))))))) (by decide) (fun ds R X h => ?_)⟩
    obtain ⟨ns, rfl, hR⟩ := h
    refine ⟨rfl, ?_⟩
    refine ⟨ns, 0, rfl, by decide, _, rfl, fun hM => ?_⟩
    generalize em : menuM (drawM ns 0) = m0 at hM ⊢
    obtain ⟨hM', hm5⟩ := menu_five hM
    obtain ⟨a, b, c, d, e, em', ha, hrest⟩ := id hM
    subst em'
    refine ⟨_, rfl, (by show (0 : Int) < 5; decide), _, _, rfl, rfl, ?_⟩
    have hm : ([a, b, c, d, e] : List Int).set 0 (1 + [a, b, c, d, e].getD 0 0 % 5) = [1 + a % 5, b, c, d, e] := rfl
    rw [hm] at hM' hm5
    generalize hmm : ([1 + a % 5, b, c, d, e] : List Int) = m at hM' hm5
    refine ⟨ns, 0, rfl, by decide, ⟨by decide, by decide⟩, (by show (0 : Int) < 13; decide), ns, m, ns.getD (0 : Int).toNat 0 / 2 % 13, ?_, hM', by omega, by omega, ?_⟩
    · rw [← hmm]; rfl
    generalize en : (ns.getD (0 : Int).toNat 0 / 2 % 13).toNat = n
    have hn : n ≤ 12 := by omega
    have hF := stripsM_field (ns := ns) hM' n
    have hlen := stripsM_len ns m n
    have hfew := hold_few (ns := ns) hM' hm5 n
    generalize eps : stripsM ns m n = ps at hF hlen hfew ⊢
    have nd : (holdM ps).Nodup := (holdM_rising ps).imp (fun h => Int.ne_of_lt h)
    refine ⟨ns, m, ?_, hM', fun ws0 hW => ?_⟩
    · rw [← hmm]; rfl
    have hW1 := hW.1
    refine while_of (fun γ' => ∃ (ws : List (Int × Int)), γ' = [some (.bor (.scr ns)), some (.own (([1 + a % 5, b, c, d, e] : List Int).map D.int)), some (.own (ps.map prD)), some (.own (ws.map prD)), none, none, none, none, none] ∧ ws.Sublist ws0) wishLen ⟨ws0, rfl, List.Sublist.refl _⟩ ?_
    rintro γ' ⟨ws, rfl, hsub⟩
    have hwl := hsub.length_le
    have hu : ∀ q ∈ ws, q.1 ≠ q.2 := fun q hq => (hW.2.2 q (hsub.subset hq)).2
    refine ⟨ps, rfl, by omega, holdM ps, ws, rfl, by omega, by omega, ?_⟩
    have lw : (ws.map prD).length = ws.length := List.length_map ..
    refine ite2 (fun g => ?_) (fun g => ?_)
    · have g' : ¬ peelsM ws (holdM ps) (holdM ps).length = [] := fun z => by rw [decide_eq_true z] at g; cases g
      have hne : ws ≠ [] := fun z => g' (by
        subst z
        exact (peel_iff hu).mpr fun ⟨r, R⟩ => by
          obtain ⟨x, hx⟩ : ∃ x, r[0]? = some x := ⟨_, List.getElem?_eq_getElem (by have := R.two; omega)⟩
          obtain ⟨y, hy⟩ : ∃ y, r[1]? = some y := ⟨_, List.getElem?_eq_getElem (by have := R.two; omega)⟩
          exact absurd (R.chain 0 x y hx hy) (by simp))
      have hpos : 0 < ws.length := List.length_pos_iff.mpr hne
      refine ⟨by omega, ⟨ws.dropLast, ?_, (List.dropLast_sublist ws).trans hsub⟩, ?_⟩
      · rw [List.map_dropLast]
        rfl
      · show (ws.map prD).dropLast.length < (ws.map prD).length
        rw [List.length_dropLast]
        omega
    · have g' : peelsM ws (holdM ps) (holdM ps).length = [] := by
        by_cases z : peelsM ws (holdM ps) (holdM ps).length = []
        · exact z
        · exact absurd (by rw [decide_eq_false z]; rfl) g
      have hN : ¬ ∃ r, Ring (holdM ps) ws r := (peel_iff hu).mp g'
      refine ⟨rfl, rfl, ps, ws, rfl, hF, by omega, by omega, hu, hN, fun o hB => ⟨ps, ws, rfl, hF, by omega, by omega, hu, hN, fun v hv => ?_⟩⟩
      refine ⟨ps, rfl, by omega, iteF ⟨ws, rfl, by omega, iteF ?_⟩⟩
      have hol := hB.perm.length_eq
      have hin : ∀ z : List Int, z.Perm (holdM ps) → ∀ p ∈ ps, p.1 ∈ z := fun z hz p hp => hz.mem_iff.mpr ((mem_holdM hF).mpr (List.mem_map.mpr ⟨p, hp, rfl⟩))
      have pri : ∀ z : List Int, z.Perm (holdM ps) → oc (pcc ps) z = priM ps z ps.length := fun z hz => by
        rw [oc_ordL]
        refine ord_pri (hz.nodup_iff.mpr nd) ps.length fun j hj => ?_
        rw [List.getD_eq_getElem?_getD, List.getElem?_eq_getElem hj]
        exact hin z hz _ (List.getElem_mem hj)
      have ev : v = priM ps o ps.length := by
        rw [← pri o hB.perm]
        exact hv.uniq ⟨⟨o, hB.perm, hB.keeps, rfl⟩, hB.le⟩
      refine ⟨ps, ws, o, rfl, hF, by omega, hfew, hB, ?_⟩
      refine ⟨_, rfl, o, rfl, by omega, v, rfl, _, rfl, ?_⟩
      show R (.sh (.bl (decide (v = priM ps o ps.length))))
      rw [decide_eq_true ev]
      exact hR
end
end T

namespace T
open PySem PySem.Spec PyProof.Rows L2 Own M
theorem all_mk {l : PySem.W.OpenLaw} {w : World} {K : PySem.W.Frag} {h : Heap} {mg : Str → Option Value} {fa : Addr} (X : K.In h) (G0 : h.Ns mainGlobals mg) (hfa : mg "law" = some (.ref fa))
    {f0 : Addr} {od0 an0 : Option Addr} {sl0 : Array (Option Value)} {oc0 kV0 dc0 pm0 cd0 ct0 : Value}
    (a0 : PySem.W.nsIn K mainGlobals "holders_of" = some (some (.ref f0)))
    (l0 : K.lookup f0 = some ⟨oc0, od0, .func (PySem.W.fnOf "holders_of" "holders_of" (defArgs s_holders_of) (defBody s_holders_of) (defScope s_holders_of) .none kV0 dc0 pm0 an0 cd0 ct0), sl0⟩)
    (c0 : PySem.W.codeIn K cd0 "holders_of" = true) (k0 : PySem.W.keepIn K (.ref f0) = true)
    {f1 : Addr} {od1 an1 : Option Addr} {sl1 : Array (Option Value)} {oc1 kV1 dc1 pm1 cd1 ct1 : Value}
    (a1 : PySem.W.nsIn K mainGlobals "pair_cost" = some (some (.ref f1)))
    (l1 : K.lookup f1 = some ⟨oc1, od1, .func (PySem.W.fnOf "pair_cost" "pair_cost" (defArgs s_pair_cost) (defBody s_pair_cost) (defScope s_pair_cost) .none kV1 dc1 pm1 an1 cd1 ct1), sl1⟩)
    (c1 : PySem.W.codeIn K cd1 "pair_cost" = true) (k1 : PySem.W.keepIn K (.ref f1) = true)
    {f2 : Addr} {od2 an2 : Option Addr} {sl2 : Array (Option Value)} {oc2 kV2 dc2 pm2 cd2 ct2 : Value}
    (a2 : PySem.W.nsIn K mainGlobals "longer_paths" = some (some (.ref f2)))
    (l2 : K.lookup f2 = some ⟨oc2, od2, .func (PySem.W.fnOf "longer_paths" "longer_paths" (defArgs s_longer_paths) (defBody s_longer_paths) (defScope s_longer_paths) .none kV2 dc2 pm2 an2 cd2 ct2), sl2⟩)
    (c2 : PySem.W.codeIn K cd2 "longer_paths" = true) (k2 : PySem.W.keepIn K (.ref f2) = true)
    {f3 : Addr} {od3 an3 : Option Addr} {sl3 : Array (Option Value)} {oc3 kV3 dc3 pm3 cd3 ct3 : Value}
    (a3 : PySem.W.nsIn K mainGlobals "ring_from" = some (some (.ref f3)))
    (l3 : K.lookup f3 = some ⟨oc3, od3, .func (PySem.W.fnOf "ring_from" "ring_from" (defArgs s_ring_from) (defBody s_ring_from) (defScope s_ring_from) .none kV3 dc3 pm3 an3 cd3 ct3), sl3⟩)
    (c3 : PySem.W.codeIn K cd3 "ring_from" = true) (k3 : PySem.W.keepIn K (.ref f3) = true)
    {f4 : Addr} {od4 an4 : Option Addr} {sl4 : Array (Option Value)} {oc4 kV4 dc4 pm4 cd4 ct4 : Value}
    (a4 : PySem.W.nsIn K mainGlobals "find_ring" = some (some (.ref f4)))
    (l4 : K.lookup f4 = some ⟨oc4, od4, .func (PySem.W.fnOf "find_ring" "find_ring" (defArgs s_find_ring) (defBody s_find_ring) (defScope s_find_ring) .none kV4 dc4 pm4 an4 cd4 ct4), sl4⟩)
    (c4 : PySem.W.codeIn K cd4 "find_ring" = true) (k4 : PySem.W.keepIn K (.ref f4) = true)
    {f5 : Addr} {od5 an5 : Option Addr} {sl5 : Array (Option Value)} {oc5 kV5 dc5 pm5 cd5 ct5 : Value}
    (a5 : PySem.W.nsIn K mainGlobals "check_no_ring" = some (some (.ref f5)))
    (l5 : K.lookup f5 = some ⟨oc5, od5, .func (PySem.W.fnOf "check_no_ring" "check_no_ring" (defArgs s_check_no_ring) (defBody s_check_no_ring) (defScope s_check_no_ring) .none kV5 dc5 pm5 an5 cd5 ct5), sl5⟩)
    (c5 : PySem.W.codeIn K cd5 "check_no_ring" = true) (k5 : PySem.W.keepIn K (.ref f5) = true)
    {f6 : Addr} {od6 an6 : Option Addr} {sl6 : Array (Option Value)} {oc6 kV6 dc6 pm6 cd6 ct6 : Value}
    (a6 : PySem.W.nsIn K mainGlobals "pair_costs" = some (some (.ref f6)))
    (l6 : K.lookup f6 = some ⟨oc6, od6, .func (PySem.W.fnOf "pair_costs" "pair_costs" (defArgs s_pair_costs) (defBody s_pair_costs) (defScope s_pair_costs) .none kV6 dc6 pm6 an6 cd6 ct6), sl6⟩)
    (c6 : PySem.W.codeIn K cd6 "pair_costs" = true) (k6 : PySem.W.keepIn K (.ref f6) = true)
    {f7 : Addr} {od7 an7 : Option Addr} {sl7 : Array (Option Value)} {oc7 kV7 dc7 pm7 cd7 ct7 : Value}
    (a7 : PySem.W.nsIn K mainGlobals "sets_of" = some (some (.ref f7)))
    (l7 : K.lookup f7 = some ⟨oc7, od7, .func (PySem.W.fnOf "sets_of" "sets_of" (defArgs s_sets_of) (defBody s_sets_of) (defScope s_sets_of) .none kV7 dc7 pm7 an7 cd7 ct7), sl7⟩)
    (c7 : PySem.W.codeIn K cd7 "sets_of" = true) (k7 : PySem.W.keepIn K (.ref f7) = true)
    {f8 : Addr} {od8 an8 : Option Addr} {sl8 : Array (Option Value)} {oc8 kV8 dc8 pm8 cd8 ct8 : Value}
    (a8 : PySem.W.nsIn K mainGlobals "without" = some (some (.ref f8)))
    (l8 : K.lookup f8 = some ⟨oc8, od8, .func (PySem.W.fnOf "without" "without" (defArgs s_without) (defBody s_without) (defScope s_without) .none kV8 dc8 pm8 an8 cd8 ct8), sl8⟩)
    (c8 : PySem.W.codeIn K cd8 "without" = true) (k8 : PySem.W.keepIn K (.ref f8) = true)
    {f9 : Addr} {od9 an9 : Option Addr} {sl9 : Array (Option Value)} {oc9 kV9 dc9 pm9 cd9 ct9 : Value}
    (a9 : PySem.W.nsIn K mainGlobals "may_lie_last" = some (some (.ref f9)))
    (l9 : K.lookup f9 = some ⟨oc9, od9, .func (PySem.W.fnOf "may_lie_last" "may_lie_last" (defArgs s_may_lie_last) (defBody s_may_lie_last) (defScope s_may_lie_last) .none kV9 dc9 pm9 an9 cd9 ct9), sl9⟩)
    (c9 : PySem.W.codeIn K cd9 "may_lie_last" = true) (k9 : PySem.W.keepIn K (.ref f9) = true)
    {f10 : Addr} {od10 an10 : Option Addr} {sl10 : Array (Option Value)} {oc10 kV10 dc10 pm10 cd10 ct10 : Value}
    (a10 : PySem.W.nsIn K mainGlobals "may_lie_first" = some (some (.ref f10)))
    (l10 : K.lookup f10 = some ⟨oc10, od10, .func (PySem.W.fnOf "may_lie_first" "may_lie_first" (defArgs s_may_lie_first) (defBody s_may_lie_first) (defScope s_may_lie_first) .none kV10 dc10 pm10 an10 cd10 ct10), sl10⟩)
    (c10 : PySem.W.codeIn K cd10 "may_lie_first" = true) (k10 : PySem.W.keepIn K (.ref f10) = true)
    {f11 : Addr} {od11 an11 : Option Addr} {sl11 : Array (Option Value)} {oc11 kV11 dc11 pm11 cd11 ct11 : Value}
    (a11 : PySem.W.nsIn K mainGlobals "cost_with_last" = some (some (.ref f11)))
    (l11 : K.lookup f11 = some ⟨oc11, od11, .func (PySem.W.fnOf "cost_with_last" "cost_with_last" (defArgs s_cost_with_last) (defBody s_cost_with_last) (defScope s_cost_with_last) .none kV11 dc11 pm11 an11 cd11 ct11), sl11⟩)
    (c11 : PySem.W.codeIn K cd11 "cost_with_last" = true) (k11 : PySem.W.keepIn K (.ref f11) = true)
    {f12 : Addr} {od12 an12 : Option Addr} {sl12 : Array (Option Value)} {oc12 kV12 dc12 pm12 cd12 ct12 : Value}
    (a12 : PySem.W.nsIn K mainGlobals "cost_with_first" = some (some (.ref f12)))
    (l12 : K.lookup f12 = some ⟨oc12, od12, .func (PySem.W.fnOf "cost_with_first" "cost_with_first" (defArgs s_cost_with_first) (defBody s_cost_with_first) (defScope s_cost_with_first) .none kV12 dc12 pm12 an12 cd12 ct12), sl12⟩)
    (c12 : PySem.W.codeIn K cd12 "cost_with_first" = true) (k12 : PySem.W.keepIn K (.ref f12) = true)
    {f13 : Addr} {od13 an13 : Option Addr} {sl13 : Array (Option Value)} {oc13 kV13 dc13 pm13 cd13 ct13 : Value}
    (a13 : PySem.W.nsIn K mainGlobals "least_costs" = some (some (.ref f13)))
    (l13 : K.lookup f13 = some ⟨oc13, od13, .func (PySem.W.fnOf "least_costs" "least_costs" (defArgs s_least_costs) (defBody s_least_costs) (defScope s_least_costs) .none kV13 dc13 pm13 an13 cd13 ct13), sl13⟩)
    (c13 : PySem.W.codeIn K cd13 "least_costs" = true) (k13 : PySem.W.keepIn K (.ref f13) = true)
    {f14 : Addr} {od14 an14 : Option Addr} {sl14 : Array (Option Value)} {oc14 kV14 dc14 pm14 cd14 ct14 : Value}
    (a14 : PySem.W.nsIn K mainGlobals "cost_table" = some (some (.ref f14)))
    (l14 : K.lookup f14 = some ⟨oc14, od14, .func (PySem.W.fnOf "cost_table" "cost_table" (defArgs s_cost_table) (defBody s_cost_table) (defScope s_cost_table) .none kV14 dc14 pm14 an14 cd14 ct14), sl14⟩)
    (c14 : PySem.W.codeIn K cd14 "cost_table" = true) (k14 : PySem.W.keepIn K (.ref f14) = true)
    {f15 : Addr} {od15 an15 : Option Addr} {sl15 : Array (Option Value)} {oc15 kV15 dc15 pm15 cd15 ct15 : Value}
    (a15 : PySem.W.nsIn K mainGlobals "best_order" = some (some (.ref f15)))
    (l15 : K.lookup f15 = some ⟨oc15, od15, .func (PySem.W.fnOf "best_order" "best_order" (defArgs s_best_order) (defBody s_best_order) (defScope s_best_order) .none kV15 dc15 pm15 an15 cd15 ct15), sl15⟩)
    (c15 : PySem.W.codeIn K cd15 "best_order" = true) (k15 : PySem.W.keepIn K (.ref f15) = true)
    {f16 : Addr} {od16 an16 : Option Addr} {sl16 : Array (Option Value)} {oc16 kV16 dc16 pm16 cd16 ct16 : Value}
    (a16 : PySem.W.nsIn K mainGlobals "least_cost" = some (some (.ref f16)))
    (l16 : K.lookup f16 = some ⟨oc16, od16, .func (PySem.W.fnOf "least_cost" "least_cost" (defArgs s_least_cost) (defBody s_least_cost) (defScope s_least_cost) .none kV16 dc16 pm16 an16 cd16 ct16), sl16⟩)
    (c16 : PySem.W.codeIn K cd16 "least_cost" = true) (k16 : PySem.W.keepIn K (.ref f16) = true)
    {f17 : Addr} {od17 an17 : Option Addr} {sl17 : Array (Option Value)} {oc17 kV17 dc17 pm17 cd17 ct17 : Value}
    (a17 : PySem.W.nsIn K mainGlobals "_law_at" = some (some (.ref f17)))
    (l17 : K.lookup f17 = some ⟨oc17, od17, .func (PySem.W.fnOf "_law_at" "_law_at" (defArgs s_law_at) (defBody s_law_at) (defScope s_law_at) .none kV17 dc17 pm17 an17 cd17 ct17), sl17⟩)
    (c17 : PySem.W.codeIn K cd17 "_law_at" = true) (k17 : PySem.W.keepIn K (.ref f17) = true)
    {f18 : Addr} {od18 an18 : Option Addr} {sl18 : Array (Option Value)} {oc18 kV18 dc18 pm18 cd18 ct18 : Value}
    (a18 : PySem.W.nsIn K mainGlobals "_law_whole" = some (some (.ref f18)))
    (l18 : K.lookup f18 = some ⟨oc18, od18, .func (PySem.W.fnOf "_law_whole" "_law_whole" (defArgs s_law_whole) (defBody s_law_whole) (defScope s_law_whole) .none kV18 dc18 pm18 an18 cd18 ct18), sl18⟩)
    (c18 : PySem.W.codeIn K cd18 "_law_whole" = true) (k18 : PySem.W.keepIn K (.ref f18) = true)
    {f19 : Addr} {od19 an19 : Option Addr} {sl19 : Array (Option Value)} {oc19 kV19 dc19 pm19 cd19 ct19 : Value}
    (a19 : PySem.W.nsIn K mainGlobals "_law_mix" = some (some (.ref f19)))
    (l19 : K.lookup f19 = some ⟨oc19, od19, .func (PySem.W.fnOf "_law_mix" "_law_mix" (defArgs s_law_mix) (defBody s_law_mix) (defScope s_law_mix) .none kV19 dc19 pm19 an19 cd19 ct19), sl19⟩)
    (c19 : PySem.W.codeIn K cd19 "_law_mix" = true) (k19 : PySem.W.keepIn K (.ref f19) = true)
    {f20 : Addr} {od20 an20 : Option Addr} {sl20 : Array (Option Value)} {oc20 kV20 dc20 pm20 cd20 ct20 : Value}
    (a20 : PySem.W.nsIn K mainGlobals "_law_draw" = some (some (.ref f20)))
    (l20 : K.lookup f20 = some ⟨oc20, od20, .func (PySem.W.fnOf "_law_draw" "_law_draw" (defArgs s_law_draw) (defBody s_law_draw) (defScope s_law_draw) .none kV20 dc20 pm20 an20 cd20 ct20), sl20⟩)
    (c20 : PySem.W.codeIn K cd20 "_law_draw" = true) (k20 : PySem.W.keepIn K (.ref f20) = true)
    {f21 : Addr} {od21 an21 : Option Addr} {sl21 : Array (Option Value)} {oc21 kV21 dc21 pm21 cd21 ct21 : Value}
    (a21 : PySem.W.nsIn K mainGlobals "_law_menu" = some (some (.ref f21)))
    (l21 : K.lookup f21 = some ⟨oc21, od21, .func (PySem.W.fnOf "_law_menu" "_law_menu" (defArgs s_law_menu) (defBody s_law_menu) (defScope s_law_menu) .none kV21 dc21 pm21 an21 cd21 ct21), sl21⟩)
    (c21 : PySem.W.codeIn K cd21 "_law_menu" = true) (k21 : PySem.W.keepIn K (.ref f21) = true)
    {f22 : Addr} {od22 an22 : Option Addr} {sl22 : Array (Option Value)} {oc22 kV22 dc22 pm22 cd22 ct22 : Value}
    (a22 : PySem.W.nsIn K mainGlobals "_law_holder" = some (some (.ref f22)))
    (l22 : K.lookup f22 = some ⟨oc22, od22, .func (PySem.W.fnOf "_law_holder" "_law_holder" (defArgs s_law_holder) (defBody s_law_holder) (defScope s_law_holder) .none kV22 dc22 pm22 an22 cd22 ct22), sl22⟩)
    (c22 : PySem.W.codeIn K cd22 "_law_holder" = true) (k22 : PySem.W.keepIn K (.ref f22) = true)
    {f23 : Addr} {od23 an23 : Option Addr} {sl23 : Array (Option Value)} {oc23 kV23 dc23 pm23 cd23 ct23 : Value}
    (a23 : PySem.W.nsIn K mainGlobals "_law_strips" = some (some (.ref f23)))
    (l23 : K.lookup f23 = some ⟨oc23, od23, .func (PySem.W.fnOf "_law_strips" "_law_strips" (defArgs s_law_strips) (defBody s_law_strips) (defScope s_law_strips) .none kV23 dc23 pm23 an23 cd23 ct23), sl23⟩)
    (c23 : PySem.W.codeIn K cd23 "_law_strips" = true) (k23 : PySem.W.keepIn K (.ref f23) = true)
    {f24 : Addr} {od24 an24 : Option Addr} {sl24 : Array (Option Value)} {oc24 kV24 dc24 pm24 cd24 ct24 : Value}
    (a24 : PySem.W.nsIn K mainGlobals "_law_wishes" = some (some (.ref f24)))
    (l24 : K.lookup f24 = some ⟨oc24, od24, .func (PySem.W.fnOf "_law_wishes" "_law_wishes" (defArgs s_law_wishes) (defBody s_law_wishes) (defScope s_law_wishes) .none kV24 dc24 pm24 an24 cd24 ct24), sl24⟩)
    (c24 : PySem.W.codeIn K cd24 "_law_wishes" = true) (k24 : PySem.W.keepIn K (.ref f24) = true)
    {f25 : Addr} {od25 an25 : Option Addr} {sl25 : Array (Option Value)} {oc25 kV25 dc25 pm25 cd25 ct25 : Value}
    (a25 : PySem.W.nsIn K mainGlobals "_law_row" = some (some (.ref f25)))
    (l25 : K.lookup f25 = some ⟨oc25, od25, .func (PySem.W.fnOf "_law_row" "_law_row" (defArgs s_law_row) (defBody s_law_row) (defScope s_law_row) .none kV25 dc25 pm25 an25 cd25 ct25), sl25⟩)
    (c25 : PySem.W.codeIn K cd25 "_law_row" = true) (k25 : PySem.W.keepIn K (.ref f25) = true)
    {f26 : Addr} {od26 an26 : Option Addr} {sl26 : Array (Option Value)} {oc26 kV26 dc26 pm26 cd26 ct26 : Value}
    (a26 : PySem.W.nsIn K mainGlobals "_law_tuples" = some (some (.ref f26)))
    (l26 : K.lookup f26 = some ⟨oc26, od26, .func (PySem.W.fnOf "_law_tuples" "_law_tuples" (defArgs s_law_tuples) (defBody s_law_tuples) (defScope s_law_tuples) .none kV26 dc26 pm26 an26 cd26 ct26), sl26⟩)
    (c26 : PySem.W.codeIn K cd26 "_law_tuples" = true) (k26 : PySem.W.keepIn K (.ref f26) = true)
    {f27 : Addr} {od27 an27 : Option Addr} {sl27 : Array (Option Value)} {oc27 kV27 dc27 pm27 cd27 ct27 : Value}
    (a27 : PySem.W.nsIn K mainGlobals "_law_present" = some (some (.ref f27)))
    (l27 : K.lookup f27 = some ⟨oc27, od27, .func (PySem.W.fnOf "_law_present" "_law_present" (defArgs s_law_present) (defBody s_law_present) (defScope s_law_present) .none kV27 dc27 pm27 an27 cd27 ct27), sl27⟩)
    (c27 : PySem.W.codeIn K cd27 "_law_present" = true) (k27 : PySem.W.keepIn K (.ref f27) = true)
    {f28 : Addr} {od28 an28 : Option Addr} {sl28 : Array (Option Value)} {oc28 kV28 dc28 pm28 cd28 ct28 : Value}
    (a28 : PySem.W.nsIn K mainGlobals "_law_price" = some (some (.ref f28)))
    (l28 : K.lookup f28 = some ⟨oc28, od28, .func (PySem.W.fnOf "_law_price" "_law_price" (defArgs s_law_price) (defBody s_law_price) (defScope s_law_price) .none kV28 dc28 pm28 an28 cd28 ct28), sl28⟩)
    (c28 : PySem.W.codeIn K cd28 "_law_price" = true) (k28 : PySem.W.keepIn K (.ref f28) = true)
    {f29 : Addr} {od29 an29 : Option Addr} {sl29 : Array (Option Value)} {oc29 kV29 dc29 pm29 cd29 ct29 : Value}
    (a29 : PySem.W.nsIn K mainGlobals "_law_kept" = some (some (.ref f29)))
    (l29 : K.lookup f29 = some ⟨oc29, od29, .func (PySem.W.fnOf "_law_kept" "_law_kept" (defArgs s_law_kept) (defBody s_law_kept) (defScope s_law_kept) .none kV29 dc29 pm29 an29 cd29 ct29), sl29⟩)
    (c29 : PySem.W.codeIn K cd29 "_law_kept" = true) (k29 : PySem.W.keepIn K (.ref f29) = true)
    {f30 : Addr} {od30 an30 : Option Addr} {sl30 : Array (Option Value)} {oc30 kV30 dc30 pm30 cd30 ct30 : Value}
    (a30 : PySem.W.nsIn K mainGlobals "_law_orders" = some (some (.ref f30)))
    (l30 : K.lookup f30 = some ⟨oc30, od30, .func (PySem.W.fnOf "_law_orders" "_law_orders" (defArgs s_law_orders) (defBody s_law_orders) (defScope s_law_orders) .none kV30 dc30 pm30 an30 cd30 ct30), sl30⟩)
    (c30 : PySem.W.codeIn K cd30 "_law_orders" = true) (k30 : PySem.W.keepIn K (.ref f30) = true)
    {f31 : Addr} {od31 an31 : Option Addr} {sl31 : Array (Option Value)} {oc31 kV31 dc31 pm31 cd31 ct31 : Value}
    (a31 : PySem.W.nsIn K mainGlobals "_law_best" = some (some (.ref f31)))
    (l31 : K.lookup f31 = some ⟨oc31, od31, .func (PySem.W.fnOf "_law_best" "_law_best" (defArgs s_law_best) (defBody s_law_best) (defScope s_law_best) .none kV31 dc31 pm31 an31 cd31 ct31), sl31⟩)
    (c31 : PySem.W.codeIn K cd31 "_law_best" = true) (k31 : PySem.W.keepIn K (.ref f31) = true)
    {f32 : Addr} {od32 an32 : Option Addr} {sl32 : Array (Option Value)} {oc32 kV32 dc32 pm32 cd32 ct32 : Value}
    (a32 : PySem.W.nsIn K mainGlobals "_law_no_ring" = some (some (.ref f32)))
    (l32 : K.lookup f32 = some ⟨oc32, od32, .func (PySem.W.fnOf "_law_no_ring" "_law_no_ring" (defArgs s_law_no_ring) (defBody s_law_no_ring) (defScope s_law_no_ring) .none kV32 dc32 pm32 an32 cd32 ct32), sl32⟩)
    (c32 : PySem.W.codeIn K cd32 "_law_no_ring" = true) (k32 : PySem.W.keepIn K (.ref f32) = true)
    {f33 : Addr} {od33 an33 : Option Addr} {sl33 : Array (Option Value)} {oc33 kV33 dc33 pm33 cd33 ct33 : Value}
    (a33 : PySem.W.nsIn K mainGlobals "law" = some (some (.ref f33)))
    (l33 : K.lookup f33 = some ⟨oc33, od33, .func (PySem.W.fnOf "law" "law" (defArgs s_law) (defBody s_law) (defScope s_law) .none kV33 dc33 pm33 an33 cd33 ct33), sl33⟩)
    (c33 : PySem.W.codeIn K cd33 "law" = true) (k33 : PySem.W.keepIn K (.ref f33) = true)
    (z_any : PySem.W.nsIn K mainGlobals "any" = some none)
    (z_bool : PySem.W.nsIn K mainGlobals "bool" = some none)
    (z_int : PySem.W.nsIn K mainGlobals "int" = some none)
    (z_isinstance : PySem.W.nsIn K mainGlobals "isinstance" = some none)
    (z_len : PySem.W.nsIn K mainGlobals "len" = some none)
    (z_list : PySem.W.nsIn K mainGlobals "list" = some none)
    (z_max : PySem.W.nsIn K mainGlobals "max" = some none)
    (z_min : PySem.W.nsIn K mainGlobals "min" = some none)
    (z_range : PySem.W.nsIn K mainGlobals "range" = some none)
    (z_set : PySem.W.nsIn K mainGlobals "set" = some none)
    (z_sorted : PySem.W.nsIn K mainGlobals "sorted" = some none)
    (z_sum : PySem.W.nsIn K mainGlobals "sum" = some none)
    (z_tuple : PySem.W.nsIn K mainGlobals "tuple" = some none)
    : ∃ fd : FuncData, (∀ (s : Shared) (v : Value), BindsTo s fd ⟨[v], []⟩ [("_law_script", v)]) ∧ ∀ base : Heap, K.In base → base.Ns mainGlobals mg → FnOk l.prog w K mg base CX0 7 fa fd ["_law_script"] (Pu.lawSp K) := by
  have e := hfa.symm.trans (PySem.W.mg_of X G0 a33)
  cases e
  have G : Glob K mg := ⟨PySem.W.mg_none_of X G0 z_any, PySem.W.mg_none_of X G0 z_bool, PySem.W.mg_none_of X G0 z_int, PySem.W.mg_none_of X G0 z_isinstance, PySem.W.mg_none_of X G0 z_len, PySem.W.mg_none_of X G0 z_list, PySem.W.mg_none_of X G0 z_max, PySem.W.mg_none_of X G0 z_min, PySem.W.mg_none_of X G0 z_range, PySem.W.mg_none_of X G0 z_set, PySem.W.mg_none_of X G0 z_sorted, PySem.W.mg_none_of X G0 z_sum, PySem.W.mg_none_of X G0 z_tuple⟩
  have F0 := fun_mk (st := s_holders_of) l0 c0 k0
  have b0 := F0.binds (ps := ["strips"]) fun _ _ _ _ _ _ us hl => match us, hl with | [_], _ => rfl
  have D0 : Def K mg "holders_of" s_holders_of ["strips"] := ⟨_, _, F0, PySem.W.mg_of X G0 a0, b0⟩
  have F1 := fun_mk (st := s_pair_cost) l1 c1 k1
  have b1 := F1.binds (ps := ["strips", "ahead", "behind"]) fun _ _ _ _ _ _ us hl => match us, hl with | [_, _, _], _ => rfl
  have D1 : Def K mg "pair_cost" s_pair_cost ["strips", "ahead", "behind"] := ⟨_, _, F1, PySem.W.mg_of X G0 a1, b1⟩
  have F2 := fun_mk (st := s_longer_paths) l2 c2 k2
  have b2 := F2.binds (ps := ["paths", "left", "wishes"]) fun _ _ _ _ _ _ us hl => match us, hl with | [_, _, _], _ => rfl
  have D2 : Def K mg "longer_paths" s_longer_paths ["paths", "left", "wishes"] := ⟨_, _, F2, PySem.W.mg_of X G0 a2, b2⟩
  have F3 := fun_mk (st := s_ring_from) l3 c3 k3
  have b3 := F3.binds (ps := ["least", "holders", "wishes"]) fun _ _ _ _ _ _ us hl => match us, hl with | [_, _, _], _ => rfl
  have D3 : Def K mg "ring_from" s_ring_from ["least", "holders", "wishes"] := ⟨_, _, F3, PySem.W.mg_of X G0 a3, b3⟩
  have F4 := fun_mk (st := s_find_ring) l4 c4 k4
  have b4 := F4.binds (ps := ["holders", "wishes"]) fun _ _ _ _ _ _ us hl => match us, hl with | [_, _], _ => rfl
  have D4 : Def K mg "find_ring" s_find_ring ["holders", "wishes"] := ⟨_, _, F4, PySem.W.mg_of X G0 a4, b4⟩
  have F5 := fun_mk (st := s_check_no_ring) l5 c5 k5
  have b5 := F5.binds (ps := ["strips", "wishes"]) fun _ _ _ _ _ _ us hl => match us, hl with | [_, _], _ => rfl
  have D5 : Def K mg "check_no_ring" s_check_no_ring ["strips", "wishes"] := ⟨_, _, F5, PySem.W.mg_of X G0 a5, b5⟩
  have F6 := fun_mk (st := s_pair_costs) l6 c6 k6
  have b6 := F6.binds (ps := ["strips"]) fun _ _ _ _ _ _ us hl => match us, hl with | [_], _ => rfl
  have D6 : Def K mg "pair_costs" s_pair_costs ["strips"] := ⟨_, _, F6, PySem.W.mg_of X G0 a6, b6⟩
  have F7 := fun_mk (st := s_sets_of) l7 c7 k7
  have b7 := F7.binds (ps := ["holders"]) fun _ _ _ _ _ _ us hl => match us, hl with | [_], _ => rfl
  have D7 : Def K mg "sets_of" s_sets_of ["holders"] := ⟨_, _, F7, PySem.W.mg_of X G0 a7, b7⟩
  have F8 := fun_mk (st := s_without) l8 c8 k8
  have b8 := F8.binds (ps := ["members", "holder"]) fun _ _ _ _ _ _ us hl => match us, hl with | [_, _], _ => rfl
  have D8 : Def K mg "without" s_without ["members", "holder"] := ⟨_, _, F8, PySem.W.mg_of X G0 a8, b8⟩
  have F9 := fun_mk (st := s_may_lie_last) l9 c9 k9
  have b9 := F9.binds (ps := ["members", "holder", "wishes"]) fun _ _ _ _ _ _ us hl => match us, hl with | [_, _, _], _ => rfl
  have D9 : Def K mg "may_lie_last" s_may_lie_last ["members", "holder", "wishes"] := ⟨_, _, F9, PySem.W.mg_of X G0 a9, b9⟩
  have F10 := fun_mk (st := s_may_lie_first) l10 c10 k10
  have b10 := F10.binds (ps := ["members", "holder", "wishes"]) fun _ _ _ _ _ _ us hl => match us, hl with | [_, _, _], _ => rfl
  have D10 : Def K mg "may_lie_first" s_may_lie_first ["members", "holder", "wishes"] := ⟨_, _, F10, PySem.W.mg_of X G0 a10, b10⟩
  have F11 := fun_mk (st := s_cost_with_last) l11 c11 k11
  have b11 := F11.binds (ps := ["members", "last", "least", "pairs"]) fun _ _ _ _ _ _ us hl => match us, hl with | [_, _, _, _], _ => rfl
  have D11 : Def K mg "cost_with_last" s_cost_with_last ["members", "last", "least", "pairs"] := ⟨_, _, F11, PySem.W.mg_of X G0 a11, b11⟩
  have F12 := fun_mk (st := s_cost_with_first) l12 c12 k12
  have b12 := F12.binds (ps := ["members", "first", "least", "pairs"]) fun _ _ _ _ _ _ us hl => match us, hl with | [_, _, _, _], _ => rfl
  have D12 : Def K mg "cost_with_first" s_cost_with_first ["members", "first", "least", "pairs"] := ⟨_, _, F12, PySem.W.mg_of X G0 a12, b12⟩
  have F13 := fun_mk (st := s_least_costs) l13 c13 k13
  have b13 := F13.binds (ps := ["strips", "wishes", "pairs"]) fun _ _ _ _ _ _ us hl => match us, hl with | [_, _, _], _ => rfl
  have D13 : Def K mg "least_costs" s_least_costs ["strips", "wishes", "pairs"] := ⟨_, _, F13, PySem.W.mg_of X G0 a13, b13⟩
  have F14 := fun_mk (st := s_cost_table) l14 c14 k14
  have b14 := F14.binds (ps := ["strips", "wishes"]) fun _ _ _ _ _ _ us hl => match us, hl with | [_, _], _ => rfl
  have D14 : Def K mg "cost_table" s_cost_table ["strips", "wishes"] := ⟨_, _, F14, PySem.W.mg_of X G0 a14, b14⟩
  have F15 := fun_mk (st := s_best_order) l15 c15 k15
  have b15 := F15.binds (ps := ["strips", "wishes"]) fun _ _ _ _ _ _ us hl => match us, hl with | [_, _], _ => rfl
  have D15 : Def K mg "best_order" s_best_order ["strips", "wishes"] := ⟨_, _, F15, PySem.W.mg_of X G0 a15, b15⟩
  have F16 := fun_mk (st := s_least_cost) l16 c16 k16
  have b16 := F16.binds (ps := ["strips", "wishes"]) fun _ _ _ _ _ _ us hl => match us, hl with | [_, _], _ => rfl
  have D16 : Def K mg "least_cost" s_least_cost ["strips", "wishes"] := ⟨_, _, F16, PySem.W.mg_of X G0 a16, b16⟩
  have F17 := fun_mk (st := s_law_at) l17 c17 k17
  have b17 := F17.binds (ps := ["_law_script", "_law_k"]) fun _ _ _ _ _ _ us hl => match us, hl with | [_, _], _ => rfl
  have D17 : Def K mg "_law_at" s_law_at ["_law_script", "_law_k"] := ⟨_, _, F17, PySem.W.mg_of X G0 a17, b17⟩
  have F18 := fun_mk (st := s_law_whole) l18 c18 k18
  have b18 := F18.binds (ps := ["_law_found"]) fun _ _ _ _ _ _ us hl => match us, hl with | [_], _ => rfl
  have D18 : Def K mg "_law_whole" s_law_whole ["_law_found"] := ⟨_, _, F18, PySem.W.mg_of X G0 a18, b18⟩
  have F19 := fun_mk (st := s_law_mix) l19 c19 k19
  have b19 := F19.binds (ps := ["_law_cell", "_law_place"]) fun _ _ _ _ _ _ us hl => match us, hl with | [_, _], _ => rfl
  have D19 : Def K mg "_law_mix" s_law_mix ["_law_cell", "_law_place"] := ⟨_, _, F19, PySem.W.mg_of X G0 a19, b19⟩
  have F20 := fun_mk (st := s_law_draw) l20 c20 k20
  have b20 := F20.binds (ps := ["_law_script", "_law_k"]) fun _ _ _ _ _ _ us hl => match us, hl with | [_, _], _ => rfl
  have D20 : Def K mg "_law_draw" s_law_draw ["_law_script", "_law_k"] := ⟨_, _, F20, PySem.W.mg_of X G0 a20, b20⟩
  have F21 := fun_mk (st := s_law_menu) l21 c21 k21
  have b21 := F21.binds (ps := ["_law_cell"]) fun _ _ _ _ _ _ us hl => match us, hl with | [_], _ => rfl
  have D21 : Def K mg "_law_menu" s_law_menu ["_law_cell"] := ⟨_, _, F21, PySem.W.mg_of X G0 a21, b21⟩
  have F22 := fun_mk (st := s_law_holder) l22 c22 k22
  have b22 := F22.binds (ps := ["_law_menu_here", "_law_k"]) fun _ _ _ _ _ _ us hl => match us, hl with | [_, _], _ => rfl
  have D22 : Def K mg "_law_holder" s_law_holder ["_law_menu_here", "_law_k"] := ⟨_, _, F22, PySem.W.mg_of X G0 a22, b22⟩
  have F23 := fun_mk (st := s_law_strips) l23 c23 k23
  have b23 := F23.binds (ps := ["_law_script", "_law_menu_here", "_law_many"]) fun _ _ _ _ _ _ us hl => match us, hl with | [_, _, _], _ => rfl
  have D23 : Def K mg "_law_strips" s_law_strips ["_law_script", "_law_menu_here", "_law_many"] := ⟨_, _, F23, PySem.W.mg_of X G0 a23, b23⟩
  have F24 := fun_mk (st := s_law_wishes) l24 c24 k24
  have b24 := F24.binds (ps := ["_law_script", "_law_menu_here"]) fun _ _ _ _ _ _ us hl => match us, hl with | [_, _], _ => rfl
  have D24 : Def K mg "_law_wishes" s_law_wishes ["_law_script", "_law_menu_here"] := ⟨_, _, F24, PySem.W.mg_of X G0 a24, b24⟩
  have F25 := fun_mk (st := s_law_row) l25 c25 k25
  have b25 := F25.binds (ps := ["_law_found", "_law_due"]) fun _ _ _ _ _ _ us hl => match us, hl with | [_, _], _ => rfl
  have D25 : Def K mg "_law_row" s_law_row ["_law_found", "_law_due"] := ⟨_, _, F25, PySem.W.mg_of X G0 a25, b25⟩
  have F26 := fun_mk (st := s_law_tuples) l26 c26 k26
  have b26 := F26.binds (ps := ["_law_found", "_law_due"]) fun _ _ _ _ _ _ us hl => match us, hl with | [_, _], _ => rfl
  have D26 : Def K mg "_law_tuples" s_law_tuples ["_law_found", "_law_due"] := ⟨_, _, F26, PySem.W.mg_of X G0 a26, b26⟩
  have F27 := fun_mk (st := s_law_present) l27 c27 k27
  have b27 := F27.binds (ps := ["_law_strips_here"]) fun _ _ _ _ _ _ us hl => match us, hl with | [_], _ => rfl
  have D27 : Def K mg "_law_present" s_law_present ["_law_strips_here"] := ⟨_, _, F27, PySem.W.mg_of X G0 a27, b27⟩
  have F28 := fun_mk (st := s_law_price) l28 c28 k28
  have b28 := F28.binds (ps := ["_law_strips_here", "_law_order"]) fun _ _ _ _ _ _ us hl => match us, hl with | [_, _], _ => rfl
  have D28 : Def K mg "_law_price" s_law_price ["_law_strips_here", "_law_order"] := ⟨_, _, F28, PySem.W.mg_of X G0 a28, b28⟩
  have F29 := fun_mk (st := s_law_kept) l29 c29 k29
  have b29 := F29.binds (ps := ["_law_order", "_law_wishes_here"]) fun _ _ _ _ _ _ us hl => match us, hl with | [_, _], _ => rfl
  have D29 : Def K mg "_law_kept" s_law_kept ["_law_order", "_law_wishes_here"] := ⟨_, _, F29, PySem.W.mg_of X G0 a29, b29⟩
  have F30 := fun_mk (st := s_law_orders) l30 c30 k30
  have b30 := F30.binds (ps := ["_law_holders"]) fun _ _ _ _ _ _ us hl => match us, hl with | [_], _ => rfl
  have D30 : Def K mg "_law_orders" s_law_orders ["_law_holders"] := ⟨_, _, F30, PySem.W.mg_of X G0 a30, b30⟩
  have F31 := fun_mk (st := s_law_best) l31 c31 k31
  have b31 := F31.binds (ps := ["_law_strips_here", "_law_wishes_here"]) fun _ _ _ _ _ _ us hl => match us, hl with | [_, _], _ => rfl
  have D31 : Def K mg "_law_best" s_law_best ["_law_strips_here", "_law_wishes_here"] := ⟨_, _, F31, PySem.W.mg_of X G0 a31, b31⟩
  have F32 := fun_mk (st := s_law_no_ring) l32 c32 k32
  have b32 := F32.binds (ps := ["_law_holders", "_law_wishes_here"]) fun _ _ _ _ _ _ us hl => match us, hl with | [_, _], _ => rfl
  have D32 : Def K mg "_law_no_ring" s_law_no_ring ["_law_holders", "_law_wishes_here"] := ⟨_, _, F32, PySem.W.mg_of X G0 a32, b32⟩
  have F33 := fun_mk (st := s_law) l33 c33 k33
  have b33 := F33.binds (ps := ["_law_script"]) fun _ _ _ _ _ _ us hl => match us, hl with | [_], _ => rfl
  have D33 : Def K mg "law" s_law ["_law_script"] := ⟨_, _, F33, PySem.W.mg_of X G0 a33, b33⟩
  refine ⟨PySem.W.fnOf "law" "law" (defArgs s_law) (defBody s_law) (defScope s_law) .none kV33 dc33 pm33 an33 cd33 ct33, fun s v => .of_eq rfl, fun base _ _ => ?_⟩
  have C0 := ok_holders_of (P := l.prog) (w := w) (base := base) G D0
  have C1 := ok_pair_cost (P := l.prog) (w := w) (base := base) G D1
  have C2 := ok_longer_paths (P := l.prog) (w := w) (base := base) G D2
  have C7 := ok_sets_of (P := l.prog) (w := w) (base := base) G D7
  have C8 := ok_without (P := l.prog) (w := w) (base := base) G D8
  have C9 := ok_may_lie_last (P := l.prog) (w := w) (base := base) G D9
  have C10 := ok_may_lie_first (P := l.prog) (w := w) (base := base) G D10
  have C17 := ok_law_at (P := l.prog) (w := w) (base := base) G D17
  have C18 := ok_law_whole (P := l.prog) (w := w) (base := base) G D18
  have C19 := ok_law_mix (P := l.prog) (w := w) (base := base) G D19
  have C21 := ok_law_menu (P := l.prog) (w := w) (base := base) G D21
  have C22 := ok_law_holder (P := l.prog) (w := w) (base := base) G D22
  have C27 := ok_law_present (P := l.prog) (w := w) (base := base) G D27
  have C28 := ok_law_price (P := l.prog) (w := w) (base := base) G D28
  have C29 := ok_law_kept (P := l.prog) (w := w) (base := base) G D29
  have C30 := ok_law_orders (P := l.prog) (w := w) (base := base) G D30
  have C32 := ok_law_no_ring (P := l.prog) (w := w) (base := base) G D32
  have C3 := ok_ring_from (P := l.prog) (w := w) (base := base) G D3 C2
  have C6 := ok_pair_costs (P := l.prog) (w := w) (base := base) G D6 (cv_holders_of C0) (cv_pair_cost C1)
  have C11 := ok_cost_with_last (P := l.prog) (w := w) (base := base) G D11 C8
  have C12 := ok_cost_with_first (P := l.prog) (w := w) (base := base) G D12 C8
  have C20 := ok_law_draw (P := l.prog) (w := w) (base := base) G D20 C19 C17
  have C25 := ok_law_row (P := l.prog) (w := w) (base := base) G D25 C18
  have C26 := ok_law_tuples (P := l.prog) (w := w) (base := base) G D26 C18
  have C31 := ok_law_best (P := l.prog) (w := w) (base := base) G D31 C30 (cv_law_present C27) C29 (cv_law_price C28)
  have C4 := ok_find_ring (P := l.prog) (w := w) (base := base) G D4 C3
  have C13 := ok_least_costs (P := l.prog) (w := w) (base := base) G D13 C7 (cv_holders_of C0) C9 C11
  have C23 := ok_law_strips (P := l.prog) (w := w) (base := base) G D23 C20 C22
  have C24 := ok_law_wishes (P := l.prog) (w := w) (base := base) G D24 C20 C22
  have C5 := ok_check_no_ring (P := l.prog) (w := w) (base := base) G D5 C4 (cv_holders_of C0)
  have C14 := ok_cost_table (P := l.prog) (w := w) (base := base) G D14 C5 C13 C6
  have C15 := ok_best_order (P := l.prog) (w := w) (base := base) G D15 C5 C6 C13 (cv_holders_of C0) C8 C10 C12
  have C16 := ok_least_cost (P := l.prog) (w := w) (base := base) G D16 C14
  have C33 := ok_law (P := l.prog) (w := w) (base := base) G D33 (cv_law_menu C21) (cv_law_strips C23) (cv_law_wishes C24) C15 C16 C31 (cv_law_draw C20) (cv_law_no_ring C32) (cv_law_row C25) (cv_law_whole C18) (cv_law_present C27) (cv_law_tuples C26) (cv_law_at C17)
  exact (C33.at (PySem.W.mg_of X G0 a33) F33 D33).imp fun _ _ _ _ z => Pu.law_of z
end T
open PySem PySem.W PyProof.Rows
set_option maxRecDepth 100000 in
set_option maxHeartbeats 0 in
theorem PySem.Challenge.cw_stripmeld_k13_first_of_the_cheapest_holds : PySem.Challenge.rw_stripmeld_k13_first_of_the_cheapest.Holds := by
  w_on; o_law; k_head; (case hw => w_witness2)
  k_fill
  refine L2.walk_ofK (l := PySem.Challenge.rw_stripmeld_k13_first_of_the_cheapest) (n := 63) (k := 7) (x := "_law_script") (CX := L2.CX0) (sp := Pu.lawSp) rfl (by decide) rfl ⟨rfl, by decide, by decide⟩ (fun w h Y => PySem.W.kIn_of Y) ?F ?S ?C
  case F =>
    intro w mg fa h KX G hmg
    refine' T.all_mk KX G hmg ?a0 ?l0 ?c0 ?k0 ?a1 ?l1 ?c1 ?k1 ?a2 ?l2 ?c2 ?k2 ?a3 ?l3 ?c3 ?k3 ?a4 ?l4 ?c4 ?k4 ?a5 ?l5 ?c5 ?k5 ?a6 ?l6 ?c6 ?k6 ?a7 ?l7 ?c7 ?k7 ?a8 ?l8 ?c8 ?k8 ?a9 ?l9 ?c9 ?k9 ?a10 ?l10 ?c10 ?k10 ?a11 ?l11 ?c11 ?k11 ?a12 ?l12 ?c12 ?k12 ?a13 ?l13 ?c13 ?k13 ?a14 ?l14 ?c14 ?k14 ?a15 ?l15 ?c15 ?k15 ?a16 ?l16 ?c16 ?k16 ?a17 ?l17 ?c17 ?k17 ?a18 ?l18 ?c18 ?k18 ?a19 ?l19 ?c19 ?k19 ?a20 ?l20 ?c20 ?k20 ?a21 ?l21 ?c21 ?k21 ?a22 ?l22 ?c22 ?k22 ?a23 ?l23 ?c23 ?k23 ?a24 ?l24 ?c24 ?k24 ?a25 ?l25 ?c25 ?k25 ?a26 ?l26 ?c26 ?k26 ?a27 ?l27 ?c27 ?k27 ?a28 ?l28 ?c28 ?k28 ?a29 ?l29 ?c29 ?k29 ?a30 ?l30 ?c30 ?k30 ?a31 ?l31 ?c31 ?k31 ?a32 ?l32 ?c32 ?k32 ?a33 ?l33 ?c33 ?k33 ?z_any ?z_bool ?z_int ?z_isinstance ?z_len ?z_list ?z_max ?z_min ?z_range ?z_set ?z_sorted ?z_sum ?z_tuple
    (case a0 => k_is)
    (case l0 => k_is)
    (case c0 => k_is)
    (case k0 => k_is)
    (case a1 => k_is)
    (case l1 => k_is)
    (case c1 => k_is)
    (case k1 => k_is)
    (case a2 => k_is)
    (case l2 => k_is)
    (case c2 => k_is)
    (case k2 => k_is)
    (case a3 => k_is)
    (case l3 => k_is)
    (case c3 => k_is)
    (case k3 => k_is)
    (case a4 => k_is)
    (case l4 => k_is)
    (case c4 => k_is)
    (case k4 => k_is)
    (case a5 => k_is)
    (case l5 => k_is)
    (case c5 => k_is)
    (case k5 => k_is)
    (case a6 => k_is)
    (case l6 => k_is)
    (case c6 => k_is)
    (case k6 => k_is)
    (case a7 => k_is)
    (case l7 => k_is)
    (case c7 => k_is)
    (case k7 => k_is)
    (case a8 => k_is)
    (case l8 => k_is)
    (case c8 => k_is)
    (case k8 => k_is)
    (case a9 => k_is)
    (case l9 => k_is)
    (case c9 => k_is)
    (case k9 => k_is)
    (case a10 => k_is)
    (case l10 => k_is)
    (case c10 => k_is)
    (case k10 => k_is)
    (case a11 => k_is)
    (case l11 => k_is)
    (case c11 => k_is)
    (case k11 => k_is)
    (case a12 => k_is)
    (case l12 => k_is)
    (case c12 => k_is)
    (case k12 => k_is)
    (case a13 => k_is)
    (case l13 => k_is)
    (case c13 => k_is)
    (case k13 => k_is)
    (case a14 => k_is)
    (case l14 => k_is)
    (case c14 => k_is)
    (case k14 => k_is)
    (case a15 => k_is)
    (case l15 => k_is)
    (case c15 => k_is)
    (case k15 => k_is)
    (case a16 => k_is)
    (case l16 => k_is)
    (case c16 => k_is)
    (case k16 => k_is)
    (case a17 => k_is)
    (case l17 => k_is)
    (case c17 => k_is)
    (case k17 => k_is)
    (case a18 => k_is)
    (case l18 => k_is)
    (case c18 => k_is)
    (case k18 => k_is)
    (case a19 => k_is)
    (case l19 => k_is)
    (case c19 => k_is)
    (case k19 => k_is)
    (case a20 => k_is)
    (case l20 => k_is)
    (case c20 => k_is)
    (case k20 => k_is)
    (case a21 => k_is)
    (case l21 => k_is)
    (case c21 => k_is)
    (case k21 => k_is)
    (case a22 => k_is)
    (case l22 => k_is)
    (case c22 => k_is)
    (case k22 => k_is)
    (case a23 => k_is)
    (case l23 => k_is)
    (case c23 => k_is)
    (case k23 => k_is)
    (case a24 => k_is)
    (case l24 => k_is)
    (case c24 => k_is)
    (case k24 => k_is)
    (case a25 => k_is)
    (case l25 => k_is)
    (case c25 => k_is)
    (case k25 => k_is)
    (case a26 => k_is)
    (case l26 => k_is)
    (case c26 => k_is)
    (case k26 => k_is)
    (case a27 => k_is)
    (case l27 => k_is)
    (case c27 => k_is)
    (case k27 => k_is)
    (case a28 => k_is)
    (case l28 => k_is)
    (case c28 => k_is)
    (case k28 => k_is)
    (case a29 => k_is)
    (case l29 => k_is)
    (case c29 => k_is)
    (case k29 => k_is)
    (case a30 => k_is)
    (case l30 => k_is)
    (case c30 => k_is)
    (case k30 => k_is)
    (case a31 => k_is)
    (case l31 => k_is)
    (case c31 => k_is)
    (case k31 => k_is)
    (case a32 => k_is)
    (case l32 => k_is)
    (case c32 => k_is)
    (case k32 => k_is)
    (case a33 => k_is)
    (case l33 => k_is)
    (case c33 => k_is)
    (case k33 => k_is)
    (case z_any => k_is)
    (case z_bool => k_is)
    (case z_int => k_is)
    (case z_isinstance => k_is)
    (case z_len => k_is)
    (case z_list => k_is)
    (case z_max => k_is)
    (case z_min => k_is)
    (case z_range => k_is)
    (case z_set => k_is)
    (case z_sorted => k_is)
    (case z_sum => k_is)
    (case z_tuple => k_is)
  case S => exact fun K H a ns hl hO hS => ⟨a, ns, rfl, hS, fun _ => rfl⟩
  case C => exact fun _ _ _ _ z => z
