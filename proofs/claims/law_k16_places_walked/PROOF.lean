import PyProof.Rows.All
import Wide.All
import OpenK.AllK
import Wide.FinOn
import Lean
import PyProof.EqAt
import PyProof.EqKinds
import PyProof.TupleCall
import PySem.Challenge.RW_stripmeld_k16_places_walked
set_option Elab.async false
set_option linter.all false
set_option maxRecDepth 100000
/-! THE HAND LAYER, for ints, bools, texts, own classes, LISTS and tuples (index, slices, in, append, pop ..), calls, loops. Paste it whole ahead of your own text; what your proof does not reach may be deleted. -/
namespace L2
open PySem PySem.Spec PyProof.Rows

/-- a key: an int or a str -/
abbrev Key := Sum Int Str
def keyIs : Key → Value → Bool
  | .inl k, v => Value.isInt k v
  | .inr x, v => Value.isStrOf x v
def keyH (w : World) : Key → Int
  | .inl k => hashInt k
  | .inr x => hashStr w x
theorem keyIs_shape : ∀ {k : Key} {v : Value}, keyIs k v = true → (∃ i t, k = Sum.inl i ∧ v = Value.int i t) ∨ (∃ x t, k = Sum.inr x ∧ v = Value.str x t)
  | .inl i, v, h => by
    obtain ⟨t, e⟩ := Value.isInt_shape (k := i) (v := v) h
    exact .inl ⟨i, t, rfl, e⟩
  | .inr x, v, h => by
    obtain ⟨t, e⟩ := Value.isStrOf_shape (x := x) (v := v) h
    exact .inr ⟨x, t, rfl, e⟩
theorem key_ll (a b : Int) : decide ((Sum.inl a : Key) = Sum.inl b) = (a == b) := by
  by_cases e : a = b
  · subst e; simp
  · have h : ¬ (Sum.inl a : Key) = Sum.inl b := fun q => e (Sum.inl.inj q)
    rw [decide_eq_false h]
    exact (beq_eq_false_iff_ne.mpr e).symm
theorem key_rr (a b : Str) : decide ((Sum.inr a : Key) = Sum.inr b) = decide (a = b) := by
  by_cases e : a = b
  · subst e; simp
  · have h : ¬ (Sum.inr a : Key) = Sum.inr b := fun q => e (Sum.inr.inj q)
    rw [decide_eq_false h, decide_eq_false e]
theorem key_lr (a : Int) (b : Str) : decide ((Sum.inl a : Key) = Sum.inr b) = false := decide_eq_false (fun q => nomatch q)
theorem key_rl (a : Str) (b : Int) : decide ((Sum.inr a : Key) = Sum.inl b) = false := decide_eq_false (fun q => nomatch q)

def mixKind (prog : Program) (w : World) : PySem.KeyKind prog w Key where
  is := keyIs
  hash := keyH w
  inj := fun v a b ha hb => by
    rcases keyIs_shape ha with ⟨i, t, rfl, rfl⟩ | ⟨x, t, rfl, rfl⟩
    · rcases keyIs_shape hb with ⟨j, u, rfl, e⟩ | ⟨y, u, rfl, e⟩
      · injection e with e1 _; rw [e1]
      · exact nomatch e
    · rcases keyIs_shape hb with ⟨j, u, rfl, e⟩ | ⟨y, u, rfl, e⟩
      · exact nomatch e
      · injection e with e1 _; rw [e1]
  byValue := fun k v h => by
    rcases keyIs_shape h with ⟨i, t, rfl, rfl⟩ | ⟨x, t, rfl, rfl⟩ <;> rfl
  pyHash := fun hv h => by
    rcases keyIs_shape hv with ⟨i, t, rfl, rfl⟩ | ⟨x, t, rfl, rfl⟩
    · exact wpAny_pyHash_int h
    · exact wpAny_pyHash_str h
  eqBool := fun hu hv h => by
    rcases keyIs_shape hu with ⟨i, t, rfl, rfl⟩ | ⟨x, t, rfl, rfl⟩
    · rcases keyIs_shape hv with ⟨j, u, rfl, rfl⟩ | ⟨y, u, rfl, rfl⟩
      · rw [key_ll] at h; exact wpAny_eqBool_int h
      · rw [key_lr] at h; exact SeqAt.EqAt.int_str i t y u _ _ _ _ h
    · rcases keyIs_shape hv with ⟨j, u, rfl, rfl⟩ | ⟨y, u, rfl, rfl⟩
      · rw [key_rl] at h; exact SeqAt.EqAt.str_int x t j u _ _ _ _ h
      · rw [key_rr] at h; exact wpAny_eqBool_str h
  «strs» := fun k x t v h => by
    rcases keyIs_shape h with ⟨i, u, rfl, e⟩ | ⟨y, u, rfl, e⟩
    · exact nomatch e
    · injection e with e1 _
      subst e1
      cases v <;> rfl

end L2

namespace L2
open PySem PySem.Spec PyProof.Rows

/-- a value, without the heap -/
inductive V where
  | non | bl (b : Bool) | int (i : Int) | str (x : Str) | byt (b : Array UInt8) | flt (b : UInt64) | ref (a : Addr) | ty (n : String)
  deriving DecidableEq

def RelV : V → Value → Prop
  | .non, u => u = Value.none
  | .bl b, u => u = Value.bool b
  | .int i, u => ∃ t, u = Value.int i t
  | .str x, u => ∃ t, u = Value.str x t
  | .byt b, u => ∃ t, u = Value.bytes b t
  | .flt b, u => ∃ t, u = Value.float b t
  | .ref a, u => u = Value.ref a
  | .ty n, u => u = Value.type n

abbrev Vals : List V → List Value → Prop := Paired RelV
theorem Vals.length {xs : List V} {us : List Value} (r : Vals xs us) : xs.length = us.length := Paired.length r
theorem Vals.get : ∀ {xs : List V} {us : List Value} {i : Nat} {x : V}, Vals xs us → xs[i]? = some x → ∃ u, us[i]? = some u ∧ RelV x u
  | _, _, _, _, .nil, e => by simp at e
  | _, _, 0, _, .cons r _, e => by simp at e; subst e; exact ⟨_, rfl, r⟩
  | _, _, i + 1, x, .cons _ t, e => by
    obtain ⟨u, h1, h2⟩ := Vals.get (i := i) (x := x) t (by simpa using e)
    exact ⟨u, by simpa using h1, h2⟩
theorem Vals.set {x : V} {u : Value} (r : RelV x u) : ∀ {xs : List V} {us : List Value} (i : Nat), Vals xs us → Vals (xs.set i x) (us.set i u)
  | _, _, _, .nil => .nil
  | _, _, 0, .cons _ t => .cons r t
  | _, _, i + 1, .cons q t => .cons q (Vals.set r i t)
theorem Vals.append : ∀ {xs ys : List V} {us ws : List Value}, Vals xs us → Vals ys ws → Vals (xs ++ ys) (us ++ ws)
  | _, _, _, _, .nil, s => s
  | _, _, _, _, .cons r t, s => .cons r (Vals.append t s)
theorem Vals.take : ∀ {xs : List V} {us : List Value} (n : Nat), Vals xs us → Vals (xs.take n) (us.take n)
  | _, _, 0, _ => .nil
  | _, _, _ + 1, .nil => .nil
  | _, _, n + 1, .cons r t => .cons r (Vals.take n t)
theorem Vals.drop : ∀ {xs : List V} {us : List Value} (n : Nat), Vals xs us → Vals (xs.drop n) (us.drop n)
  | _, _, 0, r => r
  | _, _, _ + 1, .nil => .nil
  | _, _, n + 1, .cons _ t => Vals.drop n t
def RelO : Option V → Option Value → Prop
  | some v, some u => RelV v u
  | none, none => True
  | _, _ => False
def KV {κ : Type} : List (κ × V) → List (κ × Value) → Prop := Paired fun (p : κ × V) (q : κ × Value) => p.1 = q.1 ∧ RelV p.2 q.2

/-- a key of a dict (00_mix): an int or a text -/
def kV : Key → V
  | .inl i => .int i
  | .inr x => .str x

/-- what stands at a tracked address -/
inductive HO where
  /-- a list -/
  | lst (xs : List V)
  /-- a tuple (never changes) -/
  | tup (xs : List V)
  /-- a dict whose keys are ints and texts; one whose keys are tuples of ints and texts (the empty one is both) -/
  | dK (kvs : List (Key × V)) | dT (kvs : List (List Key × V))
  /-- a set of ints: its members, its size -/
  | set (S : Int → Bool) (n : Nat)
  /-- an instance of the class at C, its dict at dx, its attributes -/
  | ins (C dx : Addr) (fs : List (Str × V))
  /-- the dict of the instance at x -/
  | own (x : Addr)
  /-- the dict of an exception -/
  | xd (fs : List (Str × V))
  /-- a bound method, f of x -/
  | met (f x : Addr)
  /-- a range object lo, lo + 1, .. below hi -/
  | rng (lo hi : Int)
  /-- a thing that is known to the object (the script; a dict while a loop walks it): read, never written while it is so -/
  | frz (o : Obj) (u : HO)
  /-- a code object's table -/
  | tbl (ps : Array Value)
  /-- any other thing, by what is true of its one object (a def of one's own: SetO a S n := HO.ext fun h => ..) -/
  | ext (φ : Heap → Prop)

abbrev Hp := Addr → Option HO
def upd (H : Hp) (a : Addr) (o : HO) : Hp := fun b => if b = a then some o else H b
theorem upd_same {H : Hp} {a : Addr} {o : HO} : upd H a o a = some o := by unfold upd; rw [if_pos rfl]
theorem upd_ne {H : Hp} {a b : Addr} {o : HO} (h : b ≠ a) : upd H a o b = H b := by unfold upd; rw [if_neg h]
theorem ne_of_none {H : Hp} {a b : Addr} {o : HO} (h : H a = some o) (h' : H b = none) : a ≠ b := by
  intro e; subst e; rw [h] at h'; cases h'

section
variable (P : Program) (w : World)
def ObjOk (H : Hp) (h : Heap) (a : Addr) : HO → Prop
  | .lst xs => xs.length ≤ sizeLine ∧ ∃ (its : List Value) (n : Nat), Vals xs its ∧ h.get? a = some { cls := .type "list", data := .seq its.toArray n }
  | .tup xs => xs.length ≤ sizeLine ∧ ∃ its : List Value, Vals xs its ∧ IsTup h a its.toArray
  | .dK kvs => kvs.length ≤ sizeLine ∧ (a == sysModules) = false ∧ ∃ vs, KV kvs vs ∧ h.DictOf (mixKind P w) a vs
  | .dT kvs => kvs.length ≤ sizeLine ∧ (a == sysModules) = false ∧ ∃ xs : List (List Key × Addr × Value),
      Paired (fun (p : List Key × V) (q : List Key × Addr × Value) => p.1 = q.1 ∧ H q.2.1 = some (.tup (p.1.map kV)) ∧ RelV p.2 q.2.2) kvs xs ∧
      ∃ o es ep, h.get? a = some o ∧ o.ExactDict ∧ o.data = .dict es ep ∧ es.toList = xs.map (entryOfKey (tupleKind (mixKind P w))) ∧ (xs.map (·.1)).Nodup
  | .set S n => h.SetOf (intKind P w) a S n
  | .ins C dx fs => H dx = some (.own a) ∧ fs.length ≤ 1000 ∧ dx ≠ a ∧ h.get? a = some (PySem.W.instObj C dx) ∧
      ∃ mA, h.Ns1 dx mA ∧ (∀ f, RelO (fs.lookup f) (mA f)) ∧ PySem.Within mA (fs.map (·.1))
  | .own _ => ∃ o, h.get? a = some o
  | .xd fs => ∃ mA, h.Ns1 a mA ∧ ∀ f, RelO (fs.lookup f) (mA f)
  | .rng lo hi => ∃ t u v, h.get? a = some { cls := .type "range", data := .fields #[.int lo t, .int hi u, .int 1 v] }
  | .frz o u => h.get? a = some o ∧ ObjOk H h a u
  | .tbl ps => h.get? a = some { cls := .none, data := .fields ps }
  | .met f x => h.get? a = some (PySem.W.methodObj (.ref f) (.ref x))
  | .ext φ => φ h ∧ (∃ o, h.get? a = some o) ∧ ∀ h1 h2 : Heap, φ h1 → (∀ o, h1.get? a = some o → h2.get? a = some o) → φ h2
/-- the abstract heap is held -/
def HOk (H : Hp) (h : Heap) : Prop := ∀ a o, H a = some o → ObjOk P w H h a o
end

section
variable {P : Program} {w : World} {H H' : Hp} {h h' : Heap} {a : Addr} {o : HO}
theorem ObjOk.lt (x : ObjOk P w H h a o) : a < h.objs.size := by
  cases o with
  | lst xs => obtain ⟨_, _, _, _, e⟩ := x; exact Heap.lt_size e
  | tup xs => obtain ⟨_, _, _, p⟩ := x; exact p.lt
  | dK kvs => obtain ⟨_, _, _, _, o, _, _, e, _⟩ := x; exact Heap.lt_size e
  | dT kvs => obtain ⟨_, _, _, _, o, _, _, e, _⟩ := x; exact Heap.lt_size e
  | set S n => obtain ⟨o, _, _, _, e, _⟩ := x; exact Heap.lt_size e
  | ins C dx fs => obtain ⟨_, _, _, e, _⟩ := x; exact Heap.lt_size e
  | own y => obtain ⟨_, e⟩ := x; exact Heap.lt_size e
  | xd fs => obtain ⟨_, ⟨_, _, _, e, _⟩, _⟩ := x; exact Heap.lt_size e
  | rng lo hi => obtain ⟨_, _, _, e⟩ := x; exact Heap.lt_size e
  | frz ob u => obtain ⟨e, _⟩ := x; exact Heap.lt_size e
  | tbl ps => exact Heap.lt_size (show h.get? a = some _ from x)
  | met f y => exact Heap.lt_size (show h.get? a = some _ from x)
  | ext φ => obtain ⟨_, ⟨_, e⟩, _⟩ := x; exact Heap.lt_size e
theorem Paired.mapP {α β : Type} {F G : α → β → Prop} : ∀ {l₁ : List α} {l₂ : List β}, Paired F l₁ l₂ → (∀ a b, F a b → G a b) → Paired G l₁ l₂
  | _, _, .nil, _ => .nil
  | _, _, .cons r t, f => .cons (f _ _ r) (Paired.mapP t f)
theorem Paired.imp' {α β : Type} {F G : α → β → Prop} (f : ∀ a b, F a b → G a b) {l₁ : List α} {l₂ : List β} (r : Paired F l₁ l₂) : Paired G l₁ l₂ := Paired.mapP r f
/-- what an object's description leans on: its own object, its own dict, the tuples -/
theorem ObjOk.stay (x : ObjOk P w H h a o) (k : ∀ b u, (b = a ∨ H b = some (.own a)) → h.get? b = some u → h'.get? b = some u)
    (ho : ∀ b, H b = some (.own a) → H' b = some (.own a)) (ht : ∀ b xs, H b = some (.tup xs) → H' b = some (.tup xs)) : ObjOk P w H' h' a o := by
  induction o with
  | lst xs => obtain ⟨z, its, n, r, e⟩ := x; exact ⟨z, its, n, r, k _ _ (.inl rfl) e⟩
  | tup xs => obtain ⟨z, its, r, ob, e, c⟩ := x; exact ⟨z, its, r, ob, k _ _ (.inl rfl) e, c⟩
  | dK kvs => obtain ⟨z, y, vs, r, ob, es, ep, e, c⟩ := x; exact ⟨z, y, vs, r, ob, es, ep, k _ _ (.inl rfl) e, c⟩
  | dT kvs =>
    obtain ⟨z, y, xs, r, ob, es, ep, e, c⟩ := x
    exact ⟨z, y, xs, Paired.mapP r fun p q z => ⟨z.1, ht _ _ z.2.1, z.2.2⟩, ob, es, ep, k _ _ (.inl rfl) e, c⟩
  | set S n => obtain ⟨ob, es, ep, t, e, c⟩ := x; exact ⟨ob, es, ep, t, k _ _ (.inl rfl) e, c⟩
  | ins C dx fs =>
    obtain ⟨d, z, ne, e, mA, ⟨od, es, ep, e2, c⟩, r⟩ := x
    exact ⟨ho _ d, z, ne, k _ _ (.inl rfl) e, mA, ⟨od, es, ep, k _ _ (.inr d) e2, c⟩, r⟩
  | own y => obtain ⟨ob, e⟩ := x; exact ⟨ob, k _ _ (.inl rfl) e⟩
  | xd fs => obtain ⟨mA, ⟨od, es, ep, e, c⟩, r⟩ := x; exact ⟨mA, ⟨od, es, ep, k _ _ (.inl rfl) e, c⟩, r⟩
  | rng lo hi => obtain ⟨t, u, v, e⟩ := x; exact ⟨t, u, v, k _ _ (.inl rfl) e⟩
  | frz ob u ih => obtain ⟨e, q⟩ := x; exact ⟨k _ _ (.inl rfl) e, ih q⟩
  | tbl ps =>
    have e : h.get? a = some { cls := .none, data := .fields ps } := x
    show h'.get? a = some { cls := .none, data := .fields ps }
    exact k a _ (.inl rfl) e
  | met f y =>
    have e : h.get? a = some (PySem.W.methodObj (.ref f) (.ref y)) := x
    show h'.get? a = some (PySem.W.methodObj (.ref f) (.ref y))
    exact k a _ (.inl rfl) e
  | ext φ => obtain ⟨p, ⟨o, e⟩, st⟩ := x; exact ⟨st _ _ p fun o q => k _ _ (.inl rfl) q, ⟨o, k _ _ (.inl rfl) e⟩, st⟩
theorem HOk.lt (x : HOk P w H h) (e : H a = some o) : a < h.objs.size := (x a o e).lt
theorem HOk.fresh (x : HOk P w H h) (e : h.objs.size ≤ a) : H a = none := by
  cases q : H a with
  | none => rfl
  | some u => exact absurd (Nat.lt_of_lt_of_le (x.lt q) e) (Nat.lt_irrefl _)
/-- every object of the heap is kept -/
theorem HOk.kept (x : HOk P w H h) (k : ∀ b u, h.get? b = some u → h'.get? b = some u) : HOk P w H h' := fun a o e =>
  (x a o e).stay (fun b u _ q => k b u q) (fun _ q => q) fun _ _ q => q
/-- a new object is laid and tracked -/
theorem HOk.laid (x : HOk P w H h) (k : ∀ b u, h.get? b = some u → h'.get? b = some u) (hp : h.objs.size ≤ a) (new : ObjOk P w (upd H a o) h' a o) : HOk P w (upd H a o) h' := fun b u e => by
  have hn := x.fresh hp
  by_cases hb : b = a
  · subst hb; rw [upd_same] at e; cases e; exact new
  · rw [upd_ne hb] at e
    exact (x b u e).stay (fun c v _ q => k c v q) (fun c q => by rw [upd_ne (ne_of_none q hn)]; exact q) fun c xs q => by rw [upd_ne (ne_of_none q hn)]; exact q
end

/-- what may be read as u: it is u, or a known u -/
def Rd (H : Hp) (a : Addr) (u : HO) : Prop := H a = some u ∨ ∃ o, H a = some (.frz o u)
theorem Rd.of {H : Hp} {a : Addr} {u : HO} (h : H a = some u) : Rd H a u := .inl h
theorem Rd.ok {P : Program} {w : World} {H : Hp} {h : Heap} {a : Addr} {u : HO} (r : Rd H a u) (x : HOk P w H h) : ObjOk P w H h a u := by
  rcases r with r | ⟨o, r⟩
  · exact x a u r
  · obtain ⟨_, q⟩ := x a _ r
    exact q
/-- what may be written -/
def Mut : Option HO → Prop
  | some (.lst _) => True
  | some (.dK _) => True
  | some (.dT _) => True
  | some (.set _ _) => True
  | some (.ins _ _ _) => True
  | some (.ext _) => True
  | _ => False
section
variable {P : Program} {w : World} {H : Hp} {h h' : Heap} {x e : Addr} {o' : HO}
/-- the object at e is changed: x itself, or the dict of the instance x -/
theorem HOk.write (ok : HOk P w H h) (mu : Mut (H x)) (he : e = x ∨ H e = some (.own x)) (k : ∀ b u, b ≠ e → h.get? b = some u → h'.get? b = some u) (heo : ∃ u, h'.get? e = some u)
    (new : ObjOk P w (upd H x o') h' x o') : HOk P w (upd H x o') h' := fun b u q => by
  have nown : ∀ c y, H c = some (.own y) → c ≠ x := fun c y r z => by subst z; rw [r] at mu; exact mu
  have ntup : ∀ c xs, H c = some (.tup xs) → c ≠ x := fun c xs r z => by subst z; rw [r] at mu; exact mu
  by_cases hb : b = x
  · subst hb; rw [upd_same] at q; cases q; exact new
  · rw [upd_ne hb] at q
    by_cases hbe : b = e
    · have q' : H b = some (.own x) := by
        rcases he with z | z
        · exact absurd (hbe.trans z) hb
        · rw [hbe]; exact z
      rw [q] at q'; cases q'
      obtain ⟨v, hv⟩ := heo
      exact ⟨v, by rw [hbe]; exact hv⟩
    · refine (ok b u q).stay (fun c v hc r => k c v ?_ r) (fun c r => by rw [upd_ne (nown c b r)]; exact r) fun c xs r => by rw [upd_ne (ntup c xs r)]; exact r
      rcases hc with rfl | hc
      · exact hbe
      · rintro rfl
        rcases he with z | z
        · exact nown c b hc z
        · rw [hc] at z; cases z; exact hb rfl
end

/-! ### kept unless tracked; of the frames at fs (the callers') the slots may change (an exception that passes writes there); of the records at ex (iterators) nothing is said -/
structure Un (fs ex : List Addr) (H H' : Hp) (h h' : Heap) : Prop where
  keep : ∀ b o, h.get? b = some o → H b = none → b ∉ fs → b ∉ ex → h'.get? b = some o
  slot : ∀ b o, h.get? b = some o → H b = none → b ∈ fs → b ∉ ex → ∃ sl, h'.get? b = some { o with slots := sl }
  free : ∀ b o, h.get? b = some o → H b = none → b ∉ ex → H' b = none
  there : ∀ b o, h.get? b = some o → b ∉ ex → ∃ o', h'.get? b = some o'
  tups : ∀ b xs, H b = some (.tup xs) → H' b = some (.tup xs)
  frzs : ∀ b o u, H b = some (.frz o u) → H' b = some (.frz o u)
  tbls : ∀ b ps, H b = some (.tbl ps) → ∃ more, H' b = some (.tbl (ps ++ more))
section
variable {fs fs' ex ex' : List Addr} {H H1 H2 : Hp} {h h1 h2 h' : Heap} {a x e : Addr} {o : HO}
theorem Un.any (u : Un fs ex H H1 h h1) {b : Addr} {ob : Obj} (q : h.get? b = some ob) (n : H b = none) (hx : b ∉ ex) : ∃ sl, h1.get? b = some { ob with slots := sl } := by
  by_cases hb : b ∈ fs
  · exact u.slot b ob q n hb hx
  · exact ⟨ob.slots, u.keep b ob q n hb hx⟩
theorem Un.trans (a : Un fs ex H H1 h h1) (b : Un fs ex H1 H2 h1 h2) : Un fs ex H H2 h h2 where
  keep := fun c ob q n hc hx => b.keep c ob (a.keep c ob q n hc hx) (a.free c ob q n hx) hc hx
  slot := fun c ob q n hc hx => by
    obtain ⟨sl, e1⟩ := a.slot c ob q n hc hx
    obtain ⟨sl', e2⟩ := b.slot c _ e1 (a.free c ob q n hx) hc hx
    exact ⟨sl', e2⟩
  free := fun c ob q n hx => by
    obtain ⟨o', e1⟩ := a.there c ob q hx
    exact b.free c o' e1 (a.free c ob q n hx) hx
  there := fun c ob q hx => by
    obtain ⟨o', e1⟩ := a.there c ob q hx
    exact b.there c o' e1 hx
  tups := fun c xs q => b.tups c xs (a.tups c xs q)
  frzs := fun c ob xs q => b.frzs c ob xs (a.frzs c ob xs q)
  tbls := fun c ps q => by
    obtain ⟨m1, e1⟩ := a.tbls c ps q
    obtain ⟨m2, e2⟩ := b.tbls c _ e1
    exact ⟨m1 ++ m2, by rw [e2, Array.append_assoc]⟩
theorem Un.kept (k : ∀ b u, h.get? b = some u → h'.get? b = some u) : Un fs ex H H h h' :=
  ⟨fun b ob q _ _ _ => k b ob q, fun b ob q _ _ _ => ⟨ob.slots, k b ob q⟩, fun _ _ _ n _ => n, fun b ob q _ => ⟨ob, k b ob q⟩, fun _ _ q => q, fun _ _ _ q => q, fun _ ps q => ⟨#[], by rw [q]; simp⟩⟩
theorem Un.refl : Un fs ex H H h h := Un.kept fun _ _ q => q
theorem Un.laid (k : ∀ b u, h.get? b = some u → h'.get? b = some u) (hp : h.objs.size ≤ a) (hn : H a = none) : Un fs ex H (upd H a o) h h' where
  keep := fun b u q _ _ _ => k b u q
  slot := fun b u q _ _ _ => ⟨u.slots, k b u q⟩
  free := fun b u q n _ => by rw [upd_ne (Nat.ne_of_lt (Nat.lt_of_lt_of_le (Heap.lt_size q) hp))]; exact n
  there := fun b u q _ => ⟨u, k b u q⟩
  tups := fun b xs q => by rw [upd_ne (ne_of_none q hn)]; exact q
  frzs := fun b u xs q => by rw [upd_ne (ne_of_none q hn)]; exact q
  tbls := fun b ps q => ⟨#[], by rw [upd_ne (ne_of_none q hn), q]; simp⟩
theorem Un.write (mu : Mut (H x)) (he : e = x ∨ H e = some (.own x)) (k : ∀ b u, b ≠ e → h.get? b = some u → h'.get? b = some u) (heo : ∃ u, h'.get? e = some u) : Un fs ex H (upd H x o) h h' := by
  have hx : ∀ b, H b = none → b ≠ x := fun b n z => by subst z; rw [n] at mu; exact mu
  have hb : ∀ b, H b = none → b ≠ e := fun b n z => by
    subst z
    rcases he with r | r
    · exact hx b n r
    · rw [n] at r; cases r
  have hm : ∀ b u, H b = some u → ¬ Mut (some u) → b ≠ x := fun b u q nm z => by subst z; rw [q] at mu; exact nm mu
  refine ⟨fun b u q n _ _ => k b u (hb b n) q, fun b u q n _ _ => ⟨u.slots, k b u (hb b n) q⟩, fun b u q n _ => by rw [upd_ne (hx b n)]; exact n, fun b u q _ => ?_,
    fun b xs q => by rw [upd_ne (hm b _ q fun z => z)]; exact q, fun b u xs q => by rw [upd_ne (hm b _ q fun z => z)]; exact q, fun b ps q => ⟨#[], by rw [upd_ne (hm b _ q fun z => z), q]; simp⟩⟩
  by_cases hbe : b = e
  · subst hbe; exact heo
  · exact ⟨u, k b u hbe q⟩
theorem Un.mono (u : Un fs ex H H1 h h1) (hs : ∀ b ∈ fs, b ∈ fs') (hx : ∀ b ∈ ex, b ∈ ex') : Un fs' ex' H H1 h h1 :=
  ⟨fun b ob q n hb he => u.keep b ob q n (fun z => hb (hs b z)) fun z => he (hx b z), fun _ _ q n _ he => u.any q n fun z => he (hx _ z), fun b ob q n he => u.free b ob q n fun z => he (hx b z), fun b ob q he => u.there b ob q fun z => he (hx b z), u.tups, u.frzs, u.tbls⟩
end

/-! ### the heap without what is tracked -/
def trk (h : Heap) (H : Hp) : List Addr := (List.range h.objs.size).filter fun a => (H a).isSome
def hidT (h : Heap) (H : Hp) : Heap := PySem.W.hideAll h (trk h H)
theorem hidT_size (h : Heap) (H : Hp) : (hidT h H).objs.size = h.objs.size := PySem.W.hideAll_size _ _
theorem hidT_get {h : Heap} {H : Hp} {b : Addr} {o : Obj} (e : h.get? b = some o) (n : H b = none) : (hidT h H).get? b = some o :=
  PySem.W.hideAll_get _ e fun hm => by
    have q : (H b).isSome = true := (List.mem_filter.mp hm).2
    rw [n] at q; simp at q
theorem of_hidT {h : Heap} {H : Hp} {b : Addr} {o : Obj} (e : (hidT h H).get? b = some o) : h.get? b = some o ∧ H b = none := by
  have e' : h.get? b = some o := PySem.W.of_hideAll (trk h H) e
  refine ⟨e', ?_⟩
  cases q : H b with
  | none => rfl
  | some x =>
    have hm : b ∈ trk h H := List.mem_filter.mpr ⟨List.mem_range.mpr (Heap.lt_size e'), by simp [q]⟩
    have z : (hidT h H).get? b = none := PySem.W.hideAll_none (trk h H) hm
    rw [z] at e; cases e

/-! ### OpenK's ledger, filled with every new object but one -/
def allNews (g h : Heap) (L : Addr) : List (Addr × Obj) := (List.range h.objs.size).filterMap fun a => if a = L ∨ (g.get? a).isSome = true then none else (h.get? a).map fun o => (a, o)
def rest (g h : Heap) (L d : Addr) : List (Addr × Obj) := (allNews g h L).filter fun p => decide (p.1 ≠ d)
end L2

namespace L2
open PySem PySem.Spec PyProof.Rows

/-- the module's facts, over the base: the heap at the law's entry without what is tracked there -/
structure Mod (K : PySem.W.Frag) (mg : Str → Option Value) (base : Heap) : Prop where
  kin : K.In base
  glob : base.Ns mainGlobals mg
  blt : ∃ mb, base.Ns builtinsNs mb ∧ ∀ x : Str, x ≠ "__name__" → mb x = bootBuiltins x
  nolimit : base.NoLimit

/-- the context: a def's body (or a comprehension's block) running. base: fixed through the whole law; s₀, H₀: the entry; outer: the frames whose slots others may change (a def's callers); stack: all frames that run;
   ex: iterators that were made ahead of the entry and are walked here (a comprehension's); fn: the names whose cells were made at the entry (a def: all; a comprehension's block: its own); calm: not within an except suite; pn: pins that every state bears; xe: what is wanted of an exception that leaves the code -/
structure Cx where
  prog : Program
  w : World
  K : PySem.W.Frag
  mg : Str → Option Value
  base : Heap
  A : Around
  N : List Str
  s₀ : Shared
  H₀ : Hp
  env : Env
  outer : List Env
  stack : List Env
  ex : List Addr
  fn : Str → Bool
  calm : Bool
  pn : List (Addr × Obj)
  xe : Value → Shared → Prop
/-- the callers' frames -/
def frs (l : List Env) : List Addr := l.filterMap (·.frame)
abbrev Cx.fs (X : Cx) : List Addr := frs X.outer

def Vis (sc : Scope) (x : Str) : Prop := sc.names.lookup x = some .local ∨ sc.names.lookup x = some .cell ∨ sc.names.lookup x = some .free
def Loc (sc : Scope) (x : Str) : Prop := sc.names.lookup x = some .local ∨ sc.names.lookup x = some .cell
def Look (env : Env) (h : Heap) (m : Str → Option Value) (x : Str) (u : Value) : Prop :=
  (env.kindOf x = some .local ∧ m x = some u) ∨ ((env.kindOf x = some .cell ∨ env.kindOf x = some .free) ∧ ∃ c, env.cells.lookup x = some c ∧ h.IsCell c (some u))

structure Cx.Ok (X : Cx) : Prop where
  mod : Mod X.K X.mg X.base
  kind : X.env.scope.kind = .function
  glob : X.env.globals = mainGlobals
  blt : X.env.builtins = builtinsNs
  above : X.s₀.heap.objs.size ≤ X.env.locals
  inj : ∀ x y c, X.env.cells.lookup x = some c → X.env.cells.lookup y = some c → x = y
  has : ∀ x, (X.env.kindOf x = some .cell ∨ X.env.kindOf x = some .free) → ∃ c, X.env.cells.lookup x = some c
  cab : ∀ x c, X.fn x = true → X.env.cells.lookup x = some c → X.s₀.heap.objs.size ≤ c
  hd : X.calm = true → X.A.handled = none
  frames : X.A.frames = some X.stack
  stk : X.stack = X.outer ∨ (X.stack = X.env :: X.outer ∧ X.env.frame = some X.env.locals)
  exf : ∀ b ∈ X.ex, b ≠ X.env.locals ∧ ∀ x c, X.env.cells.lookup x = some c → c ≠ b
  bs : ∀ b o, X.base.get? b = some o → X.s₀.heap.get? b = some o ∧ X.H₀ b = none
  bsz : X.base.objs.size ≤ X.s₀.heap.objs.size
  noex : ∀ b o, X.base.get? b = some o → b ∉ X.ex
  exfs : ∀ b ∈ X.ex, b ∉ X.fs
  funs : X.s₀.heap.FunFrames X.base X.outer
  frf : ∀ b ∈ X.fs, X.H₀ b = none

structure Inv (X : Cx) (pins : List (Addr × Obj)) (σ : List (Option V)) (H : Hp) (s : Shared) : Prop where
  ok : X.Ok
  os : s.os = X.s₀.os
  bare : AllBare s.gens
  base : Un X.fs X.ex X.H₀ H X.s₀.heap s.heap
  loc : ∃ m, s.heap.Ns X.env.locals m ∧ ∀ (i : Nat) (x : Str) (v : V), X.N[i]? = some x → σ[i]? = some (some v) → Vis X.env.scope x → ∃ u, RelV v u ∧ Look X.env s.heap m x u
  cell : ∀ x c, X.env.cells.lookup x = some c → ∃ v, s.heap.IsCell c v
  free : H X.env.locals = none
  freeC : ∀ x c, X.env.cells.lookup x = some c → H c = none
  pin : ∀ p ∈ X.pn ++ pins, s.heap.get? p.1 = some p.2 ∧ H p.1 = none ∧ p.1 ≠ X.env.locals ∧ p.1 ∉ X.fs ∧ ∀ v, p.2.data ≠ .cell v
  hok : HOk X.prog X.w H s.heap
  len : σ.length = X.N.length

section
variable {X : Cx} {pins : List (Addr × Obj)} {σ : List (Option V)} {H H' : Hp} {s : Shared} {h' : Heap}

theorem Cx.Ok.nofr (ok : X.Ok) {b : Addr} {o : Obj} (e : X.base.get? b = some o) : b ∉ X.fs := fun hb => by
  have := (ok.funs.mem hb).1
  rw [e] at this; cases this
theorem Inv.bs (I : Inv X pins σ H s) : ∀ b o, X.base.get? b = some o → s.heap.get? b = some o ∧ H b = none := fun b o e =>
  ⟨I.base.keep b o (I.ok.bs b o e).1 (I.ok.bs b o e).2 (I.ok.nofr e) (I.ok.noex b o e), I.base.free b o (I.ok.bs b o e).1 (I.ok.bs b o e).2 (I.ok.noex b o e)⟩
theorem Inv.bk (I : Inv X pins σ H s) : ∀ b o, X.base.get? b = some o → s.heap.get? b = some o := fun b o e => (I.bs b o e).1
theorem Inv.mod (I : Inv X pins σ H s) : Mod X.K X.mg X.base := I.ok.mod
theorem Inv.kIn (I : Inv X pins σ H s) : X.K.In s.heap := I.ok.mod.kin.keeps I.bk
theorem Inv.nolimit (I : Inv X pins σ H s) : s.heap.NoLimit := I.ok.mod.nolimit.keeps I.bk
theorem Inv.lt (I : Inv X pins σ H s) : X.env.locals < s.heap.objs.size := let ⟨_, hn, _⟩ := I.loc; hn.lt
theorem Inv.sz (I : Inv X pins σ H s) : X.s₀.heap.objs.size ≤ s.heap.objs.size := Nat.le_trans I.ok.above (Nat.le_of_lt I.lt)
theorem Inv.nofs (I : Inv X pins σ H s) {a : Addr} (h : s.heap.objs.size ≤ a) : a ∉ X.fs := fun hb => by
  obtain ⟨_, o, ho, _⟩ := I.ok.funs.mem hb
  exact absurd (Nat.lt_of_lt_of_le (Heap.lt_size ho) (Nat.le_trans I.sz h)) (Nat.lt_irrefl _)
theorem Inv.cne (I : Inv X pins σ H s) : ∀ x c, X.env.cells.lookup x = some c → c ≠ X.env.locals := fun x c e z => by
  obtain ⟨v, o, ho, hd⟩ := I.cell x c e
  obtain ⟨m, ⟨o', es, ep, ho', hd', _⟩, _⟩ := I.loc
  rw [z, ho'] at ho; cases ho; rw [hd'] at hd; cases hd
theorem Inv.funs (I : Inv X pins σ H s) : s.heap.FunFrames X.base X.outer := by
  have all : ∀ (l : List Env), (∀ b ∈ frs l, b ∈ X.fs) → X.s₀.heap.FunFrames X.base l → s.heap.FunFrames X.base l := by
    intro l
    induction l with
    | nil => intro _ _; trivial
    | cons env r ih =>
      intro hs hl
      obtain ⟨hk, ⟨L, o, hf, hn, ho, hd⟩, hr⟩ := hl
      have hL : L ∈ X.fs := hs L (by unfold frs; rw [List.filterMap_cons, hf]; exact List.mem_cons_self)
      obtain ⟨sl, e⟩ := I.base.slot L o ho (I.ok.frf L hL) hL fun z => I.ok.exfs L z hL
      exact ⟨hk, ⟨L, _, hf, hn, e, hd⟩, ih (fun b hb => hs b (by unfold frs; rw [List.filterMap_cons, hf]; exact List.mem_cons_of_mem _ hb)) hr⟩
  exact all X.outer (fun _ hb => hb) I.ok.funs

/-- the frames that run, for a call -/
theorem Inv.stack (I : Inv X pins σ H s) : s.heap.FunFrames X.base X.stack := by
  rcases I.ok.stk with e | ⟨e, hf⟩
  · rw [e]; exact I.funs
  · rw [e]
    obtain ⟨m, hn, _⟩ := I.loc
    refine .cons (by rw [I.ok.kind]; decide) hf hn ?_ I.funs
    exact Heap.get?_none_of_le (Nat.le_trans I.ok.bsz I.ok.above)
theorem Inv.stkSub (I : Inv X pins σ H s) : ∀ b ∈ frs X.stack, b ∈ X.env.locals :: X.fs := fun b hb => by
  rcases I.ok.stk with e | ⟨e, hf⟩
  · rw [e] at hb; exact List.mem_cons_of_mem _ hb
  · rw [e] at hb
    unfold frs at hb
    rw [List.filterMap_cons, hf] at hb
    exact hb
theorem Inv.stkFree (I : Inv X pins σ H s) : ∀ b ∈ frs X.stack, H b = none := fun b hb => by
  rcases List.mem_cons.mp (I.stkSub b hb) with e | hb
  · rw [e]; exact I.free
  · obtain ⟨_, o, ho, _⟩ := I.ok.funs.mem hb
    exact I.base.free b o ho (I.ok.frf b hb) fun z => I.ok.exfs b z hb

/-- THE STEP: the untracked objects but the frame and the records at ch are kept (the callers' frames up to slots), the frame's map is kept, the new abstract heap is held -/
theorem Inv.step {g' : Array GenState} {t' : Nat} {d' : Drawn} {ch : List Addr} (I : Inv X pins σ H s)
    (hch : ∀ b ∈ ch, (b ∈ X.ex ∨ X.s₀.heap.objs.size ≤ b) ∧ b ≠ X.env.locals ∧ (∀ x c, X.env.cells.lookup x = some c → c ≠ b) ∧ ∀ p ∈ X.pn ++ pins, p.1 ≠ b)
    (keep : ∀ b o, b ≠ X.env.locals → b ∉ X.fs → b ∉ ch → s.heap.get? b = some o → H b = none → h'.get? b = some o)
    (slot : ∀ b o, b ≠ X.env.locals → b ∈ X.fs → b ∉ ch → s.heap.get? b = some o → H b = none → ∃ sl, h'.get? b = some { o with slots := sl }) (free : ∀ b o, b ∉ ch → s.heap.get? b = some o → H b = none → H' b = none)
    (there : ∀ b o, b ∉ ch → s.heap.get? b = some o → ∃ o', h'.get? b = some o')
    (tups : ∀ b xs, H b = some (.tup xs) → H' b = some (.tup xs)) (frzs : ∀ b o u, H b = some (.frz o u) → H' b = some (.frz o u)) (tbls : ∀ b ps, H b = some (.tbl ps) → ∃ more, H' b = some (.tbl (ps ++ more)))
    (ns : ∀ m, s.heap.Ns X.env.locals m → h'.Ns X.env.locals m) (hok : HOk X.prog X.w H' h') (hg : AllBare g') :
    Inv X pins σ H' { s with heap := h', gens := g', drawn := d', toks := t' } := by
  have neL : ∀ b o, X.s₀.heap.get? b = some o → b ≠ X.env.locals := fun b o e => Nat.ne_of_lt (Nat.lt_of_lt_of_le (Heap.lt_size e) I.ok.above)
  have neC : ∀ b o, X.s₀.heap.get? b = some o → b ∉ X.ex → b ∉ ch := fun b o e hx hb => by
    rcases (hch b hb).1 with z | z
    · exact hx z
    · exact absurd (Nat.lt_of_lt_of_le (Heap.lt_size e) z) (Nat.lt_irrefl _)
  have cellK : ∀ x c, X.env.cells.lookup x = some c → ∀ v, s.heap.IsCell c v → h'.IsCell c v := fun x c e v ⟨o, ho, hd⟩ => by
    have nch : c ∉ ch := fun z => (hch c z).2.2.1 x c e rfl
    by_cases hc : c ∈ X.fs
    · obtain ⟨sl, q⟩ := slot c o (I.cne x c e) hc nch ho (I.freeC x c e)
      exact ⟨_, q, hd⟩
    · exact ⟨o, keep c o (I.cne x c e) hc nch ho (I.freeC x c e), hd⟩
  refine ⟨I.ok, I.os, hg, ⟨fun b o e n hb hx => ?_, fun b o e n hb hx => ?_, fun b o e n hx => ?_, fun b o e hx => ?_, fun b xs e => tups b xs (I.base.tups b xs e), fun b o xs e => frzs b o xs (I.base.frzs b o xs e), fun b ps e => ?_⟩, ?_, fun x c e => ?_, ?_, fun x c e => ?_, fun p hp => ?_, hok, I.len⟩
  · exact keep b o (neL b o e) hb (neC b o e hx) (I.base.keep b o e n hb hx) (I.base.free b o e n hx)
  · obtain ⟨sl, e1⟩ := I.base.slot b o e n hb hx
    obtain ⟨sl', e2⟩ := slot b _ (neL b o e) hb (neC b o e hx) e1 (I.base.free b o e n hx)
    exact ⟨sl', e2⟩
  · obtain ⟨o', e1⟩ := I.base.there b o e hx
    exact free b o' (neC b o e hx) e1 (I.base.free b o e n hx)
  · obtain ⟨o', e1⟩ := I.base.there b o e hx
    exact there b o' (neC b o e hx) e1
  · obtain ⟨m1, e1⟩ := I.base.tbls b ps e
    obtain ⟨m2, e2⟩ := tbls b _ e1
    exact ⟨m1 ++ m2, by rw [e2, Array.append_assoc]⟩
  · obtain ⟨m, hn, hl⟩ := I.loc
    refine ⟨m, ns m hn, fun i x v e1 e2 e3 => ?_⟩
    obtain ⟨u, r, l⟩ := hl i x v e1 e2 e3
    refine ⟨u, r, ?_⟩
    rcases l with l | ⟨k, c, e, z⟩
    · exact .inl l
    · exact .inr ⟨k, c, e, cellK x c e _ z⟩
  · obtain ⟨v, z⟩ := I.cell x c e
    exact ⟨v, cellK x c e v z⟩
  · obtain ⟨m, ⟨o, _, _, ho, _⟩, _⟩ := I.loc
    exact free _ o (fun z => (hch _ z).2.1 rfl) ho I.free
  · obtain ⟨v, o, ho, hd⟩ := I.cell x c e
    exact free c o (fun z => (hch c z).2.2.1 x c e rfl) ho (I.freeC x c e)
  · obtain ⟨e, n, ne, nf, d⟩ := I.pin p hp
    have nch : p.1 ∉ ch := fun z => (hch p.1 z).2.2.2 p hp rfl
    exact ⟨keep p.1 p.2 ne nf nch e n, free p.1 p.2 nch e n, ne, nf, d⟩
/-- .. where the frame's own object is kept too -/
theorem Inv.un {t' : Nat} (I : Inv X pins σ H s) (u : Un X.fs [] H H' s.heap h') (hok : HOk X.prog X.w H' h') : Inv X pins σ H' { s with heap := h', toks := t' } := by
  obtain ⟨m, ⟨o, es, ep, ho, r⟩, _⟩ := id I.loc
  obtain ⟨sl, hL⟩ := u.any ho I.free (by simp)
  exact I.step (g' := s.gens) (d' := s.drawn) (ch := []) (fun _ z => nomatch z) (fun b o _ hb _ e n => u.keep b o e n hb (by simp)) (fun b o _ hb _ e n => u.slot b o e n hb (by simp)) (fun b o _ e n => u.free b o e n (by simp)) (fun b o _ e => u.there b o e (by simp)) u.tups u.frzs u.tbls (fun m' hm => by
    obtain ⟨o', es', ep', ho', r'⟩ := hm
    rw [ho] at ho'; cases ho'
    exact ⟨_, es', ep', hL, r'⟩) hok I.bare
/-- behind a call (or a comprehension's block): the slots of this frame may have changed too, the records at ch may have turned -/
theorem Inv.call {g' : Array GenState} {t' : Nat} {d' : Drawn} {ch : List Addr} (I : Inv X pins σ H s) (u : Un (frs X.stack) ch H H' s.heap h') (hok : HOk X.prog X.w H' h') (hg : AllBare g')
    (hch : ∀ b ∈ ch, (b ∈ X.ex ∨ X.s₀.heap.objs.size ≤ b) ∧ b ≠ X.env.locals ∧ (∀ x c, X.env.cells.lookup x = some c → c ≠ b) ∧ ∀ p ∈ X.pn ++ pins, p.1 ≠ b) :
    Inv X pins σ H' { s with heap := h', gens := g', drawn := d', toks := t' } := by
  obtain ⟨m, ⟨o, es, ep, ho, r⟩, _⟩ := id I.loc
  obtain ⟨sl, hL⟩ := u.any ho I.free fun z => (hch _ z).2.1 rfl
  exact I.step (ch := ch) hch (fun b o hL hb hc e n => u.keep b o e n (fun z => (List.mem_cons.mp (I.stkSub b z)).elim hL hb) hc) (fun b o _ _ hc e n => u.any e n hc) (fun b o hc e n => u.free b o e n hc) (fun b o hc e => u.there b o e hc) u.tups u.frzs u.tbls (fun m' hm => by
    obtain ⟨o', es', ep', ho', r'⟩ := hm
    rw [ho] at ho'; cases ho'
    exact ⟨_, es', ep', hL, r'⟩) hok hg
/-- an untracked record of ours (an iterator) has turned -/
theorem Inv.turned {t' : Nat} {it : Addr} (I : Inv X pins σ H s) (k : ∀ b o, b ≠ it → s.heap.get? b = some o → h'.get? b = some o) (hn : H it = none) (hL : it ≠ X.env.locals)
    (h1 : it ∈ X.ex ∨ X.s₀.heap.objs.size ≤ it) (h2 : ∀ x c, X.env.cells.lookup x = some c → c ≠ it) (h3 : ∀ p ∈ X.pn ++ pins, p.1 ≠ it) : Inv X pins σ H { s with heap := h', toks := t' } := by
  have nit : ∀ b u, H b = some u → b ≠ it := fun b u e z => by rw [z, hn] at e; cases e
  refine I.step (g' := s.gens) (d' := s.drawn) (ch := [it]) (fun b hb => ?_) (fun b o _ _ hc e _ => k b o (fun z => hc (by simp [z])) e) (fun b o _ _ hc e _ => ⟨o.slots, k b o (fun z => hc (by simp [z])) e⟩) (fun _ _ _ _ n => n)
    (fun b o hc e => ⟨o, k b o (fun z => hc (by simp [z])) e⟩) (fun _ _ e => e) (fun _ _ _ e => e) (fun b ps e => ⟨#[], by rw [e]; simp⟩) (fun m hm => ?_) (fun b u e => ?_) I.bare
  · have e : b = it := by simpa using hb
    subst e
    exact ⟨h1, hL, h2, h3⟩
  · obtain ⟨o, es, ep, ho, r⟩ := hm
    exact ⟨o, es, ep, k _ o (Ne.symm hL) ho, r⟩
  · refine (I.hok b u e).stay (fun c v hc q => k c v ?_ q) (fun _ q => q) fun _ _ q => q
    rcases hc with z | z
    · rw [z]; exact nit b u e
    · exact nit c _ z
theorem Inv.tok (I : Inv X pins σ H s) (t : Nat) : Inv X pins σ H { s with toks := t } := I.un (h' := s.heap) (t' := t) Un.refl I.hok
/-- all objects kept -/
theorem Inv.kept {t' : Nat} (I : Inv X pins σ H s) (k : ∀ b u, s.heap.get? b = some u → h'.get? b = some u) : Inv X pins σ H { s with heap := h', toks := t' } := I.un (Un.kept k) (I.hok.kept k)
/-- a new object laid and tracked -/
theorem Inv.laid {a : Addr} {o : HO} {t' : Nat} (I : Inv X pins σ H s) (k : ∀ b u, s.heap.get? b = some u → h'.get? b = some u) (hp : s.heap.objs.size ≤ a) (new : ObjOk X.prog X.w (upd H a o) h' a o) :
    Inv X pins σ (upd H a o) { s with heap := h', toks := t' } := I.un (Un.laid k hp (I.hok.fresh hp)) (I.hok.laid k hp new)
/-- an object written -/
theorem Inv.write {x e : Addr} {o : HO} {t' : Nat} (I : Inv X pins σ H s) (mu : Mut (H x)) (he : e = x ∨ H e = some (.own x)) (k : ∀ b u, b ≠ e → s.heap.get? b = some u → h'.get? b = some u) (heo : ∃ u, h'.get? e = some u)
    (new : ObjOk X.prog X.w (upd H x o) h' x o) : Inv X pins σ (upd H x o) { s with heap := h', toks := t' } := I.un (Un.write mu he k heo) (I.hok.write mu he k heo new)
/-- forgetting slots, pins -/
theorem Inv.weak {σ' : List (Option V)} (I : Inv X pins σ H s) (hl : σ'.length = σ.length) (w : ∀ (i : Nat) v, σ'[i]? = some (some v) → σ[i]? = some (some v)) : Inv X pins σ' H s :=
  ⟨I.ok, I.os, I.bare, I.base, let ⟨m, hn, hl'⟩ := I.loc; ⟨m, hn, fun i x v e1 e2 e3 => hl' i x v e1 (w i v e2) e3⟩, I.cell, I.free, I.freeC, I.pin, I.hok, hl.trans I.len⟩
theorem Inv.pins_of {pins' : List (Addr × Obj)} (I : Inv X pins σ H s) (h : ∀ p ∈ pins', s.heap.get? p.1 = some p.2 ∧ H p.1 = none ∧ p.1 ≠ X.env.locals ∧ p.1 ∉ X.fs ∧ ∀ v, p.2.data ≠ .cell v) : Inv X pins' σ H s :=
  ⟨I.ok, I.os, I.bare, I.base, I.loc, I.cell, I.free, I.freeC, fun p hp => (List.mem_append.mp hp).elim (fun z => I.pin p (List.mem_append_left _ z)) (h p), I.hok, I.len⟩

theorem nodup_ix {N : List Str} (hN : N.Nodup) {i j : Nat} {x : Str} (a : N[i]? = some x) (b : N[j]? = some x) : i = j := by
  obtain ⟨h1, e1⟩ := List.getElem?_eq_some_iff.mp a
  obtain ⟨h2, e2⟩ := List.getElem?_eq_some_iff.mp b
  exact (List.getElem_inj hN).mp (e1.trans e2.symm)

/-- a name is stored; what changed -/
theorem store_ok2 {M : Model} {A : Around} {E : Value → Shared → Prop} {i : Nat} {x : Str} {v : V} {u : Value} {Q : Unit → Shared → Prop} (I : Inv X pins σ H s) (hN : X.N.Nodup) (hi : X.N[i]? = some x) (hx : Loc X.env.scope x) (r : RelV v u)
    (h : ∀ s', Inv X pins (σ.set i (some v)) H s' → (∃ a, Heap.SameBut a s.heap s'.heap ∧ (a = X.env.locals ∨ X.env.cells.lookup x = some a)) → Q () s') (hf : X.fn x = true ∨ X.env.scope.names.lookup x = some .local := by first | exact .inl rfl | exact .inr rfl | assumption) : wpAny M A (storeName X.env x u) Q E s := by
  obtain ⟨m, hn, hl⟩ := id I.loc
  have hcls : (X.env.scope.kind == .class || (X.env.scope.kind == .module && X.env.locals != X.env.globals)) = false := by rw [I.ok.kind]; rfl
  have hiσ : i < σ.length := by rw [I.len]; exact (List.getElem?_eq_some_iff.mp hi).1
  have cne := I.cne
  have tracked : ∀ {a : Addr} {h' : Heap}, (∃ o, s.heap.get? a = some o ∧ H a = none) → Heap.SameBut a s.heap h' → HOk X.prog X.w H h' := fun {a h'} ha hs b ob e => by
    obtain ⟨_, _, hfree⟩ := ha
    refine (I.hok b ob e).stay (fun c w' hc q => (hs.2 c ?_).trans q) (fun _ q => q) fun _ _ q => q
    rintro rfl
    rcases hc with rfl | hc
    · rw [hfree] at e; cases e
    · rw [hfree] at hc; cases hc
  rcases hx with hk | hk
  · refine wpAny_storeName_local hk hn (fun h' hn' hs => ?_) hcls
    obtain ⟨oL, _, _, hoL, _⟩ := id hn
    refine h _ ⟨I.ok, I.os, I.bare, ⟨fun b o e n hb hx => ?_, fun b o e n hb hx => ?_, I.base.free, fun b o e hx => ?_, I.base.tups, I.base.frzs, I.base.tbls⟩, ⟨_, hn', fun j y v' e1 e2 e3 => ?_⟩, fun y c e => ?_, I.free, I.freeC, fun p hp => ?_, tracked ⟨oL, hoL, I.free⟩ hs, by simpa using I.len⟩ ⟨_, hs, .inl rfl⟩
    · exact (hs.2 b (Nat.ne_of_lt (Nat.lt_of_lt_of_le (Heap.lt_size e) I.ok.above))).trans (I.base.keep b o e n hb hx)
    · obtain ⟨sl, e1⟩ := I.base.slot b o e n hb hx
      exact ⟨sl, (hs.2 b (Nat.ne_of_lt (Nat.lt_of_lt_of_le (Heap.lt_size e) I.ok.above))).trans e1⟩
    · obtain ⟨o', e1⟩ := I.base.there b o e hx
      exact ⟨o', (hs.2 b (Nat.ne_of_lt (Nat.lt_of_lt_of_le (Heap.lt_size e) I.ok.above))).trans e1⟩
    · by_cases hj : j = i
      · subst hj
        rw [hi] at e1; cases e1
        rw [List.getElem?_set_self hiσ] at e2
        cases e2
        exact ⟨u, r, .inl ⟨hk, by simp⟩⟩
      · rw [List.getElem?_set_ne (Ne.symm hj)] at e2
        obtain ⟨u', r', q⟩ := hl j y v' e1 e2 e3
        refine ⟨u', r', ?_⟩
        rcases q with ⟨k, e⟩ | ⟨k, c, e, z⟩
        · refine .inl ⟨k, ?_⟩
          have : y ≠ x := fun e => hj (nodup_ix hN e1 (e ▸ hi))
          simp [this, e]
        · exact .inr ⟨k, c, e, z.sameBut hs (cne y c e)⟩
    · obtain ⟨w', z⟩ := I.cell y c e
      exact ⟨w', z.sameBut hs (cne y c e)⟩
    · obtain ⟨e, n, ne, nf, d⟩ := I.pin p hp
      exact ⟨(hs.2 p.1 ne).trans e, n, ne, nf, d⟩
  · have hfn : X.fn x = true := by
      rcases hf with z | z
      · exact z
      · rw [z] at hk; cases hk
    obtain ⟨c, hc⟩ := I.ok.has x (.inl hk)
    obtain ⟨w', z⟩ := I.cell x c hc
    refine wpAny_storeName_cell I.ok.kind hk hc z (fun h' hc' hs => ?_)
    obtain ⟨oc, hoc, hocd⟩ := id z
    refine h { s with heap := h' } ⟨I.ok, I.os, I.bare, ⟨fun b o e n hb hx => ?_, fun b o e n hb hx => ?_, I.base.free, fun b o e hx => ?_, I.base.tups, I.base.frzs, I.base.tbls⟩, ⟨m, hn.sameBut hs (Ne.symm (cne x c hc)), fun j y v' e1 e2 e3 => ?_⟩, fun y c' e => ?_, I.free, I.freeC, fun p hp => ?_, tracked ⟨oc, hoc, I.freeC x c hc⟩ hs, by simpa using I.len⟩ ⟨c, hs, .inr hc⟩
    · exact (hs.2 b (Nat.ne_of_lt (Nat.lt_of_lt_of_le (Heap.lt_size e) (I.ok.cab x c hfn hc)))).trans (I.base.keep b o e n hb hx)
    · obtain ⟨sl, e1⟩ := I.base.slot b o e n hb hx
      exact ⟨sl, (hs.2 b (Nat.ne_of_lt (Nat.lt_of_lt_of_le (Heap.lt_size e) (I.ok.cab x c hfn hc)))).trans e1⟩
    · obtain ⟨o', e1⟩ := I.base.there b o e hx
      exact ⟨o', (hs.2 b (Nat.ne_of_lt (Nat.lt_of_lt_of_le (Heap.lt_size e) (I.ok.cab x c hfn hc)))).trans e1⟩
    · by_cases hj : j = i
      · subst hj
        rw [hi] at e1; cases e1
        rw [List.getElem?_set_self hiσ] at e2
        cases e2
        exact ⟨u, r, .inr ⟨.inl hk, c, hc, hc'⟩⟩
      · rw [List.getElem?_set_ne (Ne.symm hj)] at e2
        obtain ⟨u', r', q⟩ := hl j y v' e1 e2 e3
        refine ⟨u', r', ?_⟩
        rcases q with q | ⟨k, c', e, z'⟩
        · exact .inl q
        · refine .inr ⟨k, c', e, z'.sameBut hs ?_⟩
          rintro rfl
          exact hj (nodup_ix hN e1 (I.ok.inj _ _ _ e hc ▸ hi))
    · by_cases hcc : c' = c
      · subst hcc; exact ⟨_, hc'⟩
      · obtain ⟨w2, z2⟩ := I.cell y c' e
        exact ⟨w2, z2.sameBut hs hcc⟩
    · obtain ⟨e, n, ne, nf, d⟩ := I.pin p hp
      refine ⟨(hs.2 p.1 ?_).trans e, n, ne, nf, d⟩
      intro q
      rw [q, hoc] at e
      have q' : oc = p.2 := Option.some.inj e
      exact d w' (by rw [← q']; exact hocd)
theorem store_ok {M : Model} {A : Around} {E : Value → Shared → Prop} {i : Nat} {x : Str} {v : V} {u : Value} {Q : Unit → Shared → Prop} (I : Inv X pins σ H s) (hN : X.N.Nodup) (hi : X.N[i]? = some x) (hx : Loc X.env.scope x) (r : RelV v u)
    (h : ∀ s', Inv X pins (σ.set i (some v)) H s' → Q () s') (hf : X.fn x = true ∨ X.env.scope.names.lookup x = some .local := by first | exact .inl rfl | exact .inr rfl | assumption) : wpAny M A (storeName X.env x u) Q E s :=
  store_ok2 I hN hi hx r (fun s' I' _ => h s' I') hf
/-- behind a call or a block, the state as it is -/
theorem Inv.call' {s' : Shared} {ch : List Addr} (I : Inv X pins σ H s) (ho : s'.os = s.os) (u : Un (frs X.stack) ch H H' s.heap s'.heap) (hok : HOk X.prog X.w H' s'.heap) (hg : AllBare s'.gens)
    (hch : ∀ b ∈ ch, (b ∈ X.ex ∨ X.s₀.heap.objs.size ≤ b) ∧ b ≠ X.env.locals ∧ (∀ x c, X.env.cells.lookup x = some c → c ≠ b) ∧ ∀ p ∈ X.pn ++ pins, p.1 ≠ b) : Inv X pins σ H' s' := by
  obtain ⟨h', g', d', t', o'⟩ := s'
  have e : o' = s.os := ho
  subst e
  exact I.call (g' := g') (t' := t') (d' := d') u hok hg hch
end

/-! ### the judgements -/
/-- an exception: its class, its own dict's address (where it has one), the abstract heap behind it -/
abbrev XK := Value → Option Addr → Hp → Prop
abbrev St := List (Option V)
abbrev VK := V → Hp → Prop
/-- an expression's reading; a test's; an argument list's -/
abbrev TE := St → Hp → VK → Prop
abbrev TT := St → Hp → (Bool → Hp → Prop) → Prop
abbrev TA := St → Hp → (List V → Hp → Prop) → Prop
/-- what is wanted behind a statement -/
structure Ends where
  nx : St → Hp → Prop
  rt : VK
  bk : St → Hp → Prop := fun _ _ => False
  ct : St → Hp → Prop := fun _ _ => False
abbrev TS := Ends → St → Hp → Prop

def EP (X : Cx) (pins : List (Addr × Obj)) (σ : St) (Q : VK) (u : Value) (s' : Shared) : Prop := ∃ v H', Inv X pins σ H' s' ∧ RelV v u ∧ Q v H'
def TP (X : Cx) (pins : List (Addr × Obj)) (σ : St) (Q : Bool → Hp → Prop) (b : Bool) (s' : Shared) : Prop := ∃ H', Inv X pins σ H' s' ∧ Q b H'
def AP (X : Cx) (pins : List (Addr × Obj)) (σ : St) (Q : List V → Hp → Prop) (us : List Value) (s' : Shared) : Prop := ∃ vs H', Inv X pins σ H' s' ∧ Vals vs us ∧ Q vs H'
def SP (X : Cx) (pins : List (Addr × Obj)) (D : Ends) (f : Flow) (s' : Shared) : Prop :=
  match f with
  | .next => ∃ σ' H', Inv X pins σ' H' s' ∧ D.nx σ' H'
  | .brk => ∃ σ' H', Inv X pins σ' H' s' ∧ D.bk σ' H'
  | .cont => ∃ σ' H', Inv X pins σ' H' s' ∧ D.ct σ' H'
  | .ret u => ∃ v σ' H', Inv X pins σ' H' s' ∧ RelV v u ∧ D.rt v H'

def PE (X : Cx) (e : Expr) (t : TE) : Prop :=
  ∀ (pins : List (Addr × Obj)) (s : Shared) (σ : St) (H : Hp) (Q : VK), Inv X pins σ H s → t σ H Q → wpAny (model X.prog X.w) X.A (eval e X.env) (EP X pins σ Q) X.xe s
def PT (X : Cx) (e : Expr) (t : TT) : Prop :=
  ∀ (pins : List (Addr × Obj)) (s : Shared) (σ : St) (H : Hp) (Q : Bool → Hp → Prop), Inv X pins σ H s → t σ H Q → wpAny (model X.prog X.w) X.A (isTrue e X.env (eval e X.env)) (TP X pins σ Q) X.xe s
/-- a test whatever its 'whole' is (and, or) -/
def PW (X : Cx) (e : Expr) (t : TT) : Prop :=
  ∀ (whole : Sem Value) (pins : List (Addr × Obj)) (s : Shared) (σ : St) (H : Hp) (Q : Bool → Hp → Prop), Inv X pins σ H s → t σ H Q → wpAny (model X.prog X.w) X.A (isTrue e X.env whole) (TP X pins σ Q) X.xe s
theorem PW.pt {X : Cx} {e : Expr} {t : TT} (h : PW X e t) : PT X e t := h _
/-- an argument list (no star), from the left -/
def PA (X : Cx) (es : List Expr) (t : TA) : Prop :=
  ∀ (pos : Pos) (pins : List (Addr × Obj)) (s : Shared) (σ : St) (H : Hp) (Q : List V → Hp → Prop), Inv X pins σ H s → t σ H Q → wpAny (model X.prog X.w) X.A (spliced (backTo pos (starEach es X.env))) (AP X pins σ Q) X.xe s
def PS (X : Cx) (st : Stmt) (t : TS) : Prop :=
  ∀ (pins : List (Addr × Obj)) (s : Shared) (σ : St) (H : Hp) (D : Ends), Inv X pins σ H s → t D σ H → wpAny (model X.prog X.w) X.A (exec st X.env) (SP X pins D) X.xe s
def PSs (X : Cx) (st : List Stmt) (t : TS) : Prop :=
  ∀ (pins : List (Addr × Obj)) (s : Shared) (σ : St) (H : Hp) (D : Ends), Inv X pins σ H s → t D σ H → wpAny (model X.prog X.w) X.A (execs st X.env) (SP X pins D) X.xe s
/-- weaken the end -/
theorem thn {α : Type} {t : Sem α} {Q Q' : α → Shared → Prop} {M : Model} {A : Around} {E : Value → Shared → Prop} {s : Shared} (h : wpAny M A t Q E s) (hQ : ∀ a s, Q a s → Q' a s) : wpAny M A t Q' E s := wpAny_mono h hQ fun _ _ x => x
end L2

namespace L2
open PySem PySem.Spec PyProof.Rows
section
variable {X : Cx}

/-! ### names and constants -/
def tVar (i : Nat) : TE := fun σ H Q => ∃ v, σ[i]? = some (some v) ∧ Q v H
def tC (v : V) : TE := fun _ H Q => Q v H
theorem pe_var {i : Nat} {x : Str} {pos : Pos} (hN : X.N[i]? = some x) (hv : Vis X.env.scope x) (hd : (x == ("__debug__" : Str)) = false := by decide) (hcd : (x == ("__classdict__" : Str)) = false := by decide) : PE X (.Name x pos) (tVar i) := by
  intro pins s σ H Q I h
  obtain ⟨v, e, h⟩ := h
  obtain ⟨m, hn, hl⟩ := I.loc
  obtain ⟨u, r, l⟩ := hl i x v hN e hv
  have fin : EP X pins σ Q u s := ⟨v, H, I, r, h⟩
  rcases l with ⟨hk, hm⟩ | ⟨hk, c, hc, hcell⟩
  · exact wpAny_Name (wpAny_loadName_local I.ok.kind hk hn hm fin) hd
  · rcases hk with hk | hk
    · exact wpAny_Name (wpAny_loadName_cell I.ok.kind hk hc hcell fin) hd
    · exact wpAny_Name (wpAny_loadName_free I.ok.kind hk hc hcell fin hcd) hd
theorem pe_int {i j pos} : PE X (.Constant (.int i) j pos) (tC (.int i)) := fun _ _ _ H _ I h => wpAny_Constant_int ⟨.int i, H, I.tok _, ⟨_, rfl⟩, h⟩
theorem pe_bl {b j pos} : PE X (.Constant (.bool b) j pos) (tC (.bl b)) := fun _ _ _ H _ I h => Constant_bool ⟨.bl b, H, I, rfl, h⟩
theorem pe_str {x j pos} : PE X (.Constant (.str x) j pos) (tC (.str x)) := fun _ _ _ H _ I h => Calls.Constant_str ⟨.str x, H, I.tok _, ⟨_, rfl⟩, h⟩

/-- a global name of the def -/
def Gl (X : Cx) (x : Str) : Prop := X.env.kindOf x = some .globalImplicit
theorem ld_glob {E : Value → Shared → Prop} {pins : List (Addr × Obj)} {s : Shared} {σ : St} {H : Hp} {x : Str} {u : Value} {pos : Pos} {Q : Value → Shared → Prop} (I : Inv X pins σ H s) (hg : Gl X x) (hm : X.mg x = some u) (h : Q u s)
    (hd : (x == ("__debug__" : Str)) = false := by decide) : wpAny (model X.prog X.w) X.A (eval (.Name x pos) X.env) Q E s :=
  Calls.Name_function_global I.ok.kind hg (Calls.loadGlobal_global (by rw [I.ok.glob]; exact I.mod.glob.keeps I.bk) hm h) hd
theorem ld_blt {E : Value → Shared → Prop} {pins : List (Addr × Obj)} {s : Shared} {σ : St} {H : Hp} {x : Str} {u : Value} {pos : Pos} {Q : Value → Shared → Prop} (I : Inv X pins σ H s) (hg : Gl X x) (hm : X.mg x = none) (hv : bootBuiltins x = some u) (h : Q u s)
    (hn : x ≠ "__name__" := by decide) (hd : (x == ("__debug__" : Str)) = false := by decide) : wpAny (model X.prog X.w) X.A (eval (.Name x pos) X.env) Q E s := by
  obtain ⟨mb, h1, h2⟩ := I.mod.blt
  exact Calls.Name_function_global I.ok.kind hg (Calls.loadGlobal_builtin (by rw [I.ok.glob]; exact I.mod.glob.keeps I.bk) hm (by rw [I.ok.blt]; exact h1.keeps I.bk) ((h2 x hn).trans hv) h) hd
/-- a module's constant, a class, a function, as a value -/
theorem pe_glob {x : Str} {v : V} {u : Value} {pos : Pos} (hg : Gl X x) (hm : X.mg x = some u) (r : RelV v u) (hd : (x == ("__debug__" : Str)) = false := by decide) : PE X (.Name x pos) (tC v) :=
  fun _ _ _ H _ I h => ld_glob I hg hm ⟨v, H, I, r, h⟩ hd
theorem pe_bltn {x : Str} {v : V} {u : Value} {pos : Pos} (hg : Gl X x) (hm : X.mg x = none) (hv : bootBuiltins x = some u) (r : RelV v u) (hn : x ≠ "__name__" := by decide) (hd : (x == ("__debug__" : Str)) = false := by decide) : PE X (.Name x pos) (tC v) :=
  fun _ _ _ H _ I h => ld_blt I hg hm hv ⟨v, H, I, r, h⟩ hn hd

/-! ### arithmetic -/
variable {a b : Expr} {ta tb : TE} {pos : Pos}
/-! ### comparisons -/
/-- a comparison as a value, as a test -/
def tB (t : TE) : TT := fun σ H Q => t σ H fun x H1 => ∃ c, x = .bl c ∧ Q c H1
/-- an expression whose value is a bool, as a test -/
theorem pt_val {e : Expr} {t : TE} (h : PE X e t) (he : ∀ whole, isTrue e X.env whole = (do let v ← whole; standAt e.pos; holding [v] (truthy v)) := by intro _; rfl) : PT X e (tB t) := by
  intro pins s σ H Q I hw
  refine isTrue_plain (thn (h pins s σ H _ I hw) fun v s1 ⟨x, H1, I1, r1, q1⟩ => ?_) (he _)
  obtain ⟨d, rfl, q⟩ := q1
  cases r1
  exact wpAny_truthy_bool ⟨H1, I1, q⟩

/-! ### and, or, not -/
variable {tA tB' : TT} {rest : List Expr}
def tAnd (t u : TT) : TT := fun σ H Q => t σ H fun c H1 => if c = true then u σ H1 Q else Q false H1
def tOr (t u : TT) : TT := fun σ H Q => t σ H fun c H1 => if c = true then Q true H1 else u σ H1 Q
def tNot (t : TT) : TT := fun σ H Q => t σ H fun c H1 => Q (!c) H1
theorem pw_and1 (ha : PT X a tA) : PW X (.BoolOp .And [a] pos) tA := by
  intro wh pins s σ H Q I h
  refine isTrue_and (thn (ha pins s σ H Q I h) fun c s1 e => ?_)
  cases c with
  | true => exact isTrue_and_nil e
  | false => exact e
theorem pw_or1 (ha : PT X a tA) : PW X (.BoolOp .Or [a] pos) tA := by
  intro wh pins s σ H Q I h
  refine isTrue_or (thn (ha pins s σ H Q I h) fun c s1 e => ?_)
  cases c with
  | false => exact isTrue_or_nil e
  | true => exact e
theorem pw_and (ha : PT X a tA) (hb : PW X (.BoolOp .And (b :: rest) pos) tB') : PW X (.BoolOp .And (a :: b :: rest) pos) (tAnd tA tB') := by
  intro wh pins s σ H Q I h
  refine isTrue_and (thn (ha pins s σ H _ I h) fun c s1 ⟨H1, I1, q1⟩ => ?_)
  cases c with
  | true => exact hb wh pins s1 σ H1 Q I1 q1
  | false => exact ⟨H1, I1, q1⟩
theorem pw_or (ha : PT X a tA) (hb : PW X (.BoolOp .Or (b :: rest) pos) tB') : PW X (.BoolOp .Or (a :: b :: rest) pos) (tOr tA tB') := by
  intro wh pins s σ H Q I h
  refine isTrue_or (thn (ha pins s σ H _ I h) fun c s1 ⟨H1, I1, q1⟩ => ?_)
  cases c with
  | true => exact ⟨H1, I1, q1⟩
  | false => exact hb wh pins s1 σ H1 Q I1 q1
theorem pt_not (ha : PT X a tA) : PT X (.UnaryOp .Not a pos) (tNot tA) := by
  intro pins s σ H Q I h
  exact isTrue_not (ha pins s σ H (fun c H1 => Q (!c) H1) I h)
/-- .. as values (bools) -/
def tAndV (ta tb : TE) : TE := fun σ H Q => ta σ H fun x H1 => ∃ c, x = .bl c ∧ if c = true then tb σ H1 Q else Q (.bl false) H1
def tNotV (ta : TE) : TE := fun σ H Q => ta σ H fun x H1 => ∃ c, x = .bl c ∧ Q (.bl (!c)) H1
theorem pe_one {op} {t : TE} (h : PE X a t) : PE X (.BoolOp op [a] pos) t := fun pins s σ H Q I hw => BoolOp_one (h pins s σ H Q I hw)
theorem pe_and (ha : PE X a ta) (hb : PE X (.BoolOp .And (b :: rest) pos) tb) : PE X (.BoolOp .And (a :: b :: rest) pos) (tAndV ta tb) := by
  intro pins s σ H Q I h
  refine BoolOp_and (thn (ha pins s σ H _ I h) fun v s1 ⟨x, H1, I1, r1, q1⟩ => ?_)
  obtain ⟨c, rfl, q1⟩ := q1
  cases r1
  refine wpAny_truthy_bool ?_
  cases c with
  | true => exact hb pins s1 σ H1 Q I1 q1
  | false => exact ⟨.bl false, H1, I1, rfl, q1⟩
theorem pe_not (ha : PE X a ta) : PE X (.UnaryOp .Not a pos) (tNotV ta) := by
  intro pins s σ H Q I h
  refine UnaryOp_ (thn (ha pins s σ H _ I h) fun v s1 ⟨x, H1, I1, r1, q1⟩ => ?_)
  obtain ⟨c, rfl, q1⟩ := q1
  cases r1
  exact not_of (wpAny_truthy_bool ⟨.bl (!c), H1, I1, rfl, q1⟩)
end
end L2

namespace L2
open PySem PySem.Spec PyProof.Rows

/-! ### a list, a tuple that is read: tracked, frozen, or an object of the module -/
def SqL (K : PySem.W.Frag) (H : Hp) (a : Addr) (xs : List V) : Prop :=
  Rd H a (.lst xs) ∨
    ∃ (o : Obj) (its : Array Value) (n : Nat), K.lookup a = some o ∧ o.cls = .type "list" ∧ o.dict = none ∧ o.data = .seq its n ∧ its.size ≤ sizeLine ∧ Vals xs its.toList
def SqT (K : PySem.W.Frag) (H : Hp) (a : Addr) (xs : List V) : Prop :=
  Rd H a (.tup xs) ∨
    ∃ (o : Obj) (its : Array Value) (n : Nat), K.lookup a = some o ∧ o.cls = .type "tuple" ∧ o.data = .seq its n ∧ its.size ≤ sizeLine ∧ Vals xs its.toList
def absV : Value → Option V
  | .none => some .non
  | .bool b => some (.bl b)
  | .int i _ => some (.int i)
  | .str x _ => some (.str x)
  | .bytes b _ => some (.byt b)
  | .float b _ => some (.flt b)
  | .ref a => some (.ref a)
  | .type n => some (.ty n)
  | _ => none
theorem RelV.abs {x : V} {u : Value} (r : RelV x u) : absV u = some x := by
  cases x with
  | non => cases r; rfl
  | bl _ => cases r; rfl
  | int _ => obtain ⟨t, rfl⟩ := r; rfl
  | str _ => obtain ⟨t, rfl⟩ := r; rfl
  | byt _ => obtain ⟨t, rfl⟩ := r; rfl
  | flt _ => obtain ⟨t, rfl⟩ := r; rfl
  | ref _ => cases r; rfl
  | ty _ => cases r; rfl
theorem RelV.inj {x y : V} {u : Value} (r : RelV x u) (q : RelV y u) : x = y := Option.some.inj (r.abs.symm.trans q.abs)
theorem Vals.inj : ∀ {xs ys : List V} {us : List Value}, Vals xs us → Vals ys us → xs = ys
  | _, _, _, .nil, .nil => rfl
  | _, _, _, .cons r t, .cons r' t' => by rw [r.inj r', Vals.inj t t']
section
variable {X : Cx} {pins : List (Addr × Obj)} {σ : St} {H : Hp} {s : Shared} {a : Addr} {xs ys : List V}
theorem SqL.of {K : PySem.W.Frag} (h : H a = some (.lst xs)) : SqL K H a xs := .inl (.inl h)
theorem SqT.of {K : PySem.W.Frag} (h : H a = some (.tup xs)) : SqT K H a xs := .inl (.inl h)
theorem Inv.list (I : Inv X pins σ H s) (h : SqL X.K H a xs) : ∃ its : List Value, Vals xs its ∧ PlainL s.heap a its.toArray ∧ xs.length ≤ sizeLine := by
  rcases h with h | ⟨o, its, n, hk, hc, hd, hs, hz, r⟩
  · obtain ⟨z, its, n, r, e⟩ := h.ok I.hok
    exact ⟨its, r, ⟨_, n, e, rfl, rfl, rfl⟩, z⟩
  · refine ⟨its.toList, r, ⟨o, n, I.kIn a o hk, hc, hd, by simpa using hs⟩, ?_⟩
    have e := r.length
    simp only [Array.length_toList] at e
    omega
theorem Inv.tuple (I : Inv X pins σ H s) (h : SqT X.K H a xs) : ∃ its : List Value, Vals xs its ∧ IsTup s.heap a its.toArray ∧ xs.length ≤ sizeLine := by
  rcases h with h | ⟨o, its, n, hk, hc, hs, hz, r⟩
  · obtain ⟨z, its, r, p⟩ := h.ok I.hok
    exact ⟨its, r, p, z⟩
  · refine ⟨its.toList, r, ⟨o, I.kIn a o hk, hc, n, by simpa using hs⟩, ?_⟩
    have e := r.length
    simp only [Array.length_toList] at e
    omega
theorem Inv.list_inj (I : Inv X pins σ H s) (h : SqL X.K H a xs) (h' : SqL X.K H a ys) : xs = ys := by
  obtain ⟨its, r, ⟨o, n, e, _, _, d⟩, _⟩ := I.list h
  obtain ⟨its', r', ⟨o', n', e', _, _, d'⟩, _⟩ := I.list h'
  rw [e] at e'; cases e'
  rw [d] at d'
  injection d' with d1 _
  have : its = its' := by simpa using congrArg Array.toList d1
  subst this
  exact r.inj r'
end

/-! ### another wish about exceptions -/
abbrev Cx.wish (X : Cx) (E : Value → Shared → Prop) : Cx := { X with xe := E }
/-- no exception leaves -/
abbrev Cx.nox (X : Cx) : Cx := X.wish fun _ _ => False
theorem Cx.Ok.wish {X : Cx} (ok : X.Ok) (E : Value → Shared → Prop) : (X.wish E).Ok :=
  ⟨ok.mod, ok.kind, ok.glob, ok.blt, ok.above, ok.inj, ok.has, ok.cab, ok.hd, ok.frames, ok.stk, ok.exf, ok.bs, ok.bsz, ok.noex, ok.exfs, ok.funs, ok.frf⟩
theorem Cx.Ok.unwish {X : Cx} {E : Value → Shared → Prop} (ok : (X.wish E).Ok) : X.Ok :=
  ⟨ok.mod, ok.kind, ok.glob, ok.blt, ok.above, ok.inj, ok.has, ok.cab, ok.hd, ok.frames, ok.stk, ok.exf, ok.bs, ok.bsz, ok.noex, ok.exfs, ok.funs, ok.frf⟩
section
variable {X : Cx} {pins : List (Addr × Obj)} {σ : St} {H : Hp} {s : Shared} {E : Value → Shared → Prop}
theorem Inv.wish (I : Inv X pins σ H s) (E : Value → Shared → Prop) : Inv (X.wish E) pins σ H s := ⟨I.ok.wish E, I.os, I.bare, I.base, I.loc, I.cell, I.free, I.freeC, I.pin, I.hok, I.len⟩
theorem Inv.unwish (I : Inv (X.wish E) pins σ H s) : Inv X pins σ H s := ⟨I.ok.unwish, I.os, I.bare, I.base, I.loc, I.cell, I.free, I.freeC, I.pin, I.hok, I.len⟩
theorem SP.unwish {D : Ends} {f : Flow} {s' : Shared} (h : SP (X.wish E) pins D f s') : SP X pins D f s' := by
  cases f with
  | next => obtain ⟨σ', H', I, q⟩ := h; exact ⟨σ', H', I.unwish, q⟩
  | brk => obtain ⟨σ', H', I, q⟩ := h; exact ⟨σ', H', I.unwish, q⟩
  | cont => obtain ⟨σ', H', I, q⟩ := h; exact ⟨σ', H', I.unwish, q⟩
  | ret u => obtain ⟨v, σ', H', I, r, q⟩ := h; exact ⟨v, σ', H', I.unwish, r, q⟩
theorem PE.nox {e : Expr} {t : TE} (h : PE X.nox e t) : PE X e t := fun pins s σ H Q I hw =>
  wpAny_mono (h pins s σ H Q (I.wish _) hw) (fun _ _ ⟨v, H', I', r, q⟩ => ⟨v, H', I'.unwish, r, q⟩) fun _ _ z => False.elim z
theorem PT.nox {e : Expr} {t : TT} (h : PT X.nox e t) : PT X e t := fun pins s σ H Q I hw =>
  wpAny_mono (h pins s σ H Q (I.wish _) hw) (fun _ _ ⟨H', I', q⟩ => ⟨H', I'.unwish, q⟩) fun _ _ z => False.elim z
theorem PSs.nox {st : List Stmt} {t : TS} (h : PSs X.nox st t) : PSs X st t := fun pins s σ H D I hw =>
  wpAny_mono (h pins s σ H D (I.wish _) hw) (fun _ _ q => q.unwish) fun _ _ z => False.elim z
end

/-! ### blocks and small statements -/
section
variable {X : Cx} {st : Stmt} {rest : List Stmt} {t u : TS} {e : Expr} {te : TE} {pos : Pos}
def tNext : TS := fun D σ H => D.nx σ H
def tSeq (t u : TS) : TS := fun D σ H => t { D with nx := u D } σ H
theorem pss_nil : PSs X [] tNext := fun _ _ σ H _ I h => wpAny_execs_nil ⟨σ, H, I, h⟩
theorem pss_cons (h1 : PS X st t) (h2 : PSs X rest u) : PSs X (st :: rest) (tSeq t u) := by
  intro pins s σ H D I h
  refine wpAny_execs_cons (thn (h1 pins s σ H { D with nx := u D } I h) fun f s1 q => ?_)
  cases f with
  | next =>
    obtain ⟨σ', H', I', q⟩ := q
    exact h2 pins s1 σ' H' D I' q
  | ret v => exact q
  | brk => exact q
  | cont => exact q
theorem pss_one (h1 : PS X st t) : PSs X [st] t := by
  intro pins s σ H D I h
  refine wpAny_execs_cons (thn (h1 pins s σ H D I h) fun f s1 q => ?_)
  cases f with
  | next => exact wpAny_execs_nil q
  | ret v => exact q
  | brk => exact q
  | cont => exact q
/-- in a def's body nothing is shown -/
theorem Inv.quiet {pins : List (Addr × Obj)} {σ : St} {H : Hp} {s : Shared} (I : Inv X pins σ H s) : interactive X.env = false := by simp [interactive, I.ok.kind]
/-- an expression whose value is dropped -/
def tDrop (te : TE) : TS := fun D σ H => te σ H fun _ H1 => D.nx σ H1
theorem ps_expr (he : PE X e te) (hs : swapsWith e none pos.line X.env = pure false := by rfl) : PS X (.Expr e pos) (tDrop te) := by
  intro pins s σ H D I h
  exact wpAny_Expr_any (thn (he pins s σ H _ I h) fun v s1 ⟨x, H1, I1, r1, q1⟩ => ⟨σ, H1, I1, q1⟩) I.quiet hs
def tRet (te : TE) : TS := fun D σ H => te σ H D.rt
theorem ps_ret (he : PE X e te) : PS X (.Return (some e) pos) (tRet te) := by
  intro pins s σ H D I h
  exact wpAny_Return_some (thn (he pins s σ H _ I h) fun v s1 ⟨x, H1, I1, r1, q1⟩ => ⟨x, σ, H1, I1, r1, q1⟩)
def tIfS (c : TT) (t u : TS) : TS := fun D σ H => c σ H fun b H1 => if b = true then t D σ H1 else u D σ H1
theorem ps_if {c : Expr} {a b : List Stmt} {tc : TT} (hc : PT X c tc) (ha : PSs X a t) (hb : PSs X b u) : PS X (.If c a b pos) (tIfS tc t u) := by
  intro pins s σ H D I h
  refine wpAny_If (thn (hc pins s σ H _ I h) fun d s1 ⟨H1, I1, q1⟩ => ?_)
  cases d with
  | true => exact ha pins s1 σ H1 D I1 q1
  | false => exact hb pins s1 σ H1 D I1 q1
end

/-! ### targets -/
abbrev TG := V → St → Hp → (St → Hp → Prop) → Prop
def PG (X : Cx) (target : Expr) (t : TG) : Prop :=
  ∀ (pins : List (Addr × Obj)) (s : Shared) (σ : St) (H : Hp) (v : V) (u : Value) (Q : St → Hp → Prop), Inv X pins σ H s → RelV v u → t v σ H Q →
    wpAny (model X.prog X.w) X.A (assign target X.env u) (fun _ s' => ∃ σ' H', Inv X pins σ' H' s' ∧ Q σ' H') X.xe s
/-- o[i] = v, by values -/
abbrev TSet := V → V → V → Hp → (Hp → Prop) → Prop
def PSet (X : Cx) (t : TSet) : Prop :=
  ∀ (pins : List (Addr × Obj)) (s : Shared) (σ : St) (H : Hp) (o i v : V) (ov iv u : Value) (Q : Hp → Prop), Inv X pins σ H s → RelV o ov → RelV i iv → RelV v u → t o i v H Q →
    wpAny (model X.prog X.w) X.A (setItem ov iv u) (fun _ s' => ∃ H', Inv X pins σ H' s' ∧ Q H') X.xe s
/-- a op= b, by values -/
abbrev TIp := V → V → Hp → VK → Prop
def PIp (X : Cx) (op : Operator) (t : TIp) : Prop :=
  ∀ (pins : List (Addr × Obj)) (s : Shared) (σ : St) (H : Hp) (x y : V) (v u : Value) (Q : VK), Inv X pins σ H s → RelV x v → RelV y u → t x y H Q →
    wpAny (model X.prog X.w) X.A (inplaceOp op v u) (EP X pins σ Q) X.xe s
section
variable {X : Cx} {pos : Pos}
def gName (i : Nat) : TG := fun v σ H Q => Q (σ.set i (some v)) H
theorem pg_name {i : Nat} {x : Str} (hN : X.N.Nodup) (hi : X.N[i]? = some x) (hx : Loc X.env.scope x) (hf : X.fn x = true ∨ X.env.scope.names.lookup x = some .local := by first | exact .inl rfl | exact .inr rfl | assumption) : PG X (.Name x pos) (gName i) := by
  intro pins s σ H v u Q I r h
  exact wpAny_assign_Name (store_ok I hN hi hx r (fun s' I' => ⟨_, H, I', h⟩) hf)
/-- o[i] = .. -/
def gSub (to ti : TE) (t : TSet) : TG := fun v σ H Q => to σ H fun o H1 => ti σ H1 fun i H2 => t o i v H2 fun H3 => Q σ H3
theorem pg_sub {o i : Expr} {to ti : TE} {t : TSet} (ho : PE X o to) (hi : PE X i ti) (hs : PSet X t)
    (ha : ∀ v, assign (.Subscript o i pos) X.env v = (do
      let ov ← holding [v] (eval o X.env)
      let iv ← holding [v, ov] (eval i X.env)
      standAt pos
      holding [v, ov, iv] (setItem ov iv v)
      release [v, ov, iv] []) := by intro _; rfl) : PG X (.Subscript o i pos) (gSub to ti t) := by
  intro pins s σ H v u Q I r h
  rw [ha]
  refine wpAny_bind (wpAny_holding (thn (ho pins s σ H _ I h) fun ov s1 ⟨x, H1, I1, r1, q1⟩ => ?_))
  refine wpAny_bind (wpAny_holding (thn (hi pins s1 σ H1 _ I1 q1) fun iv s2 ⟨y, H2, I2, r2, q2⟩ => ?_))
  refine wpAny_bind (wpAny_standAt (wpAny_bind (wpAny_holding (thn (hs pins s2 σ H2 x y v ov iv u _ I2 r1 r2 r q2) fun _ s3 ⟨H3, I3, q3⟩ => ?_))))
  exact wpAny_release ⟨σ, H3, I3, q3⟩
/-- target = value -/
def tAsg (te : TE) (g : TG) : TS := fun D σ H => te σ H fun x H1 => g x σ H1 D.nx
theorem ps_asg {tg e : Expr} {te : TE} {g : TG} (he : PE X e te) (hg : PG X tg g) (hs : swapsWithSole [tg] e pos.line X.env = pure false := by rfl) (hw : swappedStores [tg] e X.env = pure none := by rfl)
    (h1 : (assignEach [tg] X.env).map (·.2) = [assign tg X.env] := by rfl) : PS X (.Assign [tg] e pos) (tAsg te g) := by
  intro pins s σ H D I h
  refine wpAny_Assign_stores (thn (he pins s σ H _ I h) fun v s1 ⟨x, H1, I1, r1, q1⟩ => ?_) hs hw
  rw [h1]
  exact thn (hg pins s1 σ H1 x v _ I1 r1 q1) fun _ s2 q => q
/-- name = value -/
theorem ps_set {i : Nat} {x : Str} {e : Expr} {te : TE} {pos' : Pos} (hN : X.N.Nodup) (hi : X.N[i]? = some x) (hx : Loc X.env.scope x) (he : PE X e te) (hs : swapsWith e (some (.Name x pos')) pos.line X.env = pure false := by rfl) (hf : X.fn x = true ∨ X.env.scope.names.lookup x = some .local := by first | exact .inl rfl | exact .inr rfl | assumption) :
    PS X (.Assign [.Name x pos'] e pos) (tAsg te (gName i)) := by
  intro pins s σ H D I h
  refine wpAny_Assign_Name (thn (he pins s σ H _ I h) fun v s1 ⟨y, H1, I1, r1, q1⟩ => ?_) hs
  exact store_ok I1 hN hi hx r1 (fun s2 I2 => ⟨_, H1, I2, q1⟩) hf
/-- name op= e -/
def tAug (i : Nat) (te : TE) (ti : TIp) : TS := fun D σ H => ∃ x, σ[i]? = some (some x) ∧ te σ H fun y H1 => ti x y H1 fun z H2 => D.nx (σ.set i (some z)) H2
theorem ps_aug {i : Nat} {x : Str} {e : Expr} {te : TE} {op : Operator} {ti : TIp} {pos' : Pos} (hN : X.N.Nodup) (hi : X.N[i]? = some x) (hx : Loc X.env.scope x) (he : PE X e te) (ho : PIp X op ti) (hf : X.fn x = true ∨ X.env.scope.names.lookup x = some .local := by first | exact .inl rfl | exact .inr rfl | assumption) :
    PS X (.AugAssign (.Name x pos') op e pos) (tAug i te ti) := by
  intro pins s σ H D I h
  obtain ⟨v, e1, h⟩ := h
  obtain ⟨m, hn, hl⟩ := I.loc
  have vis : Vis X.env.scope x := by rcases hx with k | k; exact .inl k; exact .inr (.inl k)
  obtain ⟨u, r, l⟩ := hl i x v hi e1 vis
  refine wpAny_AugAssign_Name ?_
  have go : wpAny (model X.prog X.w) X.A (eval e X.env) (fun w s₂ => wpAny (model X.prog X.w) X.A (inplaceOp op u w) (fun r s₃ => wpAny (model X.prog X.w) X.A (storeName X.env x r) (fun _ => SP X pins D .next) X.xe s₃) X.xe s₂) X.xe s := by
    refine thn (he pins s σ H _ I h) fun w s1 ⟨y, H1, I1, r1, q1⟩ => ?_
    refine thn (ho pins s1 σ H1 v y u w _ I1 r r1 q1) fun z s2 ⟨zv, H2, I2, r2, q2⟩ => ?_
    exact store_ok I2 hN hi hx r2 (fun s3 I3 => ⟨_, H2, I3, q2⟩) hf
  rcases l with ⟨hk, hm⟩ | ⟨hk, c, hc, hcell⟩
  · exact wpAny_loadName_local I.ok.kind hk hn hm go
  · rcases hk with hk | hk
    · exact wpAny_loadName_cell I.ok.kind hk hc hcell go
    · rcases hx with k | k
      · have : X.env.scope.names.lookup x = some .free := hk
        rw [k] at this; cases this
      · have : X.env.scope.names.lookup x = some .free := hk
        rw [k] at this; cases this
/-- ints -/
def ipI (f : Int → Int → Int) : TIp := fun x y H Q => ∃ i j, x = .int i ∧ y = .int j ∧ Q (.int (f i j)) H
theorem ip_add : PIp X .Add (ipI fun i j => i + j) := by
  intro pins s σ H x y v u Q I r1 r2 h
  obtain ⟨i, j, e1, e2, q⟩ := h
  subst e1; subst e2
  obtain ⟨t, rfl⟩ := r1
  obtain ⟨t', rfl⟩ := r2
  exact iadd_int ⟨.int _, H, I.tok _, ⟨_, rfl⟩, q⟩
end

/-! ### while -/
section
variable {X : Cx} {pos : Pos}
end

/-! ### what a loop or a comprehension walks -/
/-- at turn i: it yields x (the heap may grow), or it stops -/
structure It where
  go : Nat → Hp → Prop
  yld : Nat → Hp → V → Hp → Prop
  stop : Nat → Hp → Prop
/-- the iterator's own objects may turn: they are not the frame's, not pinned, younger than the entry (or a comprehension's own) -/
def FpOk (X : Cx) (pins : List (Addr × Obj)) (H : Hp) (b : Addr) : Prop :=
  H b = none ∧ b ≠ X.env.locals ∧ b ∉ X.fs ∧ (b ∈ X.ex ∨ X.s₀.heap.objs.size ≤ b) ∧ (∀ x c, X.env.cells.lookup x = some c → c ≠ b) ∧ ∀ p ∈ X.pn ++ pins, p.1 ≠ b
theorem Inv.fpOk {X : Cx} {pins : List (Addr × Obj)} {σ : St} {H H' : Hp} {s : Shared} {b : Addr} (I : Inv X pins σ H s) (hb : s.heap.objs.size ≤ b) (hn : H' b = none) : FpOk X pins H' b := by
  refine ⟨hn, Nat.ne_of_gt (Nat.lt_of_lt_of_le I.lt hb), I.nofs hb, .inr (Nat.le_trans I.sz hb), fun x c e z => ?_, fun p hp z => ?_⟩
  · obtain ⟨v, q⟩ := I.cell x c e
    exact absurd (Nat.lt_of_lt_of_le q.lt (by rw [z]; exact hb)) (Nat.lt_irrefl _)
  · exact absurd (Nat.lt_of_lt_of_le (Heap.lt_size (I.pin p hp).1) (by rw [z]; exact hb)) (Nat.lt_irrefl _)
structure Turn (P : Program) (w : World) (K : PySem.W.Frag) (tg : Expr) (J : It) (fp : List Addr) (it : Addr) (tn : Nat → Heap → Prop) : Prop where
  mem : it ∈ fp
  obj : ∀ i h, tn i h → ∀ b ∈ fp, ∃ o, h.get? b = some o ∧ ∀ v, o.data ≠ .cell v
  keep : ∀ i h h', tn i h → (∀ b ∈ fp, ∀ o, h.get? b = some o → h'.get? b = some o) → tn i h'
  item : ∀ (X : Cx), X.prog = P → X.w = w → X.K = K → X.calm = true → ∀ (i : Nat) (pins : List (Addr × Obj)) (s : Shared) (σ : St) (H : Hp) (E : Value → Shared → Prop), Inv X pins σ H s → (∀ b ∈ fp, FpOk X pins H b) → tn i s.heap → J.go i H →
    wpAny (model P w) X.A (pyNext (.ref it)) (fun r s1 => ∃ u, r = some u ∧
      wpAny (model P w) X.A (letOwnedTupleGo tg (.ref it) u) (fun _ s2 => ∃ x H', Inv X pins σ H' s2 ∧ RelV x u ∧ J.yld i H x H' ∧ tn (i + 1) s2.heap ∧ ∀ b ∈ fp, H' b = none) E s1) E s
  done : ∀ (X : Cx), X.prog = P → X.w = w → X.K = K → X.calm = true → ∀ (i : Nat) (pins : List (Addr × Obj)) (s : Shared) (σ : St) (H : Hp) (E : Value → Shared → Prop), Inv X pins σ H s → (∀ b ∈ fp, FpOk X pins H b) → tn i s.heap → J.stop i H →
    wpAny (model P w) X.A (pyNext (.ref it)) (fun r s1 => r = none ∧ Inv X pins σ H s1) E s
  self : ∀ (A : Around) (i : Nat) (s : Shared) (Q : Value → Shared → Prop) (E : Value → Shared → Prop), tn i s.heap → Q (.ref it) s → wpAny (model P w) A (pyIter (.ref it)) Q E s
abbrev TI := St → Hp → (It → Hp → Prop) → Prop
/-- an iterator has come -/
def PIE (X : Cx) (pins : List (Addr × Obj)) (σ : St) (tg : Expr) (R : It → Hp → Prop) (itv : Value) (s2 : Shared) : Prop :=
  ∃ (it : Addr) (fp : List Addr) (tn : Nat → Heap → Prop) (J : It) (H' : Hp), itv = .ref it ∧ Inv X pins σ H' s2 ∧ Turn X.prog X.w X.K tg J fp it tn ∧ tn 0 s2.heap ∧ (∀ b ∈ fp, FpOk X pins H' b) ∧ R J H'
def PI (X : Cx) (tg iter : Expr) (wi : TI) : Prop :=
  ∀ (pins : List (Addr × Obj)) (s : Shared) (σ : St) (H : Hp) (R : It → Hp → Prop), Inv X pins σ H s → wi σ H R →
    wpAny (model X.prog X.w) X.A (eval iter X.env) (fun v s1 => wpAny (model X.prog X.w) X.A (pyIter v) (PIE X pins σ tg R) X.xe s1) X.xe s

/-- the step ahead of the store is nothing for an iterator that keeps no tuple -/
theorem go_of {M : Model} {A : Around} {E : Value → Shared → Prop} {s : Shared} {tg : Expr} {it : Addr} {u : Value} {o : Obj} {n : String} {vs : Array Value} {Q : Unit → Shared → Prop} (ho : s.heap.get? it = some o) (hc : o.cls = .type n) (hd : o.data = .fields vs)
    (hn : ["enumerate", "zip", "dict_itemiterator", "dict_reverseitemiterator", "odict_iterator", "itertools.zip_longest", "itertools.pairwise"].contains n = false) (hQ : Q () s) : wpAny M A (letOwnedTupleGo tg (.ref it) u) Q E s := by
  unfold letOwnedTupleGo
  cases tg <;> first
    | exact wpAny_pure hQ
    | (cases u <;> first
        | exact wpAny_pure hQ
        | (refine wpAny_bind (wpAny_load ho ?_)
           rw [hc, hd]
           show wpAny M A (if (["enumerate", "zip", "dict_itemiterator", "dict_reverseitemiterator", "odict_iterator", "itertools.zip_longest", "itertools.pairwise"].contains n && vs[0]? == some (rawInt _)) = true then _ else _) Q E s
           rw [if_neg (by intro h; rw [hn, Bool.false_and] at h; cases h)]
           exact wpAny_pure hQ))

/-- the list at a, as it stands at each turn (a loop may append to it) -/
def Itl (K : PySem.W.Frag) (a : Addr) : It :=
  ⟨fun i H => ∃ xs x, SqL K H a xs ∧ xs[i]? = some x, fun i H x H' => H' = H ∧ ∀ xs, SqL K H a xs → xs[i]? = some x, fun i H => ∃ xs, SqL K H a xs ∧ xs.length ≤ i⟩
/-- lo, lo + 1, .. (n of them) -/
def Itr (lo : Int) (n : Nat) : It := ⟨fun i _ => i < n, fun i H x H' => H' = H ∧ x = .int (lo + i), fun i _ => n ≤ i⟩
theorem turn_list {P : Program} {w : World} {K : PySem.W.Frag} {tg : Expr} (a it : Addr) : Turn P w K tg (Itl K a) [it] it (fun i h => h.IsListIter it a i) where
  mem := by simp
  obj := fun i h st b hb => by
    have e : b = it := by simpa using hb
    subst e
    obtain ⟨o, e, c, d⟩ := st
    exact ⟨o, e, fun v z => by rw [d] at z; cases z⟩
  keep := fun i h h' st k => st.at fun o e => k it (by simp) o e
  item := by
    intro X hP hw hK hc i pins s σ H E I hf st hg
    subst hP hw hK
    obtain ⟨xs, x, hq, hx⟩ := hg
    obtain ⟨its, rv, p, hz⟩ := I.list hq
    obtain ⟨u, hu, ru⟩ := rv.get hx
    obtain ⟨f0, f1, f2, f3, f4, f5⟩ := hf it (by simp)
    refine wpAny_pyNext_list_item st p.isList (x := u) (by simpa using hu) fun h' st' sb => ?_
    have I1 : Inv X pins σ H { s with heap := h' } := I.turned (t' := s.toks) (fun b o hb e => (sb.2 b hb).trans e) f0 f1 f3 f4 f5
    obtain ⟨o, e, c, d⟩ := id st'
    exact ⟨u, rfl, go_of (s := { s with heap := h' }) e c d (by decide) ⟨x, H, I1, ru, ⟨rfl, fun ys hy => by rw [I.list_inj hy hq]; exact hx⟩, st', fun b hb => (hf b hb).1⟩⟩
  done := by
    intro X hP hw hK hc i pins s σ H E I hf st hg
    subst hP hw hK
    obtain ⟨xs, hq, hx⟩ := hg
    obtain ⟨its, rv, p, hz⟩ := I.list hq
    obtain ⟨f0, f1, f2, f3, f4, f5⟩ := hf it (by simp)
    have hl := rv.length
    exact wpAny_pyNext_list_end (I.ok.hd hc) st p.isList (by simp; omega) fun h' eb => ⟨rfl, I.turned (t' := s.toks) (fun b o hb e => eb b o hb e) f0 f1 f3 f4 f5⟩
  self := fun _ _ _ _ _ st h => wpAny_pyIter_listiter st h
theorem turn_range {P : Program} {w : World} {K : PySem.W.Frag} {tg : Expr} (it : Addr) (lo : Int) (n : Nat) : Turn P w K tg (Itr lo n) [it] it (fun i h => IsRangeIter h it (lo + (i : Nat) * 1) ((n : Int) - (i : Nat)) 1) where
  mem := by simp
  obj := fun i h st b hb => by
    have e : b = it := by simpa using hb
    subst e
    exact ⟨_, st, fun v z => by
      have z' : Data.fields _ = Data.cell v := z
      cases z'⟩
  keep := fun i h h' st k => k it (by simp) _ st
  item := by
    intro X hP hw hK hc i pins s σ H E I hf st hg
    subst hP hw hK
    obtain ⟨f0, f1, f2, f3, f4, f5⟩ := hf it (by simp)
    have W := Walks.range (prog := X.prog) (w := X.w) (I.ok.hd hc) it lo 1 n
    refine W.item i s _ _ hg st fun v h' tk hv st' kk => ?_
    obtain ⟨t, rfl⟩ := hv
    have I1 : Inv X pins σ H { s with heap := h', toks := tk } := I.turned (fun b o hb e => kk b o (by simpa using hb) e) f0 f1 f3 f4 f5
    refine ⟨_, rfl, go_of (s := { s with heap := h', toks := tk }) (n := "range_iterator") st' rfl rfl (by decide) ⟨.int (lo + i), H, I1, ⟨t, ?_⟩, ⟨rfl, rfl⟩, st', fun b hb => (hf b hb).1⟩⟩
    rw [Int.mul_one]
  done := by
    intro X hP hw hK hc i pins s σ H E I hf st hg
    subst hP hw hK
    obtain ⟨f0, f1, f2, f3, f4, f5⟩ := hf it (by simp)
    exact wpAny_pyNext_range_end (I.ok.hd hc) st (by have : n ≤ i := hg; omega) fun h' eb => ⟨rfl, I.turned (t' := s.toks) (fun b o hb e => eb b o hb e) f0 f1 f3 f4 f5⟩
  self := fun _ _ _ _ _ st h => wpAny_pyIter_rangeiter st h
end L2

namespace L2
open PySem PySem.Spec PyProof.Rows
section
variable {X : Cx} {tg : Expr}
def iList (K : PySem.W.Frag) (tl : TE) : TI := fun σ H R => tl σ H fun x H1 => ∃ a, x = .ref a ∧ (∃ xs, SqL K H1 a xs) ∧ R (Itl K a) H1
theorem pi_list {l : Expr} {tl : TE} (hl : PE X l tl) : PI X tg l (iList X.K tl) := by
  intro pins s σ H R I h
  refine thn (hl pins s σ H _ I h) fun v s1 ⟨x, H1, I1, r1, q1⟩ => ?_
  obtain ⟨a, e, ⟨xs, hq⟩, q⟩ := q1
  subst e
  cases r1
  obtain ⟨its, rv, p, hz⟩ := I1.list hq
  refine wpAny_pyIter_list p.isList ?_
  refine ⟨s1.heap.objs.size, [s1.heap.objs.size], _, _, H1, rfl, I1.kept (t' := s1.toks) fun b o e => Heap.get?_push_of_some _ e, turn_list a _, ⟨_, Heap.get?_push_size _ rfl, rfl, rfl⟩, fun b hb => ?_, q⟩
  have e : b = s1.heap.objs.size := by simpa using hb
  subst e
  exact I1.fpOk (Nat.le_refl _) (I1.hok.fresh (Nat.le_refl _))
/-- a range object just made, walked -/
theorem range_it {pins : List (Addr × Obj)} {σ : St} {H : Hp} {s : Shared} {R : It → Hp → Prop} {E : Value → Shared → Prop} {lo hi : Int} {t u v : Tok} {tk : Nat} (I : Inv X pins σ H s) (h1 : -(2 ^ 62) ≤ lo) (h2 : lo < 2 ^ 62) (h3 : -(2 ^ 62) ≤ hi) (h4 : hi < 2 ^ 62)
    (q : R (Itr lo (hi - lo).toNat) H) : wpAny (model X.prog X.w) X.A (pyIter (.ref s.heap.objs.size)) (PIE X pins σ tg R) E { s with heap := s.heap.push { cls := .type "range", data := .fields #[.int lo t, .int hi u, .int 1 v] }, toks := tk } := by
  refine wpAny_pyIter_range (IsRange.new ..) (small_one h1 h2 h3 h4) ?_
  have I1 : Inv X pins σ H { s with heap := s.heap.push { cls := .type "range", data := .fields #[.int lo t, .int hi u, .int 1 v] }, toks := tk } := I.kept fun b o e => Heap.get?_push_of_some _ e
  refine ⟨(s.heap.push { cls := .type "range", data := .fields #[.int lo t, .int hi u, .int 1 v] }).objs.size, [(s.heap.push { cls := .type "range", data := .fields #[.int lo t, .int hi u, .int 1 v] }).objs.size], _, _, H, rfl,
    I1.kept (t' := tk) fun b o e => Heap.get?_push_of_some _ e, turn_range _ lo (hi - lo).toNat, ?_, fun b hb => ?_, q⟩
  · have e1 : lo + ((0 : Nat) : Int) * 1 = lo := by simp
    have e2 : (((hi - lo).toNat : Nat) : Int) - ((0 : Nat) : Int) = Builtin.Range.rangeSize lo hi 1 := by rw [rangeSize_one]; split <;> omega
    show IsRangeIter _ _ (lo + ((0 : Nat) : Int) * 1) ((((hi - lo).toNat : Nat) : Int) - ((0 : Nat) : Int)) 1
    rw [e1, e2]
    exact Heap.get?_push_size _ rfl
  · have e : b = (s.heap.push { cls := .type "range", data := .fields #[.int lo t, .int hi u, .int 1 v] }).objs.size := by simpa using hb
    subst e
    exact I1.fpOk (Nat.le_refl _) (I1.hok.fresh (Nat.le_refl _))
def iRng1 (ta : TA) : TI := fun σ H R => ta σ H fun vs H1 => ∃ j : Int, vs = [.int j] ∧ -(2 ^ 62) ≤ j ∧ j < 2 ^ 62 ∧ R (Itr 0 j.toNat) H1
theorem pi_range1 {a : Expr} {ta : TA} {p pos : Pos} (hg : Gl X "range") (hm : X.mg "range" = none) (ha : PA X [a] ta) (hs : starEach [a] X.env = [(false, eval a X.env)] := by rfl) : PI X tg (.Call (.Name "range" p) [a] [] pos) (iRng1 ta) := by
  intro pins s σ H R I h
  refine Call_ (ld_blt I hg hm boot_range (PyProof.Rows.callWith_type1 (thn (ha pos pins s σ H _ I h) fun us s1 ⟨vs, H1, I1, r1, q1⟩ => ?_) hs rfl))
  obtain ⟨j, e, q1, q2, q⟩ := q1
  subst e
  cases r1 with
  | cons r rr =>
    cases rr
    obtain ⟨t, rfl⟩ := r
    exact call_range_1 (range_it I1 (by omega) (by omega) q1 q2 (by simpa using q))
/-! ### for -/
/-- W: the invariant by the turn and a measure; N: what the body is to reach -/
def tFor (wi : TI) (g : TG) (tb : TS) : TS := fun D σ H => wi σ H fun J H1 => ∃ W : Nat → Nat → St → Hp → Prop, (∃ m, W 0 m σ H1) ∧ ∀ i m σ H, W i m σ H →
  (J.stop i H ∧ D.nx σ H) ∨ (J.go i H ∧ ∃ N : St → Hp → Prop, (∀ σ' H', N σ' H' → ∃ m', m' < m ∧ W (i + 1) m' σ' H') ∧ ∀ x H', J.yld i H x H' → g x σ H' fun σ2 H2 => tb { D with nx := N, ct := N, bk := D.nx } σ2 H2)
/-- the records at fp as they stand -/
def pinsAt (fp : List Addr) (h : Heap) : List (Addr × Obj) := fp.filterMap fun b => (h.get? b).map fun o => (b, o)
theorem mem_pinsAt {fp : List Addr} {h : Heap} {b : Addr} {o : Obj} (hb : b ∈ fp) (e : h.get? b = some o) : (b, o) ∈ pinsAt fp h := List.mem_filterMap.mpr ⟨b, hb, by rw [e]; rfl⟩
theorem of_pinsAt {fp : List Addr} {h : Heap} {p : Addr × Obj} (hp : p ∈ pinsAt fp h) : p.1 ∈ fp ∧ h.get? p.1 = some p.2 := by
  obtain ⟨b, hb, e⟩ := List.mem_filterMap.mp hp
  cases q : h.get? b with
  | none => rw [q] at e; cases e
  | some o =>
    rw [q] at e
    have e' : (b, o) = p := Option.some.inj e
    subst e'
    exact ⟨hb, q⟩
theorem Inv.pinned {pins : List (Addr × Obj)} {σ : St} {H : Hp} {s : Shared} {fp : List Addr} (I : Inv X pins σ H s) (hf : ∀ b ∈ fp, FpOk X pins H b) (ho : ∀ b ∈ fp, ∃ o, s.heap.get? b = some o ∧ ∀ v, o.data ≠ .cell v) : Inv X (pins ++ pinsAt fp s.heap) σ H s :=
  I.pins_of fun p hp => (List.mem_append.mp hp).elim (fun z => I.pin p (List.mem_append_right _ z)) fun z => by
    obtain ⟨hb, e⟩ := of_pinsAt z
    obtain ⟨f0, f1, f2, _⟩ := hf p.1 hb
    obtain ⟨o, e', d⟩ := ho p.1 hb
    rw [e] at e'; cases e'
    exact ⟨e, f0, f1, f2, d⟩
theorem Inv.unpinned {pins pl : List (Addr × Obj)} {σ : St} {H : Hp} {s : Shared} (I : Inv X (pins ++ pl) σ H s) : Inv X pins σ H s := I.pins_of fun p hp => I.pin p (List.mem_append_right _ (List.mem_append_left _ hp))
theorem ps_for {iter : Expr} {body : List Stmt} {wi : TI} {g : TG} {tb : TS} {pos : Pos} (hp : PassesOwn (model X.prog X.w) X.A X.env X.xe) (hc : X.calm = true) (hi : PI X tg iter wi) (hg : PG X tg g) (hb : PSs X body tb)
    (hs : ∀ x, foldedSetIterable iter X.env x = pure x := by intro _; rfl) : PS X (.For tg iter body [] pos) (tFor wi g tb) := by
  intro pins s σ H D I h
  refine wpAny_For (thn (hi pins s σ H _ I h) fun v s1 h1 => thn h1 fun itv s2 h2 => ?_) hs
  obtain ⟨it, fp, tn, J, H2, e, I2, T, st2, f2, W, ⟨m0, w0⟩, turn⟩ := h2
  subst e
  -- what stays true of the iterator's objects through the loop
  have stat : ∀ {H' : Hp}, (∀ b ∈ fp, H' b = none) → ∀ b ∈ fp, FpOk X pins H' b := fun hn b hb => ⟨hn b hb, (f2 b hb).2⟩
  refine codeAny_forLoop_any (fun n s' => ∃ i σ' H', Inv X pins σ' H' s' ∧ tn i s'.heap ∧ (∀ b ∈ fp, H' b = none) ∧ W i n σ' H') ?_ m0 ⟨0, σ, H2, I2, st2, fun b hb => (f2 b hb).1, w0⟩
  rintro n s3 ⟨i, σ3, H3, I3, st3, fr3, w3⟩
  rcases turn i n σ3 H3 w3 with ⟨stop, qn⟩ | ⟨go, N, hN, step⟩
  · refine wpAny_passesOwn hp (thn (T.done X rfl rfl rfl hc i pins s3 σ3 H3 X.xe I3 (stat fr3) st3 stop) fun r s4 ⟨hr, I4⟩ => ?_)
    subst hr
    exact wpAny_execs_nil ⟨σ3, H3, I4, qn⟩
  · refine wpAny_passesOwn hp (thn (T.item X rfl rfl rfl hc i pins s3 σ3 H3 X.xe I3 (stat fr3) st3 go) fun r s4 ⟨u, hr, h4⟩ => ?_)
    subst hr
    refine wpAny_passesOwn hp (thn h4 fun _ s5 ⟨x, H5, I5, r5, y5, st5, fr5⟩ => ?_)
    have I5' := I5.pinned (stat fr5) (T.obj _ _ st5)
    refine wpAny_passesOwn hp (thn (hg _ s5 σ3 H5 x u _ I5' r5 (step x H5 y5)) fun _ s6 ⟨σ6, H6, I6, q6⟩ => ?_)
    refine wpAny_passesOwn hp (thn (hb _ s6 σ6 H6 _ I6 q6) fun f s7 q7 => ?_)
    have again : ∀ {σ7 : St} {H7 : Hp}, Inv X (pins ++ pinsAt fp s5.heap) σ7 H7 s7 → N σ7 H7 → ∃ m, m < n ∧ ∃ i σ' H', Inv X pins σ' H' s7 ∧ tn i s7.heap ∧ (∀ b ∈ fp, H' b = none) ∧ W i m σ' H' := fun {σ7 H7} I7 n7 => by
      obtain ⟨m', hm, w7⟩ := hN σ7 H7 n7
      refine ⟨m', hm, i + 1, σ7, H7, I7.unpinned, T.keep _ _ _ st5 fun b hb o e => (I7.pin (b, o) (List.mem_append_right _ (List.mem_append_right _ (mem_pinsAt hb e)))).1, fun b hb => ?_, w7⟩
      obtain ⟨o, e, d⟩ := T.obj _ _ st5 b hb
      exact (I7.pin (b, o) (List.mem_append_right _ (List.mem_append_right _ (mem_pinsAt hb e)))).2.1
    cases f with
    | next => obtain ⟨σ7, H7, I7, n7⟩ := q7; exact again I7 n7
    | cont => obtain ⟨σ7, H7, I7, n7⟩ := q7; exact again I7 n7
    | brk => obtain ⟨σ7, H7, I7, q7⟩ := q7; exact ⟨σ7, H7, I7.unpinned, q7⟩
    | ret v => obtain ⟨x7, σ7, H7, I7, r7, q7⟩ := q7; exact ⟨x7, σ7, H7, I7.unpinned, r7, q7⟩
end

/-! ### the forms one uses -/
theorem for_range {lo : Int} {n : Nat} {g : TG} {tb : TS} {D : Ends} {σ : St} {H : Hp} (Pv : Nat → St → Hp → Prop) (h0 : Pv 0 σ H)
    (hs : ∀ i σ H, i < n → Pv i σ H → g (.int (lo + i)) σ H fun σ2 H2 => tb { D with nx := Pv (i + 1), ct := Pv (i + 1), bk := D.nx } σ2 H2) (hd : ∀ σ H, Pv n σ H → D.nx σ H) :
    ∃ W : Nat → Nat → St → Hp → Prop, (∃ m, W 0 m σ H) ∧ ∀ i m σ H, W i m σ H →
      ((Itr lo n).stop i H ∧ D.nx σ H) ∨ ((Itr lo n).go i H ∧ ∃ N : St → Hp → Prop, (∀ σ' H', N σ' H' → ∃ m', m' < m ∧ W (i + 1) m' σ' H') ∧ ∀ x H', (Itr lo n).yld i H x H' → g x σ H' fun σ2 H2 => tb { D with nx := N, ct := N, bk := D.nx } σ2 H2) := by
  refine ⟨fun i m σ H => m = n - i ∧ i ≤ n ∧ Pv i σ H, ⟨n, by simp, Nat.zero_le _, h0⟩, ?_⟩
  rintro i m σ H ⟨rfl, hi, p⟩
  by_cases hlt : i < n
  · refine .inr ⟨hlt, Pv (i + 1), fun σ' H' p' => ⟨n - (i + 1), by omega, rfl, hlt, p'⟩, fun x H' y => ?_⟩
    obtain ⟨e, y⟩ := y
    subst e y
    exact hs i σ _ hlt p
  · have e : i = n := by omega
    subst e
    exact .inl ⟨Nat.le_refl _, hd σ H p⟩
end L2

namespace L2
open PySem PySem.Spec PyProof.Rows

abbrev R2 := V → V → Hp → VK → Prop
/-- a two-place operation on values: f is binaryOp op, inplaceOp op or compareOp op -/
def OpR (X : Cx) (f : Value → Value → Sem Value) (r : R2) : Prop :=
  ∀ (pins : List (Addr × Obj)) (s : Shared) (σ : St) (H : Hp) (x y : V) (v u : Value) (Q : VK), Inv X pins σ H s → RelV x v → RelV y u → r x y H Q →
    wpAny (model X.prog X.w) X.A (f v u) (EP X pins σ Q) X.xe s
/-- a one-place operation -/
def UnR (X : Cx) (f : Value → Sem Value) (r : V → Hp → VK → Prop) : Prop :=
  ∀ (pins : List (Addr × Obj)) (s : Shared) (σ : St) (H : Hp) (x : V) (v : Value) (Q : VK), Inv X pins σ H s → RelV x v → r x H Q →
    wpAny (model X.prog X.w) X.A (f v) (EP X pins σ Q) X.xe s
/-- a call of a value that is known (a builtin, a type) with values -/
def CallR (X : Cx) (f : Value) (r : List V → Hp → VK → Prop) : Prop :=
  ∀ (pins : List (Addr × Obj)) (s : Shared) (σ : St) (H : Hp) (xs : List V) (us : List Value) (Q : VK), Inv X pins σ H s → Vals xs us → r xs H Q →
    wpAny (model X.prog X.w) X.A (call f us) (EP X pins σ Q) X.xe s
/-- a value's truth -/
def TruR (X : Cx) (r : V → Hp → (Bool → Hp → Prop) → Prop) : Prop :=
  ∀ (pins : List (Addr × Obj)) (s : Shared) (σ : St) (H : Hp) (x : V) (v : Value) (Q : Bool → Hp → Prop), Inv X pins σ H s → RelV x v → r x H Q →
    wpAny (model X.prog X.w) X.A (truthy v) (TP X pins σ Q) X.xe s

def tOp (r : R2) (ta tb : TE) : TE := fun σ H Q => ta σ H fun x H1 => tb σ H1 fun y H2 => r x y H2 Q
def tUn (r : V → Hp → VK → Prop) (ta : TE) : TE := fun σ H Q => ta σ H fun x H1 => r x H1 Q
/-- ints in, under C, and a value out -/
def rI (C : Int → Int → Prop) (g : Int → Int → V) : R2 := fun x y H Q => ∃ i j, x = .int i ∧ y = .int j ∧ C i j ∧ Q (g i j) H
def rI0 (g : Int → Int → V) : R2 := fun x y H Q => ∃ i j, x = .int i ∧ y = .int j ∧ Q (g i j) H
def rU (g : Int → V) : V → Hp → VK → Prop := fun x H Q => ∃ i, x = .int i ∧ Q (g i) H

section
variable {X : Cx} {a b c : Expr} {ta tb tc : TE} {pos : Pos}

theorem binT (ha : PE X a ta) (hb : PE X b tb) {pins : List (Addr × Obj)} {s : Shared} {σ : St} {H : Hp} {R : V → V → Hp → Prop} (I : Inv X pins σ H s)
    (h : ta σ H fun x H1 => tb σ H1 fun y H2 => R x y H2) {Q : Value → Shared → Prop} {f : Value → Value → Sem Value}
    (hf : ∀ v u s2 x y H2, Inv X pins σ H2 s2 → RelV x v → RelV y u → R x y H2 → wpAny (model X.prog X.w) X.A (f v u) Q X.xe s2) :
    wpAny (model X.prog X.w) X.A (eval a X.env) (fun v s₁ => wpAny (model X.prog X.w) X.A (eval b X.env) (fun u s₂ => wpAny (model X.prog X.w) X.A (f v u) Q X.xe s₂) X.xe s₁) X.xe s := by
  refine thn (ha pins s σ H _ I h) fun v s1 ⟨x, H1, I1, r1, q1⟩ => ?_
  refine thn (hb pins s1 σ H1 _ I1 q1) fun u s2 ⟨y, H2, I2, r2, q2⟩ => ?_
  exact hf v u s2 x y H2 I2 r1 r2 q2

theorem pe_op {op : Operator} {r : R2} (ho : OpR X (binaryOp op) r) (ha : PE X a ta) (hb : PE X b tb) : PE X (.BinOp a op b pos) (tOp r ta tb) := by
  intro pins s σ H Q I h
  exact wpAny_BinOp (binT ha hb I h fun v u s2 x y H2 I2 rx ry q => ho pins s2 σ H2 x y v u Q I2 rx ry q)
theorem pe_un {op : UnaryOp} {r : V → Hp → VK → Prop} (ho : UnR X (unaryOp op) r) (ha : PE X a ta) : PE X (.UnaryOp op a pos) (tUn r ta) := by
  intro pins s σ H Q I h
  exact UnaryOp_ (thn (ha pins s σ H _ I h) fun v s1 ⟨x, H1, I1, r1, q1⟩ => ho pins s1 σ H1 x v Q I1 r1 q1)
/-! ### ints -/
theorem opI {f : Value → Value → Sem Value} {C : Int → Int → Prop} {g : Int → Int → Int}
    (rule : ∀ (i j : Int) (t u : Tok) (s : Shared) (Q : Value → Shared → Prop) (E : Value → Shared → Prop), C i j → Q (.int (g i j) s.toks) { s with toks := s.toks + 1 } → wpAny (model X.prog X.w) X.A (f (.int i t) (.int j u)) Q E s) :
    OpR X f (rI C fun i j => .int (g i j)) := by
  intro pins s σ H x y v u Q I rx ry h
  obtain ⟨i, j, rfl, rfl, hc, q⟩ := h
  obtain ⟨t, rfl⟩ := rx
  obtain ⟨t', rfl⟩ := ry
  exact rule i j t t' s _ _ hc ⟨.int (g i j), H, I.tok _, ⟨_, rfl⟩, q⟩
theorem opI0 {f : Value → Value → Sem Value} {g : Int → Int → Int}
    (rule : ∀ (i j : Int) (t u : Tok) (s : Shared) (Q : Value → Shared → Prop) (E : Value → Shared → Prop), Q (.int (g i j) s.toks) { s with toks := s.toks + 1 } → wpAny (model X.prog X.w) X.A (f (.int i t) (.int j u)) Q E s) :
    OpR X f (rI0 fun i j => .int (g i j)) := by
  intro pins s σ H x y v u Q I rx ry h
  obtain ⟨i, j, rfl, rfl, q⟩ := h
  obtain ⟨t, rfl⟩ := rx
  obtain ⟨t', rfl⟩ := ry
  exact rule i j t t' s _ _ ⟨.int (g i j), H, I.tok _, ⟨_, rfl⟩, q⟩
theorem opB0 {f : Value → Value → Sem Value} {g : Int → Int → Bool}
    (rule : ∀ (i j : Int) (t u : Tok) (s : Shared) (Q : Value → Shared → Prop) (E : Value → Shared → Prop), Q (.bool (g i j)) s → wpAny (model X.prog X.w) X.A (f (.int i t) (.int j u)) Q E s) :
    OpR X f (rI0 fun i j => .bl (g i j)) := by
  intro pins s σ H x y v u Q I rx ry h
  obtain ⟨i, j, rfl, rfl, q⟩ := h
  obtain ⟨t, rfl⟩ := rx
  obtain ⟨t', rfl⟩ := ry
  exact rule i j t t' s _ _ ⟨.bl (g i j), H, I, rfl, q⟩

def CDiv (i j : Int) : Prop := 0 < j ∧ j < 1073741824
def CPow (i j : Int) : Prop := 0 ≤ j ∧ j ≤ 1000000 ∧ i.natAbs < 2 ^ 64
def CMul (i j : Int) : Prop := (-(2 ^ 64) < i ∧ i < 2 ^ 64) ∨ (-(2 ^ 64) < j ∧ j < 2 ^ 64)
theorem CMul.ok {i j : Int} (h : CMul i j) : IntMulOk i j := by
  rcases h with ⟨h1, h2⟩ | ⟨h1, h2⟩
  · exact .of_left (intBits_le_64 h1 h2)
  · exact .of_right (intBits_le_64 h1 h2)
theorem op_add : OpR X (binaryOp .Add) (rI0 fun i j => .int (i + j)) := opI0 fun _ _ _ _ _ _ _ q => add_int q
theorem op_sub : OpR X (binaryOp .Sub) (rI0 fun i j => .int (i - j)) := opI0 fun _ _ _ _ _ _ _ q => sub_int q
theorem op_mul : OpR X (binaryOp .Mult) (rI CMul fun i j => .int (i * j)) := opI fun _ _ _ _ _ _ _ hc q => mul_int q hc.ok
/-- // by a positive divisor -/
theorem op_fdiv : OpR X (binaryOp .FloorDiv) (rI CDiv fun i j => .int (i / j)) := opI fun i j _ _ _ _ _ hc q => by
  have h1 : (0 : Int) < j := hc.1
  have h2 : j < 1073741824 := hc.2
  exact floordiv_int (by omega) (by rw [Int.fdiv_eq_ediv_of_nonneg i (by omega)]; exact q) (.inl (PyProof.noPylong_small (by omega)))
/-- % by a positive divisor of any size -/
theorem op_mod : OpR X (binaryOp .Mod) (rI (fun _ j => 0 < j) fun i j => .int (i % j)) := opI fun i j _ _ _ _ _ hc q => by
  have h1 : (0 : Int) < j := hc
  exact mod_int' (by omega) (by rw [Int.fmod_eq_emod_of_nonneg i (by omega)]; exact q)
theorem op_pow : OpR X (binaryOp .Pow) (rI CPow fun i j => .int (i ^ j.toNat)) := opI fun _ _ _ _ _ _ _ hc q => pow_int_small hc.1 hc.2.1 hc.2.2 q
theorem unI {f : Value → Sem Value} {g : Int → Int}
    (rule : ∀ (i : Int) (t : Tok) (s : Shared) (Q : Value → Shared → Prop) (E : Value → Shared → Prop), Q (.int (g i) s.toks) { s with toks := s.toks + 1 } → wpAny (model X.prog X.w) X.A (f (.int i t)) Q E s) :
    UnR X f (rU fun i => .int (g i)) := by
  intro pins s σ H x v Q I rx h
  obtain ⟨i, rfl, q⟩ := h
  obtain ⟨t, rfl⟩ := rx
  exact rule i t s _ _ ⟨.int (g i), H, I.tok _, ⟨_, rfl⟩, q⟩
theorem un_neg : UnR X (unaryOp .USub) (rU fun i => .int (-i)) := unI fun _ _ _ _ _ q => neg_int q
/-! ### bools among ints: n += (a < b) -/
end

/-! ### comparisons -/
/-- the scalars that == tells apart as data does -/
def scal : V → V → Bool
  | .non, .non => true | .non, .int _ => true | .int _, .non => true | .non, .bl _ => true | .bl _, .non => true | .non, .str _ => true | .str _, .non => true
  | .int _, .int _ => true | .bl _, .bl _ => true | .str _, .str _ => true | .byt _, .byt _ => true
  | .int _, .str _ => true | .str _, .int _ => true | .bl _, .str _ => true | .str _, .bl _ => true
  | _, _ => false
def rEq : R2 := fun x y H Q => scal x y = true ∧ Q (.bl (decide (x = y))) H
def rNe : R2 := fun x y H Q => scal x y = true ∧ Q (.bl (!decide (x = y))) H

theorem dec_int {i j : Int} : decide (V.int i = V.int j) = (i == j) := by
  rw [Bool.eq_iff_iff]
  simp
theorem dec_bl {i j : Bool} : decide (V.bl i = V.bl j) = (i == j) := by
  rw [Bool.eq_iff_iff]
  simp
theorem dec_str {i j : Str} : decide (V.str i = V.str j) = (i == j) := by
  rw [Bool.eq_iff_iff]
  simp
theorem dec_byt {i j : Array UInt8} : decide (V.byt i = V.byt j) = (i.toList == j.toList) := by
  rw [Bool.eq_iff_iff]
  cases i
  cases j
  simp

section
variable {X : Cx} {a b c : Expr} {ta tb tc : TE} {pos : Pos}
theorem fin_bl {pins : List (Addr × Obj)} {σ : St} {H : Hp} {s : Shared} {Q : VK} {k k' : Bool} (I : Inv X pins σ H s) (q : Q (.bl k) H) (e : k = k') : EP X pins σ Q (.bool k') s := by
  subst e
  exact ⟨.bl k, H, I, rfl, q⟩
theorem op_eq : OpR X (compareOp .Eq) rEq := by
  intro pins s σ H x y v u Q I rx ry h
  obtain ⟨hs, q⟩ := h
  cases x with
  | non =>
    cases rx
    cases y with
    | non => cases ry; exact PySem.EqNone.eq_none_none (fin_bl I q (by simp))
    | bl j => cases ry; exact PySem.EqNone.eq_none_bool (fin_bl I q (by simp))
    | int j => obtain ⟨t', rfl⟩ := ry; exact PySem.EqNone.eq_none_int (fin_bl I q (by simp))
    | str j => obtain ⟨t', rfl⟩ := ry; exact PySem.EqNone.eq_none_str (fin_bl I q (by simp))
    | _ => exact absurd (show false = true from hs) Bool.false_ne_true
  | bl i =>
    cases rx
    cases y with
    | non => cases ry; exact PySem.EqNone.eq_bool_none (fin_bl I q (by simp))
    | bl j => cases ry; exact eq_bool (fin_bl I q dec_bl)
    | str j => obtain ⟨t', rfl⟩ := ry; exact PySem.EqMixed.eq_bool_str (fin_bl I q (by simp))
    | _ => exact absurd (show false = true from hs) Bool.false_ne_true
  | int i =>
    obtain ⟨t, rfl⟩ := rx
    cases y with
    | non => cases ry; exact PySem.EqNone.eq_int_none (fin_bl I q (by simp))
    | int j => obtain ⟨t', rfl⟩ := ry; exact eq_int (fin_bl I q dec_int)
    | str j => obtain ⟨t', rfl⟩ := ry; exact PySem.EqMixed.eq_int_str (fin_bl I q (by simp))
    | _ => exact absurd (show false = true from hs) Bool.false_ne_true
  | str i =>
    obtain ⟨t, rfl⟩ := rx
    cases y with
    | non => cases ry; exact PySem.EqNone.eq_str_none (fin_bl I q (by simp))
    | bl j => cases ry; exact PySem.EqMixed.eq_str_bool (fin_bl I q (by simp))
    | int j => obtain ⟨t', rfl⟩ := ry; exact PySem.EqMixed.eq_str_int (fin_bl I q (by simp))
    | str j => obtain ⟨t', rfl⟩ := ry; exact eq_str (fin_bl I q dec_str)
    | _ => exact absurd (show false = true from hs) Bool.false_ne_true
  | byt i =>
    obtain ⟨t, rfl⟩ := rx
    cases y with
    | byt j => obtain ⟨t', rfl⟩ := ry; exact PySem.W.eq_bytes (fin_bl I q dec_byt)
    | _ => exact absurd (show false = true from hs) Bool.false_ne_true
  | _ => cases y <;> exact absurd (show false = true from hs) Bool.false_ne_true
theorem op_ne : OpR X (compareOp .NotEq) rNe := by
  intro pins s σ H x y v u Q I rx ry h
  obtain ⟨hs, q⟩ := h
  cases x with
  | non =>
    cases rx
    cases y with
    | non => cases ry; exact PySem.EqNone.ne_none_none (fin_bl I q (by simp))
    | bl j => cases ry; exact PySem.EqNone.ne_none_bool (fin_bl I q (by simp))
    | int j => obtain ⟨t', rfl⟩ := ry; exact PySem.EqNone.ne_none_int (fin_bl I q (by simp))
    | str j => obtain ⟨t', rfl⟩ := ry; exact PySem.EqNone.ne_none_str (fin_bl I q (by simp))
    | _ => exact absurd (show false = true from hs) Bool.false_ne_true
  | bl i =>
    cases rx
    cases y with
    | non => cases ry; exact PySem.EqNone.ne_bool_none (fin_bl I q (by simp))
    | bl j => cases ry; exact ne_bool (fin_bl I q (congrArg not dec_bl))
    | str j => obtain ⟨t', rfl⟩ := ry; exact PySem.EqMixed.ne_bool_str (fin_bl I q (by simp))
    | _ => exact absurd (show false = true from hs) Bool.false_ne_true
  | int i =>
    obtain ⟨t, rfl⟩ := rx
    cases y with
    | non => cases ry; exact PySem.EqNone.ne_int_none (fin_bl I q (by simp))
    | int j => obtain ⟨t', rfl⟩ := ry; exact ne_int (fin_bl I q (congrArg not dec_int))
    | str j => obtain ⟨t', rfl⟩ := ry; exact PySem.EqMixed.ne_int_str (fin_bl I q (by simp))
    | _ => exact absurd (show false = true from hs) Bool.false_ne_true
  | str i =>
    obtain ⟨t, rfl⟩ := rx
    cases y with
    | non => cases ry; exact PySem.EqNone.ne_str_none (fin_bl I q (by simp))
    | bl j => cases ry; exact PySem.EqMixed.ne_str_bool (fin_bl I q (by simp))
    | int j => obtain ⟨t', rfl⟩ := ry; exact PySem.EqMixed.ne_str_int (fin_bl I q (by simp))
    | str j => obtain ⟨t', rfl⟩ := ry; exact ne_str (fin_bl I q (congrArg not dec_str))
    | _ => exact absurd (show false = true from hs) Bool.false_ne_true
  | byt i =>
    obtain ⟨t, rfl⟩ := rx
    cases y with
    | byt j => obtain ⟨t', rfl⟩ := ry; exact PySem.W.ne_bytes (fin_bl I q (congrArg not dec_byt))
    | _ => exact absurd (show false = true from hs) Bool.false_ne_true
  | _ => cases y <;> exact absurd (show false = true from hs) Bool.false_ne_true

theorem op_lt : OpR X (compareOp .Lt) (rI0 fun i j => .bl (decide (i < j))) := opB0 fun _ _ _ _ _ _ _ q => lt_int q
theorem op_ge : OpR X (compareOp .GtE) (rI0 fun i j => .bl (decide (j ≤ i))) := opB0 fun _ _ _ _ _ _ _ q => ge_int q
/-- two rules for one operation: by cases -/
theorem OpR.or {f : Value → Value → Sem Value} {r r' : R2} (h : OpR X f r) (h' : OpR X f r') : OpR X f (fun x y H Q => r x y H Q ∨ r' x y H Q) := by
  intro pins s σ H x y v u Q I rx ry q
  rcases q with q | q
  · exact h pins s σ H x y v u Q I rx ry q
  · exact h' pins s σ H x y v u Q I rx ry q

theorem nomark (b : Expr) {op : CmpOp} (h : op ≠ .In := by decide) (h2 : op ≠ .NotIn := by decide) : behindInMarks op b = false := by
  have e1 : (op == CmpOp.In) = false := by cases op <;> first | rfl | exact absurd rfl h
  have e2 : (op == CmpOp.NotIn) = false := by cases op <;> first | rfl | exact absurd rfl h2
  cases b <;> simp [behindInMarks, e1, e2]
/-- a comparison as a value; hm: nomark b, or (for in, not in) by with_unfolding_all rfl -/
theorem pe_cmpR {op : CmpOp} {r : R2} (ho : OpR X (compareOp op) r) (ha : PE X a ta) (hb : PE X b tb) (hm : behindInMarks op b = false) : PE X (.Compare a [op] [b] pos) (tOp r ta tb) := by
  intro pins s σ H Q I h
  exact wpAny_Compare1 (binT ha hb I h fun v u s2 x y H2 I2 rx ry q => ho pins s2 σ H2 x y v u Q I2 rx ry q) hm
/-- a reading of a value as a test -/
def tTest (t : TE) : TT := fun σ H Q => t σ H fun x H' => ∃ k, x = .bl k ∧ Q k H'
theorem pt_cmpR {op : CmpOp} {r : R2} (ho : OpR X (compareOp op) r) (ha : PE X a ta) (hb : PE X b tb) (hm : behindInMarks op b = false) : PT X (.Compare a [op] [b] pos) (tTest (tOp r ta tb)) := by
  intro pins s σ H Q I h
  refine wpAny_isTrue_Compare1 (thn (ha pins s σ H _ I h) fun v s1 ⟨x, H1, I1, r1, q1⟩ => thn (hb pins s1 σ H1 _ I1 q1) fun u s2 ⟨y, H2, I2, r2, q2⟩ =>
    thn (ho pins s2 σ H2 x y v u _ I2 r1 r2 q2) fun c s3 ⟨z, H3, I3, r3, k, e, q3⟩ => ?_) hm
  subst e
  cases r3
  exact wpAny_truthy_bool ⟨H3, I3, q3⟩
/-! ### truth -/
/-- a value's truth by the abstract heap -/
def TruV (K : PySem.W.Frag) (x : V) (H : Hp) (k : Bool) : Prop :=
  match x with
  | .non => k = false
  | .bl b => k = b
  | .int i => k = (i != 0)
  | .str y => y.length ≤ sizeLine ∧ k = ((y.length : Int) != 0)
  | .byt y => y.size ≤ sizeLine ∧ k = ((y.size : Int) != 0)
  | .ref p => (∃ xs, SqL K H p xs ∧ k = !xs.isEmpty) ∨ (∃ xs, SqT K H p xs ∧ k = !xs.isEmpty) ∨ ∃ kvs, H p = some (.dK kvs) ∧ k = !kvs.isEmpty
  | _ => False
theorem isEmpty_kv {κ : Type} {kvs : List (κ × V)} {vs : List (κ × Value)} (r : KV kvs vs) : (!vs.isEmpty) = !kvs.isEmpty := by
  cases r <;> rfl
theorem isEmpty_of {xs : List V} {its : List Value} (r : Vals xs its) : (!its.toArray.isEmpty) = !xs.isEmpty := by
  cases r <;> simp
theorem line63 : (sizeLine : Nat) < 2 ^ 63 := by rw [sizeLine_eq]; decide
theorem tru_ok : TruR X (fun x H Q => ∃ k, TruV X.K x H k ∧ Q k H) := by
  intro pins s σ H x v Q I rx h
  obtain ⟨k, e, q⟩ := h
  have hl := line63
  have hs : sizeLine = 16777216 := sizeLine_eq
  cases x with
  | non =>
    cases rx
    have e' : k = false := e
    subst e'
    exact truthy_none ⟨H, I, q⟩
  | bl b =>
    cases rx
    have e' : k = b := e
    subst e'
    exact wpAny_truthy_bool ⟨H, I, q⟩
  | int i =>
    obtain ⟨t, rfl⟩ := rx
    have e' : k = (i != 0) := e
    subst e'
    exact PySem.P.truthy_int ⟨H, I, q⟩
  | str y =>
    obtain ⟨t, rfl⟩ := rx
    obtain ⟨hy, e'⟩ : y.length ≤ sizeLine ∧ k = ((y.length : Int) != 0) := e
    subst e'
    exact PySem.P.truthy_str (by omega) ⟨H, I.tok _, q⟩
  | byt y =>
    obtain ⟨t, rfl⟩ := rx
    obtain ⟨hy, e'⟩ : y.size ≤ sizeLine ∧ k = ((y.size : Int) != 0) := e
    subst e'
    exact PySem.W.truthy_bytes (by omega) ⟨H, I.tok _, q⟩
  | ref p =>
    cases rx
    have e' : (∃ xs, SqL X.K H p xs ∧ k = !xs.isEmpty) ∨ (∃ xs, SqT X.K H p xs ∧ k = !xs.isEmpty) ∨ ∃ kvs, H p = some (.dK kvs) ∧ k = !kvs.isEmpty := e
    rcases e' with ⟨xs, hx, e'⟩ | ⟨xs, hx, e'⟩ | ⟨kvs, hx, e'⟩
    · subst e'
      obtain ⟨its, r, pl, hz⟩ := I.list hx
      have hlen := r.length
      exact wpAny_truthy_list pl.isList (by simp only [List.size_toArray]; omega) ⟨H, I.tok _, by rw [isEmpty_of r]; exact q⟩
    · subst e'
      obtain ⟨its, r, pl, hz⟩ := I.tuple hx
      have hlen := r.length
      exact truthy_tuple pl (by simp only [List.size_toArray]; omega) ⟨H, I.tok _, by rw [isEmpty_of r]; exact q⟩
    · subst e'
      obtain ⟨hz, hS, vs, r, m⟩ : kvs.length ≤ sizeLine ∧ (p == sysModules) = false ∧ ∃ vs, KV kvs vs ∧ s.heap.DictOf (mixKind X.prog X.w) p vs := I.hok p _ hx
      have hlen : kvs.length = vs.length := Paired.length r
      exact wpAny_truthy_dict hS m (by omega) ⟨H, I.tok _, by rw [isEmpty_kv r]; exact q⟩
  | _ => exact (show False from e).elim
/-- any expression whose test is its value's truth (a name, a call, a subscript, a field ..: he by fun _ => rfl) -/
theorem pt_truth (ha : PE X a ta) (he : ∀ whole, isTrue a X.env whole = (do let v ← whole; standAt a.pos; holding [v] (truthy v))) :
    PT X a (fun σ H Q => ta σ H fun x H' => ∃ k, TruV X.K x H' k ∧ Q k H') := by
  intro pins s σ H Q I h
  exact isTrue_plain (thn (ha pins s σ H _ I h) fun v s1 ⟨x, H1, I1, r1, q1⟩ => tru_ok pins s1 σ H1 x v Q I1 r1 q1) (he _)

/-! ### strs and bytes -/
/-! ### scalar builtins, by CallR -/
theorem vals1 {x : V} {us : List Value} (r : Vals [x] us) : ∃ u, us = [u] ∧ RelV x u := by
  cases r with
  | cons r1 r2 => cases r2; exact ⟨_, rfl, r1⟩
theorem vals2 {x y : V} {us : List Value} (r : Vals [x, y] us) : ∃ u w', us = [u, w'] ∧ RelV x u ∧ RelV y w' := by
  cases r with
  | cons r1 r2 =>
    cases r2 with
    | cons r3 r4 => cases r4; exact ⟨_, _, rfl, r1, r3⟩
theorem call_max2 (hc : X.calm = true) : CallR X (.builtin "max") (fun xs H Q => ∃ i j, xs = [.int i, .int j] ∧ Q (.int (if j > i then j else i)) H) := by
  intro pins s σ H xs us Q I r h
  obtain ⟨i, j, rfl, q⟩ := h
  obtain ⟨u, w', rfl, ⟨t, rfl⟩, ⟨t', rfl⟩⟩ := vals2 r
  refine max_two_ints (I.ok.hd hc) fun h' tk k => ⟨_, H, I.kept k, ?_, q⟩
  by_cases hj : j > i
  · rw [if_pos hj, if_pos hj]; exact ⟨_, rfl⟩
  · rw [if_neg hj, if_neg hj]; exact ⟨_, rfl⟩
/-- len of a str, a bytes, a list, a tuple -/
def LenV (K : PySem.W.Frag) (x : V) (H : Hp) (n : Nat) : Prop :=
  match x with
  | .str y => y.length ≤ sizeLine ∧ n = y.length
  | .byt y => y.size ≤ sizeLine ∧ n = y.size
  | .ref p => (∃ xs, SqL K H p xs ∧ n = xs.length) ∨ ∃ xs, SqT K H p xs ∧ n = xs.length
  | _ => False
theorem call_len : CallR X (.builtin "len") (fun xs H Q => ∃ x n, xs = [x] ∧ LenV X.K x H n ∧ Q (.int n) H) := by
  intro pins s σ H xs us Q I r h
  obtain ⟨x, n, rfl, e, q⟩ := h
  obtain ⟨u, rfl, rx⟩ := vals1 r
  have hl := line63
  have hs : sizeLine = 16777216 := sizeLine_eq
  cases x with
  | str y =>
    obtain ⟨t, rfl⟩ := rx
    obtain ⟨hy, e'⟩ : y.length ≤ sizeLine ∧ n = y.length := e
    subst e'
    exact len_str (by omega) ⟨.int _, H, I.tok _, ⟨_, rfl⟩, q⟩
  | byt y =>
    obtain ⟨t, rfl⟩ := rx
    obtain ⟨hy, e'⟩ : y.size ≤ sizeLine ∧ n = y.size := e
    subst e'
    exact PySem.W.len_bytes (by omega) ⟨.int _, H, I.tok _, ⟨_, rfl⟩, q⟩
  | ref p =>
    cases rx
    have e' : (∃ xs, SqL X.K H p xs ∧ n = xs.length) ∨ ∃ xs, SqT X.K H p xs ∧ n = xs.length := e
    rcases e' with ⟨xs, hx, e'⟩ | ⟨xs, hx, e'⟩
    · subst e'
      obtain ⟨its, r', pl, hz⟩ := I.list hx
      have hlen := r'.length
      exact Calls.call_len_list pl.isList (by simp only [List.size_toArray]; omega) ⟨.int xs.length, H, I.tok _, ⟨_, by simp only [List.size_toArray]; rw [hlen]⟩, q⟩
    · subst e'
      obtain ⟨its, r', pl, hz⟩ := I.tuple hx
      have hlen := r'.length
      exact len_tuple pl (by simp only [List.size_toArray]; omega) ⟨.int xs.length, H, I.tok _, ⟨_, by simp only [List.size_toArray]; rw [hlen]⟩, q⟩
  | _ => exact (show False from e).elim
end
end L2

namespace L2
open PySem PySem.Spec PyProof.Rows

/-! ### an instance, its attributes a map -/
structure ObjM (h : Heap) (x dx C : Addr) (mA : Str → Option Value) : Prop where
  obj : h.get? x = some (PySem.W.instObj C dx)
  ns : h.Ns1 dx mA
  ne : dx ≠ x

theorem lookIn_ns {h : Heap} {dx : Addr} {mA : Str → Option Value} (n : h.Ns1 dx mA) : ∃ od, h.get? dx = some od ∧ ∀ name, PySem.W.lookIn name od = some (mA name) := by
  obtain ⟨o, es, ep, ho, hd, hk, _, hm⟩ := n
  refine ⟨o, ho, fun name => ?_⟩
  have e := hm name
  unfold nsFind findBy at e
  rw [← Array.find?_toList] at e
  unfold PySem.W.lookIn
  rw [hd]
  dsimp only
  split
  · rename_i y q
    rw [q] at e
    exact congrArg some e
  · rename_i q
    rw [q] at e
    have a : es.toList.any (·.refKey) = false := by
      rw [List.any_eq_false]
      intro y hy
      obtain ⟨z, t, hkey⟩ := hk y (Array.mem_toList_iff.mp hy)
      simp [DictEntry.refKey, hkey]
    have a' : ¬ es.toList.any (·.refKey) = true := by rw [a]; exact Bool.false_ne_true
    rw [if_neg a']
    exact congrArg some e

theorem ObjM.look {h : Heap} {x dx C : Addr} {mA : Str → Option Value} (I : ObjM h x dx C mA) : ∃ od, PySem.W.InstAt h x (PySem.W.instObj C dx) C (some od) ∧ ∀ name, PySem.W.lookIn name od = some (mA name) :=
  let ⟨od, ho, hl⟩ := lookIn_ns I.ns
  ⟨od, ⟨I.obj, rfl, rfl, ho⟩, hl⟩

section
variable {prog : Program} {w : World} {A : Around} {E : Value → Shared → Prop} {s : Shared} {K : PySem.W.Frag} {x dx C f : Addr} {mA : Str → Option Value} {name : Str} {v : Value}

end

/-! ### the attributes as a list of pairs -/
section
variable {P : Program} {w : World} {H H' : Hp} {h h' : Heap} {a C dx : Addr} {fs fs' : List (Str × V)}
theorem ins_get (hok : HOk P w H h) (e : H a = some (.ins C dx fs)) : ∃ mA, ObjM h a dx C mA ∧ (∀ f, RelO (fs.lookup f) (mA f)) ∧ PySem.Within mA (fs.map (·.1)) ∧ fs.length ≤ 1000 ∧ H dx = some (.own a) := by
  obtain ⟨d, z, ne, ob, mA, n, r, q⟩ := (show ObjOk P w H h a (.ins C dx fs) from hok a _ e)
  exact ⟨mA, ⟨ob, n, ne⟩, r, q, z, d⟩
end

/-! ### what of the text a class must have -/
structure Cls (K : PySem.W.Frag) (C : Addr) : Prop where
  pg : PySem.W.plainGet K C Str.empty = true
  hd : PySem.W.hasDictIn K C = true
  po : PySem.W.plainOver K C = true
  sa : PySem.W.findIn K (.ref C) "__setattr__" = some (some (.builtin "object.__setattr__"))
theorem Cls.get {K : PySem.W.Frag} {C : Addr} (c : Cls K C) (f : Str) : PySem.W.plainGet K C f = true := c.pg
section
variable {X : Cx} {pins : List (Addr × Obj)} {σ : St} {H : Hp} {s : Shared} {a C dx : Addr} {fs : List (Str × V)} {f : Str} {v : V} {A : Around} {E : Value → Shared → Prop}

/-- a new instance, tracked, without attributes -/
theorem Inv.made (I : Inv X pins σ H s) : Inv X pins σ (upd (upd H s.heap.objs.size (.own (s.heap.objs.size + 1))) (s.heap.objs.size + 1) (.ins C s.heap.objs.size []))
    { s with heap := (s.heap.push PySem.W.emptyDict).push (PySem.W.instObj C s.heap.objs.size) } := by
  have e1 : (s.heap.push PySem.W.emptyDict).get? s.heap.objs.size = some PySem.W.emptyDict := Heap.get?_push_size s.heap rfl
  have e2 : ((s.heap.push PySem.W.emptyDict).push (PySem.W.instObj C s.heap.objs.size)).get? (s.heap.objs.size + 1) = some (PySem.W.instObj C s.heap.objs.size) := by
    have := Heap.get?_push_size (s.heap.push PySem.W.emptyDict) (o := PySem.W.instObj C s.heap.objs.size) rfl
    rwa [Heap.size_push] at this
  have e3 : (s.heap.push PySem.W.emptyDict).Ns s.heap.objs.size (fun _ => none) := ⟨PySem.W.emptyDict, #[], _, e1, rfl, (fun e he => absurd he (by simp)), fun _ => rfl⟩
  have I1 := I.laid (a := s.heap.objs.size) (o := .own (s.heap.objs.size + 1)) (h' := s.heap.push PySem.W.emptyDict) (t' := s.toks) (fun b u q => Heap.get?_push_of_some _ q) (Nat.le_refl _) ⟨_, e1⟩
  refine I1.laid (a := s.heap.objs.size + 1) (o := .ins C s.heap.objs.size []) (t' := s.toks) (fun b u q => Heap.get?_push_of_some _ q) (Nat.le_of_eq (Heap.size_push _ _)) ?_
  have ne : s.heap.objs.size ≠ s.heap.objs.size + 1 := Nat.ne_of_lt (Nat.lt_succ_self _)
  refine ⟨by rw [upd_ne ne, upd_same], Nat.zero_le _, ne, e2, fun _ => none, (Heap.Ns1.of_empty e3).at fun o q => Heap.get?_push_of_some _ q, fun _ => True.intro, fun y hy => absurd rfl hy⟩

end

/-! ### readings and rules -/
section
variable {X : Cx} {o e value : Expr} {f : Str} {pos pos' tpos : Pos} {ta tv : TE}
end

/-! ### isinstance -/
section
variable {X : Cx} {pins : List (Addr × Obj)} {σ : St} {H : Hp} {s : Shared} {A : Around} {E : Value → Shared → Prop} {Q : Value → Shared → Prop} {c : Value} {b : Bool}
/-- the type of a value, as the fragment's deciders take it; for an instance its class -/
inductive TyOf (K : PySem.W.Frag) (H : Hp) : V → Value → Prop where
  | non : TyOf K H .non (.type "NoneType")
  | bl (x : Bool) : TyOf K H (.bl x) (.type "bool")
  | int (i : Int) : TyOf K H (.int i) (.type "int")
  | str (x : Str) : TyOf K H (.str x) (.type "str")
  | flt (x : UInt64) : TyOf K H (.flt x) (.type "float")
  | lst {a : Addr} {xs : List V} (e : H a = some (.lst xs)) : TyOf K H (.ref a) (.type "list")
  | frz {a : Addr} {o : Obj} {xs : List V} (e : H a = some (.frz o (.lst xs))) : TyOf K H (.ref a) (.type "list")
  | tup {a : Addr} {xs : List V} (e : H a = some (.tup xs)) : TyOf K H (.ref a) (.type "tuple")
  | dK {a : Addr} {kvs : List (Key × V)} (e : H a = some (.dK kvs)) : TyOf K H (.ref a) (.type "dict")
  | dT {a : Addr} {kvs : List (List Key × V)} (e : H a = some (.dT kvs)) : TyOf K H (.ref a) (.type "dict")
  | ins {a C dx : Addr} {fs : List (Str × V)} (e : H a = some (.ins C dx fs)) (cl : Cls K C) (ha : PySem.W.findIn K (.ref C) "__class__" = some (some (.builtin "object.__class__")))
      (hn : PySem.W.specialIn K (.builtin "object.__class__") "__get__" = some (some (.builtin "getset_descriptor.__get__"))) (htk : PySem.W.takesIn K (.builtin "object.__class__") = some true)
      (hm : PySem.W.mroIn K C (.type "object") = some true) : TyOf K H (.ref a) (.ref C)
/-- isinstance(x, c) for one class c, a built-in or an own one: kitOne's answer -/
theorem isinst_ok {x : V} {u t : Value} (I : Inv X pins σ H s) (rx : RelV x u) (ty : TyOf X.K H x t) (e : PySem.W.kitOne X.K t c = some b) (h : ∀ tk, Q (.bool b) { s with toks := tk }) :
    wpAny (model X.prog X.w) A (call (.builtin "isinstance") [u, c]) Q E s := by
  cases ty with
  | non => cases (show u = Value.none from rx); exact PySem.W.kia_one PySem.W.kitx_none I.kIn True.intro e (fun z => nomatch z) h
  | bl y => cases (show u = Value.bool y from rx); exact PySem.W.kia_one PySem.W.kitx_bool I.kIn True.intro e (fun z => nomatch z) h
  | int i => obtain ⟨t, q⟩ := (show ∃ t, u = Value.int i t from rx); cases q; exact PySem.W.kia_one PySem.W.kitx_int I.kIn True.intro e (fun z => nomatch z) h
  | str y => obtain ⟨t, q⟩ := (show ∃ t, u = Value.str y t from rx); cases q; exact PySem.W.kia_one PySem.W.kitx_str I.kIn True.intro e (fun z => nomatch z) h
  | flt y => obtain ⟨t, q⟩ := (show ∃ t, u = Value.float y t from rx); cases q; exact PySem.W.kia_one PySem.W.kitx_float I.kIn True.intro e (fun z => nomatch z) h
  | @lst a xs ea =>
    cases (show u = Value.ref a from rx)
    obtain ⟨_, _, n, _, h1⟩ := (show ObjOk X.prog X.w H s.heap a (.lst xs) from I.hok a _ ea)
    exact PySem.W.kia_one PySem.W.kitx_list I.kIn ⟨_, h1, rfl⟩ e (fun z => nomatch z) h
  | @frz a ob xs ea =>
    cases (show u = Value.ref a from rx)
    obtain ⟨_, _, _, n, _, h1⟩ := (show ObjOk X.prog X.w H s.heap a (.frz ob (.lst xs)) from I.hok a _ ea)
    exact PySem.W.kia_one PySem.W.kitx_list I.kIn ⟨_, h1, rfl⟩ e (fun z => nomatch z) h
  | @tup a xs ea =>
    cases (show u = Value.ref a from rx)
    obtain ⟨_, _, _, p⟩ := (show ObjOk X.prog X.w H s.heap a (.tup xs) from I.hok a _ ea)
    obtain ⟨o, h1, h2, _⟩ := p
    exact PySem.W.kia_one PySem.W.kitx_tuple I.kIn ⟨o, h1, h2⟩ e (fun z => nomatch z) h
  | @dK a kvs ea =>
    cases (show u = Value.ref a from rx)
    obtain ⟨_, _, vs, _, p⟩ := (show ObjOk X.prog X.w H s.heap a (.dK kvs) from I.hok a _ ea)
    obtain ⟨o, es, ep, h1, h2, _⟩ := p
    exact PySem.W.kia_one PySem.W.kitx_dict I.kIn ⟨o, h1, h2.1⟩ e (fun z => nomatch z) h
  | @dT a kvs ea =>
    cases (show u = Value.ref a from rx)
    obtain ⟨_, _, xs, _, o, es, ep, h1, h2, _⟩ := (show ObjOk X.prog X.w H s.heap a (.dT kvs) from I.hok a _ ea)
    exact PySem.W.kia_one PySem.W.kitx_dict I.kIn ⟨o, h1, h2.1⟩ e (fun z => nomatch z) h
  | @ins a C dx fs ea cl ha hn htk hm =>
    cases (show u = Value.ref a from rx)
    obtain ⟨mA, O, _⟩ := ins_get I.hok ea
    obtain ⟨od, J, _⟩ := O.look
    exact PySem.W.kia_one (PySem.W.kitx_own (cl.get _) cl.hd ha hn htk hm) I.kIn J e (fun z => nomatch z) h
end
end L2

namespace L2
open PySem PySem.Spec PyProof.Rows

/-! ### room -/
structure Room (k : Nat) (A : Around) : Prop where
  hd : A.handled = none
  dp : A.depth + 3 * k + 5 < recursionLimit
  un : A.units + 16 * k + 200 < cLine
theorem Room.mono {j k : Nat} {A : Around} (r : Room k A) (h : j ≤ k) : Room j A := ⟨r.hd, by have := r.dp; omega, by have := r.un; omega⟩
theorem Room.deeper {k : Nat} {A : Around} (r : Room (k + 1) A) (env : Env) : Room k (A.deeper env) :=
  ⟨r.hd, by have := r.dp; show A.depth + 1 + 3 * k + 5 < _; omega, by have := r.un; show A.units + 3 + 16 * k + 200 < _; omega⟩
theorem Room.depth {k : Nat} {A : Around} (r : Room k A) : A.depth < recursionLimit := by have := r.dp; omega
theorem Room.units {k : Nat} {A : Around} (r : Room k A) : A.units + 64 < cLine := by have := r.un; omega
theorem Room.units0 {k : Nat} {A : Around} (r : Room k A) : A.units < cLine := by have := r.un; omega

/-! ### argument lists and displays -/
def tNil : TA := fun _ H Q => Q [] H
def tCons (ta : TE) (tr : TA) : TA := fun σ H Q => ta σ H fun x H1 => tr σ H1 fun xs H2 => Q (x :: xs) H2
section
variable {X : Cx} {e : Expr} {es : List Expr} {te : TE} {t : TA} {pos : Pos}
theorem pa_nil : PA X [] tNil := fun _ _ _ _ H Q I h => Calls.spliced_nil ⟨[], H, I, .nil, h⟩
theorem pa_cons (ha : PE X e te) (hr : PA X es t) (hs : starEach (e :: es) X.env = (false, eval e X.env) :: starEach es X.env := by rfl) : PA X (e :: es) (tCons te t) := by
  intro pos pins s σ H Q I h
  rw [hs]
  show wpAny _ _ (spliced ((false, eval e X.env) :: backTo pos (starEach es X.env))) _ _ s
  refine Calls.spliced_cons (thn (ha pins s σ H _ I h) fun u s1 ⟨x, H1, I1, r1, q1⟩ => ?_)
  exact thn (hr pos pins s1 σ H1 _ I1 q1) fun us s2 ⟨xs, H2, I2, r2, q2⟩ => ⟨x :: xs, H2, I2, .cons r1 r2, q2⟩

/-- a tuple, a list of written items -/
def tTup (t : TA) : TE := fun σ H Q => t σ H fun xs H1 => xs.length ≤ sizeLine ∧ ∀ p, H1 p = none → Q (.ref p) (upd H1 p (.tup xs))
def tLst (t : TA) : TE := fun σ H Q => t σ H fun xs H1 => xs.length ≤ sizeLine ∧ ∀ p, H1 p = none → Q (.ref p) (upd H1 p (.lst xs))
theorem pe_tup {x1} (h : PA X es t) : PE X (.Tuple es x1 pos) (tTup t) := by
  intro pins s σ H Q I hq
  refine wpAny_Tuple_spliced (thn (h pos pins s σ H _ I hq) fun us s1 ⟨xs, H1, I1, r, z, q⟩ => ⟨by rw [← r.length]; exact z, ?_⟩)
  have hf : H1 s1.heap.objs.size = none := I1.hok.fresh (Nat.le_refl _)
  refine ⟨.ref s1.heap.objs.size, upd H1 s1.heap.objs.size (.tup xs), I1.laid (t' := s1.toks) (fun b u e => Heap.get?_push_of_some _ e) (Nat.le_refl _) ?_, rfl, q _ hf⟩
  exact ⟨z, us, r, ⟨_, Heap.get?_push_size _ rfl, rfl, _, rfl⟩⟩
theorem pe_lst (h : PA X es t) : PE X (.List es pos) (tLst t) := by
  intro pins s σ H Q I hq
  refine wpAny_List_spliced (thn (h pos pins s σ H _ I hq) fun us s1 ⟨xs, H1, I1, r, z, q⟩ => ⟨by rw [← r.length]; exact z, ?_⟩)
  have hf : H1 s1.heap.objs.size = none := I1.hok.fresh (Nat.le_refl _)
  refine ⟨.ref s1.heap.objs.size, upd H1 s1.heap.objs.size (.lst xs), I1.laid (t' := s1.toks) (fun b u e => Heap.get?_push_of_some _ e) (Nat.le_refl _) ?_, rfl, q _ hf⟩
  exact ⟨z, us, 0, r, Heap.get?_push_size _ rfl⟩
end

/-! ### what a def promises -/
/-- a def's promise: the bound arguments in the parameters' order, the heap, the wanted end, the wanted exception -/
abbrev Sp := List V → Hp → VK → XK → Prop
/-- how an exception lies behind a call (file 08 gives it): the callers' frames, abstract heap and state ahead of the call, the wish, the exception, the state -/
abbrev CXT := List Env → Hp → Shared → XK → Value → Shared → Prop

/-- the state at a call -/
structure Env0 (P : Program) (w : World) (K : PySem.W.Frag) (mg : Str → Option Value) (base : Heap) (A : Around) (outer : List Env) (s : Shared) (H : Hp) : Prop where
  frames : A.frames = some outer
  mod : Mod K mg base
  bs : ∀ b o, base.get? b = some o → s.heap.get? b = some o ∧ H b = none
  bsz : base.objs.size ≤ s.heap.objs.size
  funs : s.heap.FunFrames base outer
  frf : ∀ b ∈ frs outer, H b = none
  hok : HOk P w H s.heap
  bare : AllBare s.gens
/-- a call's end -/
def CE (outer : List Env) (P : Program) (w : World) (H : Hp) (s : Shared) (Q : VK) (u : Value) (s' : Shared) : Prop :=
  ∃ v H', s'.os = s.os ∧ AllBare s'.gens ∧ Un (frs outer) [] H H' s.heap s'.heap ∧ HOk P w H' s'.heap ∧ RelV v u ∧ Q v H'
def CR (CX : CXT) (outer : List Env) (P : Program) (w : World) (H : Hp) (s : Shared) (Q : VK) (E : XK) (r : Result) (s' : Shared) : Prop :=
  match r with
  | .ok (.ret u) => CE outer P w H s Q u s'
  | .ok _ => False
  | .error e => CX outer H s E e s'
structure FnOk (P : Program) (w : World) (K : PySem.W.Frag) (mg : Str → Option Value) (base : Heap) (CX : CXT) (k : Nat) (f : Addr) (fd : FuncData) (ps : List Str) (sp : Sp) : Prop where
  len : ∀ vs H Q E, sp vs H Q E → vs.length = ps.length
  run : ∀ (A : Around) (outer : List Env) (s : Shared) (H : Hp) (args : Args) (us : List Value) (vs : List V) (Q : VK) (E : XK), Room k A → Env0 P w K mg base A outer s H → BindsTo s fd args (ps.zip us) → Vals vs us → sp vs H Q E →
    codeAny (model P w) A (.call (.ref f) args) (CR CX outer P w H s Q E) s
theorem FnOk.mono {P : Program} {w : World} {K : PySem.W.Frag} {mg : Str → Option Value} {base : Heap} {CX : CXT} {j k : Nat} {f : Addr} {fd : FuncData} {ps : List Str} {sp : Sp} (F : FnOk P w K mg base CX j f fd ps sp) (h : j ≤ k) :
    FnOk P w K mg base CX k f fd ps sp := ⟨F.len, fun A outer s H args us vs Q E hr => F.run A outer s H args us vs Q E (hr.mono h)⟩
/-- a weaker promise -/
theorem FnOk.imp {P : Program} {w : World} {K : PySem.W.Frag} {mg : Str → Option Value} {base : Heap} {CX : CXT} {k : Nat} {f : Addr} {fd : FuncData} {ps : List Str} {sp sp' : Sp} (F : FnOk P w K mg base CX k f fd ps sp)
    (h : ∀ vs H Q E, sp' vs H Q E → sp vs H Q E) : FnOk P w K mg base CX k f fd ps sp' :=
  ⟨fun vs H Q E q => F.len vs H Q E (h _ _ _ _ q), fun A outer s H args us vs Q E hr he hb hv hs => F.run A outer s H args us vs Q E hr he hb hv (h _ _ _ _ hs)⟩

section
variable {X : Cx} {pins : List (Addr × Obj)} {σ : St} {H : Hp} {s s' : Shared}
/-- from a body: what a callee wants -/
theorem Inv.env0 (I : Inv X pins σ H s) : Env0 X.prog X.w X.K X.mg X.base X.A X.stack s H :=
  ⟨I.ok.frames, I.ok.mod, I.bs, Nat.le_trans I.ok.bsz I.sz, I.stack, I.stkFree, I.hok, I.bare⟩
/-- behind a call -/
theorem Inv.after {Q : VK} {u : Value} (I : Inv X pins σ H s) (h : CE X.stack X.prog X.w H s Q u s') : EP X pins σ Q u s' := by
  obtain ⟨v, H', os, bare, un, hok, r, q⟩ := h
  obtain ⟨hh, g, d, t, os'⟩ := s'
  obtain rfl : os' = s.os := os
  exact ⟨v, H', I.call (h' := hh) (g' := g) (d' := d) (t' := t) (ch := []) un hok bare (fun b z => absurd z (by simp)), r, q⟩
end

/-! ### calls -/
/-- f(..): the written arguments, then the defaults dvs; E: what is wanted of an exception -/
def tCall (sp : Sp) (dvs : List V) (E : XK) (t : TA) : TE := fun σ H Q => t σ H fun vs H1 => sp (vs ++ dvs) H1 Q E
/-- how the parameters are bound: us the positional arguments, kw the keywords' values by name, ds the defaults that fill up -/
def Binds (K : PySem.W.Frag) (fd : FuncData) (ps : List Str) (ds : List Value) : Prop :=
  ∀ (s : Shared) (us : List Value), K.In s.heap → (us ++ ds).length = ps.length → BindsTo s fd ⟨us, []⟩ (ps.zip (us ++ ds))
/-- every parameter is given -/
theorem Binds.all {K : PySem.W.Frag} {fd : FuncData} {ps : List Str} (h : ∀ us : List Value, us.length = ps.length → bindArgs fd ⟨us, []⟩ = pure (ps.zip us)) : Binds K fd ps [] := fun s us _ hl => by
  rw [List.append_nil] at hl ⊢
  exact .of_eq (h us hl)

/-- an exception of a callee reaches what this body wants of exceptions -/
def Passes (CX : CXT) (X : Cx) (E : XK) : Prop := ∀ (pins : List (Addr × Obj)) (σ : St) (H : Hp) (s : Shared) (e : Value) (s' : Shared), Inv X pins σ H s → CX X.stack H s E e s' → X.xe e s'

section
variable {X : Cx} {CX : CXT} {k : Nat} {f C : Addr} {fd : FuncData} {ps : List Str} {sp : Sp} {dvs : List V} {ds : List Value} {E : XK} {x m : Str} {p pos apos : Pos} {e o : Expr} {es : List Expr} {ta : TE} {t : TA}

/-- the callee runs -/
theorem run_fn {pins : List (Addr × Obj)} {σ : St} {H : Hp} {s : Shared} {Q : VK} {us : List Value} {vs : List V} (F : FnOk X.prog X.w X.K X.mg X.base CX k f fd ps sp) (hr : Room k X.A) (hb : Binds X.K fd ps ds) (hd : Vals dvs ds) (hx : Passes CX X E)
    (I : Inv X pins σ H s) (r : Vals vs us) (h : sp (vs ++ dvs) H Q E) : wpAny (model X.prog X.w) X.A (call (.ref f) us) (EP X pins σ Q) X.xe s := by
  have r2 : Vals (vs ++ dvs) (us ++ ds) := r.append hd
  have hl : (us ++ ds).length = ps.length := by rw [← r2.length]; exact F.len _ _ _ _ h
  refine wpAny_call (codeAny_mono (F.run X.A X.stack s H ⟨us, []⟩ (us ++ ds) (vs ++ dvs) Q E hr I.env0 (hb s us I.kIn hl) r2 h) fun r s' hq => ?_)
  cases r with
  | error e => exact hx pins σ H s e s' I hq
  | ok fl =>
    cases fl with
    | ret u => exact I.after hq
    | next => exact False.elim hq
    | brk => exact False.elim hq
    | cont => exact False.elim hq

theorem pe_call (F : FnOk X.prog X.w X.K X.mg X.base CX k f fd ps sp) (hr : Room k X.A) (hg : Gl X x) (hm : X.mg x = some (.ref f)) (hk : PySem.W.keepIn X.K (.ref f) = true) (hb : Binds X.K fd ps ds) (hd : Vals dvs ds) (hx : Passes CX X E)
    (ha : PA X (e :: es) t) (hdb : (x == ("__debug__" : Str)) = false := by decide) (he : starEach (e :: es) X.env = (false, eval e X.env) :: starEach es X.env := by rfl) (hpl : (backTo pos (starEach es X.env)).any (·.1) = false := by rfl) :
    PE X (.Call (.Name x p) (e :: es) [] pos) (tCall sp dvs E t) := by
  intro pins s σ H Q I h
  refine wpAny_Call_Name_kw (ld_glob I hg hm ?_ hdb)
  refine PySem.W.callWith_K (h₀ := X.base) I.ok.mod.kin hk (thn (ha pos pins s σ H _ I h) fun us s1 ⟨vs, H1, I1, r, q⟩ => ⟨I1.kIn, ?_⟩) he hpl
  exact run_fn F hr hb hd hx I1 r q
end

/-! ### keywords -/
section
variable {X : Cx} {CX : CXT} {k : Nat} {f C : Addr} {fd : FuncData} {ps ks : List Str} {sp : Sp} {E : XK} {x m : Str} {p pos apos kpos : Pos} {e o : Expr} {es : List Expr} {kws : List Keyword} {te ta : TE} {t tk : TA} {nm : Option Str}
variable {g : List Value → List Value → List Value} {gV : List V → List V → List V}
end

/-! ### a def's body keeps its promise -/
/-- names: the parameters first -/
structure FnScope (N P : List Str) (sc : Scope) : Prop where
  kind : sc.kind = .function
  co : sc.isCoroutine = false
  gen : sc.isGenerator = false
  nd : N.Nodup
  pre : N.take P.length = P
  par : ∀ x ∈ P, sc.names.lookup x = some .local ∨ sc.names.lookup x = some .cell
  nofree : ∀ y ∈ sc.names, y.2 ≠ .free

theorem bindL_out {kindOf : Str → Option NameKind} {x : Str} : ∀ {binds : List (Str × Value)} {m : Str → Option Value}, (∀ v, (x, v) ∉ binds) → bindL kindOf binds m x = m x
  | [], _, _ => rfl
  | (n, v) :: r, m, h => by
    unfold bindL
    rw [bindL_out fun w hw => h w (List.mem_cons_of_mem _ hw)]
    split
    · have : x ≠ n := by rintro rfl; exact h v List.mem_cons_self
      simp [this]
    · rfl
theorem bindC_out {kindOf : Str → Option NameKind} {x : Str} : ∀ {binds : List (Str × Value)} {m : Str → Option Value}, (∀ v, (x, v) ∉ binds) → bindC kindOf binds m x = m x
  | [], _, _ => rfl
  | (n, v) :: r, m, h => by
    unfold bindC
    rw [bindC_out fun w hw => h w (List.mem_cons_of_mem _ hw)]
    split
    · rfl
    · have : x ≠ n := by rintro rfl; exact h v List.mem_cons_self
      simp [this]
theorem bindL_get {kindOf : Str → Option NameKind} {x : Str} {v : Value} : ∀ {P : List Str} {vs : List Value} {i : Nat} {m : Str → Option Value}, P.Nodup → P[i]? = some x → vs[i]? = some v → kindOf x = some .local →
    bindL kindOf (P.zip vs) m x = some v
  | [], _, _, _, _, h, _, _ => by simp at h
  | _ :: _, [], _, _, _, _, h, _ => by simp at h
  | p :: P, w :: vs, 0, m, nd, h1, h2, hk => by
    simp at h1 h2; subst h1; subst h2
    show bindL kindOf ((p, w) :: P.zip vs) m p = _
    unfold bindL
    rw [bindL_out fun v hv => (List.nodup_cons.mp nd).1 (List.of_mem_zip hv).1, if_pos hk]
    simp
  | p :: P, w :: vs, i + 1, m, nd, h1, h2, hk => by
    show bindL kindOf ((p, w) :: P.zip vs) m x = _
    unfold bindL
    exact bindL_get (i := i) (List.nodup_cons.mp nd).2 (by simpa using h1) (by simpa using h2) hk
theorem bindC_get {kindOf : Str → Option NameKind} {x : Str} {v : Value} : ∀ {P : List Str} {vs : List Value} {i : Nat} {m : Str → Option Value}, P.Nodup → P[i]? = some x → vs[i]? = some v → kindOf x ≠ some .local →
    bindC kindOf (P.zip vs) m x = some v
  | [], _, _, _, _, h, _, _ => by simp at h
  | _ :: _, [], _, _, _, _, h, _ => by simp at h
  | p :: P, w :: vs, 0, m, nd, h1, h2, hk => by
    simp at h1 h2; subst h1; subst h2
    show bindC kindOf ((p, w) :: P.zip vs) m p = _
    unfold bindC
    rw [bindC_out fun v hv => (List.nodup_cons.mp nd).1 (List.of_mem_zip hv).1, if_neg hk]
    simp
  | p :: P, w :: vs, i + 1, m, nd, h1, h2, hk => by
    show bindC kindOf ((p, w) :: P.zip vs) m x = _
    unfold bindC
    exact bindC_get (i := i) (List.nodup_cons.mp nd).2 (by simpa using h1) (by simpa using h2) hk

/-- the names' values at the entry -/
def start (N : List Str) (vs : List V) : St := vs.map some ++ List.replicate (N.length - vs.length) none

/-- the context of a def's body, at its entry; an exception leaves the frame, then lies as CX says -/
def cxOf (CX : CXT) (P : Program) (w : World) (K : PySem.W.Frag) (mg : Str → Option Value) (base : Heap) (N : List Str) (qual : Str) (scope : Scope) (f : Addr) (cd : Value) (A : Around) (outer : List Env) (s : Shared) (H : Hp) (E : XK) : Cx where
  prog := P
  w := w
  K := K
  mg := mg
  base := base
  A := A.deeper (envOfC qual scope s.heap.objs.size f cd)
  N := N
  s₀ := s
  H₀ := H
  env := envOfC qual scope s.heap.objs.size f cd
  outer := outer
  stack := envOfC qual scope s.heap.objs.size f cd :: outer
  ex := []
  calm := true
  fn := fun _ => true
  pn := []
  xe := fun e s' => wpAny (model P w) (A.deeper (envOfC qual scope s.heap.objs.size f cd)) (leaving (envOfC qual scope s.heap.objs.size f cd) e) (fun _ s'' => CX outer H s E e s'') (fun e' s'' => CX outer H s E e' s'') s'

theorem cell_has {sc : Scope} {n : Nat} {x : Str} (h : sc.names.lookup x = some .cell) : ∃ c, (cellsFrom n sc.names []).lookup x = some c := by
  have q := PySem.W.cellsFrom_some sc.names n [] (.inl h)
  exact Option.isSome_iff_exists.mp q

theorem inv_start {CX : CXT} {P : Program} {w : World} {K : PySem.W.Frag} {mg : Str → Option Value} {base : Heap} {N ps : List Str} {qual : Str} {scope : Scope} {f : Addr} {cd : Value} {A : Around} {outer : List Env} {s s1 : Shared} {H : Hp} {E : XK} {us : List Value} {vs : List V}
    (S : FnScope N ps scope) (hd : A.handled = none) (e0 : Env0 P w K mg base A outer s H) (hl : vs.length = ps.length) (r : Vals vs us)
    (x : InCallC s s.heap.objs.size (bindL (envOfC qual scope s.heap.objs.size f cd).kindOf (ps.zip us) fun _ => none) (cellsFrom (s.heap.objs.size + 1) scope.names []) (bindC (envOfC qual scope s.heap.objs.size f cd).kindOf (ps.zip us) fun _ => none) s1) :
    Inv (cxOf CX P w K mg base N qual scope f cd A outer s H E) [] (start N vs) H s1 := by
  have hpl : ps.length ≤ N.length := by have := congrArg List.length S.pre; rw [List.length_take] at this; omega
  obtain ⟨h1, tk, rfl, hk⟩ := x.done
  have noA : ∀ b : Addr, b ∉ (cxOf CX P w K mg base N qual scope f cd A outer s H E).ex := fun b z => absurd (show b ∈ ([] : List Addr) from z) (by simp)
  refine ⟨⟨e0.mod, S.kind, rfl, rfl, Nat.le_refl _, fun y z c h1 h2 => ?_, fun y hy => ?_, fun y c _ h => ?_, fun _ => hd, Around.frames_deeper e0.frames, .inr ⟨rfl, rfl⟩, fun b z => absurd z (noA b), e0.bs, e0.bsz, fun b _ _ => noA b, fun b z => absurd z (noA b), e0.funs, e0.frf⟩,
    rfl, e0.bare, Un.kept hk, ⟨_, x.toInCall.ns, fun i y v h1 h2 h3 => ?_⟩, fun y c h => ⟨_, x.cell y c h⟩, e0.hok.fresh (Nat.le_refl _), fun y c h => ?_, fun p hp => absurd (show p ∈ ([] : List (Addr × Obj)) from hp) (by simp), e0.hok.kept hk, ?_⟩
  · exact name_of_addr x.apart (PySem.mem_of_lookup h1) (PySem.mem_of_lookup h2)
  · have hy : scope.names.lookup y = some .cell ∨ scope.names.lookup y = some .free := hy
    rcases hy with hy | hy
    · exact cell_has hy
    · exact absurd rfl (S.nofree _ (PySem.mem_of_lookup hy))
  · exact Nat.le_of_lt (x.above y c (PySem.mem_of_lookup h))
  · have hi : i < vs.length := by
      unfold start at h2
      by_cases hi : i < vs.length
      · exact hi
      · rw [List.getElem?_append_right (by simpa using hi)] at h2
        rw [List.getElem?_replicate] at h2
        split at h2 <;> cases h2
    have ha : vs[i]? = some v := by
      unfold start at h2
      rw [List.getElem?_append_left (by simpa using hi), List.getElem?_map] at h2
      cases e : vs[i]? with
      | none => rw [e] at h2; cases h2
      | some a => rw [e] at h2; cases h2; rfl
    obtain ⟨u, hu, rv⟩ := r.get ha
    have hp : ps[i]? = some y := by
      rw [← S.pre, List.getElem?_take_of_lt (by omega)]; exact h1
    have ndP : ps.Nodup := by rw [← S.pre]; exact S.nd.sublist (List.take_sublist _ _)
    refine ⟨u, rv, ?_⟩
    rcases S.par y (List.mem_of_getElem? hp) with k | k
    · exact .inl ⟨k, bindL_get ndP hp hu k⟩
    · obtain ⟨c, e⟩ := cell_has (n := s.heap.objs.size + 1) k
      refine .inr ⟨.inl k, c, e, ?_⟩
      have q := x.cell y c e
      rw [bindC_get ndP hp hu (by show scope.names.lookup y ≠ _; rw [k]; decide)] at q
      exact q
  · exact e0.hok.fresh (Nat.le_of_lt (x.above y c (PySem.mem_of_lookup h)))
  · unfold start
    show _ = N.length
    rw [List.length_append, List.length_map, List.length_replicate]
    omega

/-- THE RULE: a def (or a method) of the text, by its body. The body's reading t is chosen for each entry; it is run at the parameters' values -/
theorem fn_of {CX : CXT} {P : Program} {w : World} {K : PySem.W.Frag} {mg : Str → Option Value} {base : Heap} {k : Nat} {f : Addr} {name qual : Str} {params : Arguments} {body : List Stmt} {scope : Scope} {dV kV doc pm cdv ct oc : Value} {an od : Option Addr}
    {osl : Array (Option Value)} {N ps : List Str} {sp : Sp} (lk : K.lookup f = some ⟨oc, od, .func (PySem.W.fnOf name qual params body scope dV kV doc pm an cdv ct), osl⟩) (hcd : PySem.W.codeIn K cdv qual = true) (S : FnScope N ps scope)
    (len : ∀ vs H Q E, sp vs H Q E → vs.length = ps.length)
    (hbody : ∀ (A : Around) (outer : List Env) (s : Shared) (H : Hp) (vs : List V) (Q : VK) (E : XK), Room k (A.deeper (envOfC qual scope s.heap.objs.size f cdv)) → sp vs H Q E →
      ∃ t, PSs (cxOf CX P w K mg base N qual scope f cdv A outer s H E) body t ∧ t { nx := fun _ H' => Q .non H', rt := Q } (start N vs) H) :
    FnOk P w K mg base CX (k + 1) f (PySem.W.fnOf name qual params body scope dV kV doc pm an cdv ct) ps sp := by
  refine ⟨len, fun A outer s H args us vs Q E hr e0 hb r hsp => ?_⟩
  have hl := len _ _ _ _ hsp
  have KX : K.In s.heap := e0.mod.kin.keeps fun b o e => (e0.bs b o e).1
  have lim : s.heap.NoLimit := e0.mod.nolimit.keeps fun b o e => (e0.bs b o e).1
  have hkind : ∀ y ∈ ps.zip us, scope.names.lookup y.1 = some .local ∨ (scope.names.lookup y.1 = some .cell ∧ ((cellsFrom (s.heap.objs.size + 1) scope.names []).lookup y.1).isSome = true) := fun ⟨n, v⟩ hy => by
    rcases S.par n (List.of_mem_zip hy).1 with q | q
    · exact .inl q
    · exact .inr ⟨q, PySem.W.cellsFrom_some _ _ _ (.inl q)⟩
  refine codeAny_call_function hr.depth (KX _ _ lk) rfl S.co S.gen rfl (PySem.W.codeRec_of KX hcd) (hb _ _ _ _ ?_)
  refine wpAny_newFunctionEnv_cells S.kind hkind fun env he s1 x => ?_
  subst he
  refine ⟨lim.keeps x.toInCall.keep, codeAny_func ?_⟩
  obtain ⟨t, ht, hq⟩ := hbody A outer s H vs Q E (hr.deeper _) hsp
  have I : Inv (cxOf CX P w K mg base N qual scope f cdv A outer s H E) [] (start N vs) H s1 := inv_start S hr.hd e0 hl r x
  refine wpAny_mono (ht [] s1 (start N vs) H _ I hq) (fun fl s' hs => ?_) fun e s' hs => hs
  have fin : ∀ {σ' : St} {H' : Hp} {v : V} {u : Value}, Inv (cxOf CX P w K mg base N qual scope f cdv A outer s H E) [] σ' H' s' → RelV v u → Q v H' → CE outer P w H s Q u s' :=
    fun {σ' H' v u} J rv q => ⟨v, H', J.os, J.bare, J.base, J.hok, rv, q⟩
  cases fl with
  | ret u =>
    obtain ⟨v, σ', H', J, rv, q⟩ := hs
    exact fin J rv q
  | next =>
    obtain ⟨σ', H', J, q⟩ := hs
    exact fin (v := V.non) (u := Value.none) J rfl q
  | brk =>
    obtain ⟨_, _, _, q⟩ := hs
    exact False.elim q
  | cont =>
    obtain ⟨_, _, _, q⟩ := hs
    exact False.elim q
end L2

namespace L2
open PySem PySem.Spec PyProof.Rows
section
variable {X : Cx} {x : Str} {p pos : Pos} {e : Expr} {es : List Expr} {t : TA} {id T : String} {r : List V → Hp → VK → Prop}

def tCB (r : List V → Hp → VK → Prop) (t : TA) : TE := fun σ H Q => t σ H fun vs H1 => r vs H1 Q
/-- f(e, ..), f a built-in function -/
theorem pe_callB (hc : CallR X (.builtin id) r) (hg : Gl X x) (hm : X.mg x = none) (hv : bootBuiltins x = some (.builtin id)) (ha : PA X (e :: es) t) (hn : x ≠ "__name__" := by decide) (hdb : (x == ("__debug__" : Str)) = false := by decide)
    (he : starEach (e :: es) X.env = (false, eval e X.env) :: starEach es X.env := by rfl) (hpl : (backTo pos (starEach es X.env)).any (·.1) = false := by rfl) : PE X (.Call (.Name x p) (e :: es) [] pos) (tCB r t) := by
  intro pins s σ H Q I h
  refine wpAny_Call_Name_kw (ld_blt I hg hm hv ?_ hn hdb)
  exact PyProof.Rows.callWith_builtin1 (thn (ha pos pins s σ H _ I h) fun us s1 ⟨vs, H1, I1, r1, q1⟩ => hc pins s1 σ H1 vs us Q I1 r1 q1) he hpl
/-- T(e, ..), T a built-in type -/
theorem pe_callTy (hc : CallR X (.type T) r) (hg : Gl X x) (hm : X.mg x = none) (hv : bootBuiltins x = some (.type T)) (ha : PA X (e :: es) t) (hn : x ≠ "__name__" := by decide) (hdb : (x == ("__debug__" : Str)) = false := by decide)
    (he : starEach (e :: es) X.env = (false, eval e X.env) :: starEach es X.env := by rfl) (hpl : (backTo pos (starEach es X.env)).any (·.1) = false := by rfl) : PE X (.Call (.Name x p) (e :: es) [] pos) (tCB r t) := by
  intro pins s σ H Q I h
  refine wpAny_Call_Name_kw (ld_blt I hg hm hv ?_ hn hdb)
  exact PyProof.Rows.callWith_type1 (thn (ha pos pins s σ H _ I h) fun us s1 ⟨vs, H1, I1, r1, q1⟩ => hc pins s1 σ H1 vs us Q I1 r1 q1) he hpl
end
end L2

namespace HT
open PySem PyProof.Rows

section
open PySem.SeqAt
open PySem.AutoSeq1 (wpAny_loadPart')
open PySem.MeetsSeq PySem.MeetsSeq2 PySem.MeetsSeq3

end

section
variable {prog : Program} {w : World} {A : Around} {E : Value → Shared → Prop} {s : Shared}

/-! ### t[a:b], not the whole -/
/-- a slice's bound as a place among n (d where it is left out) -/
def sIx (n d : Nat) : Option Int → Nat
  | none => d
  | some v => if v < 0 then (v + (n : Int)).toNat else min v.toNat n
theorem sIx_none (n d : Nat) : sIx n d none = d := rfl
theorem sIx_nat (n d k : Nat) : sIx n d (some (k : Int)) = min k n := by
  show (if (k : Int) < 0 then ((k : Int) + (n : Int)).toNat else min (k : Int).toNat n) = min k n
  rw [if_neg (by omega), Int.toNat_natCast]
end
end HT

namespace L2
open PySem PySem.Spec PyProof.Rows

/-! ### the parts of a slice -/
abbrev TO := St → Hp → (Option Int → Hp → Prop) → Prop
/-- a slice's part (left out, or an int) -/
def PO (X : Cx) (e : Option Expr) (t : TO) : Prop :=
  ∀ (pins : List (Addr × Obj)) (s : Shared) (σ : St) (H : Hp) (Q : Option Int → Hp → Prop), Inv X pins σ H s → t σ H Q →
    wpAny (model X.prog X.w) X.A (evalPart e X.env) (fun u s' => ∃ o H', Inv X pins σ H' s' ∧ IsPart u o ∧ Q o H') X.xe s
def tNoPart : TO := fun _ H Q => Q none H
def tPart (t : TE) : TO := fun σ H Q => t σ H fun x H1 => ∃ i, x = .int i ∧ Q (some i) H1

section
variable {X : Cx} {e : Expr} {te : TE} {lo hi : Option Expr} {tl th : TO} {pos p2 : Pos}

theorem po_none : PO X none tNoPart := by
  intro pins s σ H Q I h
  rw [evalPart_none]
  exact wpAny_pure ⟨none, H, I, .none, h⟩
theorem po_some (h : PE X e te) : PO X (some e) (tPart te) := by
  intro pins s σ H Q I hw
  rw [evalPart_some]
  refine thn (h pins s σ H _ I hw) fun u s1 ⟨x, H1, I1, r1, q1⟩ => ?_
  obtain ⟨i, rfl, q⟩ := q1
  obtain ⟨t, rfl⟩ := r1
  exact ⟨some i, H1, I1, .int i t, q⟩

/-- what a slice of a value is, by values: the slice object stands at sl -/
def SlR (X : Cx) (r : V → Option Int → Option Int → Hp → VK → Prop) : Prop :=
  ∀ (pins : List (Addr × Obj)) (s : Shared) (σ : St) (H : Hp) (x : V) (v vl vu : Value) (lo hi : Option Int) (sl : Addr) (Q : VK), Inv X pins σ H s → RelV x v → s.heap.IsSliceOf sl vl vu .none → IsPart vl lo → IsPart vu hi → r x lo hi H Q →
    ∃ T id, typeLookup (.type T) "__getitem__" = pure (some (.builtin id)) ∧ s.TypeIs v T ∧ wpAny (model X.prog X.w) X.A (getItem v (.ref sl)) (EP X pins σ Q) X.xe s
theorem SlR.or {r r' : V → Option Int → Option Int → Hp → VK → Prop} (h : SlR X r) (h' : SlR X r') : SlR X (fun x lo hi H Q => r x lo hi H Q ∨ r' x lo hi H Q) := by
  intro pins s σ H x v vl vu lo hi sl Q I rx hs pl pu q
  rcases q with q | q
  · exact h pins s σ H x v vl vu lo hi sl Q I rx hs pl pu q
  · exact h' pins s σ H x v vl vu lo hi sl Q I rx hs pl pu q
def tSl (r : V → Option Int → Option Int → Hp → VK → Prop) (te : TE) (tl th : TO) : TE := fun σ H Q => te σ H fun x H1 => tl σ H1 fun l H2 => th σ H2 fun u H3 => r x l u H3 Q
/-- a[lo:hi], any a -/
theorem pe_slice {r : V → Option Int → Option Int → Hp → VK → Prop} (hr : SlR X r) (he : PE X e te) (hl : PO X lo tl) (hu : PO X hi th) : PE X (.Subscript e (.Slice lo hi none p2) pos) (tSl r te tl th) := by
  intro pins s σ H Q I h
  refine Subscript_ (thn (he pins s σ H _ I h) fun v s1 ⟨x, H1, I1, r1, q1⟩ => ?_)
  refine wpAny_Slice (thn (hl pins s1 σ H1 _ I1 q1) fun vl s2 ⟨l, H2, I2, pl, q2⟩ => thn (hu pins s2 σ H2 _ I2 q2) fun vu s3 ⟨u, H3, I3, pu, q3⟩ => ?_)
  rw [evalPart_none]
  refine wpAny_pure ?_
  have I4 : Inv X pins σ H3 { s3 with heap := s3.heap.push { cls := .type "slice", data := .fields #[vl, vu, .none] } } := I3.kept (t' := s3.toks) fun b ob q => Heap.get?_push_of_some _ q
  obtain ⟨T, id, hT, ht, hg⟩ := hr pins { s3 with heap := s3.heap.push { cls := .type "slice", data := .fields #[vl, vu, .none] } } σ H3 x v vl vu l u s3.heap.objs.size Q I4 r1 (Heap.IsSliceOf.new ..) pl pu q3
  show wpAny (model X.prog X.w) X.A (subscriptTail e (.Slice lo hi none p2) v (.ref s3.heap.objs.size)) (EP X pins σ Q) X.xe { s3 with heap := s3.heap.push { cls := .type "slice", data := .fields #[vl, vu, .none] } }
  exact tail_any (ops := [.ref s3.heap.objs.size, v]) ht hT hg (by with_unfolding_all rfl)

/-- the items of xs[lo:hi] -/
def cutV (xs : List V) (lo hi : Option Int) : List V := (xs.drop (HT.sIx xs.length 0 lo)).take (HT.sIx xs.length xs.length hi - HT.sIx xs.length 0 lo)
theorem cutV_length (xs : List V) (lo hi : Option Int) : (cutV xs lo hi).length ≤ xs.length := by
  unfold cutV
  rw [List.length_take, List.length_drop]
  omega
/-! ### t < u, t + u -/
end
end L2

namespace L2
open PySem PySem.Spec PyProof.Rows

/-! ### places -/
/-- the place that an index of any sign means -/
def ixN (n : Nat) (i : Int) : Option Nat := if 0 ≤ i then (if i < n then some i.toNat else none) else if -(n : Int) ≤ i then some (i + n).toNat else none
def atI {α : Type} (xs : List α) (i : Int) : Option α := (ixN xs.length i).bind fun j => xs[j]?
theorem ixN_seq {n : Nat} {i : Int} {j : Nat} (h : ixN n i = some j) : seqIndex? i n = some j ∧ j < n ∧ -(n : Int) ≤ i ∧ i < n := by
  unfold ixN at h
  by_cases h0 : 0 ≤ i
  · rw [if_pos h0] at h
    by_cases h1 : i < n
    · rw [if_pos h1] at h
      have e : i.toNat = j := Option.some.inj h
      exact ⟨by rw [seqIndex_of h0 h1, e], by omega, by omega, h1⟩
    · rw [if_neg h1] at h; cases h
  · rw [if_neg h0] at h
    by_cases h1 : -(n : Int) ≤ i
    · rw [if_pos h1] at h
      have e : (i + n).toNat = j := Option.some.inj h
      exact ⟨by rw [seqIndex_neg (by omega) h1, e], by omega, h1, by omega⟩
    · rw [if_neg h1] at h; cases h
theorem atI_get {α : Type} {xs : List α} {i : Int} {v : α} (h : atI xs i = some v) : ∃ j, seqIndex? i xs.length = some j ∧ xs[j]? = some v ∧ j < xs.length ∧ -(xs.length : Int) ≤ i ∧ i < xs.length := by
  unfold atI at h
  cases e : ixN xs.length i with
  | none => rw [e] at h; cases h
  | some j =>
    rw [e] at h
    obtain ⟨h1, h2, h3, h4⟩ := ixN_seq e
    exact ⟨j, h1, h, h2, h3, h4⟩
theorem atI_nat {α : Type} {xs : List α} {j : Nat} {v : α} (h : xs[j]? = some v) : atI xs (j : Int) = some v := by
  have hj : j < xs.length := (List.getElem?_eq_some_iff.mp h).1
  have e : ixN xs.length (j : Int) = some j := by
    unfold ixN
    rw [if_pos (by omega), if_pos (by omega)]; simp
  unfold atI; rw [e]; exact h
/-! ### what may be subscripted -/
/-- what stands as an index of a plain subscript -/
def PlainIx (b : Expr) : Prop := ∀ o i, subscripted b false o i = operate [o, i] (getItem o i)
/-- a subscript by values -/
def IxR (X : Cx) (r : R2) : Prop :=
  ∀ (value slice : Expr) (pins : List (Addr × Obj)) (s : Shared) (σ : St) (H : Hp) (x y : V) (v u : Value) (Q : VK), Inv X pins σ H s → RelV x v → RelV y u → r x y H Q →
    subscripted slice false v u = operate [v, u] (getItem v u) → wpAny (model X.prog X.w) X.A (subscriptTail value slice v u) (EP X pins σ Q) X.xe s
/-- a call of a builtin's method by values: the receiver, the arguments -/
def MtR (X : Cx) (id : String) (r : V → List V → Hp → VK → Prop) : Prop :=
  ∀ (pins : List (Addr × Obj)) (s : Shared) (σ : St) (H : Hp) (x : V) (xs : List V) (v : Value) (us : List Value) (Q : VK), Inv X pins σ H s → RelV x v → Vals xs us → r x xs H Q →
    wpAny (model X.prog X.w) X.A (call (.builtin id) (v :: us)) (EP X pins σ Q) X.xe s
section
variable {X : Cx} {a b : Expr} {ta tb : TE} {pos : Pos}
theorem IxR.or {r r' : R2} (h : IxR X r) (h' : IxR X r') : IxR X (fun x y H Q => r x y H Q ∨ r' x y H Q) := by
  intro value slice pins s σ H x y v u Q I rx ry q hs
  rcases q with q | q
  · exact h value slice pins s σ H x y v u Q I rx ry q hs
  · exact h' value slice pins s σ H x y v u Q I rx ry q hs
theorem MtR.or {id : String} {r r' : V → List V → Hp → VK → Prop} (h : MtR X id r) (h' : MtR X id r') : MtR X id (fun x xs H Q => r x xs H Q ∨ r' x xs H Q) := by
  intro pins s σ H x xs v us Q I rx rs q
  rcases q with q | q
  · exact h pins s σ H x xs v us Q I rx rs q
  · exact h' pins s σ H x xs v us Q I rx rs q
/-- a[b] -/
theorem pe_ix {r : R2} (hr : IxR X r) (ha : PE X a ta) (hb : PE X b tb) (hs : PlainIx b) : PE X (.Subscript a b pos) (tOp r ta tb) := by
  intro pins s σ H Q I h
  exact Subscript_ (binT ha hb I h fun v u s2 x y H2 I2 rx ry q => hr a b pins s2 σ H2 x y v u Q I2 rx ry q (hs _ _))

def rIxL (K : PySem.W.Frag) : R2 := fun x y H Q => ∃ p xs i v, x = .ref p ∧ y = .int i ∧ SqL K H p xs ∧ atI xs i = some v ∧ Q v H
def rIxT (K : PySem.W.Frag) : R2 := fun x y H Q => ∃ p xs i v, x = .ref p ∧ y = .int i ∧ SqT K H p xs ∧ atI xs i = some v ∧ Q v H
theorem ix_list : IxR X (rIxL X.K) := by
  intro value slice pins s σ H x y v u Q I rx ry h hs
  obtain ⟨p, xs, i, z, rfl, rfl, hq, he, q⟩ := h
  cases rx
  obtain ⟨t, rfl⟩ := ry
  obtain ⟨its, r, pl, hz⟩ := I.list hq
  obtain ⟨j, h1, h2, h3, h4, h5⟩ := atI_get he
  obtain ⟨w, ew, rw'⟩ := r.get h2
  have hl := r.length
  have hn := line63
  have fin : EP X pins σ Q w s := ⟨z, H, I, rw', q⟩
  by_cases h0 : 0 ≤ i
  · have hj : i.toNat = j := by
      rw [seqIndex_of h0 h5] at h1
      exact Option.some.inj h1
    exact item_listR pl.isList h0 (by omega) (by rw [hj]; simpa using ew) fin hs
  · have hj : (i + (its.toArray.size : Int)).toNat = j := by
      rw [seqIndex_neg (by omega) h4] at h1
      rw [List.size_toArray, ← hl]
      exact Option.some.inj h1
    exact subscriptTail_builtinR (x := w) pl.isList.typeIs slot_list_getitem.lookup
      (wpAny_getItem_list_neg (Q := fun r s' => r = w ∧ EP X pins σ Q r s') pl.isList (by omega) (by rw [List.size_toArray] <;> omega) (by omega) (by rw [hj]; simpa using ew) ⟨rfl, fin⟩) hs
theorem ix_tup : IxR X (rIxT X.K) := by
  intro value slice pins s σ H x y v u Q I rx ry h hs
  obtain ⟨p, xs, i, z, rfl, rfl, hq, he, q⟩ := h
  cases rx
  obtain ⟨t, rfl⟩ := ry
  obtain ⟨its, r, pl, hz⟩ := I.tuple hq
  obtain ⟨j, h1, h2, h3, h4, h5⟩ := atI_get he
  obtain ⟨w, ew, rw'⟩ := r.get h2
  have hl := r.length
  have hn := line63
  have fin : EP X pins σ Q w s := ⟨z, H, I, rw', q⟩
  exact subscriptTail_builtinR (x := w) pl.typeIs slot_tuple_getitem.lookup
    (getItem_tuple (j := j) (Q := fun r s' => r = w ∧ EP X pins σ Q r s') pl (by omega) (by omega) (by rw [List.size_toArray, ← hl]; exact h1) (by simpa using ew) ⟨rfl, fin⟩) hs
/-! ### xs[i] = v, any sign -/
/-- the list's object behind a store -/
theorem mapSeq_set (its : List Value) (n j : Nat) (u : Value) : Obj.mapSeq (·.setIfInBounds j u) { cls := .type "list", data := .seq its.toArray n } = { cls := .type "list", data := .seq (its.set j u).toArray n } := by
  simp [Obj.mapSeq]
theorem Inv.lst {pins : List (Addr × Obj)} {σ : St} {H : Hp} {s : Shared} {p : Addr} {xs : List V} (I : Inv X pins σ H s) (h : H p = some (.lst xs)) :
    ∃ (its : List Value) (n : Nat), Vals xs its ∧ s.heap.get? p = some { cls := .type "list", data := .seq its.toArray n } ∧ xs.length ≤ sizeLine := by
  obtain ⟨z, its, n, r, e⟩ := I.hok p _ h
  exact ⟨its, n, r, e, z⟩
/-- the list at p is written by an update of its object -/
theorem Inv.lstUpd {pins : List (Addr × Obj)} {σ : St} {H : Hp} {s : Shared} {p : Addr} {xs ys : List V} {its its' : List Value} {n n' : Nat} {f : Obj → Obj} (I : Inv X pins σ H s) (h : H p = some (.lst xs))
    (ho : s.heap.get? p = some { cls := .type "list", data := .seq its.toArray n }) (hf : f { cls := .type "list", data := .seq its.toArray n } = { cls := .type "list", data := .seq its'.toArray n' }) (r : Vals ys its') (hz : ys.length ≤ sizeLine) (t : Nat) :
    Inv X pins σ (upd H p (.lst ys)) { s with heap := s.heap.update p f, toks := t } := by
  have e : (s.heap.update p f).get? p = some { cls := .type "list", data := .seq its'.toArray n' } := by
    rw [Heap.get?_update_self f ho (by rw [hf] <;> rfl), hf]
  refine I.write (x := p) (e := p) (by rw [h]; trivial) (.inl rfl) (fun b u hb q => (Heap.get?_update_other _ _ (Ne.symm hb)).trans q) ⟨_, e⟩ ?_
  exact ⟨hz, its', n', r, e⟩
def rSetL : V → V → V → Hp → (Hp → Prop) → Prop := fun o i v H Q => ∃ p xs k j, o = .ref p ∧ i = .int k ∧ H p = some (.lst xs) ∧ ixN xs.length k = some j ∧ Q (upd H p (.lst (xs.set j v)))
theorem set_list : PSet X rSetL := by
  intro pins s σ H o i v ov iv u Q I ro ri rv h
  obtain ⟨p, xs, k, j, rfl, rfl, hp, hj, q⟩ := h
  cases ro
  obtain ⟨t, rfl⟩ := ri
  obtain ⟨its, n, r, ho, hz⟩ := I.lst hp
  obtain ⟨h1, h2, h3, h4⟩ := ixN_seq hj
  have hl := r.length
  have hn := line63
  have I' : Inv X pins σ (upd H p (.lst (xs.set j v))) { s with heap := s.heap.update p (Obj.mapSeq (·.setIfInBounds j u)) } :=
    I.lstUpd hp ho (mapSeq_set its n j u) (r.set rv j) (by rw [List.length_set]; exact hz) s.toks
  by_cases h0 : 0 ≤ k
  · have hk : k.toNat = j := by
      rw [seqIndex_of h0 h4] at h1
      exact Option.some.inj h1
    exact PySem.W.ki_setAt ho h0 (by omega) (by rw [List.size_toArray, ← hl]; exact h4) (by rw [hk]; exact ⟨_, I', q⟩)
  · have hk : (k + (its.toArray.size : Int)).toNat = j := by
      rw [seqIndex_neg (by omega) h3] at h1
      rw [List.size_toArray, ← hl]
      exact Option.some.inj h1
    exact PySem.W.ki_setBack ho (by omega) (by rw [List.size_toArray, ← hl]; exact h3) (by omega) (by rw [hk]; exact ⟨_, I', q⟩)

/-! ### slices -/
theorem slice_bounds (lo hi : Option Int) (n : Nat) : (sliceBounds lo hi none n).1 = ((HT.sIx n 0 lo : Nat) : Int) ∧ (sliceBounds lo hi none n).2.1 = ((HT.sIx n n hi : Nat) : Int) ∧ (sliceBounds lo hi none n).2.2 = 1 := by
  refine ⟨?_, ?_, rfl⟩
  · cases lo with
    | none => simp [sliceBounds, HT.sIx]
    | some i =>
      simp only [sliceBounds, HT.sIx, Option.getD_none, show (1 : Int) > 0 by decide, if_true]
      by_cases h : i < 0
      · simp only [h, if_true] <;> omega
      · simp only [h, if_false] <;> omega
  · cases hi with
    | none => simp [sliceBounds, HT.sIx]
    | some i =>
      simp only [sliceBounds, HT.sIx, Option.getD_none, show (1 : Int) > 0 by decide, if_true]
      by_cases h : i < 0
      · simp only [h, if_true] <;> omega
      · simp only [h, if_false] <;> omega
theorem slicePick_cut (its : List Value) (lo hi : Option Int) : slicePick its.toArray lo hi none = ((its.drop (HT.sIx its.length 0 lo)).take (HT.sIx its.length its.length hi - HT.sIx its.length 0 lo)).toArray := by
  obtain ⟨h1, h2, h3⟩ := slice_bounds lo hi its.toArray.size
  unfold slicePick
  rw [h1, h2, h3]
  simp only [sliceRange_one, pick_run, List.size_toArray] <;> rfl
/-- xs[lo:hi] of a list: a new list -/
def rSlL (K : PySem.W.Frag) : V → Option Int → Option Int → Hp → VK → Prop := fun x lo hi H Q => ∃ a xs, x = .ref a ∧ SqL K H a xs ∧ ∀ p, H p = none → Q (.ref p) (upd H p (.lst (cutV xs lo hi)))
theorem sl_list : SlR X (rSlL X.K) := by
  intro pins s σ H x v vl vu lo hi sl Q I rx hs pl pu h
  obtain ⟨a, xs, rfl, hx, q⟩ := h
  cases rx
  obtain ⟨its, r, ht, hz⟩ := I.list hx
  have hlen := r.length
  refine ⟨"list", _, slot_list_getitem.lookup, ht.isList.typeIs, ?_⟩
  refine wpAny_getItem_list_slice ht.isList hs pl pu .none (by simp) ?_ (by rw [List.size_toArray] <;> omega)
  rw [slicePick_cut, ← hlen]
  refine ⟨.ref s.heap.objs.size, _, I.laid (t' := s.toks) (o := .lst (cutV xs lo hi)) (fun b ob q => Heap.get?_push_of_some _ q) (Nat.le_refl _) ?_, rfl, q _ (I.hok.fresh (Nat.le_refl _))⟩
  exact ⟨Nat.le_trans (cutV_length xs lo hi) hz, _, 0, (r.drop (HT.sIx xs.length 0 lo)).take (HT.sIx xs.length xs.length hi - HT.sIx xs.length 0 lo), Heap.get?_push_size _ rfl⟩

/-! ### in, not in: flat items -/
def flatV : V → Bool
  | .non => true
  | .bl _ => true
  | .int _ => true
  | .str _ => true
  | _ => false
/-- == of flat values -/
def eqV : V → V → Bool
  | .non, .non => true
  | .bl a, .bl b => a == b
  | .bl a, .int b => (if a then 1 else 0) == b
  | .int a, .bl b => a == (if b then 1 else 0)
  | .int a, .int b => a == b
  | .str a, .str b => a == b
  | _, _ => false
theorem eqAt_V {A : Around} {s : Shared} {y x : V} {u v : Value} (ry : RelV y u) (rx : RelV x v) (fy : flatV y = true) (fx : flatV x = true) : SeqAt.EqAt A s u v (eqV y x) := by
  cases y with
  | non =>
    cases ry
    cases x with
    | non => cases rx; exact SeqAt.EqAt.same _
    | bl b => cases rx; exact SeqAt.EqAt.none_bool b
    | int b => obtain ⟨t, rfl⟩ := rx; exact SeqAt.EqAt.none_int b t
    | str b => obtain ⟨t, rfl⟩ := rx; exact SeqAt.EqAt.none_str b t
    | _ => exact absurd (show false = true from fx) Bool.false_ne_true
  | bl a =>
    cases ry
    cases x with
    | non => cases rx; exact SeqAt.EqAt.bool_none a
    | bl b => cases rx; exact SeqAt.EqAt.bool_bool a b
    | int b => obtain ⟨t, rfl⟩ := rx; exact SeqAt.EqAt.bool_int a b t
    | str b => obtain ⟨t, rfl⟩ := rx; exact SeqAt.EqAt.bool_str a b t
    | _ => exact absurd (show false = true from fx) Bool.false_ne_true
  | int a =>
    obtain ⟨t', rfl⟩ := ry
    cases x with
    | non => cases rx; exact SeqAt.EqAt.int_none a t'
    | bl b => cases rx; exact SeqAt.EqAt.int_bool a t' b
    | int b => obtain ⟨t, rfl⟩ := rx; exact SeqAt.EqAt.int_int a t' b t
    | str b => obtain ⟨t, rfl⟩ := rx; exact SeqAt.EqAt.int_str a t' b t
    | _ => exact absurd (show false = true from fx) Bool.false_ne_true
  | str a =>
    obtain ⟨t', rfl⟩ := ry
    cases x with
    | non => cases rx; exact SeqAt.EqAt.str_none a t'
    | bl b => cases rx; exact SeqAt.EqAt.str_bool a t' b
    | int b => obtain ⟨t, rfl⟩ := rx; exact SeqAt.EqAt.str_int a t' b t
    | str b => obtain ⟨t, rfl⟩ := rx; exact SeqAt.EqAt.str_str a t' b t
    | _ => exact absurd (show false = true from fx) Bool.false_ne_true
  | _ => exact absurd (show false = true from fy) Bool.false_ne_true
/-! ### len, list(x), tuple(x) of any list or tuple that is read -/
theorem CallR.or {f : Value} {r r' : List V → Hp → VK → Prop} (h : CallR X f r) (h' : CallR X f r') : CallR X f (fun xs H Q => r xs H Q ∨ r' xs H Q) := by
  intro pins s σ H xs us Q I rs q
  rcases q with q | q
  · exact h pins s σ H xs us Q I rs q
  · exact h' pins s σ H xs us Q I rs q
theorem call_list_of : CallR X (.type "list") (fun xs H Q => ∃ p ys, xs = [.ref p] ∧ (SqL X.K H p ys ∨ SqT X.K H p ys) ∧ ∀ l, H l = none → Q (.ref l) (upd H l (.lst ys))) := by
  intro pins s σ H xs us Q I r h
  obtain ⟨p, ys, rfl, hq, q⟩ := h
  obtain ⟨u, rfl, rx⟩ := vals1 r
  cases rx
  have fin : ∀ (its : List Value), Vals ys its → ys.length ≤ sizeLine → ∀ (h' : Heap) (c' : Nat), (∀ b o', s.heap.get? b = some o' → h'.get? b = some o') →
      h'.get? s.heap.objs.size = some { cls := .type "list", dict := none, data := .seq its.toArray c', slots := #[] } → EP X pins σ Q (.ref s.heap.objs.size) { s with heap := h' } := fun its r' hz h' c' kp e =>
    ⟨.ref s.heap.objs.size, _, I.laid (t' := s.toks) kp (Nat.le_refl _) (show ObjOk X.prog X.w _ h' _ (.lst ys) from ⟨hz, its, c', r', e⟩), rfl, q _ (I.hok.fresh (Nat.le_refl _))⟩
  rcases hq with hq | hq
  · obtain ⟨its, r', pl, hz⟩ := I.list hq
    have hlen := r'.length
    obtain ⟨o, ho, hc, n, hd⟩ := pl.isList
    exact call_list_seq p (.inl rfl) ho hc hd (fun h' c' kp e => fin its r' hz h' c' kp e) (by simp only [List.size_toArray] <;> omega)
  · obtain ⟨its, r', pl, hz⟩ := I.tuple hq
    have hlen := r'.length
    obtain ⟨o, ho, hc, n, hd⟩ := pl
    exact call_list_seq p (.inr rfl) ho hc hd (fun h' c' kp e => fin its r' hz h' c' kp e) (by simp only [List.size_toArray] <;> omega)
/-! ### the call of a builtin's method: o.m(..) -/
/-- the value is of that builtin type -/
def tyV (K : PySem.W.Frag) (T : String) (x : V) (H : Hp) : Prop := match x with
  | .str _ => T = "str"
  | .int _ => T = "int"
  | .ref p => (T = "list" ∧ ∃ xs, SqL K H p xs) ∨ (T = "tuple" ∧ ∃ o, K.lookup p = some o ∧ o.cls = .type "tuple" ∧ o.dict = none) ∨
      (T = "dict" ∧ ((∃ kvs, H p = some (.dK kvs)) ∨ ∃ kvs, H p = some (.dT kvs))) ∨ (T = "set" ∧ ∃ S n, H p = some (.set S n))
  | _ => False
theorem tyV_is {pins : List (Addr × Obj)} {σ : St} {H : Hp} {s : Shared} {T : String} {x : V} {v : Value} (I : Inv X pins σ H s) (r : RelV x v) (ty : tyV X.K T x H) :
    s.TypeIs v T ∧ ∀ a, v = .ref a → ∃ ob, s.heap.get? a = some ob ∧ ob.dict = none := by
  cases x with
  | str z =>
    obtain ⟨t, rfl⟩ := r
    cases (show T = "str" from ty)
    exact ⟨typeIs_str s z t, fun _ e => nomatch e⟩
  | int i =>
    obtain ⟨t, rfl⟩ := r
    cases (show T = "int" from ty)
    exact ⟨typeIs_int s i t, fun _ e => nomatch e⟩
  | ref p =>
    cases r
    rcases ty with ⟨rfl, xs, hq⟩ | ⟨rfl, o, hk, hc, hd⟩ | ⟨rfl, hk⟩ | ⟨rfl, S, n, hk⟩
    · obtain ⟨its, _, pl, _⟩ := I.list hq
      refine ⟨pl.isList.typeIs, fun a e => ?_⟩
      cases e
      obtain ⟨o, n, e, c, hd, _⟩ := pl
      exact ⟨o, e, hd⟩
    · refine ⟨⟨o, I.kIn p o hk, hc⟩, fun a e => ?_⟩
      cases e
      exact ⟨o, I.kIn _ o hk, hd⟩
    · have z : ∃ o, s.heap.get? p = some o ∧ o.ExactDict := by
        rcases hk with ⟨kvs, hk⟩ | ⟨kvs, hk⟩
        · obtain ⟨_, _, _, _, o, _, _, e, ex, _⟩ := I.hok p _ hk
          exact ⟨o, e, ex⟩
        · obtain ⟨_, _, _, _, o, _, _, e, ex, _⟩ := I.hok p _ hk
          exact ⟨o, e, ex⟩
      obtain ⟨o, e, ex⟩ := z
      refine ⟨⟨o, e, ex.1⟩, fun a e2 => ?_⟩
      cases e2
      exact ⟨o, e, ex.2.1⟩
    · obtain ⟨o, _, _, _, e, ex, _⟩ := I.hok p _ hk
      refine ⟨⟨o, e, ex.1⟩, fun a e2 => ?_⟩
      cases e2
      exact ⟨o, e, ex.2.1⟩
  | _ => exact False.elim ty
def tBM (K : PySem.W.Frag) (T : String) (r : V → List V → Hp → VK → Prop) (to : TE) (t : TA) : TE := fun σ H Q => to σ H fun x H1 => tyV K T x H1 ∧ t σ H1 fun xs H2 => r x xs H2 Q
variable {o e : Expr} {es : List Expr} {to : TE} {t : TA} {name : Str} {apos cpos : Pos} {T id : String} {r : V → List V → Hp → VK → Prop}
theorem pe_bm (pa : PlainAttrs T) (slot : Slot T name id) (hty : typeOf (.builtin id) = pure (.type "method_descriptor")) (hm : MtR X id r) (ho : PE X o to) (ha : PA X (e :: es) t)
    (hbase : attributeBase o name X.env (eval o X.env) = eval o X.env := by rfl)
    (hfew : ((backTo cpos (starEach (e :: es) X.env)).all (fun x => !x.1) && (backToKw cpos (keywordEach [] X.env)).all (fun x => x.1.isSome)
      && decide ((e :: es).length + ([] : List Keyword).length + (if ([] : List Keyword).isEmpty then 0 else 1) < 30)) = true := by rfl)
    (hline : (apos.endLine == cpos.line) = true := by rfl) (hs : starEach (e :: es) X.env = (false, eval e X.env) :: starEach es X.env := by rfl) (hplain : (backTo cpos (starEach es X.env)).any (·.1) = false := by rfl) :
    PE X (.Call (.Attribute o name apos) (e :: es) [] cpos) (tBM X.K T r to t) := by
  intro pins s σ H Q I h
  refine wpAny_Call_method_late hbase hfew hline rfl (thn (ho pins s σ H _ I h) fun v s1 ⟨x, H1, I1, r1, ty, q1⟩ => ?_)
  obtain ⟨h1, h2⟩ := tyV_is I1 r1 ty
  refine ⟨T, id, pa, slot, hty, h1, h2, ?_⟩
  have hA := ha cpos pins s1 σ H1 _ I1 q1
  rw [hs] at hA ⊢
  refine Calls.callWith_builtin (by show (false || (backTo cpos (starEach es X.env)).any (·.1)) = false; rw [hplain] <;> rfl) (Calls.evalArgs_plain ?_)
  exact thn hA fun us s2 ⟨vs, H2, I2, r2, q2⟩ => hm pins s2 σ H2 x vs v us Q I2 r1 r2 q2
/- xs.append(e), list.index on a module's tuple .. are MtR facts of 06m -/
end
end L2

namespace L2
open PySem PySem.Spec PyProof.Rows

def MtM (X : Cx) (id : String) (r : V → List V → Hp → VK → Prop) : Prop :=
  ∀ (pins : List (Addr × Obj)) (s : Shared) (σ : St) (H : Hp) (x : V) (xs : List V) (v : Value) (us : List Value) (Q : VK), Inv X pins σ H s → RelV x v → Vals xs us → r x xs H Q →
    wpAny (model X.prog X.w) X.A (call (.builtin id) (v :: us)) (EP X pins σ Q) X.xe s

/-! ### lists of values -/
theorem Vals.one : ∀ {x : V} {us : List Value}, Vals [x] us → ∃ u, us = [u] ∧ RelV x u
  | _, _, .cons r .nil => ⟨_, rfl, r⟩
theorem Vals.two : ∀ {x y : V} {us : List Value}, Vals [x, y] us → ∃ u v, us = [u, v] ∧ RelV x u ∧ RelV y v
  | _, _, _, .cons r (.cons q .nil) => ⟨_, _, rfl, r, q⟩
theorem Vals.zero : ∀ {us : List Value}, Vals [] us → us = []
  | _, .nil => rfl
theorem Vals.dropLast {xs : List V} {us : List Value} (h : Vals xs us) : Vals xs.dropLast us.dropLast := by
  induction h with
  | nil => exact .nil
  | cons r t ih =>
    cases t with
    | nil => exact .nil
    | cons q t' => exact .cons r ih
theorem Vals.rep {xs : List V} {us : List Value} (h : Vals xs us) : ∀ k : Nat, Vals (List.replicate k xs).flatten (List.replicate k us).flatten
  | 0 => .nil
  | k + 1 => by
    rw [List.replicate_succ, List.replicate_succ, List.flatten_cons, List.flatten_cons]
    exact Vals.append h (Vals.rep h k)
theorem foldl_rep (its : List Value) : ∀ (k : Nat) (acc : List Value),
    List.foldl (fun x1 x2 => x1 ++ x2) acc.toArray (List.replicate k its.toArray) = (acc ++ (List.replicate k its).flatten).toArray
  | 0, acc => by simp
  | k + 1, acc => by
    have e : acc.toArray ++ its.toArray = (acc ++ its).toArray := by simp
    have e2 : (acc ++ its) ++ (List.replicate k its).flatten = acc ++ (List.replicate (k + 1) its).flatten := by
      rw [List.replicate_succ, List.flatten_cons, List.append_assoc]
    rw [← e2, ← foldl_rep its k (acc ++ its), ← e, List.replicate_succ, List.foldl_cons]

section
variable {X : Cx} {pins : List (Addr × Obj)} {σ : St} {H : Hp} {s : Shared} {l b : Addr} {xs ys zs : List V}

/-! ### the two steps: a tracked list is rewritten, a new list is laid -/
theorem Inv.lset {its its' : List Value} {n : Nat} {f : Array Value → Array Value} {t' : Nat} (I : Inv X pins σ H s) (hH : H l = some (.lst xs))
    (e : s.heap.get? l = some { cls := .type "list", data := .seq its.toArray n }) (hf : f its.toArray = its'.toArray) (hv : Vals ys its') (hz : ys.length ≤ sizeLine) :
    Inv X pins σ (upd H l (.lst ys)) { s with heap := s.heap.update l (Obj.mapSeq f), toks := t' } := by
  have q := PySem.IsL.update e f
  rw [hf] at q
  refine I.write (x := l) (e := l) (by rw [hH]; exact trivial) (.inl rfl) (fun b' u hb hu => (Heap.get?_update_other s.heap (Obj.mapSeq f) (Ne.symm hb)).trans hu) ⟨_, q⟩ ?_
  exact ⟨hz, its', _, hv, q⟩
theorem Inv.lnew {its : List Value} {t' : Nat} (I : Inv X pins σ H s) (hv : Vals ys its) (hz : ys.length ≤ sizeLine) :
    Inv X pins σ (upd H s.heap.objs.size (.lst ys)) { s with heap := s.heap.push { cls := .type "list", data := .seq its.toArray }, toks := t' } :=
  I.laid (fun _ _ q => Heap.get?_push_of_some _ q) (Nat.le_refl _) ⟨hz, its, 0, hv, Heap.get?_push_size _ rfl⟩
theorem Inv.fresh (I : Inv X pins σ H s) : H s.heap.objs.size = none := I.hok.fresh (Nat.le_refl _)
theorem Inv.lstM (I : Inv X pins σ H s) (hH : H l = some (.lst xs)) : xs.length ≤ sizeLine ∧ ∃ (its : List Value) (n : Nat), Vals xs its ∧ xs.length = its.length ∧ s.heap.get? l = some { cls := .type "list", data := .seq its.toArray n } := by
  obtain ⟨z, its, n, r, e⟩ := I.hok l _ hH
  exact ⟨z, its, n, r, r.length, e⟩

theorem notLongL {n : Nat} (h : n ≤ sizeLine) : Builtin.List.listTooLong n = false := by
  unfold Builtin.List.listTooLong
  exact decide_eq_false (by omega)
end

section
variable {X : Cx}

/-! ### methods -/
def rAppend : V → List V → Hp → VK → Prop := fun x vs H Q => ∃ l xs y, x = .ref l ∧ vs = [y] ∧ H l = some (.lst xs) ∧ xs.length < sizeLine ∧ Q .non (upd H l (.lst (xs ++ [y])))
theorem mt_append : MtM X "list.append" rAppend := by
  intro pins s σ H x vs v us Q I rx rv h
  obtain ⟨l, xs, y, rfl, rfl, hH, hz, q⟩ := h
  cases rx
  obtain ⟨u, rfl, ru⟩ := rv.one
  obtain ⟨z, its, n, r, hl, e⟩ := I.lstM hH
  refine call_meets F.slot_list_append ⟨_, e, rfl⟩ F.entry_list_append (F.args_list_append_2 _ _) (PySem.list_append l its.toArray n u (by rw [List.size_toArray]; omega)) ⟨e, ?_⟩
  refine ⟨.non, _, I.lset (its' := its ++ [u]) hH e (by simp) (r.append (.cons ru .nil)) ?_, rfl, q⟩
  rw [List.length_append, List.length_singleton]
  omega

/-! ### list + list, list += list, list * int -/
def rCat : R2 := fun x y H Q => ∃ l b xs zs, x = .ref l ∧ y = .ref b ∧ H l = some (.lst xs) ∧ H b = some (.lst zs) ∧ xs.length + zs.length ≤ sizeLine ∧ ∀ p, H p = none → Q (.ref p) (upd H p (.lst (xs ++ zs)))
theorem op_cat : OpR X (binaryOp .Add) rCat := by
  intro pins s σ H x y v u Q I rx ry h
  obtain ⟨l, b, xs, zs, rfl, rfl, hH, hB, hz, q⟩ := h
  cases rx
  cases ry
  obtain ⟨z, its, n, r, hl, e⟩ := I.lstM hH
  obtain ⟨z2, its2, n2, r2, hl2, e2⟩ := I.lstM hB
  refine PySem.P.add_list e e2 ?_ (by rw [List.size_toArray, List.size_toArray]; omega)
  have ea : its.toArray ++ its2.toArray = (its ++ its2).toArray := by simp
  rw [ea]
  exact ⟨.ref _, _, I.lnew (t' := s.toks) (r.append r2) (by rw [List.length_append]; omega), rfl, q _ I.fresh⟩
/-- a list times an int (a negative one is nothing) -/
def rRep : R2 := fun x y H Q => ∃ l k xs, x = .ref l ∧ y = .int k ∧ H l = some (.lst xs) ∧ -(2 ^ 63) ≤ k ∧ k < 2 ^ 63 ∧ xs.length * k.toNat ≤ sizeLine ∧
  ∀ p, H p = none → Q (.ref p) (upd H p (.lst (List.replicate k.toNat xs).flatten))
theorem len_rep {α : Type} (xs : List α) (k : Nat) : (List.replicate k xs).flatten.length = k * xs.length := by
  induction k with
  | zero => simp
  | succ k ih => rw [List.replicate_succ, List.flatten_cons, List.length_append, ih, Nat.succ_mul, Nat.add_comm]
theorem op_rep : OpR X (binaryOp .Mult) rRep := by
  intro pins s σ H x y v u Q I rx ry h
  obtain ⟨l, k, xs, rfl, rfl, hH, h1, h2, hz, q⟩ := h
  cases rx
  obtain ⟨t, rfl⟩ := ry
  obtain ⟨z, its, n, r, hl, e⟩ := I.lstM hH
  have hlen : its.toArray.size * k.toNat ≤ sizeLine := by rw [List.size_toArray, ← hl]; exact hz
  have hcap : ¬ its.toArray.size * k.toNat > (2 ^ 63 - 1) / 8 := by
    have : (sizeLine : Nat) ≤ (2 ^ 63 - 1) / 8 := by decide
    omega
  have hfit : ¬ (!Builtin.List.listFitsIndex k) = true := by
    rw [fitsIndex_both h1 h2]
    exact Bool.false_ne_true
  have hlong : ¬ Builtin.List.listTooLong (its.toArray.size * k.toNat) = true := by
    rw [notLongL hlen]
    exact Bool.false_ne_true
  have hnew : List.foldl (fun x1 x2 => x1 ++ x2) #[] (List.replicate (if its.toArray.isEmpty = true then 0 else k.toNat) its.toArray) = (List.replicate k.toNat its).flatten.toArray := by
    have f0 : ∀ m : Nat, List.foldl (fun x1 x2 => x1 ++ x2) #[] (List.replicate m its.toArray) = (List.replicate m its).flatten.toArray := fun m => by
      have := foldl_rep its m []
      rw [List.nil_append] at this
      exact this
    rw [f0]
    cases its with
    | nil => simp
    | cons a r' => rw [if_neg (by simp)]
  refine wpAny_binaryOp_repeat_ref (T := "list") (U := "int") (by decide) ⟨_, e, rfl⟩ (fun s' => typeIs_int s' k t) noFill_list_mul F.fills_int_mul F.slot_int_rmul repeat_list F.slot_int_index.lookup
    (call_meets F.slot_int_rmul (typeIs_int s k t) F.entry_int_rmul (F.args_int_rmul_2 _ _) (int___rmul___int_list k t l its.toArray n)
      ⟨e, rfl, ⟨_, e, rfl⟩, call_meets F.slot_list_mul ⟨_, e, rfl⟩ F.entry_list_mul (F.args_list_mul_2 _ _) (AutoListH.list___mul___list_int_3 l its.toArray n k t hfit hcap hlong) ⟨e, ?_⟩⟩)
  rw [hnew]
  exact ⟨.ref _, _, I.lnew (t' := s.toks) (r.rep k.toNat) (by rw [len_rep, Nat.mul_comm]; exact hz), rfl, q _ I.fresh⟩

/-! ### del xs[i] -/
end

/-! ### xs[a:b] = ys -/
section
variable {prog : Program} {w : World} {A : Around} {E : Value → Shared → Prop} {s : Shared}
end

section
variable {X : Cx}
end
end L2

namespace Att
open PySem PySem.W PySem.Calls PyProof.Rows

/-! ### the script -/
theorem ints_of_wellAll {P : Params} {h : Heap} : ∀ (ns : List Int) (vs : List Value), WellAll P h vs (ns.map WData.int) → IntsAre vs ns := by
  intro ns
  induction ns with
  | nil =>
    intro vs w
    rw [List.map_nil] at w
    cases w
    exact .nil
  | cons n ns ih =>
    intro vs w
    rw [List.map_cons] at w
    cases w with
    | cons a b =>
      cases a
      exact .cons _ _ (ih _ b)

theorem script_of {l : OpenLaw} {n : Nat} (hn : l.most = some n) {P : Params} {h : Heap} {args : List WData} {vals : List Value}
    (hpre : l.row.toRowW.claim.pre args = true) (hwl : WellAll P h vals args) :
    ∃ a vs ns, vals = [Value.ref a] ∧ args = [WData.list (ns.map WData.int)] ∧ h.get? a = some { cls := .type "list", data := .seq vs.toArray } ∧ IntsAre vs ns ∧ ns.length ≤ n := by
  have hsh : WShape.hasAll [] args [.list .int] = true := (pre_splitW hpre).1
  have hc : l.pre.holds [] { args := args } = true := (pre_splitW hpre).2
  obtain ⟨d, r, rfl, h1, h2⟩ := hasAllW_cons hsh
  obtain rfl := hasAllW_nil h2
  obtain ⟨xs, rfl, h3⟩ := hasW_list h1
  obtain ⟨ns, rfl⟩ := items_int h3
  have hlen : ns.length ≤ n := by
    unfold OpenLaw.pre at hc
    have h4 : (WTm.not (.lt (.lit (.int (n : Int))) (.len (.arg 0)))).holds [] { args := [.list (ns.map .int)] } = true := by
      have h4 := (holds_andW hc).1
      rw [hn] at h4
      exact h4
    have h5 := condW_of h4 (w_not (w_lt w_lit (w_len_list (w_arg rfl))))
    rw [List.length_map] at h5
    refine Nat.le_of_not_lt fun q => ?_
    have q' : (n : Int) < ((ns.length : Nat) : Int) := by omega
    first
      | (rw [decide_eq_true q'] at h5; exact absurd h5 (by decide))
      | (simp at h5; omega)
  cases hwl with
  | cons w1 w2 =>
    cases w2
    cases w1 with
    | list ho hall => exact ⟨_, _, ns, rfl, rfl, ho, ints_of_wellAll ns _ hall, hlen⟩

theorem post_true (l : OpenLaw) (args : List WData) : l.row.toRowW.claim.post args (.bool true) args = true :=
  postW_of (r := l.row.toRowW) (X := (true == true))
    (show WShape.has [] (.bool true) .bool = true by first | rfl | decide | simp [WShape.has, WShape.arms, WShape.armsAll])
    (show (WTm.eq .res (.lit (.bool true))).value [] { args := args, res := some (.bool true), after := args } = some (.bool (true == true)) from w_eq_bool (w_res rfl) w_lit) rfl

/-! ### the attachment: holds_open's last premise (the goal 'hc' behind k_head) from a wpAny of the law's body -/
/-- the same from a codeAny of the CALL (for a layer whose function contracts speak of calls) -/
theorem attach_call {l : OpenLaw} {n : Nat} {q : Program} {loose : List Str} {XP : (Str → Option Value) → Heap → Prop} {YP : World → Heap → Prop} {d : DefRec}
    (hn : l.most = some n) (hdf : d.params.defaults = [])
    (call : ∀ (w : World) (s₀ s₁ : Shared) (mg mb : Str → Option Value) (fa : Addr) (o : Obj) (pm cd doc : Value) (a : Addr) (vs : List Value) (ns : List Int),
      Ground q loose [] XP w s₀ mg mb s₁.heap → YP w s₁.heap →
      s₁.heap.get? fa = some o → o.data = .func (docDef d.name d.params d.body d.scope pm cd doc) → s₁.heap.CodeRec cd d.name → mg d.name = some (.ref fa) →
      s₁.heap.get? a = some { cls := .type "list", data := .seq vs.toArray } → IntsAre vs ns → ns.length ≤ n → s₁.gens = #[] →
      codeAny (model l.prog w) callerA (.call (.ref fa) ⟨[.ref a], []⟩) (fun r s' => r = .ok (.ret (.bool true)) ∧ OldK s₁.heap s'.heap ∧ s'.os = s₁.os ∧ AllBare s'.gens) s₁) :
    WalkO q loose XP YP l.row.toRowW d [] (fun f vs => PySem.call f vs) := by
  intro w s₀ s₁ mg mb G Y fa o pm cd doc dV kV ho hd hcd hD hmg hg args vals as hpre hlay hrd hwl hlo
  obtain rfl : dV = .none := Dflts.none hD hdf
  obtain rfl : kV = .none := Dflts.noKw hD
  obtain ⟨a, vs, ns, rfl, rfl, hobj, hints, hlen⟩ := script_of hn hpre hwl
  refine enter_call (codeAny_mono (call w s₀ s₁ mg mb fa o pm cd doc a vs ns G Y ho (fd_plain hd) hcd hmg hobj hints hlen hg) fun r s' hq => ?_)
  obtain ⟨rfl, h2, h3, h4⟩ := hq
  exact ⟨.inl ⟨.bool true, .bool true, [], rfl, fun _ => rfl, .bool true, post_true l _, fun _ => ⟨List.Pairwise.nil, fun _ hm => (nomatch hm)⟩⟩, h2, h3, h4⟩

/-! ### rules over ANY heap (no ledger) from facts about the written part K: the library's own take a ledger (News) for what they write -/
section
variable {prog : Program} {w : World} {A : Around} {E : Value → Shared → Prop} {s : Shared} {K : Frag}

/-! the whole heap as the ledger: makes every rule that writes through a ledger a rule over any heap -/
def ledger (h : Heap) (L d : Addr) : List (Addr × Obj) := (List.range h.objs.size).filterMap fun a => if a = L ∨ a = d then none else (h.get? a).map fun o => (a, o)
end
end Att

namespace L2
open PySem PySem.Spec PyProof.Rows

theorem vals_ints : ∀ {vs : List Value} {ns : List Int}, IntsAre vs ns → Vals (ns.map V.int) vs
  | _, _, .nil => .nil
  | _, _, .cons n t h => .cons ⟨t, rfl⟩ (vals_ints h)

/-- nothing is tracked but the script, known to the object (or it is an object of the module) -/
def Only (H : Hp) : Prop := ∀ b, H b = none ∨ ∃ o xs, H b = some (.frz o (.lst xs))

/-- THE HEAD: the law's promise, at the heap behind the top. F, the promise of the law's def, may use that base is part of the heap (so K.In base, base.Ns mainGlobals mg stand in Mod) -/
theorem law_call {P : Program} {w : World} {K : PySem.W.Frag} {mg mb : Str → Option Value} {CX : CXT} {k : Nat} {fa a : Addr} {fd : FuncData} {x : Str} {sp : Sp} {s₁ : Shared} {vs : List Value} {ns : List Int}
    (KX : K.In s₁.heap) (hns : s₁.heap.Ns mainGlobals mg) (hb : s₁.heap.Ns builtinsNs mb) (hbb : ∀ x : Str, x ≠ "__name__" → mb x = bootBuiltins x) (hlim : s₁.heap.NoLimit) (hg : s₁.gens = #[])
    (ha : s₁.heap.get? a = some { cls := .type "list", data := .seq vs.toArray }) (hi : IntsAre vs ns) (hl : ns.length ≤ sizeLine) (hr : Room k callerA)
    (F : ∀ base : Heap, K.In base → base.Ns mainGlobals mg → FnOk P w K mg base CX k fa fd [x] sp) (hbind : ∀ (s : Shared) (u : Value), BindsTo s fd ⟨[u], []⟩ [(x, u)])
    (hsp : ∀ H : Hp, Only H → SqL K H a (ns.map V.int) → sp [.ref a] H (fun v _ => v = .bl true) fun _ _ _ => False)
    (hCX : ∀ H e s', CX [] H s₁ (fun _ _ _ => False) e s' → False) :
    codeAny (model P w) callerA (.call (.ref fa) ⟨[.ref a], []⟩) (fun r s' => r = .ok (.ret (.bool true)) ∧ OldK s₁.heap s'.heap ∧ s'.os = s₁.os ∧ AllBare s'.gens) s₁ := by
  have rv := vals_ints hi
  have lenV := hi.length
  -- from an abstract heap in which nothing but the script may be tracked
  have core : ∀ H : Hp, Only H → SqL K H a (ns.map V.int) → HOk P w H s₁.heap → (∀ b, H b ≠ none → b = a) → (H a ≠ none → K.lookup a = none) →
      codeAny (model P w) callerA (.call (.ref fa) ⟨[.ref a], []⟩) (fun r s' => r = .ok (.ret (.bool true)) ∧ OldK s₁.heap s'.heap ∧ s'.os = s₁.os ∧ AllBare s'.gens) s₁ := by
    intro H hO hS hok hA hK
    have base_of : ∀ {b : Addr} {o : Obj}, s₁.heap.get? b = some o → H b = none → (hidT s₁.heap H).get? b = some o := fun e n => hidT_get e n
    have noA : ∀ {b : Addr} {o : Obj} {es : Array DictEntry} {ep : Nat}, s₁.heap.get? b = some o → o.data = .dict es ep → H b = none := fun {b o es ep} e d => by
      cases q : H b with
      | none => rfl
      | some u =>
        have e' : b = a := hA b (by rw [q]; simp)
        subst e'
        rw [ha] at e; cases e
        have d' : Data.seq vs.toArray _ = Data.dict es ep := d
        cases d'
    have nsK : ∀ {b : Addr} {m : Str → Option Value}, s₁.heap.Ns b m → (hidT s₁.heap H).Ns b m := fun {b m} ⟨o, es, ep, e, d, r⟩ => ⟨o, es, ep, base_of e (noA e d), d, r⟩
    have hKb : K.In (hidT s₁.heap H) := fun b o e => base_of (KX b o e) (by
      cases q : H b with
      | none => rfl
      | some u =>
        have e' : b = a := hA b (by rw [q]; simp)
        subst e'
        rw [hK (by rw [q]; simp)] at e; cases e)
    have hM : Mod K mg (hidT s₁.heap H) := ⟨hKb, nsK hns, ⟨mb, nsK hb, hbb⟩, let ⟨mc, h1, h2⟩ := hlim; ⟨mc, nsK h1, h2⟩⟩
    have e0 : Env0 P w K mg (hidT s₁.heap H) callerA [] s₁ H := ⟨rfl, hM, fun b o e => of_hidT e, Nat.le_of_eq (hidT_size _ _), trivial, fun b hb => absurd (show b ∈ ([] : List Addr) from hb) (by simp), hok, .of_eq hg⟩
    refine codeAny_mono ((F _ hKb (nsK hns)).run callerA [] s₁ H ⟨[.ref a], []⟩ [.ref a] [.ref a] _ _ hr e0 (hbind s₁ (.ref a)) (.cons rfl .nil) (hsp H hO hS)) fun r s' h => ?_
    cases r with
    | error e => exact (hCX H e s' h).elim
    | ok fl =>
      cases fl with
      | next => exact False.elim h
      | brk => exact False.elim h
      | cont => exact False.elim h
      | ret u =>
        obtain ⟨v, H', os, bare, un, hok', r', q⟩ := h
        have q' : v = .bl true := q
        subst q'
        obtain rfl : u = Value.bool true := r'
        refine ⟨rfl, OldK.of_keep fun b o e => ?_, os, bare⟩
        cases q : H b with
        | none => exact un.keep b o e q (by intro z; exact absurd (show b ∈ ([] : List Addr) from z) (by simp)) (by simp)
        | some u =>
          rcases hO b with z | ⟨ob, xs, z⟩
          · rw [q] at z; cases z
          · have z2 := un.frzs b ob _ z
            obtain ⟨e1, _⟩ := hok b _ z
            obtain ⟨e2, _⟩ := hok' b _ z2
            rw [e] at e1; cases e1
            exact e2
  cases hk : K.lookup a with
  | some o =>
    -- the script is one of the module's own objects
    have e := KX a o hk
    rw [ha] at e
    cases e
    refine core (fun _ => none) (fun _ => .inl rfl) (.inr ⟨_, vs.toArray, _, hk, rfl, rfl, rfl, by rw [List.size_toArray, lenV]; exact hl, by simpa using rv⟩) (fun b u z => by have z' : (none : Option HO) = some u := z; cases z') (fun b z => absurd rfl z) fun z => absurd rfl z
  | none =>
    refine core (fun b => if b = a then some (.frz { cls := .type "list", data := .seq vs.toArray } (.lst (ns.map V.int))) else none) (fun b => ?_) (.inl (.inr ⟨{ cls := .type "list", data := .seq vs.toArray }, if_pos rfl⟩)) (fun b u z => ?_) (fun b z => ?_) fun _ => hk
    · by_cases hb : b = a
      · exact .inr ⟨_, _, if_pos hb⟩
      · exact .inl (if_neg hb)
    · by_cases hb : b = a
      · have z' := (if_pos hb).symm.trans z
        cases z'
        subst hb
        exact ⟨ha, by rw [List.length_map]; exact hl, vs, _, rv, ha⟩
      · have z' := (if_neg hb).symm.trans z
        cases z'
    · by_cases hb : b = a
      · exact hb
      · exact absurd (if_neg hb) z
end L2

namespace L2
open PySem PySem.Spec PyProof.Rows

/-- the goal that k_head leaves (case hc), from the law's promise. F gives the function object fd (K's own) once, then the promise over every base -/
theorem walk_of {l : PySem.W.OpenLaw} {n k : Nat} {q : Program} {loose : List Str} {XP : (Str → Option Value) → Heap → Prop} {YP : World → Heap → Prop} {d : DefRec} {K : Params → PySem.W.Frag} {CX : World → CXT} {sp : World → Sp} {x : Str}
    (hn : l.most = some n) (hn2 : n ≤ sizeLine) (hdf : d.params.defaults = []) (hr : Room k callerA)
    (hY : ∀ (w : World) (h : Heap), YP w h → (K w.params).In h)
    (F : ∀ (w : World) (mg : Str → Option Value) (fa : Addr) (h : Heap), (K w.params).In h → h.Ns mainGlobals mg → mg d.name = some (.ref fa) →
      ∃ fd : FuncData, (∀ (s : Shared) (u : Value), BindsTo s fd ⟨[u], []⟩ [(x, u)]) ∧
        ∀ base : Heap, (K w.params).In base → base.Ns mainGlobals mg → FnOk l.prog w (K w.params) mg base (CX w) k fa fd [x] (sp w))
    (hsp : ∀ (w : World) (H : Hp) (a : Addr) (ns : List Int), ns.length ≤ n → Only H → SqL (K w.params) H a (ns.map V.int) → sp w [.ref a] H (fun v _ => v = .bl true) fun _ _ _ => False)
    (hCX : ∀ (w : World) (H : Hp) (s : Shared) (e : Value) (s' : Shared), CX w [] H s (fun _ _ _ => False) e s' → False) :
    PySem.W.WalkO q loose XP YP l.row.toRowW d [] (fun f vs => PySem.call f vs) := by
  refine Att.attach_call hn hdf fun w s₀ s₁ mg mb fa o pm cd doc a vs ns G Y ho hd hcd hmg hobj hints hlen hg => ?_
  have KX := hY w _ Y
  obtain ⟨fd, hb, hF⟩ := F w mg fa _ KX G.T.g hmg
  exact law_call KX G.T.g G.T.b G.T.builtins G.T.nolimit hg hobj hints (Nat.le_trans hlen hn2) hr hF hb (fun H hO hS => hsp w H a ns hlen hO hS) fun H e s' => hCX w H s₁ e s'
/-- the same where the promise hangs on the written part alone: (sp := My.sp_law), no hole under a binder -/
theorem walk_ofK {l : PySem.W.OpenLaw} {n k : Nat} {q : Program} {loose : List Str} {XP : (Str → Option Value) → Heap → Prop} {YP : World → Heap → Prop} {d : DefRec} {K : Params → PySem.W.Frag} {CX : CXT} {sp : PySem.W.Frag → Sp} {x : Str}
    (hn : l.most = some n) (hn2 : n ≤ sizeLine) (hdf : d.params.defaults = []) (hr : Room k callerA)
    (hY : ∀ (w : World) (h : Heap), YP w h → (K w.params).In h)
    (F : ∀ (w : World) (mg : Str → Option Value) (fa : Addr) (h : Heap), (K w.params).In h → h.Ns mainGlobals mg → mg d.name = some (.ref fa) →
      ∃ fd : FuncData, (∀ (s : Shared) (u : Value), BindsTo s fd ⟨[u], []⟩ [(x, u)]) ∧
        ∀ base : Heap, (K w.params).In base → base.Ns mainGlobals mg → FnOk l.prog w (K w.params) mg base CX k fa fd [x] (sp (K w.params)))
    (hsp : ∀ (K : PySem.W.Frag) (H : Hp) (a : Addr) (ns : List Int), ns.length ≤ n → Only H → SqL K H a (ns.map V.int) → sp K [.ref a] H (fun v _ => v = .bl true) fun _ _ _ => False)
    (hCX : ∀ (H : Hp) (s : Shared) (e : Value) (s' : Shared), CX [] H s (fun _ _ _ => False) e s' → False) :
    PySem.W.WalkO q loose XP YP l.row.toRowW d [] (fun f vs => PySem.call f vs) :=
  walk_of (K := K) (CX := fun _ => CX) (sp := fun w => sp (K w.params)) hn hn2 hdf hr hY F (fun w H a ns h1 h2 h3 => hsp (K w.params) H a ns h1 h2 h3) fun _ H s e s' => hCX H s e s'
end L2

/- THE LAST THEOREM (shape; LID, My.* are yours):
   My.Adr: a structure of the addresses that your layer names (classes, functions); My.Txt K t: a structure (Prop) of the equations over K;
   My.txt_mk : {K} {implicit addresses ..} (e1 : nsIn K mainGlobals "law" = some (some (.ref f))) (e2 : K.lookup f = some ⟨oc, od, .func (fnOf "law" "law" params body scope dV kV doc pm an cdv ct), sl⟩) (e3 : codeIn K cdv "law" = true) .. : ∃ t, My.Txt K t

(the tactic k_is has no namespace: write k_is) -/

/-! SHORT WORDS over the layer: a def of the text, its body, what a loop and a test want. -/
namespace L2
open PySem PySem.Spec PyProof.Rows

/-! ### the text by places -/
def defArgs (s : Stmt) : Arguments := match s with
  | .FunctionDef _ a _ _ _ _ _ _ _ _ => a
  | _ => { posonlyargs := [], args := [], vararg := none, kwonlyargs := [], kw_defaults := [], kwarg := none, defaults := [] }
def defBody (s : Stmt) : List Stmt := match s with
  | .FunctionDef _ _ b _ _ _ _ _ _ _ => b
  | _ => []
def defScope (s : Stmt) : Scope := match s with
  | .FunctionDef _ _ _ _ _ _ sc _ _ _ => sc
  | _ => { kind := .function, names := [], isGenerator := false, isCoroutine := false }

/-! ### no exception leaves a def -/
abbrev CX0 : CXT := fun _ _ _ _ _ _ => False
abbrev E0 : XK := fun _ _ _ => False
theorem pass0 {X : Cx} : Passes CX0 X E0 := fun _ _ _ _ _ _ _ h => h.elim

/-! ### a def (or method) of the text as it stands behind the top -/
structure Fun (K : PySem.W.Frag) (x qual : Str) (st : Stmt) (f : Addr) (fd : FuncData) : Prop where
  ex : ∃ (oc : Value) (od : Option Addr) (kV doc pm : Value) (an : Option Addr) (cdv ct : Value) (osl : Array (Option Value)),
    fd = PySem.W.fnOf x qual (defArgs st) (defBody st) (defScope st) .none kV doc pm an cdv ct ∧ K.lookup f = some ⟨oc, od, .func fd, osl⟩ ∧ PySem.W.codeIn K cdv qual = true
  kp : PySem.W.keepIn K (.ref f) = true
section
variable {P : Program} {w : World} {K : PySem.W.Frag} {mg : Str → Option Value} {base : Heap}
/-- THE RULE for a def: its body as a term of rules, and the reading of that term -/
theorem Fun.ok {x qual : Str} {st : Stmt} {f : Addr} {fd : FuncData} {N ps : List Str} {k : Nat} {sp : Sp} (F : Fun K x qual st f fd) (S : FnScope N ps (defScope st)) (len : ∀ vs H Q E, sp vs H Q E → vs.length = ps.length)
    (hbody : ∀ (cdv : Value) (A : Around) (outer : List Env) (s : Shared) (H : Hp) (vs : List V) (Q : VK) (E : XK), Room k (A.deeper (envOfC qual (defScope st) s.heap.objs.size f cdv)) → sp vs H Q E →
      ∃ t, PSs (cxOf CX0 P w K mg base N qual (defScope st) f cdv A outer s H E).nox (defBody st) t ∧ t { nx := fun _ H' => Q .non H', rt := Q } (start N vs) H) : FnOk P w K mg base CX0 (k + 1) f fd ps sp := by
  obtain ⟨oc, od, kV, doc, pm, an, cdv, ct, osl, rfl, lk, hcd⟩ := F.ex
  refine fn_of lk hcd S len fun A outer s H vs Q E hr hsp => ?_
  obtain ⟨t, h, q⟩ := hbody cdv A outer s H vs Q E hr hsp
  exact ⟨t, h.nox, q⟩
/-- how its arguments bind (no defaults): h is «fun _ _ _ _ _ _ us hl => match us, hl with | [_, _], _ => rfl», one _ a parameter -/
theorem Fun.binds {x qual : Str} {st : Stmt} {f : Addr} {fd : FuncData} {ps : List Str} (F : Fun K x qual st f fd)
    (h : ∀ (kV doc pm : Value) (an : Option Addr) (cdv ct : Value) (us : List Value), us.length = ps.length → bindArgs (PySem.W.fnOf x qual (defArgs st) (defBody st) (defScope st) .none kV doc pm an cdv ct) ⟨us, []⟩ = pure (ps.zip us)) : Binds K fd ps [] := by
  obtain ⟨oc, od, kV, doc, pm, an, cdv, ct, osl, rfl, lk, hcd⟩ := F.ex
  exact .all (h kV doc pm an cdv ct)
theorem fun_mk {x qual : Str} {st : Stmt} {f : Addr} {oc : Value} {od an : Option Addr} {osl : Array (Option Value)} {kV doc pm cdv ct : Value} (l : K.lookup f = some ⟨oc, od, .func (PySem.W.fnOf x qual (defArgs st) (defBody st) (defScope st) .none kV doc pm an cdv ct), osl⟩)
    (c : PySem.W.codeIn K cdv qual = true) (k : PySem.W.keepIn K (.ref f) = true) : Fun K x qual st f (PySem.W.fnOf x qual (defArgs st) (defBody st) (defScope st) .none kV doc pm an cdv ct) := ⟨⟨oc, od, kV, doc, pm, an, cdv, ct, osl, rfl, l, c⟩, k⟩
end
theorem small1000 {n : Nat} (h : n ≤ 1000) : n < sizeLine := Nat.lt_of_le_of_lt h (by decide)

/-! ### expressions in short: the name that stands in the i-th slot -/
section
variable {X : Cx}
theorem pv (i : Nat) {x : Str} {pos : Pos} (hN : X.N[i]? = some x := by rfl) (hv : Vis X.env.scope x := by first | exact Or.inl rfl | exact Or.inr (Or.inl rfl) | exact Or.inr (Or.inr rfl)) (hd : (x == ("__debug__" : Str)) = false := by decide)
    (hcd : (x == ("__classdict__" : Str)) = false := by decide) : PE X (.Name x pos) (tVar i) := pe_var hN hv hd hcd
end

/-! ### tests -/
theorem iteF {A B : Prop} (h : B) : if false = true then A else B := by
  rw [if_neg Bool.false_ne_true]
  exact h
theorem iteT {A B : Prop} (h : A) : if true = true then A else B := by
  rw [if_pos rfl]
  exact h
theorem ite2 {c A B : Prop} [Decidable c] (h1 : c → A) (h2 : ¬ c → B) : if c then A else B := by
  by_cases h : c
  · rw [if_pos h]
    exact h1 h
  · rw [if_neg h]
    exact h2 h
theorem iteNS {c A B : Prop} [Decidable c] (hc : c) (h : B) : if (!decide c) = true then A else B := by
  rw [decide_eq_true hc]
  exact iteF h

/-! ### heaps -/
/-- all that was tracked is as it was -/
def Same (H H' : Hp) : Prop := ∀ b o, H b = some o → H' b = some o
theorem Same.refl (H : Hp) : Same H H := fun _ _ h => h
theorem Same.trans {H H1 H2 : Hp} (a : Same H H1) (b : Same H1 H2) : Same H H2 := fun c o h => b c o (a c o h)
theorem Same.free {H H' : Hp} (e : Same H H') {l : Addr} (h : H' l = Option.none) : H l = Option.none := by
  cases q : H l with
  | none => rfl
  | some o =>
    rw [e l o q] at h
    cases h
theorem Same.seq {K : PySem.W.Frag} {H H' : Hp} {a : Addr} {xs : List V} (e : Same H H') (h : SqL K H a xs) : SqL K H' a xs := by
  rcases h with (h | ⟨o, h⟩) | h
  · exact .inl (.inl (e _ _ h))
  · exact .inl (.inr ⟨o, e _ _ h⟩)
  · exact .inr h

end L2

set_option maxHeartbeats 4000000

namespace L2
open PySem PySem.Spec PyProof.Rows

/-! ### lists of pairs as tables -/
section
variable {κ : Type} [DecidableEq κ]
def valV (kvs : List (κ × V)) (k : κ) : Option V := (kvs.find? fun kv => decide (kv.1 = k)).map (·.2)
/-- in its place, or at the end -/
def putK (kvs : List (κ × V)) (k : κ) (v : V) : List (κ × V) :=
  if (kvs.any fun kv => decide (kv.1 = k)) = true then kvs.map (fun kv => if kv.1 = k then (kv.1, v) else kv) else kvs ++ [(k, v)]
def dropK (kvs : List (κ × V)) (k : κ) : List (κ × V) := kvs.filter fun kv => decide (kv.1 ≠ k)

theorem valV_pos {p : κ × V} {r : List (κ × V)} {k : κ} (e : p.1 = k) : valV (p :: r) k = some p.2 := by simp [valV, List.find?_cons, e]
theorem valV_neg {p : κ × V} {r : List (κ × V)} {k : κ} (e : ¬ p.1 = k) : valV (p :: r) k = valV r k := by simp [valV, List.find?_cons, e]
theorem valV_any (k : κ) : ∀ kvs : List (κ × V), (kvs.any fun kv => decide (kv.1 = k)) = (valV kvs k).isSome
  | [] => rfl
  | p :: r => by
    rw [List.any_cons]
    by_cases e : p.1 = k
    · simp only [valV_pos e, decide_eq_true e, Bool.true_or, Option.isSome_some]
    · rw [valV_neg e, decide_eq_false e, Bool.false_or]; exact valV_any k r
theorem RelO.isSome_eq {o : Option V} {u : Option Value} (r : RelO o u) : o.isSome = u.isSome := by
  cases o with
  | none => cases u with
    | none => rfl
    | some _ => exact (show False from r).elim
  | some _ => cases u with
    | none => exact (show False from r).elim
    | some _ => rfl
theorem RelO.getD {o : Option V} {u : Option Value} {d : V} {d' : Value} (r : RelO o u) (rd : RelV d d') : RelV (o.getD d) (u.getD d') := by
  cases o with
  | none => cases u with
    | none => exact rd
    | some _ => exact (show False from r).elim
  | some _ => cases u with
    | none => exact (show False from r).elim
    | some _ => exact r

/-- raw tables of the same keys -/
theorem KV.val {kvs : List (κ × V)} {vs : List (κ × Value)} (r : KV kvs vs) (k : κ) : RelO (valV kvs k) (valueAt vs k) := by
  unfold KV at r
  induction r with
  | nil => exact True.intro
  | @cons p q ps qs h t ih =>
    obtain ⟨h1, h2⟩ := h
    by_cases e : p.1 = k
    · have e' : q.1 = k := h1.symm.trans e
      have b : valueAt (q :: qs) k = some q.2 := by simp [valueAt, List.find?_cons, e']
      rw [valV_pos e, b]; exact h2
    · have e' : ¬ q.1 = k := fun z => e (h1.trans z)
      have b : valueAt (q :: qs) k = valueAt qs k := by simp [valueAt, List.find?_cons, e']
      rw [valV_neg e, b]; exact ih
theorem KV.any {kvs : List (κ × V)} {vs : List (κ × Value)} (r : KV kvs vs) (k : κ) : (kvs.any fun kv => decide (kv.1 = k)) = vs.any fun kv => decide (kv.1 = k) := by
  unfold KV at r
  induction r with
  | nil => rfl
  | cons h t ih => rw [List.any_cons, List.any_cons, ih, h.1]
theorem KV.repl {kvs : List (κ × V)} {vs : List (κ × Value)} (r : KV kvs vs) (k : κ) {y : V} {u : Value} (ry : RelV y u) :
    KV (kvs.map fun kv => if kv.1 = k then (kv.1, y) else kv) (vs.map fun kv => if kv.1 = k then (kv.1, u) else kv) := by
  unfold KV at r ⊢
  induction r with
  | nil => exact .nil
  | @cons p q ps qs h t ih =>
    rw [List.map_cons, List.map_cons]
    refine .cons ?_ ih
    obtain ⟨h1, h2⟩ := h
    by_cases e : p.1 = k
    · rw [if_pos e, if_pos (h1.symm.trans e)]; exact ⟨h1, ry⟩
    · rw [if_neg e, if_neg (fun z => e (h1.trans z))]; exact ⟨h1, h2⟩
theorem KV.put {kvs : List (κ × V)} {vs : List (κ × Value)} (r : KV kvs vs) (k : κ) {y : V} {u : Value} (ry : RelV y u) : KV (putK kvs k y) (stored vs k u) := by
  unfold putK stored
  rw [r.any k]
  by_cases e : (vs.any fun kv => decide (kv.1 = k)) = true
  · rw [if_pos e, if_pos e]; exact r.repl k ry
  · rw [if_neg e, if_neg e]; exact Paired.snoc r ⟨rfl, ry⟩
theorem KV.drop {kvs : List (κ × V)} {vs : List (κ × Value)} (r : KV kvs vs) (k : κ) : KV (dropK kvs k) (without vs k) := by
  unfold KV at r ⊢
  unfold dropK without
  induction r with
  | nil => exact .nil
  | @cons p q ps qs h t ih =>
    obtain ⟨h1, h2⟩ := h
    rw [List.filter_cons, List.filter_cons]
    by_cases e : p.1 = k
    · have a : ¬ decide (p.1 ≠ k) = true := by simp [e]
      have b : ¬ decide (q.1 ≠ k) = true := by simp [h1.symm.trans e]
      rw [if_neg a, if_neg b]; exact ih
    · have e' : ¬ q.1 = k := fun z => e (h1.trans z)
      have a : decide (p.1 ≠ k) = true := by simp [e]
      have b : decide (q.1 ≠ k) = true := by simp [e']
      rw [if_pos a, if_pos b]; exact .cons ⟨h1, h2⟩ ih
theorem KV.keys {kvs : List (κ × V)} {vs : List (κ × Value)} (r : KV kvs vs) : kvs.map (·.1) = vs.map (·.1) := by
  unfold KV at r
  induction r with
  | nil => rfl
  | cons h t ih => rw [List.map_cons, List.map_cons, ih, h.1]
theorem KV.length {kvs : List (κ × V)} {vs : List (κ × Value)} (r : KV kvs vs) : kvs.length = vs.length := Paired.length r
end


/-! ### a tracked dict, its keys ints and texts or tuples of these -/
/-- raw entries of a dict with tuple keys -/
abbrev KT (H : Hp) : List (List Key × V) → List (List Key × Addr × Value) → Prop := Paired fun p q => p.1 = q.1 ∧ H q.2.1 = some (.tup (p.1.map kV)) ∧ RelV p.2 q.2.2
theorem KT.val {H : Hp} {kvs : List (List Key × V)} {xs : List (List Key × Addr × Value)} (r : KT H kvs xs) (k : List Key) : RelO (valV kvs k) ((atKey xs k).map (·.2)) := by
  induction r with
  | nil => exact True.intro
  | @cons p q ps qs h t ih =>
    obtain ⟨h1, _, h2⟩ := h
    by_cases e : p.1 = k
    · have e' : q.1 = k := h1.symm.trans e
      have b : atKey (q :: qs) k = some q.2 := by simp [atKey, List.find?_cons, e']
      rw [valV_pos e, b]; exact h2
    · have e' : ¬ q.1 = k := fun z => e (h1.trans z)
      have b : atKey (q :: qs) k = atKey qs k := by simp [atKey, List.find?_cons, e']
      rw [valV_neg e, b]; exact ih
theorem KT.repl {H : Hp} {kvs : List (List Key × V)} {xs : List (List Key × Addr × Value)} (r : KT H kvs xs) (k : List Key) {y : V} {u : Value} (ry : RelV y u) :
    KT H (kvs.map fun kv => if kv.1 = k then (kv.1, y) else kv) (xs.map (putAt k u)) := by
  induction r with
  | nil => exact .nil
  | @cons p q ps qs h t ih =>
    rw [List.map_cons, List.map_cons]
    refine .cons ?_ ih
    obtain ⟨h1, h2, h3⟩ := h
    unfold putAt
    by_cases e : p.1 = k
    · rw [if_pos e, if_pos (h1.symm.trans e)]; exact ⟨h1, h2, ry⟩
    · rw [if_neg e, if_neg (fun z => e (h1.trans z))]; exact ⟨h1, h2, h3⟩
theorem KT.put {H : Hp} {kvs : List (List Key × V)} {xs : List (List Key × Addr × Value)} (r : KT H kvs xs) (k : List Key) {b : Addr} {y : V} {u : Value} (hb : H b = some (.tup (k.map kV))) (ry : RelV y u) :
    KT H (putK kvs k y) (storedH xs k b u) := by
  have e : (kvs.any fun kv => decide (kv.1 = k)) = (atKey xs k).isSome := by
    rw [valV_any, (r.val k).isSome_eq, Option.isSome_map]
  unfold putK storedH
  rw [e]
  by_cases q : (atKey xs k).isSome = true
  · rw [if_pos q, if_pos q]; exact r.repl k ry
  · rw [if_neg q, if_neg q]; exact Paired.snoc r ⟨rfl, hb, ry⟩
theorem KT.keeps {H H' : Hp} {kvs : List (List Key × V)} {xs : List (List Key × Addr × Value)} (r : KT H kvs xs) (ht : ∀ b ys, H b = some (.tup ys) → H' b = some (.tup ys)) : KT H' kvs xs :=
  Paired.mapP r fun _ _ z => ⟨z.1, ht _ _ z.2.1, z.2.2⟩

section
variable {P : Program} {w : World} {H : Hp} {h : Heap} {a : Addr}
end

/-- what the dict at a holds at the key y -/
def DGet (H : Hp) (a : Addr) (y : V) (r : Option V) : Prop :=
  (∃ kvs k, Rd H a (.dK kvs) ∧ y = kV k ∧ r = valV kvs k) ∨ ∃ kvs k b, Rd H a (.dT kvs) ∧ y = .ref b ∧ H b = some (.tup (k.map kV)) ∧ r = valV kvs k
/-- the heap behind a[y] = v -/
def DPut (H : Hp) (a : Addr) (y v : V) (H' : Hp) : Prop :=
  (∃ kvs k, H a = some (.dK kvs) ∧ y = kV k ∧ kvs.length < sizeLine ∧ H' = upd H a (.dK (putK kvs k v))) ∨
  ∃ kvs k b, H a = some (.dT kvs) ∧ y = .ref b ∧ H b = some (.tup (k.map kV)) ∧ kvs.length < sizeLine ∧ H' = upd H a (.dT (putK kvs k v))
theorem DGet.k {H : Hp} {a : Addr} {kvs : List (Key × V)} {k : Key} (e : H a = some (.dK kvs)) : DGet H a (kV k) (valV kvs k) := .inl ⟨kvs, k, .inl e, rfl, rfl⟩
theorem DGet.t {H : Hp} {a b : Addr} {kvs : List (List Key × V)} {k : List Key} (e : H a = some (.dT kvs)) (eb : H b = some (.tup (k.map kV))) : DGet H a (.ref b) (valV kvs k) := .inr ⟨kvs, k, b, .inl e, rfl, eb, rfl⟩
theorem DPut.k {H : Hp} {a : Addr} {kvs : List (Key × V)} {k : Key} {v : V} (e : H a = some (.dK kvs)) (hl : kvs.length < sizeLine) : DPut H a (kV k) v (upd H a (.dK (putK kvs k v))) := .inl ⟨kvs, k, e, rfl, hl, rfl⟩
theorem DPut.t {H : Hp} {a b : Addr} {kvs : List (List Key × V)} {k : List Key} {v : V} (e : H a = some (.dT kvs)) (eb : H b = some (.tup (k.map kV))) (hl : kvs.length < sizeLine) :
    DPut H a (.ref b) v (upd H a (.dT (putK kvs k v))) := .inr ⟨kvs, k, b, e, rfl, eb, hl, rfl⟩


section
variable {X : Cx} {pins : List (Addr × Obj)} {σ : St} {H : Hp} {s : Shared} {a : Addr} {y v : V} {u r : Value} {o : Option V} {A : Around} {E : Value → Shared → Prop}

end

section
variable {X : Cx} {pins : List (Addr × Obj)} {σ : St} {H : Hp} {s : Shared} {a : Addr} {kvs : List (Key × V)} {k : Key} {u : Value} {A : Around} {E : Value → Shared → Prop}
end


/-! ### readings and rules -/
section
variable {X : Cx} {o i e value : Expr} {pos pos' tpos : Pos} {td ty tv : TE}
end


/-! ### displays -/
section
variable {X : Cx} {pos : Pos}
end

end L2

namespace Own
open PySem PySem.Spec PyProof.Rows L2

/-! ### a def of the text by its name; a def that keeps a promise -/
structure Def (K : PySem.W.Frag) (mg : Str → Option Value) (x : Str) (st : Stmt) (ps : List Str) : Prop where
  ex : ∃ f fd, Fun K x x st f fd ∧ mg x = some (.ref f) ∧ Binds K fd ps []
structure Callee (P : Program) (w : World) (K : PySem.W.Frag) (mg : Str → Option Value) (base : Heap) (CX : CXT) (k : Nat) (x : Str) (ps : List Str) (sp : Sp) : Prop where
  ex : ∃ f fd, FnOk P w K mg base CX k f fd ps sp ∧ mg x = some (.ref f) ∧ PySem.W.keepIn K (.ref f) = true ∧ (∃ o : Obj, K.lookup f = some o ∧ o.data = .func fd) ∧ Binds K fd ps []
section
variable {P : Program} {w : World} {K : PySem.W.Frag} {mg : Str → Option Value} {base : Heap}
/-- the promise of the very def that stands under the name -/
theorem Callee.at {CX : CXT} {x : Str} {st : Stmt} {f : Addr} {fd : FuncData} {k : Nat} {ps : List Str} {sp : Sp} (C : Callee P w K mg base CX k x ps sp) (hm : mg x = some (.ref f)) (F : Fun K x x st f fd) (_ : Def K mg x st ps) : FnOk P w K mg base CX k f fd ps sp := by
  obtain ⟨f', fd', Fo, hm', _, hl, _⟩ := C.ex
  rw [hm] at hm'
  cases hm'
  obtain ⟨oc, od, kV, doc, pm, an, cdv, ct, osl, _, lk, _⟩ := F.ex
  obtain ⟨o', lk', hd'⟩ := hl
  rw [lk] at lk'
  cases lk'
  cases hd'
  exact Fo
theorem Def.ok {x : Str} {st : Stmt} {N ps : List Str} {k : Nat} {sp : Sp} (D : Def K mg x st ps) (S : FnScope N ps (defScope st)) (len : ∀ vs H Q E, sp vs H Q E → vs.length = ps.length)
    (hbody : ∀ (f : Addr) (cdv : Value) (A : Around) (outer : List Env) (s : Shared) (H : Hp) (vs : List V) (Q : VK) (E : XK), Room k (A.deeper (envOfC x (defScope st) s.heap.objs.size f cdv)) → sp vs H Q E →
      ∃ t, PSs (cxOf CX0 P w K mg base N x (defScope st) f cdv A outer s H E).nox (defBody st) t ∧ t { nx := fun _ H' => Q .non H', rt := Q } (start N vs) H) : Callee P w K mg base CX0 (k + 1) x ps sp := by
  obtain ⟨f, fd, F, hm, hb⟩ := D.ex
  refine ⟨f, fd, F.ok S len fun cdv A outer s H vs Q E hr h => hbody f cdv A outer s H vs Q E hr h, hm, F.kp, ?_, hb⟩
  obtain ⟨oc, od, kV, doc, pm, an, cdv, ct, osl, _, lk, _⟩ := F.ex
  exact ⟨_, lk, rfl⟩
end
section
variable {X : Cx} {CX : CXT} {k : Nat} {ps : List Str} {sp : Sp} {E : XK} {x : Str} {p pos : Pos} {e : Expr} {es : List Expr} {t : TA}
/-- f(e, ..), f a def of the text -/
theorem pe_fn (C : Callee X.prog X.w X.K X.mg X.base CX k x ps sp) (hr : Room k X.A) (hx : Passes CX X E) (ha : PA X (e :: es) t) (hg : Gl X x := by rfl)
    (hdb : (x == ("__debug__" : Str)) = false := by decide) (he : starEach (e :: es) X.env = (false, eval e X.env) :: starEach es X.env := by rfl) (hpl : (backTo pos (starEach es X.env)).any (·.1) = false := by rfl) :
    PE X (.Call (.Name x p) (e :: es) [] pos) (tCall sp [] E t) := by
  obtain ⟨f, fd, F, hm, hk, _, hb⟩ := C.ex
  exact pe_call F hr hg hm hk hb .nil hx ha hdb he hpl
/-- isinstance(x, T), T a type of Python's own -/
theorem call_isi : CallR X (.builtin "isinstance") (fun xs H Q => ∃ x n t b, xs = [x, .ty n] ∧ TyOf X.K H x t ∧ PySem.W.kitOne X.K t (.type n) = some b ∧ Q (.bl b) H) := by
  intro pins s σ H xs us Q I rv h
  obtain ⟨x, n, t, b, rfl, ty, e, q⟩ := h
  cases rv with
  | cons r rr =>
    cases rr with
    | cons r' rr' =>
      cases rr'
      obtain rfl : _ = Value.type n := r'
      exact isinst_ok I r ty e fun tk => ⟨.bl b, H, I.tok tk, rfl, q⟩
/-- a list or a tuple by its place -/
theorem ix_lt : IxR X (fun x y H Q => rIxL X.K x y H Q ∨ rIxT X.K x y H Q) := ix_list.or ix_tup
end
/-- two ways that meet: J is what holds where they do -/
def tJoin (t u : TS) : TS := fun D σ H => ∃ J : L2.St → Hp → Prop, t { D with nx := J } σ H ∧ ∀ σ' H', J σ' H' → u D σ' H'
theorem pss_join {X : Cx} {st : Stmt} {rest : List Stmt} {t u : TS} (h1 : PS X st t) (h2 : PSs X rest u) : PSs X (st :: rest) (tJoin t u) := by
  intro pins s σ H D I h
  obtain ⟨J, h, k⟩ := h
  refine wpAny_execs_cons (thn (h1 pins s σ H { D with nx := J } I h) fun f s1 q => ?_)
  cases f with
  | next =>
    obtain ⟨σ', H', I', q⟩ := q
    exact h2 pins s1 σ' H' D I' (k σ' H' q)
  | ret v => exact q
  | brk => exact q
  | cont => exact q
theorem kit_same (K : PySem.W.Frag) (n : String) : PySem.W.kitOne K (.type n) (.type n) = some true := by
  unfold PySem.W.kitOne
  rw [if_pos (by simp)]
theorem kit_int_bool (K : PySem.W.Frag) : PySem.W.kitOne K (.type "int") (.type "bool") = some false := by rfl
/-! ### small words over lists -/
theorem atI_map {α β : Type} {f : α → β} {xs : List α} {i : Int} {v : α} (h : atI xs i = some v) : atI (xs.map f) i = some (f v) := by
  unfold atI at h ⊢
  rw [List.length_map]
  cases e : ixN xs.length i with
  | none => rw [e] at h; cases h
  | some j =>
    rw [e] at h
    have h' : xs[j]? = some v := h
    show (xs.map f)[j]? = some (f v)
    rw [List.getElem?_map, h']
    rfl
theorem atI_pos {α : Type} {xs : List α} {i : Int} {v : α} (h0 : 0 ≤ i) (h : xs[i.toNat]? = some v) : atI xs i = some v := by
  have e : ((i.toNat : Nat) : Int) = i := by omega
  have := atI_nat h
  rwa [e] at this
/-- new objects stand apart from the old -/
theorem same_upd {H : Hp} {a : Addr} {o : HO} (h : H a = none) : Same H (upd H a o) := fun b u e => by rw [upd_ne (ne_of_none e h)]; exact e
theorem Same.upd {H H' : Hp} {a : Addr} {o : HO} (S : Same H H') (h : H a = none) : Same H (upd H' a o) := fun b u e => by rw [upd_ne (ne_of_none e h)]; exact S b u e
theorem Same.new {H H' : Hp} {a : Addr} {o : HO} (S : Same H H') (h : H' a = none) : Same H (L2.upd H' a o) := Own.Same.upd S (S.free h)
theorem Same.tup {K : PySem.W.Frag} {H H' : Hp} {a : Addr} {xs : List V} (e : Same H H') (h : SqT K H a xs) : SqT K H' a xs := by
  rcases h with (h | ⟨o, h⟩) | h
  · exact .inl (.inl (e _ _ h))
  · exact .inl (.inr ⟨o, e _ _ h⟩)
  · exact .inr h
end Own

namespace Own
open PySem PySem.Spec PyProof.Rows L2
theorem closure_list {env : Env} (names : List (Str × NameKind)) (hall : ∀ x ∈ names, x.2 = .free → ∃ c, env.cells.lookup x.1 = some c) : ∀ cs0 : List (Str × Addr), (∀ x c, cs0.lookup x = some c → env.cells.lookup x = some c) →
    ∃ cl : List (Str × Addr), (forIn names cs0 (fun (x : Str × NameKind) (cs : List (Str × Addr)) => if (x.2 == .free) = true then (do let c ← cellOf env x.1; pure (ForInStep.yield ((x.1, c) :: cs))) else pure (ForInStep.yield cs)) : Sem (List (Str × Addr))) = pure cl ∧
      (∀ x c, cl.lookup x = some c → env.cells.lookup x = some c) ∧ (∀ x, (∃ c, cs0.lookup x = some c) → ∃ c, cl.lookup x = some c) ∧ ∀ x ∈ names, x.2 = .free → ∃ c, cl.lookup x.1 = some c := by
  induction names with
  | nil =>
    intro cs0 h0
    exact ⟨cs0, rfl, h0, fun _ h => h, fun x hx => by cases hx⟩
  | cons y r ih =>
    intro cs0 h0
    have ih' := ih fun x hx => hall x (List.mem_cons_of_mem _ hx)
    obtain ⟨n, k⟩ := y
    by_cases hk : k = .free
    · subst hk
      obtain ⟨c, hc⟩ := hall (n, .free) List.mem_cons_self rfl
      have h1 : ∀ x d, List.lookup x ((n, c) :: cs0) = some d → env.cells.lookup x = some d := fun x d e => by
        rw [List.lookup_cons] at e
        by_cases hx : x = n
        · subst hx
          simp at e
          subst e
          exact hc
        · have : (x == n) = false := by simpa using hx
          rw [this] at e
          exact h0 x d e
      obtain ⟨cl, e, p1, p2, p3⟩ := ih' ((n, c) :: cs0) h1
      refine ⟨cl, ?_, p1, fun x hx => p2 x ?_, fun x hx hf => ?_⟩
      · rw [List.forIn_cons]
        show ((if (NameKind.free == NameKind.free) = true then (do let c ← cellOf env n; pure (ForInStep.yield ((n, c) :: cs0))) else pure (ForInStep.yield cs0)) >>= _) = _
        rw [if_pos (show (NameKind.free == NameKind.free) = true by decide)]
        have ec : cellOf env n = pure c := by unfold cellOf; rw [hc]
        rw [ec]
        exact e
      · rw [List.lookup_cons]
        cases (x == n)
        · exact hx
        · exact ⟨c, rfl⟩
      · rcases List.mem_cons.mp hx with rfl | hx
        · exact p2 n ⟨c, by simp [List.lookup_cons]⟩
        · exact p3 x hx hf
    · obtain ⟨cl, e, p1, p2, p3⟩ := ih' cs0 h0
      refine ⟨cl, ?_, p1, p2, fun x hx hf => ?_⟩
      · rw [List.forIn_cons]
        have hb : (k == NameKind.free) = false := by simpa using hk
        show ((if (k == NameKind.free) = true then (do let c ← cellOf env n; pure (ForInStep.yield ((n, c) :: cs0))) else pure (ForInStep.yield cs0)) >>= _) = _
        rw [if_neg (by rw [hb]; decide)]
        exact e
      · rcases List.mem_cons.mp hx with rfl | hx
        · exact absurd hf hk
        · exact p3 x hx hf
theorem closure_of {env : Env} {sc : Scope} (hall : ∀ x ∈ sc.names, x.2 = .free → ∃ c, env.cells.lookup x.1 = some c) :
    ∃ cl : List (Str × Addr), closureFor sc env = pure cl ∧ (∀ x c, cl.lookup x = some c → env.cells.lookup x = some c) ∧ ∀ x ∈ sc.names, x.2 = .free → ∃ c, cl.lookup x.1 = some c := by
  obtain ⟨cl, e, p1, _, p3⟩ := closure_list sc.names hall [] (fun x c h => by cases h)
  refine ⟨cl, ?_, p1, p3⟩
  unfold closureFor
  show ((forIn sc.names ([] : List (Str × Addr)) (fun (x : Str × NameKind) (cs : List (Str × Addr)) => if (x.2 == .free) = true then (do let c ← cellOf env x.1; pure (ForInStep.yield ((x.1, c) :: cs))) else pure (ForInStep.yield cs)) : Sem (List (Str × Addr))) >>= fun cs => pure cs) = pure cl
  rw [e]
  rfl

/-! ### a comprehension's block -/
def compX (X : Cx) (N' : List Str) (sc : Scope) (cl : List (Str × Addr)) (C : Addr) (s₃ : Shared) (H₃ : Hp) (ex : List Addr) : Cx :=
  { X with N := N', s₀ := s₃, H₀ := H₃, env := compEnvC sc cl C X.env, outer := X.stack, ex := ex, fn := fun _ => false, pn := [], xe := fun _ _ => False }
structure CompOk (X : Cx) (N' : List Str) (φ : List (Option Nat)) (sc : Scope) : Prop where
  kind : sc.kind = .function
  okind : X.env.scope.kind = .function
  nocell : ∀ y ∈ sc.names, y.2 ≠ .cell
  names : ∀ y ∈ sc.names, y.2 = .local → sc.names.lookup y.1 = some .local
  frees : ∀ y ∈ sc.names, y.2 = .free → X.env.scope.names.lookup y.1 = some .cell
  len : φ.length = N'.length
  pick : ∀ (i : Nat) (x : Str) (j : Nat), N'[i]? = some x → φ[i]? = some (some j) → X.N[j]? = some x ∧ sc.names.lookup x = some .free
/-- the block's names at each turn's start: those of the def by their slots, its own not known -/
def atStart (φ : List (Option Nat)) (σ : L2.St) : L2.St := φ.map fun o => o.bind fun j => (σ[j]?).join
/-- what was known stays known -/
def Sub (σ σ' : L2.St) : Prop := σ'.length = σ.length ∧ ∀ (i : Nat) (v : V), σ[i]? = some (some v) → σ'[i]? = some (some v)
theorem Sub.refl {σ : L2.St} : Sub σ σ := ⟨rfl, fun _ _ h => h⟩
theorem Sub.keep {σ σ' : L2.St} {x : Option V} (h : Sub σ σ') : Sub (x :: σ) (x :: σ') := by
  refine ⟨by simp [h.1], fun i v e => ?_⟩
  cases i with
  | zero => simpa using e
  | succ i => simp at e ⊢; exact h.2 i v e
theorem relabel_free {env : Env} (hk : env.scope.kind = .function) : ∀ {names : List (Str × NameKind)} {x : Str}, names.lookup x = some .free → env.scope.names.lookup x = some .cell →
    (names.map fun (n, k) => if (k == NameKind.free && env.scope.kind == .function && env.kindOf n == some .cell) then (n, NameKind.cell) else (n, k)).lookup x = some .cell
  | [], _, h, _ => by simp at h
  | (n, k) :: r, x, h, hc => by
    have ih := @relabel_free env hk r x
    show List.lookup x ((if (k == NameKind.free && env.scope.kind == .function && env.kindOf n == some .cell) = true then (n, NameKind.cell) else (n, k)) :: _) = _
    cases hx : x == n with
    | true =>
      simp only [List.lookup_cons, hx] at h
      cases h
      have e : x = n := by simpa using hx
      subst e
      have hkk : env.kindOf x = some .cell := hc
      rw [hk, hkk]
      simp [List.lookup_cons]
    | false =>
      simp only [List.lookup_cons, hx] at h
      by_cases hcc : (k == NameKind.free && env.scope.kind == .function && env.kindOf n == some .cell) = true
      · rw [if_pos hcc]; simp only [List.lookup_cons, hx]; exact ih h hc
      · rw [if_neg hcc]; simp only [List.lookup_cons, hx]; exact ih h hc
/-- the kinds that a name of the block may have -/
theorem relabel_kind {env : Env} : ∀ {names : List (Str × NameKind)} {x : Str} {q : NameKind},
    (names.map fun (n, k) => if (k == NameKind.free && env.scope.kind == .function && env.kindOf n == some .cell) then (n, NameKind.cell) else (n, k)).lookup x = some q → ∃ k, (x, k) ∈ names ∧ (q = k ∨ k = .free)
  | [], _, _, h => by simp at h
  | (n, k) :: r, x, q, h => by
    have ih := @relabel_kind env r x q
    have h' : List.lookup x ((if (k == NameKind.free && env.scope.kind == .function && env.kindOf n == some .cell) = true then (n, NameKind.cell) else (n, k)) :: (r.map fun (n, k) => if (k == NameKind.free && env.scope.kind == .function && env.kindOf n == some .cell) then (n, NameKind.cell) else (n, k))) = some q := h
    cases hx : x == n with
    | true =>
      have e : x = n := by simpa using hx
      subst e
      by_cases hcc : (k == NameKind.free && env.scope.kind == .function && env.kindOf x == some .cell) = true
      · refine ⟨k, List.mem_cons_self, .inr ?_⟩
        have := (Bool.and_eq_true _ _ ▸ (Bool.and_eq_true _ _ ▸ hcc).1).1
        simpa using this
      · rw [if_neg hcc] at h'
        simp [List.lookup_cons] at h'
        exact ⟨k, List.mem_cons_self, .inl h'.symm⟩
    | false =>
      have h2 : List.lookup x (r.map fun (n, k) => if (k == NameKind.free && env.scope.kind == .function && env.kindOf n == some .cell) then (n, NameKind.cell) else (n, k)) = some q := by
        by_cases hcc : (k == NameKind.free && env.scope.kind == .function && env.kindOf n == some .cell) = true
        · rw [if_pos hcc] at h'; simp only [List.lookup_cons, hx] at h'; exact h'
        · rw [if_neg hcc] at h'; simp only [List.lookup_cons, hx] at h'; exact h'
      obtain ⟨k', hm, hq⟩ := ih h2
      exact ⟨k', List.mem_cons_of_mem _ hm, hq⟩

/-! ### the loop of a comprehension -/
theorem compLoop_go {prog : Program} {w : World} {A : Around} {R : Result → Shared → Prop} {s : Shared} {elt target iter : Expr} {ifs : List Expr} {scope : Scope} {pos : Pos} {it acc : Value} {env : Env} (I : Nat → Shared → Prop)
    (turn : ∀ n s, I n s → wpAny (model prog w) A (pyNext it) (fun r s₁ => match r with
      | none => R (.ok .next) s₁
      | some v => wpAny (model prog w) A (letOwnedTupleGo target it v) (fun _ s₁' => wpAny (model prog w) A (assign target env v) (fun _ s₂ =>
          wpAny (model prog w) A (forIn ifs true fun c r => if r = true then do let ok ← isTrue c env (eval c env); pure (ForInStep.yield ok) else pure (ForInStep.yield r)) (fun ok s₃ =>
            if ok = true then wpAny (model prog w) A (eval elt env) (fun x s₄ =>
              wpAny (model prog w) A (call (.builtin "list.append") [acc, x]) (fun _ s₅ => ∃ m, m < n ∧ I m s₅) (fun _ _ => False) s₄) (fun _ _ => False) s₃
            else ∃ m, m < n ∧ I m s₃) (fun _ _ => False) s₂) (fun _ _ => False) s₁') (fun _ _ => False) s₁) (fun _ _ => False) s)
    (n : Nat) (h : I n s) :
    codeAny (model prog w) A (.compLoop (.ListComp elt [⟨target, iter, ifs, 0⟩] scope pos) 0 it acc env) R s := by
  refine codeAny_loop rfl I (fun n s hI => ?_) n h
  show wpAny _ A ((compTurn (.ListComp elt [⟨target, iter, ifs, 0⟩] scope pos) 0 it acc env).onRaise (fun x => do noteFrame x env; theTreesLotGoes x)) _ _ s
  refine wpAny_noted ?_
  rw [compTurn_list]
  refine wpAny_bind (wpAny_standAt (wpAny_bind (wpAny_mono (turn n s hI) (fun r s₁ h₁ => ?_) fun _ _ h' => h'.elim)))
  cases r with
  | none => exact wpAny_pure h₁
  | some v =>
    refine wpAny_bind (wpAny_mono h₁ (fun _ s₁' h₁' => ?_) fun _ _ h' => h'.elim)
    refine wpAny_bind (wpAny_mono h₁' (fun _ s₂ h₂ => wpAny_bind (wpAny_mono h₂ (fun ok s₃ h₃ => ?_) fun _ _ h' => h'.elim)) fun _ _ h' => h'.elim)
    cases ok with
    | false => exact wpAny_pure ⟨rfl, h₃⟩
    | true =>
      exact wpAny_bind (wpAny_bind (wpAny_mono h₃ (fun x s₄ h₄ => wpAny_bind (wpAny_mono h₄ (fun _ s₅ h₅ => wpAny_pure (wpAny_pure ⟨rfl, h₅⟩)) fun _ _ h' => h'.elim)) fun _ _ h' => h'.elim))

/-- the tests of a comprehension -/
def PIfs (X : Cx) (ifs : List Expr) (t : TT) : Prop :=
  ∀ (pins : List (Addr × Obj)) (s : Shared) (σ : L2.St) (H : Hp) (Q : Bool → Hp → Prop), Inv X pins σ H s → t σ H Q →
    wpAny (model X.prog X.w) X.A (forIn ifs true fun c r => if r = true then do let ok ← isTrue c X.env (eval c X.env); pure (ForInStep.yield ok) else pure (ForInStep.yield r)) (TP X pins σ Q) X.xe s
def tNoIf : TT := fun _ H Q => Q true H
theorem pifs_nil {X : Cx} : PIfs X [] tNoIf := fun _ _ _ H _ I h => wpAny_pure ⟨H, I, h⟩
/-- one turn's want: y is appended, or nothing is -/
def tComp (φ : List (Option Nat)) (wi : TI) (g : TG) (tc : TT) (te : TE) : TE := fun σ H Q => wi σ H fun J H1 => ∀ D, H1 D = none → ∃ W : Nat → Nat → List V → Hp → Prop, (∃ m, W 0 m [] (upd H1 D (.lst []))) ∧
  ∀ i m ys H2, W i m ys H2 → (J.stop i H2 ∧ Q (.ref D) H2) ∨ (J.go i H2 ∧ ∀ x H3, J.yld i H2 x H3 → g x (atStart φ σ) H3 fun σ2 H4 => Sub (atStart φ σ) σ2 ∧ tc σ2 H4 fun b H5 =>
    if b = true then te σ2 H5 fun y H6 => H6 D = some (.lst ys) ∧ ys.length < sizeLine ∧ ∃ m', m' < m ∧ W (i + 1) m' (ys ++ [y]) (upd H6 D (.lst (ys ++ [y]))) else ∃ m', m' < m ∧ W (i + 1) m' ys H5)

theorem Un.but {fs ex : List Addr} {H H' : Hp} {h h1 h2 : Heap} {C : Addr} (u : Un fs ex H H' h h1) (hc : h.get? C = none) (k : ∀ b o, b ≠ C → h1.get? b = some o → h2.get? b = some o) : Un fs ex H H' h h2 := by
  have ne : ∀ b o, h.get? b = some o → b ≠ C := fun b o e z => by rw [z, hc] at e; cases e
  exact ⟨fun b o e n hb hx => k b o (ne b o e) (u.keep b o e n hb hx), fun b o e n hb hx => let ⟨sl, q⟩ := u.slot b o e n hb hx; ⟨sl, k b _ (ne b o e) q⟩, u.free,
    fun b o e hx => let ⟨o', q⟩ := u.there b o e hx; ⟨o', k b _ (ne b o e) q⟩, u.tups, u.frzs, u.tbls⟩
theorem HOk.but {P : Program} {w : World} {H : Hp} {h1 h2 : Heap} {C : Addr} (x : HOk P w H h1) (hc : H C = none) (k : ∀ b o, b ≠ C → h1.get? b = some o → h2.get? b = some o) : HOk P w H h2 := fun a o e =>
  (x a o e).stay (fun b u hb q => k b u (fun z => by
    rcases hb with hb | hb
    · rw [← hb, z, hc] at e; cases e
    · rw [z, hc] at hb; cases hb) q) (fun _ q => q) fun _ _ q => q
theorem Inv.weak {X : Cx} {pins : List (Addr × Obj)} {σ σ' : L2.St} {H : Hp} {s : Shared} (I : Inv X pins σ' H s) (S : Sub σ σ') : Inv X pins σ H s :=
  ⟨I.ok, I.os, I.bare, I.base, let ⟨m, hn, hl⟩ := I.loc; ⟨m, hn, fun i x v h1 h2 h3 => hl i x v h1 (S.2 i v h2) h3⟩, I.cell, I.free, I.freeC, I.pin, I.hok, by rw [← S.1]; exact I.len⟩
theorem atStart_get {φ : List (Option Nat)} {σ : L2.St} {i : Nat} {v : V} (h : (atStart φ σ)[i]? = some (some v)) : ∃ j, φ[i]? = some (some j) ∧ σ[j]? = some (some v) := by
  unfold atStart at h
  rw [List.getElem?_map] at h
  cases e : φ[i]? with
  | none => rw [e] at h; cases h
  | some o =>
    rw [e] at h
    cases o with
    | none => simp at h
    | some j =>
      refine ⟨j, rfl, ?_⟩
      simp at h
      cases e2 : σ[j]? with
      | none => rw [e2] at h; simp at h
      | some w => rw [e2] at h; simp at h; rw [h]
/-- what is wanted where the block is left: the list at D, the block's names at C -/
def CompEnd (X : Cx) (pins : List (Addr × Obj)) (σ : L2.St) (Q : VK) (use : Option (Value → Sem Unit)) (QQ : Value → Shared → Prop) : Prop :=
  ∀ (D C : Addr) (H5 : Hp) (s6 : Shared), Q (.ref D) H5 → Inv X pins σ H5 s6 → (∃ m, s6.heap.Ns C m) → H5 C = none → C ≠ X.env.locals → X.s₀.heap.objs.size ≤ C → (∀ x c, X.env.cells.lookup x = some c → c ≠ C) → (∀ p ∈ X.pn ++ pins, p.1 ≠ C) → C ∉ X.fs →
    compPost (model X.prog X.w) X.A X.xe use QQ (.ref D) C (.ok .next) s6
theorem comp_run {X : Cx} {N' : List Str} {φ : List (Option Nat)} {sc : Scope} {elt iter tg : Expr} {ifs : List Expr} {pos pos' : Pos} {wi : TI} {g : TG} {tc : TT} {te : TE} {use : Option (Value → Sem Unit)} {QQ : Value → Shared → Prop} (hcalm : X.calm = true) (S : CompOk X N' φ sc) (hi : PI X tg iter wi)
    (hin : ∀ cl C s₃ H₃ ex, PG (compX X N' sc cl C s₃ H₃ ex) tg g ∧ PIfs (compX X N' sc cl C s₃ H₃ ex) ifs tc ∧ PE (compX X N' sc cl C s₃ H₃ ex) elt te) (hs : ∀ x, foldedSetIterable iter X.env x = pure x)
    {pins : List (Addr × Obj)} {s : Shared} {σ : L2.St} {H : Hp} {Q : VK} (I : Inv X pins σ H s) (h : tComp φ wi g tc te σ H Q) (fin : CompEnd X pins σ Q use QQ) :
    wpAny (model X.prog X.w) X.A (comprehension (.ListComp elt [⟨tg, iter, ifs, 0⟩] sc pos) sc X.env pos' (newList []) false (eval iter X.env) use) QQ X.xe s := by
  obtain ⟨cl, hcl, p1, p3⟩ := closure_of (env := X.env) (sc := sc) fun x hx hf => I.ok.has x.1 (.inl (S.frees x hx hf))
  refine wpAny_comprehension_free (use := use) rfl hs hcl S.kind S.names ?_
  refine thn (hi pins s σ H _ I h) fun v s1 h1 => thn h1 fun itv s2 h2 => ?_
  obtain ⟨it, fp, tn, J, H2, e, I2, T, st2, f2, hR⟩ := h2
  subst e
  refine wpAny_newObj_type ?_
  -- the list that is built
  have hf : H2 s2.heap.objs.size = none := I2.hok.fresh (Nat.le_refl _)
  obtain ⟨W, ⟨m0, w0⟩, turn⟩ := hR s2.heap.objs.size hf
  generalize eD : s2.heap.objs.size = D at *
  have I3 : Inv X pins σ (upd H2 D (.lst [])) { s2 with heap := s2.heap.push { cls := .type "list", dict := none, data := .seq ([] : List Value).toArray } } :=
    I2.laid (t' := s2.toks) (fun b u e => Heap.get?_push_of_some _ e) (Nat.le_of_eq eD) ⟨Nat.zero_le _, [], 0, .nil, by rw [← eD]; exact Heap.get?_push_size _ rfl⟩
  have st3 : tn 0 (s2.heap.push { cls := .type "list", dict := none, data := .seq ([] : List Value).toArray }) := T.keep _ _ _ st2 fun b _ o e => Heap.get?_push_of_some _ e
  have hfpD : ∀ b ∈ fp, b ≠ D := fun b hb z => by
    obtain ⟨o, ho, _⟩ := T.obj _ _ st2 b hb
    have := Heap.lt_size ho
    rw [z, ← eD] at this
    exact Nat.lt_irrefl _ this
  have f3 : ∀ b ∈ fp, FpOk X pins (upd H2 D (.lst [])) b := fun b hb => ⟨by rw [upd_ne (hfpD b hb)]; exact (f2 b hb).1, (f2 b hb).2⟩
  generalize es3 : ({ s2 with heap := s2.heap.push { cls := .type "list", dict := none, data := .seq ([] : List Value).toArray } } : Shared) = s3 at *
  have st3' : tn 0 s3.heap := by rw [← es3]; exact st3
  generalize eH3 : upd H2 D (.lst []) = H3 at *
  refine wpAny_newFunctionEnv S.nocell (by intro y hy; simp at hy) (fun h₁ hns₁ hsb₁ => ?_) S.kind
  have hh3 : s3.heap = s2.heap.push { cls := .type "list", dict := none, data := .seq ([] : List Value).toArray } := by rw [← es3]
  rw [hh3] at hns₁ hsb₁
  rw [← hh3] at hns₁ hsb₁
  have old : ∀ b o, s3.heap.get? b = some o → h₁.get? b = some o := fun b o e => hsb₁.extBut b o (Nat.ne_of_lt (Heap.lt_size e)) (Heap.get?_push_of_some _ e)
  have hC0 : s3.heap.get? s3.heap.objs.size = none := by
    cases e : s3.heap.get? s3.heap.objs.size with
    | none => rfl
    | some o => exact absurd (Heap.lt_size e) (Nat.lt_irrefl _)
  generalize eC : s3.heap.objs.size = C at *
  have hH3C : H3 C = none := I3.hok.fresh (Nat.le_of_eq eC)
  -- the block's context
  have OK : (compX X N' sc cl C s3 H3 fp).Ok := by
    refine ⟨I.ok.mod, ?_, I.ok.glob, I.ok.blt, Nat.le_of_eq eC, fun x y c h1 h2 => I.ok.inj x y c (p1 x c h1) (p1 y c h2), ?_, (fun x c hx => by cases hx), I.ok.hd, I.ok.frames, .inl rfl, ?_, I3.bs, Nat.le_trans I.ok.bsz I3.sz, ?_, ?_, I3.stack, I3.stkFree⟩
    · exact S.kind
    · intro x hx
      have hx' : (∃ k, (x, k) ∈ sc.names ∧ (NameKind.cell = k ∨ k = .free)) ∨ ∃ k, (x, k) ∈ sc.names ∧ (NameKind.free = k ∨ k = .free) := hx.imp relabel_kind relabel_kind
      have hfr : (x, NameKind.free) ∈ sc.names := by
        rcases hx' with ⟨k, hm, rfl | rfl⟩ | ⟨k, hm, rfl | rfl⟩
        · exact absurd rfl (S.nocell _ hm)
        · exact hm
        · exact hm
        · exact hm
      exact p3 _ hfr rfl
    · intro b hb
      refine ⟨fun z => ?_, fun x c hx => (f3 b hb).2.2.2.2.1 x c (p1 x c hx)⟩
      obtain ⟨o, ho, _⟩ := T.obj _ _ st3' b hb
      have z' : b = C := z
      rw [z', hC0] at ho
      cases ho
    · intro b o hb hx
      obtain ⟨_, _, _, q, _, _⟩ := f3 b hx
      rcases q with q | q
      · exact I.ok.noex b o hb q
      · have := Nat.lt_of_lt_of_le (Heap.lt_size hb) (Nat.le_trans I.ok.bsz q)
        exact Nat.lt_irrefl _ this
    · intro b hb hz
      rcases List.mem_cons.mp (I.stkSub b hz) with q | q
      · exact (f3 b hb).2.1 q
      · exact (f3 b hb).2.2.1 q
  have hlen0 : (atStart φ σ).length = N'.length := by unfold atStart; rw [List.length_map]; exact S.len
  have I4 : Inv (compX X N' sc cl C s3 H3 fp) [] (atStart φ σ) H3 { s3 with heap := h₁, toks := s3.toks + ([] : List (Str × Value)).length } := by
    refine ⟨OK, rfl, I3.bare, Un.kept old, ⟨_, hns₁, fun i x v h1 h2 h3 => ?_⟩, fun x c hx => ?_, hH3C, fun x c hx => I3.freeC x c (p1 x c hx), fun p hp => ?_, I3.hok.kept old, hlen0⟩
    · obtain ⟨j, hj, hv⟩ := atStart_get h2
      obtain ⟨hN, hfr⟩ := S.pick i x j h1 hj
      obtain ⟨m, _, hl⟩ := I3.loc
      have hm : (x, NameKind.free) ∈ sc.names := PySem.mem_of_lookup hfr
      have hcell := S.frees _ hm rfl
      obtain ⟨u, ru, lk⟩ := hl j x v hN hv (.inr (.inl hcell))
      refine ⟨u, ru, .inr ⟨.inl (relabel_free S.okind hfr hcell), ?_⟩⟩
      obtain ⟨c, hc⟩ := p3 _ hm rfl
      rcases lk with ⟨hk, _⟩ | ⟨_, c', hc', hcl'⟩
      · have hk' : X.env.scope.names.lookup x = some .local := hk
        rw [hcell] at hk'
        cases hk'
      · have e := p1 _ _ hc
        rw [hc'] at e
        cases e
        obtain ⟨o, ho, hd⟩ := hcl'
        exact ⟨_, hc, o, old _ o ho, hd⟩
    · obtain ⟨v, hv⟩ := I3.cell x c (p1 x c hx)
      obtain ⟨o, ho, hd⟩ := hv
      exact ⟨v, o, old _ o ho, hd⟩
    · exact absurd hp (by simp [compX])
  have st4 : tn 0 h₁ := T.keep _ _ _ st3' fun b _ o e => old b o e
  have stat : ∀ {H' : Hp}, (∀ b ∈ fp, H' b = none) → ∀ b ∈ fp, FpOk (compX X N' sc cl C s3 H3 fp) [] H' b := fun hn b hb =>
    ⟨hn b hb, (OK.exf b hb).1, OK.exfs b hb, .inl hb, (OK.exf b hb).2, fun p hp => absurd hp (by simp [compX])⟩
  obtain ⟨hPG, hPI, hPE⟩ := hin cl C s3 H3 fp
  have loop : codeAny (model X.prog X.w) X.A (.compLoop (.ListComp elt [⟨tg, iter, ifs, 0⟩] sc pos) 0 (.ref it) (.ref D) (compEnvC sc cl C X.env)) (compPost (model X.prog X.w) X.A X.xe use QQ (.ref D) C) { s3 with heap := h₁, toks := s3.toks + ([] : List (Str × Value)).length } := by
    refine compLoop_go (fun n s' => ∃ i ys σ' H', Inv (compX X N' sc cl C s3 H3 fp) [] σ' H' s' ∧ Sub (atStart φ σ) σ' ∧ tn i s'.heap ∧ (∀ b ∈ fp, H' b = none) ∧ W i n ys H') ?_ m0 ⟨0, [], _, _, I4, Sub.refl, st4, fun b hb => (f3 b hb).1, w0⟩
    rintro n s5 ⟨i, ys, σ5, H5, I5, sub5, st5, fr5, w5⟩
    have I5' := Own.Inv.weak I5 sub5
    rcases turn i n ys H5 w5 with ⟨stop, qn⟩ | ⟨go, step⟩
    · refine thn (T.done (compX X N' sc cl C s3 H3 fp) rfl rfl rfl hcalm i [] s5 _ H5 _ I5' (stat fr5) st5 stop) fun r s6 ⟨hr, I6⟩ => ?_
      subst hr
      obtain ⟨m, hn, _⟩ := I6.loc
      obtain ⟨hh, gg, dd, tt, oo⟩ := s6
      obtain rfl : oo = s3.os := I6.os
      have R : Inv X pins σ H5 { s3 with heap := hh, gens := gg, drawn := dd, toks := tt } := I3.call (ch := fp) (h' := hh) (g' := gg) (d' := dd) (t' := tt) I6.base I6.hok I6.bare fun b hb => ⟨(f3 b hb).2.2.2.1, (f3 b hb).2.1, (f3 b hb).2.2.2.2.1, (f3 b hb).2.2.2.2.2⟩
      have hC3 : s3.heap.objs.size ≤ C := Nat.le_of_eq eC
      obtain ⟨q0, q1, q2, q3, q4, q5⟩ := I3.fpOk (b := C) (H' := H3) hC3 hH3C
      refine fin D C H5 _ qn R ⟨m, hn⟩ I6.free q1 (Nat.le_trans I3.sz hC3) q4 q5 q2
    · refine thn (T.item (compX X N' sc cl C s3 H3 fp) rfl rfl rfl hcalm i [] s5 _ H5 _ I5' (stat fr5) st5 go) fun r s6 ⟨u, hr, h6⟩ => ?_
      subst hr
      refine thn h6 fun _ s7 ⟨x, H7, I7, r7, y7, st7, fr7⟩ => ?_
      have I7' := I7.pinned (stat fr7) (T.obj _ _ st7)
      refine thn (hPG _ s7 _ H7 x u _ I7' r7 (step x H7 y7)) fun _ s8 ⟨σ8, H8, I8, sub8, q8⟩ => ?_
      refine thn (hPI _ s8 σ8 H8 _ I8 q8) fun ok s9 ⟨H9, I9, q9⟩ => ?_
      have again : ∀ {s10 : Shared} {H10 : Hp} {ys' : List V} {m' : Nat}, Inv (compX X N' sc cl C s3 H3 fp) ([] ++ pinsAt fp s7.heap) σ8 H10 s10 → W (i + 1) m' ys' H10 → ∃ i ys σ' H', Inv (compX X N' sc cl C s3 H3 fp) [] σ' H' s10 ∧ Sub (atStart φ σ) σ' ∧ tn i s10.heap ∧ (∀ b ∈ fp, H' b = none) ∧ W i m' ys H' := fun {s10 H10 ys' m'} J10 w10 => by
        refine ⟨i + 1, ys', σ8, H10, J10.unpinned, sub8, T.keep _ _ _ st7 fun b hb o e => (J10.pin (b, o) (List.mem_append_right _ (List.mem_append_right _ (mem_pinsAt hb e)))).1, fun b hb => ?_, w10⟩
        obtain ⟨o, e, d⟩ := T.obj _ _ st7 b hb
        exact (J10.pin (b, o) (List.mem_append_right _ (List.mem_append_right _ (mem_pinsAt hb e)))).2.1
      cases ok with
      | false =>
        obtain ⟨m', hm, w'⟩ := q9
        exact ⟨m', hm, again I9 w'⟩
      | true =>
        refine thn (hPE _ s9 σ8 H9 _ I9 q9) fun xv s10 ⟨y, H10, I10, r10, hD, hl, m', hm, w'⟩ => ?_
        refine thn (mt_append _ s10 σ8 H10 (.ref D) [y] (.ref D) [xv] (fun _ H11 => H11 = upd H10 D (.lst (ys ++ [y]))) I10 rfl (.cons r10 .nil) ⟨D, ys, y, rfl, rfl, hD, hl, rfl⟩) fun _ s11 ⟨_, H11, I11, _, e11⟩ => ?_
        subst e11
        exact ⟨m', hm, again I11 w'⟩
  refine codeAny_compStart_list loop (T.self _ 0 _ _ _ st4 loop)
/-- a comprehension as a value -/
theorem pe_comp {X : Cx} {N' : List Str} {φ : List (Option Nat)} {sc : Scope} {elt iter tg : Expr} {ifs : List Expr} {pos : Pos} {wi : TI} {g : TG} {tc : TT} {te : TE} (hcalm : X.calm = true) (S : CompOk X N' φ sc) (hi : PI X tg iter wi)
    (hin : ∀ cl C s₃ H₃ ex, PG (compX X N' sc cl C s₃ H₃ ex) tg g ∧ PIfs (compX X N' sc cl C s₃ H₃ ex) ifs tc ∧ PE (compX X N' sc cl C s₃ H₃ ex) elt te)
    (hs : ∀ x, foldedSetIterable iter X.env x = pure x := by intro _; rfl) : PE X (.ListComp elt [⟨tg, iter, ifs, 0⟩] sc pos) (tComp φ wi g tc te) := by
  intro pins s σ H Q I h
  rw [eval_ListComp]
  refine comp_run (use := none) hcalm S hi hin hs I h fun D C H5 s6 q R hm c0 c1 c2 c3 c4 c5 => ?_
  obtain ⟨m, hn⟩ := hm
  exact ⟨m, hn, fun h' sb => ⟨.ref D, H5, R.turned (it := C) (t' := s6.toks) (fun b o hb e => sb.extBut b o hb e) c0 c1 (.inr c2) c3 c4, rfl, q⟩⟩
/-- what a comprehension's scope must be, as one look -/
def compChk (sc osc : Scope) (N N' : List Str) (φ : List (Option Nat)) : Bool :=
  sc.kind == .function && osc.kind == .function && (sc.names.all fun y => y.2 != .cell && (y.2 != .local || sc.names.lookup y.1 == some .local) && (y.2 != .free || osc.names.lookup y.1 == some .cell)) &&
    φ.length == N'.length && ((N'.zip φ).all fun p => match p.2 with | none => true | some j => N[j]? == some p.1 && sc.names.lookup p.1 == some .free)
theorem CompOk.of {X : Cx} {N' : List Str} {φ : List (Option Nat)} {sc : Scope} (h : compChk sc X.env.scope X.N N' φ = true) : CompOk X N' φ sc := by
  unfold compChk at h
  simp only [Bool.and_eq_true, beq_iff_eq, List.all_eq_true, Bool.or_eq_true, bne_iff_ne, ne_eq] at h
  obtain ⟨⟨⟨⟨h1, h2⟩, h3⟩, h4⟩, h5⟩ := h
  refine ⟨h1, h2, fun y hy => (h3 y hy).1.1, fun y hy hl => ?_, fun y hy hf => ?_, h4, fun i x j hi hj => ?_⟩
  · rcases (h3 y hy).1.2 with z | z
    · exact absurd hl z
    · exact z
  · rcases (h3 y hy).2 with z | z
    · exact absurd hf z
    · exact z
  · have hz : (N'.zip φ)[i]? = some (x, some j) := by rw [List.getElem?_zip_eq_some]; exact ⟨hi, hj⟩
    have := h5 _ (List.mem_of_getElem? hz)
    simpa using this
end Own

namespace SetR
open PySem PySem.Spec PyProof.Rows L2
/-! ### rising places -/
def Ris (xs : Array Nat) : Prop := ∀ i j, i < j → j < xs.size → xs.getD i 0 < xs.getD j 0
theorem getD_any {xs : Array Nat} {i a b : Nat} (h : i < xs.size) : xs.getD i a = xs.getD i b := by simp [Array.getD, h]
theorem below_go {xs : Array Nat} (R : Ris xs) (j : Nat) : ∀ (fuel lo hi : Nat), hi - lo ≤ fuel → lo ≤ hi → hi ≤ xs.size → (∀ k, k < lo → xs.getD k 0 < j) → (∀ k, hi ≤ k → k < xs.size → j ≤ xs.getD k 0) →
    let r := SetTable.below.go xs j fuel lo hi
    r ≤ xs.size ∧ (∀ k, k < r → xs.getD k 0 < j) ∧ ∀ k, r ≤ k → k < xs.size → j ≤ xs.getD k 0 := by
  intro fuel
  induction fuel with
  | zero =>
    intro lo hi h1 h2 h3 h4 h5
    have e : lo = hi := by omega
    subst e
    exact ⟨h3, h4, h5⟩
  | succ fuel ih =>
    intro lo hi h1 h2 h3 h4 h5
    show (let r := (if lo < hi then (if xs.getD ((lo + hi) / 2) j < j then SetTable.below.go xs j fuel ((lo + hi) / 2 + 1) hi else SetTable.below.go xs j fuel lo ((lo + hi) / 2)) else lo); r ≤ xs.size ∧ (∀ k, k < r → xs.getD k 0 < j) ∧ ∀ k, r ≤ k → k < xs.size → j ≤ xs.getD k 0)
    by_cases hl : lo < hi
    · rw [if_pos hl]
      have hm : (lo + hi) / 2 < xs.size := by omega
      by_cases hc : xs.getD ((lo + hi) / 2) j < j
      · rw [if_pos hc]
        refine ih _ _ (by omega) (by omega) h3 (fun k hk => ?_) h5
        rw [getD_any (b := 0) hm] at hc
        by_cases e : k = (lo + hi) / 2
        · rw [e]; exact hc
        · exact Nat.lt_trans (R k _ (by omega) hm) hc
      · rw [if_neg hc]
        refine ih _ _ (by omega) (by omega) (by omega) h4 (fun k hk hk2 => ?_)
        rw [getD_any (b := 0) hm] at hc
        by_cases e : k = (lo + hi) / 2
        · rw [e]; omega
        · have := R _ k (show (lo + hi) / 2 < k by omega) hk2
          omega
    · rw [if_neg hl]
      have e : lo = hi := by omega
      subst e
      exact ⟨h3, h4, h5⟩
theorem below_ok {xs : Array Nat} (R : Ris xs) (j : Nat) : SetTable.below xs j ≤ xs.size ∧ (∀ k, k < SetTable.below xs j → xs.getD k 0 < j) ∧ ∀ k, SetTable.below xs j ≤ k → k < xs.size → j ≤ xs.getD k 0 :=
  below_go R j xs.size 0 xs.size (by omega) (by omega) (by omega) (fun k hk => by omega) (fun k h1 h2 => by omega)
/-- the places rise -/
def Rise (xs : Array Nat) : Prop := xs.toList.Pairwise (· < ·)
theorem Rise.ris {xs : Array Nat} (h : Rise xs) : Ris xs := by
  intro i j hij hj
  have hi : i < xs.size := by omega
  have := (List.pairwise_iff_getElem.mp h) i j (by simpa using hi) (by simpa using hj) hij
  simpa [Array.getD, hi, hj] using this
theorem rise_insert {xs : Array Nat} {j : Nat} (h : Rise xs) (hn : xs[SetTable.below xs j]? ≠ some j) : Rise (SetTable.insertAt xs (SetTable.below xs j) j) := by
  obtain ⟨a, b, c⟩ := below_ok h.ris j
  generalize SetTable.below xs j = p at *
  unfold Rise
  rw [SetTable.toList_insertAt]
  refine List.pairwise_append.mpr ⟨h.sublist (List.take_sublist _ _), List.pairwise_cons.mpr ⟨fun y hy => ?_, h.sublist (List.drop_sublist _ _)⟩, fun x hx y hy => ?_⟩
  · obtain ⟨k, hk, e⟩ := List.mem_drop_iff_getElem.mp hy
    have hk' : p + k < xs.size := by
      simp only [Array.length_toList] at hk
      omega
    have h1 := c (p + k) (by omega) hk'
    have e' : xs.getD (p + k) 0 = y := by simpa [Array.getD, hk'] using e
    rw [e'] at h1
    rcases Nat.lt_or_ge j y with h2 | h2
    · exact h2
    · have ey : y = j := by omega
      exfalso
      rcases Nat.eq_zero_or_pos k with rfl | hk0
      · apply hn
        rw [Array.getElem?_eq_getElem (by omega)]
        have : xs[p] = y := by simpa using e
        rw [this, ey]
      · have h3 := h.ris p (p + k) (by omega) hk'
        have h4 := c p (Nat.le_refl _) (by omega)
        omega
  · have hx' : x < j := by
      obtain ⟨k, hk, e⟩ := List.mem_take_iff_getElem.mp hx
      have hk1 : k < p := by omega
      have hk2 : k < xs.size := by omega
      have := b k hk1
      have e' : xs.getD k 0 = x := by simpa [Array.getD, hk2] using e
      omega
    rcases List.mem_cons.mp hy with rfl | hy
    · exact hx'
    · obtain ⟨k, hk, e⟩ := List.mem_drop_iff_getElem.mp hy
      have hk' : p + k < xs.size := by
        simp only [Array.length_toList] at hk
        omega
      have h1 := c (p + k) (by omega) hk'
      have e' : xs.getD (p + k) 0 = y := by simpa [Array.getD, hk'] using e
      omega
/-! ### what stays true of a set's table -/
structure Tb (b : Bool) (t : SetTable) : Prop where
  led : t.led = b
  dum : t.dummies = #[]
  ris : Rise t.place
theorem has_nil (j : Nat) : SetTable.has #[] j = false := by
  unfold SetTable.has
  simp
theorem Tb.fresh (b : Bool) : Tb b (.fresh 0 0 b) := ⟨rfl, rfl, List.Pairwise.nil⟩
theorem rise_range (n : Nat) : Rise (Array.range n) := by
  unfold Rise
  rw [Array.toList_range]
  exact List.pairwise_lt_range
theorem Tb.stand {b : Bool} {t : SetTable} (h : Tb b t) (n : Nat) : Tb b (t.standIn n) := ⟨h.led, rfl, rise_range n⟩
theorem Tb.put {b : Bool} {t : SetTable} (h : Tb b t) {j : Nat} (hn : t.place[SetTable.below t.place j]? ≠ some j) : Tb b (t.put j).1 := by
  refine ⟨h.led, ?_, rise_insert h.ris hn⟩
  show (if SetTable.has t.dummies j = true then _ else t.dummies) = #[]
  rw [h.dum, has_nil]
  rfl
/-! ### a set of ints whose table is known -/
def keyOf (e : Int × Value) : Int := match e.2 with
  | .int k _ => k
  | _ => 0
def Ent (e : Int × Value) : Prop := ∃ (k : Int) (t : Tok), e = (hashInt k, .int k t)
section
variable (prog : Program) (w : World)
def byText (w : World) : Bool := w.params.followText "set-order"
structure SetAt (h : Heap) (a : Addr) (js : List Int) (es : Array (Int × Value)) (ep : Nat) (t : SetTable) : Prop where
  obj : ∃ o, h.get? a = some o ∧ o.ExactSet ∧ o.data = .set es ep t
  ent : ∀ e ∈ es.toList, Ent e
  per : (es.toList.map keyOf).Perm js
  nod : js.Nodup
  few : es.size < scanBound
  fit : t.fits es.size = true
  tab : Tb (!byText w) t
def SetB (h : Heap) (a : Addr) (js : List Int) : Prop := ∃ es ep t, SetAt w h a js es ep t
end
section
variable {prog : Program} {w : World} {A : Around} {E : Value → Shared → Prop} {s : Shared}
theorem SetB.len {h : Heap} {a : Addr} {js : List Int} {es : Array (Int × Value)} {ep : Nat} {t : SetTable} (S : SetAt w h a js es ep t) : es.size = js.length := by
  have := S.per.length_eq
  simpa using this
theorem SetB.at {h h' : Heap} {a : Addr} {js : List Int} (S : SetB w h a js) (k : ∀ o, h.get? a = some o → h'.get? a = some o) : SetB w h' a js := by
  obtain ⟨es, ep, t, ⟨o, ho, r⟩, b, c, d, e, f, g⟩ := S
  exact ⟨es, ep, t, ⟨o, k o ho, r⟩, b, c, d, e, f, g⟩
/-- a store over a known set -/
theorem SetAt.store {h : Heap} {a : Addr} {js js' : List Int} {es es' : Array (Int × Value)} {ep : Nat} {t t' : SetTable} (S : SetAt w h a js es ep t) (h1 : ∀ e ∈ es'.toList, Ent e) (h2 : (es'.toList.map keyOf).Perm js') (h3 : js'.Nodup) (h4 : es'.size < scanBound)
    (h5 : t'.fits es'.size = true) (h6 : Tb (!byText w) t') : SetAt w (h.update a (Obj.putSet es' t')) a js' es' (ep + 1) t' := by
  obtain ⟨o, ho, hx, hd⟩ := S.obj
  refine ⟨⟨{ o with data := .set es' (ep + 1) t' }, ?_, hx, rfl⟩, h1, h2, h3, h4, h5, h6⟩
  have q := Heap.get?_update_self (Obj.putSet es' t') ho (by rw [putSet_of es' t' hd]; rfl)
  rwa [putSet_of es' t' hd] at q
/-! ### the loop of set(xs) -/
end
end SetR

namespace SetR
open PySem PySem.Spec PyProof.Rows L2
def SI (h : Heap) (I a : Addr) (first : Value) (i n ep : Nat) : Prop := ∃ o, h.get? I = some o ∧ o.cls = .type "set_iterator" ∧ o.data = .fields #[first, .int i 0, .ref a, .int n 0, .int ep 0]
section
variable {prog : Program} {w : World} {A : Around} {E : Value → Shared → Prop} {s : Shared} {I a : Addr} {first : Value} {i n ep : Nat} {js : List Int} {es : Array (Int × Value)} {t : SetTable}
theorem SI.at {h h' : Heap} (x : SI h I a first i n ep) (k : ∀ o, h.get? I = some o → h'.get? I = some o) : SI h' I a first i n ep := let ⟨o, ho, r⟩ := x; ⟨o, k o ho, r⟩
theorem SetAt.keep {h h' : Heap} (S : SetAt w h a js es ep t) (k : ∀ o, h.get? a = some o → h'.get? a = some o) : SetAt w h' a js es ep t := by
  obtain ⟨⟨o, ho, r⟩, b, c, d, e, f, g⟩ := S
  exact ⟨⟨o, k o ho, r⟩, b, c, d, e, f, g⟩
end
end SetR

namespace Own
open PySem PySem.Spec PyProof.Rows L2
section
variable {X : Cx}
end
/-! ### rules for a block within a block: the written part by its name -/
section
variable {X : Cx} {K : PySem.W.Frag}
theorem ix_ltK (hK : X.K = K := by rfl) : IxR X (fun x y H Q => rIxL K x y H Q ∨ rIxT K x y H Q) := by subst hK; exact ix_lt
theorem call_lenK (hK : X.K = K := by rfl) : CallR X (.builtin "len") (fun xs H Q => ∃ x n, xs = [x] ∧ LenV K x H n ∧ Q (.int n) H) := by subst hK; exact call_len
end
/-! ### the comprehensions one uses -/
section
variable {α : Type} {R : Hp → V → α → Prop} {φ : List (Option Nat)} {g : TG} {tc : TT} {te : TE} {σ : L2.St} {H1 : Hp} {F : Hp → Prop} {D : Addr}
end
end Own

namespace Own
open PySem PySem.Spec PyProof.Rows L2
/-! ### == and != of lists of flat values -/
def eqL (xs ys : List V) : Bool := decide (xs.length = ys.length) && (List.range xs.length).all fun j => eqV (xs.getD j .non) (ys.getD j .non)
def rEqL (K : PySem.W.Frag) (neg : Bool) : R2 := fun x y H Q => ∃ (p q : Addr) (xs ys : List V), x = .ref p ∧ y = .ref q ∧ SqL K H p xs ∧ SqL K H q ys ∧ xs.all flatV = true ∧ ys.all flatV = true ∧ Q (.bl (if neg then !eqL xs ys else eqL xs ys)) H
section
variable {X : Cx}
theorem eqs_at {A : Around} {s : Shared} {xs ys : List V} {us ws : List Value} (r1 : Vals xs us) (r2 : Vals ys ws) (f1 : xs.all flatV = true) (f2 : ys.all flatV = true) (j : Nat) (h1 : j < us.toArray.size) (h2 : j < ws.toArray.size) :
    SeqAt.EqAt A s us.toArray[j] ws.toArray[j] (eqV (xs.getD j .non) (ys.getD j .non)) := by
  have l1 := r1.length
  have l2 := r2.length
  have g1 : j < us.length := by simpa using h1
  have g2 : j < ws.length := by simpa using h2
  have k1 : xs[j]? = some (xs[j]'(by omega)) := List.getElem?_eq_getElem _
  have k2 : ys[j]? = some (ys[j]'(by omega)) := List.getElem?_eq_getElem _
  obtain ⟨u, eu, ru⟩ := r1.get k1
  obtain ⟨w, ew, rw'⟩ := r2.get k2
  have e1 : us.toArray[j] = u := by
    have : us[j]? = some us[j] := List.getElem?_eq_getElem g1
    rw [this] at eu
    simpa using Option.some.inj eu
  have e2 : ws.toArray[j] = w := by
    have : ws[j]? = some ws[j] := List.getElem?_eq_getElem g2
    rw [this] at ew
    simpa using Option.some.inj ew
  have d1 : xs.getD j .non = xs[j]'(by omega) := by rw [List.getD_eq_getElem?_getD, k1]; rfl
  have d2 : ys.getD j .non = ys[j]'(by omega) := by rw [List.getD_eq_getElem?_getD, k2]; rfl
  rw [e1, e2, d1, d2]
  exact eqAt_V ru rw' (List.all_eq_true.mp f1 _ (List.getElem_mem _)) (List.all_eq_true.mp f2 _ (List.getElem_mem _))
theorem op_eqL (hu : X.A.units < cLine) : OpR X (compareOp .Eq) (rEqL X.K false) := by
  intro pins s σ H x y v u Q I rx ry h
  obtain ⟨p, q, xs, ys, rfl, rfl, hp, hq, f1, f2, k⟩ := h
  obtain rfl : v = Value.ref p := rx
  obtain rfl : u = Value.ref q := ry
  obtain ⟨us, r1, p1, _⟩ := I.list hp
  obtain ⟨ws, r2, p2, _⟩ := I.list hq
  have l1 := r1.length
  have l2 := r2.length
  have k' : Q (.bl (eqL xs ys)) H := k
  by_cases e : xs.length = ys.length
  · refine SeqAt.eq_listAt p1.isList p2.isList (by simp; omega) hu (fun j h1 h2 => eqs_at r1 r2 f1 f2 j h1 h2) ⟨.bl (eqL xs ys), H, I, ?_, k'⟩
    show _ = Value.bool (eqL xs ys)
    unfold eqL
    rw [decide_eq_true e, Bool.true_and, List.size_toArray, ← l1]
  · refine SeqAt.eq_list_lengthsAt p1.isList p2.isList (by simp; omega) hu ⟨.bl (eqL xs ys), H, I, ?_, k'⟩
    show _ = Value.bool (eqL xs ys)
    unfold eqL
    rw [decide_eq_false e]
    rfl
theorem op_neL (hu : X.A.units < cLine) : OpR X (compareOp .NotEq) (rEqL X.K true) := by
  intro pins s σ H x y v u Q I rx ry h
  obtain ⟨p, q, xs, ys, rfl, rfl, hp, hq, f1, f2, k⟩ := h
  obtain rfl : v = Value.ref p := rx
  obtain rfl : u = Value.ref q := ry
  obtain ⟨us, r1, p1, _⟩ := I.list hp
  obtain ⟨ws, r2, p2, _⟩ := I.list hq
  have l1 := r1.length
  have l2 := r2.length
  have k' : Q (.bl (!eqL xs ys)) H := k
  by_cases e : xs.length = ys.length
  · refine SeqAt.RcNeAt.lists p1.isList p2.isList (by simp; omega) hu (fun j h1 h2 => eqs_at r1 r2 f1 f2 j h1 h2) _ _ _ _ ⟨.bl (!eqL xs ys), H, I, ?_, k'⟩
    show _ = Value.bool (!eqL xs ys)
    unfold eqL
    rw [decide_eq_true e, Bool.true_and, List.size_toArray, ← l1]
  · refine SeqAt.RcNeAt.lists_lengths p1.isList p2.isList (by simp; omega) hu _ _ _ _ ⟨.bl (!eqL xs ys), H, I, ?_, k'⟩
    show _ = Value.bool (!eqL xs ys)
    unfold eqL
    rw [decide_eq_false e]
    rfl
/-! ### xs.index(z), xs.remove(z), z an int -/
end
/-! ### enumerate of a list, its pairs unpacked -/
/-! ### methods within a block -/
section
variable {X : Cx} {K : PySem.W.Frag}
end
theorem eqL_ints (xs ys : List Int) : eqL (xs.map V.int) (ys.map V.int) = decide (xs = ys) := by
  unfold eqL
  rw [List.length_map, List.length_map]
  by_cases e : xs = ys
  · subst e
    rw [decide_eq_true rfl, decide_eq_true rfl, Bool.true_and, List.all_eq_true]
    intro j hj
    have hj' : j < xs.length := by simpa using hj
    rw [List.getD_eq_getElem?_getD, List.getElem?_map, List.getElem?_eq_getElem hj']
    show (xs[j] == xs[j]) = true
    simp
  · rw [decide_eq_false e]
    by_cases hl : xs.length = ys.length
    · rw [decide_eq_true hl, Bool.true_and, Bool.eq_false_iff]
      intro hall
      apply e
      apply List.ext_getElem hl
      intro j h1 h2
      have := List.all_eq_true.mp hall j (by simpa using h1)
      rw [List.getD_eq_getElem?_getD, List.getElem?_map, List.getElem?_eq_getElem h1, List.getD_eq_getElem?_getD, List.getElem?_map, List.getElem?_eq_getElem h2] at this
      have h3 : (xs[j] == ys[j]) = true := this
      simpa using h3
    · rw [decide_eq_false hl]
      rfl
theorem flat_ints (xs : List Int) : (xs.map V.int).all flatV = true := by
  rw [List.all_map]
  exact List.all_eq_true.mpr fun _ _ => rfl
end Own

namespace M
open PySem PySem.Spec PyProof.Rows L2 Own

/-! ### lists of data on the abstract heap -/
/-- the values vs stand for the data xs, item by item -/
def LV {α : Type} (R : Hp → V → α → Prop) (H : Hp) (vs : List V) (xs : List α) : Prop :=
  vs.length = xs.length ∧ ∀ (i : Nat) (x : α), xs[i]? = some x → ∃ v, vs[i]? = some v ∧ R H v x
def LAt {α : Type} (R : Hp → V → α → Prop) (H : Hp) (l : Addr) (xs : List α) : Prop := ∃ vs, H l = some (.lst vs) ∧ LV R H vs xs
def PairR (H : Hp) (v : V) (q : Int × Int) : Prop := ∃ a, v = .ref a ∧ H a = some (.tup [.int q.1, .int q.2])
def IntR (_ : Hp) (v : V) (i : Int) : Prop := v = .int i
/-- a relation that new objects leave -/
def Mono {α : Type} (R : Hp → V → α → Prop) : Prop := ∀ H H' v x, Same H H' → R H v x → R H' v x
theorem PairR.mono : Mono PairR := fun _ _ _ _ S ⟨a, e, h⟩ => ⟨a, e, S _ _ h⟩
theorem IntR.mono : Mono IntR := fun _ _ _ _ _ h => h
section
variable {α : Type} {R : Hp → V → α → Prop} {H H' : Hp} {vs : List V} {xs : List α} {l : Addr}
theorem LV.mono (m : Mono R) (S : Same H H') (h : LV R H vs xs) : LV R H' vs xs :=
  ⟨h.1, fun i x e => let ⟨v, e', r⟩ := h.2 i x e; ⟨v, e', m _ _ _ _ S r⟩⟩
theorem LAt.mono (m : Mono R) (S : Same H H') (h : LAt R H l xs) : LAt R H' l xs :=
  let ⟨vs, e, r⟩ := h; ⟨vs, S _ _ e, r.mono m S⟩
theorem LV.nil : LV R H [] ([] : List α) := ⟨rfl, fun i x e => by simp at e⟩
theorem LV.snoc {v : V} {x : α} (h : LV R H vs xs) (r : R H v x) : LV R H (vs ++ [v]) (xs ++ [x]) := by
  refine ⟨by simp [h.1], fun i y e => ?_⟩
  by_cases hi : i < xs.length
  · rw [List.getElem?_append_left hi] at e
    obtain ⟨v', e', r'⟩ := h.2 i y e
    exact ⟨v', by rw [List.getElem?_append_left (by rw [h.1]; exact hi)]; exact e', r'⟩
  · have hi' : xs.length ≤ i := by omega
    rw [List.getElem?_append_right hi'] at e
    have h0 : i - xs.length = 0 := by
      cases q : i - xs.length with
      | zero => rfl
      | succ k => rw [q] at e; simp at e
    rw [h0] at e
    have e2 : x = y := by simpa using e
    subst e2
    refine ⟨v, ?_, r⟩
    rw [List.getElem?_append_right (by rw [h.1]; exact hi'), h.1, h0]
    rfl
theorem LV.get {i : Nat} {v : V} (h : LV R H vs xs) (e : vs[i]? = some v) : ∃ x, xs[i]? = some x ∧ R H v x := by
  have hi : i < xs.length := by rw [← h.1]; exact (List.getElem?_eq_some_iff.mp e).1
  obtain ⟨v', e', r⟩ := h.2 i xs[i] (by simp [hi])
  rw [e] at e'; cases e'
  exact ⟨_, by simp [hi], r⟩
theorem LV.ints {ns : List Int} : LV IntR H (ns.map V.int) ns := by
  refine ⟨by simp, fun i x e => ⟨.int x, ?_, rfl⟩⟩
  rw [List.getElem?_map, e]; rfl
end
/-- the menu's five numbers -/
def Menu (m : List Int) : Prop := ∃ a b c d e : Int, m = [a, b, c, d, e] ∧ (1 ≤ a ∧ a ≤ 10) ∧ (1 ≤ b ∧ b ≤ 9 ∧ (b = 1 ∨ b = 3 ∨ b = 7 ∨ b = 9)) ∧ (0 ≤ c ∧ c ≤ 9) ∧ (1 ≤ d ∧ d ≤ 1000) ∧ (1 ≤ e ∧ e + d ≤ 1001)
/-- a field: holders 1 to 10, widths 1 to 1000 -/
def Field (ps : List (Int × Int)) : Prop := ∀ q ∈ ps, 1 ≤ q.1 ∧ q.1 ≤ 10 ∧ 1 ≤ q.2 ∧ q.2 ≤ 1000
/-! ### members, in the order in which they came; sorted -/
/-! ### orders -/
/-! ### what an order costs, strip by strip and holder by holder -/
section
variable (ps : List (Int × Int))
end
section
variable {ps : List (Int × Int)}
end
end M

namespace ExcR
open PySem PySem.Spec PyProof.Rows L2
/-! ### an exception's record and its newest traceback entry -/
/-- what passes leaves: the callers' frames may get slots; the records at ex may turn -/
structure KeepX (fs ex : List Addr) (h h' : Heap) : Prop where
  keep : ∀ b o, h.get? b = some o → b ∉ fs → b ∉ ex → h'.get? b = some o
  slot : ∀ b o, h.get? b = some o → b ∉ ex → ∃ sl, h'.get? b = some { o with slots := sl }
  size : h.objs.size ≤ h'.objs.size
theorem KeepX.trans {fs ex : List Addr} {h1 h2 h3 : Heap} (a : KeepX fs ex h1 h2) (b : KeepX fs ex h2 h3) : KeepX fs ex h1 h3 :=
  ⟨fun c o e n m => b.keep c o (a.keep c o e n m) n m, fun c o e m => by
    obtain ⟨s1, e1⟩ := a.slot c o e m
    obtain ⟨s2, e2⟩ := b.slot c _ e1 m
    exact ⟨s2, e2⟩, Nat.le_trans a.size b.size⟩
theorem KeepX.mono {fs fs' ex ex' : List Addr} {h1 h2 : Heap} (a : KeepX fs ex h1 h2) (hf : ∀ b ∈ fs, b ∈ fs') (hx : ∀ b ∈ ex, b ∈ ex') : KeepX fs' ex' h1 h2 :=
  ⟨fun c o e n m => a.keep c o e (fun z => n (hf c z)) (fun z => m (hx c z)), fun c o e m => a.slot c o e fun z => m (hx c z), a.size⟩
/-- the exception at e of that class, its entry at T, whose mark is fl -/
structure Trc (h : Heap) (e T : Addr) (cls fl : Value) : Prop where
  ne : T ≠ e
  exc : ∃ oe vs, h.get? e = some oe ∧ oe.cls = cls ∧ oe.data = .fields vs ∧ vs[1]? = some (.ref T)
  ent : ∃ oT ts, h.get? T = some oT ∧ oT.data = .fields ts ∧ ts[3]? = some fl
theorem Trc.at {h h' : Heap} {e T : Addr} {cls fl : Value} (x : Trc h e T cls fl) (k1 : ∀ o, h.get? e = some o → h'.get? e = some o) (k2 : ∀ o, h.get? T = some o → h'.get? T = some o) : Trc h' e T cls fl :=
  ⟨x.ne, let ⟨o, vs, a, b⟩ := x.exc; ⟨o, vs, k1 o a, b⟩, let ⟨o, ts, a, b⟩ := x.ent; ⟨o, ts, k2 o a, b⟩⟩
section
variable {M : Model} {A : Around} {E : Value → Shared → Prop} {s : Shared} {base : Heap} {env : Env} {outer : List Env} {L e : Addr}
theorem new_entry {oe : Obj} {vs : Array Value} {head : Value} {hadNext : Bool} {Q : Unit → Shared → Prop} (hfr : A.frames = some (env :: outer)) (hl : s.heap.FunFrames base (env :: outer)) (hf : env.frame = some L)
    (he : s.heap.get? e = some oe) (hd : oe.data = .fields vs) (hsz : 1 < vs.size)
    (h : ∀ h' T, s.heap.objs.size ≤ T → Trc h' e T oe.cls (rawInt L) → KeepX (frs (env :: outer)) [e] s.heap h' → Q () { s with heap := h' }) :
    wpAny M A (do let a ← frameOf env; let pl ← entryPlaceOf L hadNext; let b ← EntryCells.newEntry head a .none (rawInt L) .none pl; setField (.ref e) 1 b) Q E s := by
  have hene : e ∉ frs (env :: outer) := fun hm => by
    obtain ⟨_, o, ho, hnf⟩ := hl.mem hm
    rw [he] at ho
    cases ho
    exact hnf vs hd
  refine wpAny_bind (wpAny_frameOf_fun hfr hl hf fun h1 s1 => wpAny_bind (wpAny_entryPlaceOf fun pl hpl => ?_))
  unfold EntryCells.newEntry newFields
  refine wpAny_bind (wpAny_newObj_type ?_ (hpl.sizeOk5 _ _ _ _ _))
  have he1 : h1.get? e = some oe := (s1.2.1 e hene).trans he
  generalize eo : ({ cls := .type "traceback", dict := none, data := .fields ([head, .ref L, .none, rawInt L, .none] ++ (if pl.isEmpty then List.replicate 6 Value.none else pl)).toArray } : Obj) = ot
  have he2 := Heap.get?_push_of_some (h := h1) ot he1
  refine wpAny_setField he2 hd hsz (h _ h1.objs.size (Nat.le_of_eq s1.1.symm) ?_ ?_)
  · have ne1 : h1.objs.size ≠ e := Nat.ne_of_gt (Heap.lt_size he1)
    have d3 := Obj.data_mapFields hd (·.setIfInBounds 1 (Value.ref h1.objs.size))
    refine ⟨ne1, ⟨_, _, Heap.get?_update_self _ he2 (Obj.isFreed_of_fields d3), Obj.cls_mapFields _ _, d3, by simp [hsz]⟩, ot, _, ?_, by rw [← eo], ?_⟩
    · exact (Heap.get?_update_other _ _ (Ne.symm ne1)).trans (Heap.get?_push_size h1 (by rw [← eo]; rfl))
    · first
        | (simp; done)
        | (rcases hpl with rfl | ⟨_, _, _, _, _, _, _, rfl⟩ <;> simp)
  · refine ⟨fun b o q nb nx => ?_, fun b o q nx => ?_, ?_⟩
    · have hbe : b ≠ e := fun z => nx (by simp [z])
      rw [Heap.get?_update_other _ _ (Ne.symm hbe)]
      exact Heap.get?_push_of_some _ ((s1.2.1 b nb).trans q)
    · have hbe : b ≠ e := fun z => nx (by simp [z])
      obtain ⟨sl, q1⟩ := s1.2.2 b o q
      exact ⟨sl, by rw [Heap.get?_update_other _ _ (Ne.symm hbe)]; exact Heap.get?_push_of_some _ q1⟩
    · rw [Heap.size_update, Heap.size_push, s1.1]
      exact Nat.le_succ _
/-- the first note of a new exception -/
theorem note_first {oe : Obj} {vs : Array Value} {Q : Unit → Shared → Prop} (hfr : A.frames = some (env :: outer)) (hl : s.heap.FunFrames base (env :: outer)) (hf : env.frame = some L)
    (he : s.heap.get? e = some oe) (hd : oe.data = .fields vs) (h1 : vs[1]? = some .none)
    (h : ∀ h' T, s.heap.objs.size ≤ T → Trc h' e T oe.cls (rawInt L) → KeepX (frs (env :: outer)) [e] s.heap h' → Q () { s with heap := h' }) : wpAny M A (noteFrame (.ref e) env) Q E s := by
  unfold noteFrame
  simp only [hf]
  refine wpAny_bind (wpAny_field he hd h1 ?_)
  rw [if_neg (by decide)]
  exact new_entry hfr hl hf he hd (Array.getElem?_eq_some_iff.mp h1).1 h
theorem off_entry {T : Addr} {cls fl : Value} {Q : Unit → Shared → Prop} (x : Trc s.heap e T cls fl) (h : ∀ h', Trc h' e T cls .none → KeepX [] [T] s.heap h' → Q () { s with heap := h' }) :
    wpAny M A (setField (.ref T) 3 .none) Q E s := by
  obtain ⟨ne, ⟨oe, vs, g1, g2, g3, g4⟩, oT, ts, k1, k2, k3⟩ := x
  have hz := (Array.getElem?_eq_some_iff.mp k3).1
  refine wpAny_setField k1 k2 hz (h _ ?_ ?_)
  · have d3 := Obj.data_mapFields k2 (·.setIfInBounds 3 Value.none)
    exact ⟨ne, ⟨oe, vs, (Heap.get?_update_other _ _ ne).trans g1, g2, g3, g4⟩, _, _, Heap.get?_update_self _ k1 (Obj.isFreed_of_fields d3), d3, by simp [hz]⟩
  · have ot : ∀ b, b ≠ T → (s.heap.update T (Obj.mapFields (·.setIfInBounds 3 Value.none))).get? b = s.heap.get? b := fun b hb => Heap.get?_update_other _ _ (Ne.symm hb)
    exact ⟨fun b o q _ nx => (ot b fun z => nx (by simp [z])).trans q, fun b o q nx => ⟨o.slots, (ot b fun z => nx (by simp [z])).trans q⟩, Nat.le_of_eq (Heap.size_update ..).symm⟩
/-- .. of one that comes from a callee -/
theorem note_next {T : Addr} {cls : Value} {Q : Unit → Shared → Prop} (hfr : A.frames = some (env :: outer)) (hl : s.heap.FunFrames base (env :: outer)) (hf : env.frame = some L) (x : Trc s.heap e T cls .none)
    (h : ∀ h' T', s.heap.objs.size ≤ T' → Trc h' e T' cls (rawInt L) → KeepX (frs (env :: outer)) [e, T] s.heap h' → Q () { s with heap := h' }) : wpAny M A (noteFrame (.ref e) env) Q E s := by
  obtain ⟨ne, ⟨oe, vs, g1, g2, g3, g4⟩, oT, ts, k1, k2, k3⟩ := id x
  unfold noteFrame
  simp only [hf]
  refine wpAny_bind (wpAny_field g1 g3 g4 ?_)
  rw [if_pos (show (Value.ref T != Value.none) = true from by simp)]
  refine wpAny_bind (wpAny_field k1 k2 k3 ?_)
  rw [if_neg (show ¬ ((Value.none == rawInt L) = true) from by simp [rawInt])]
  refine wpAny_bind (off_entry x fun h1 x1 K1 => ?_)
  have hTf : T ∉ frs (env :: outer) := fun hm => by
    obtain ⟨_, o, ho, hnf⟩ := hl.mem hm
    rw [k1] at ho
    cases ho
    exact hnf ts k2
  have hl1 : h1.FunFrames base (env :: outer) := hl.of_keeps fun b o q hnf => ⟨o, K1.keep b o q (by simp) (fun z => by
    rw [List.mem_singleton.mp z, k1] at q
    cases q
    exact hnf ts k2), rfl⟩
  obtain ⟨_, ⟨oe1, vs1, p1, p2, p3, p4⟩, _⟩ := id x1
  refine new_entry (s := { s with heap := h1 }) hfr hl1 hf p1 p3 (Array.getElem?_eq_some_iff.mp p4).1 fun h2 T' hT' x2 K2 => h h2 T' (Nat.le_trans K1.size hT') (by rw [← p2]; exact x2) ?_
  exact (K1.mono (by simp) (by simp)).trans (K2.mono (fun _ z => z) (by simp))
theorem flight_off {T : Addr} {cls fl : Value} {Q : Unit → Shared → Prop} (x : Trc s.heap e T cls fl) (h : ∀ h', Trc h' e T cls .none → KeepX [] [T] s.heap h' → Q () { s with heap := h' }) :
    wpAny M A (setFlight (.ref e) none) Q E s := by
  obtain ⟨ne, ⟨oe, vs, g1, g2, g3, g4⟩, _⟩ := id x
  unfold setFlight
  refine wpAny_bind (wpAny_field g1 g3 g4 ?_)
  rw [if_pos (show (Value.ref T != Value.none) = true from by simp)]
  exact off_entry x h
theorem leave_first {oe : Obj} {vs : Array Value} {Q : Unit → Shared → Prop} (hfr : A.frames = some (env :: outer)) (hl : s.heap.FunFrames base (env :: outer)) (hf : env.frame = some L)
    (he : s.heap.get? e = some oe) (hd : oe.data = .fields vs) (h1 : vs[1]? = some .none)
    (h : ∀ h' T, s.heap.objs.size ≤ T → Trc h' e T oe.cls .none → KeepX (frs (env :: outer)) [e] s.heap h' → Q () { s with heap := h' }) : wpAny M A (leaving env (.ref e)) Q E s := by
  unfold leaving
  refine wpAny_bind (note_first hfr hl hf he hd h1 fun h2 T hT x K => flight_off x fun h3 x3 K3 => h h3 T hT x3 ?_)
  refine ⟨fun b o q nb nx => K3.keep b o (K.keep b o q nb nx) (by simp) (fun z => ?_), fun b o q nx => ?_, Nat.le_trans K.size K3.size⟩
  · rw [List.mem_singleton.mp z] at q
    exact absurd (Heap.lt_size q) (Nat.not_lt.mpr hT)
  · obtain ⟨sl, q2⟩ := K.slot b o q nx
    exact ⟨sl, K3.keep b _ q2 (by simp) (fun z => by rw [List.mem_singleton.mp z] at q; exact absurd (Heap.lt_size q) (Nat.not_lt.mpr hT))⟩
theorem leave_next {T : Addr} {cls : Value} {Q : Unit → Shared → Prop} (hfr : A.frames = some (env :: outer)) (hl : s.heap.FunFrames base (env :: outer)) (hf : env.frame = some L) (x : Trc s.heap e T cls .none)
    (h : ∀ h' T', s.heap.objs.size ≤ T' → Trc h' e T' cls .none → KeepX (frs (env :: outer)) [e, T] s.heap h' → Q () { s with heap := h' }) : wpAny M A (leaving env (.ref e)) Q E s := by
  unfold leaving
  refine wpAny_bind (note_next hfr hl hf x fun h2 T' hT x2 K => flight_off x2 fun h3 x3 K3 => h h3 T' hT x3 ?_)
  refine ⟨fun b o q nb nx => K3.keep b o (K.keep b o q nb nx) (by simp) (fun z => ?_), fun b o q nx => ?_, Nat.le_trans K.size K3.size⟩
  · rw [List.mem_singleton.mp z] at q
    exact absurd (Heap.lt_size q) (Nat.not_lt.mpr hT)
  · obtain ⟨sl, q2⟩ := K.slot b o q nx
    exact ⟨sl, K3.keep b _ q2 (by simp) (fun z => by rw [List.mem_singleton.mp z] at q; exact absurd (Heap.lt_size q) (Nat.not_lt.mpr hT))⟩
end
end ExcR

namespace ExcR
open PySem PySem.Spec PyProof.Rows L2
section
variable {P : Program} {w : World} {H H' : Hp} {h h' : Heap} {a : Addr} {o : HO} {fs ex : List Addr}
/-- what is tracked is there -/
theorem has (x : ObjOk P w H h a o) : ∃ u, h.get? a = some u := by
  cases o with
  | lst xs => exact let ⟨_, _, _, _, e⟩ := x; ⟨_, e⟩
  | tup xs => exact let ⟨_, _, _, u, e, _⟩ := x; ⟨u, e⟩
  | dK kvs => exact let ⟨_, _, _, _, u, _, _, e, _⟩ := x; ⟨u, e⟩
  | dT kvs => exact let ⟨_, _, _, _, u, _, _, e, _⟩ := x; ⟨u, e⟩
  | set S n => exact let ⟨u, _, _, _, e, _⟩ := x; ⟨u, e⟩
  | ins C dx fs => exact let ⟨_, _, _, e, _⟩ := x; ⟨_, e⟩
  | own y => exact x
  | xd fs => exact let ⟨_, ⟨u, _, _, e, _⟩, _⟩ := x; ⟨u, e⟩
  | rng lo hi => exact let ⟨_, _, _, e⟩ := x; ⟨_, e⟩
  | frz ob u => exact ⟨_, x.1⟩
  | tbl ps => exact ⟨_, x⟩
  | met f y => exact ⟨_, x⟩
  | ext φ => exact x.2.1
theorem free_of (ok : HOk P w H h) (e : h.get? a = none) : H a = none := by
  cases q : H a with
  | none => rfl
  | some o =>
    obtain ⟨u, z⟩ := has (ok a o q)
    rw [e] at z
    cases z
theorem hok_keep (ok : HOk P w H h) (k : KeepX fs ex h h') (hf : ∀ b ∈ fs, H b = none) (hx : ∀ b ∈ ex, H b = none) : HOk P w H h' := fun a o e => by
  refine (ok a o e).stay (fun b u hb q => ?_) (fun _ q => q) (fun _ _ q => q)
  have hn : H b ≠ none := by
    rcases hb with rfl | hb
    · rw [e]; simp
    · rw [hb]; simp
  exact k.keep b u q (fun z => hn (hf b z)) fun z => hn (hx b z)
end
/-- an exception that has come out of a def: the record at a of the class at C, its newest entry at T; both were made since s -/
structure XAt (P : Program) (w : World) (outer : List Env) (H H' : Hp) (s s' : Shared) (a T C : Addr) : Prop where
  os : s'.os = s.os
  bare : AllBare s'.gens
  un : Un (frs outer) [] H H' s.heap s'.heap
  hok : HOk P w H' s'.heap
  na : s.heap.get? a = none
  nT : s.heap.get? T = none
  fa : H' a = none
  fT : H' T = none
  tr : Trc s'.heap a T (.ref C) .none
def CXe (P : Program) (w : World) : CXT := fun outer H s E e s' => ∃ a T C H', e = .ref a ∧ XAt P w outer H H' s s' a T C ∧ E (.ref C) none H'
section
variable {X : Cx} {pins : List (Addr × Obj)} {σ : L2.St} {H H' : Hp} {s s' : Shared} {a T C : Addr}
/-- from the frame's entry on, past a step that turns only the callers' slots and records made since -/
theorem un_keep {ex : List Addr} {h' : Heap} (I : Inv X pins σ H s) (hex : X.ex = []) (k : KeepX (frs X.stack) ex s.heap h') (hx : ∀ b ∈ ex, X.s₀.heap.get? b = none) : Un X.fs [] X.H₀ H X.s₀.heap h' := by
  have B := I.base
  rw [hex] at B
  have out : ∀ b o, X.s₀.heap.get? b = some o → b ∉ ex := fun b o q z => by rw [hx b z] at q; cases q
  have nl : ∀ b o, X.s₀.heap.get? b = some o → b ∉ X.fs → b ∉ frs X.stack := fun b o q nf z => by
    rcases List.mem_cons.mp (I.stkSub b z) with e | e
    · have h1 := Heap.lt_size q
      have h2 := I.ok.above
      rw [e] at h1
      exact absurd h1 (Nat.not_lt.mpr h2)
    · exact nf e
  refine ⟨fun b o q n nf ne => k.keep b o (B.keep b o q n nf ne) (nl b o q nf) (out b o q), fun b o q n hf ne => ?_, fun b o q n ne => B.free b o q n ne, fun b o q ne => ?_, B.tups, B.frzs, B.tbls⟩
  · obtain ⟨sl, q1⟩ := B.slot b o q n hf ne
    obtain ⟨sl2, q2⟩ := k.slot b _ q1 (out b o q)
    exact ⟨sl2, q2⟩
  · obtain ⟨o1, q1⟩ := B.there b o q ne
    obtain ⟨sl2, q2⟩ := k.slot b _ q1 (out b o q)
    exact ⟨_, q2⟩
theorem old_none {b : Addr} (I : Inv X pins σ H s) (hex : X.ex = []) (e : s.heap.get? b = none) : X.s₀.heap.get? b = none := by
  cases q : X.s₀.heap.get? b with
  | none => rfl
  | some o =>
    obtain ⟨u, z⟩ := I.base.there b o q (by rw [hex]; simp)
    rw [e] at z
    cases z
variable {E : Value → Shared → Prop}
/-- a callee's exception leaves this frame -/
theorem leave_pass (I : Inv X pins σ H s) (hex : X.ex = []) (hst : X.stack = X.env :: X.outer) (hfr : X.env.frame = some X.env.locals) (x : XAt X.prog X.w X.stack H H' s s' a T C) :
    wpAny (model X.prog X.w) X.A (leaving X.env (.ref a)) (fun _ s2 => ∃ T2, XAt X.prog X.w X.outer X.H₀ H' X.s₀ s2 a T2 C) E s' := by
  have J : Inv X pins σ H' s' := I.call' (ch := []) x.os x.un x.hok x.bare fun b z => absurd z (by simp)
  have hF := J.stack
  have hA := J.ok.frames
  rw [hst] at hF hA
  refine leave_next hA hF hfr x.tr fun h2 T2 hT2 tr k => ⟨T2, J.os, J.bare, ?_, ?_, old_none I hex x.na, ?_, x.fa, x.hok.fresh hT2, tr⟩
  · exact un_keep J hex (by rw [hst]; exact k) fun b hb => by
      rcases List.mem_cons.mp hb with rfl | hb
      · exact old_none I hex x.na
      · rw [List.mem_singleton.mp hb]; exact old_none I hex x.nT
  · refine hok_keep x.hok k (fun b hb => J.stkFree b (by rw [hst]; exact hb)) fun b hb => ?_
    rcases List.mem_cons.mp hb with rfl | hb
    · exact x.fa
    · rw [List.mem_singleton.mp hb]; exact x.fT
  · exact Heap.get?_none_of_le (Nat.le_trans J.sz hT2)
/-- a new exception leaves the frame that raised it -/
theorem leave_new {h' : Heap} {oe : Obj} {vs : Array Value} (I : Inv X pins σ H s) (hex : X.ex = []) (hst : X.stack = X.env :: X.outer) (hfr : X.env.frame = some X.env.locals) (keeps : ∀ b o, s.heap.get? b = some o → h'.get? b = some o)
    (new : s.heap.get? a = none) (he : h'.get? a = some oe) (hc : oe.cls = .ref C) (hd : oe.data = .fields vs) (h1 : vs[1]? = some .none) :
    wpAny (model X.prog X.w) X.A (leaving X.env (.ref a)) (fun _ s2 => ∃ T2, XAt X.prog X.w X.outer X.H₀ H X.s₀ s2 a T2 C) E { s with heap := h' } := by
  have J : Inv X pins σ H { s with heap := h' } := I.call' (s' := { s with heap := h' }) (ch := []) rfl (Un.kept keeps) (I.hok.kept keeps) I.bare fun b z => absurd z (by simp)
  have hF := J.stack
  have hA := J.ok.frames
  rw [hst] at hF hA
  have fa := free_of I.hok new
  refine leave_first (s := { s with heap := h' }) hA hF hfr he hd h1 fun h2 T2 hT2 tr k => ⟨T2, J.os, J.bare, ?_, ?_, old_none I hex new, ?_, fa, J.hok.fresh hT2, by rw [← hc]; exact tr⟩
  · exact un_keep J hex (by rw [hst]; exact k) fun b hb => by rw [List.mem_singleton.mp hb]; exact old_none I hex new
  · exact hok_keep J.hok k (fun b hb => J.stkFree b (by rw [hst]; exact hb)) fun b hb => by rw [List.mem_singleton.mp hb]; exact fa
  · exact Heap.get?_none_of_le (Nat.le_trans J.sz hT2)
end
/-! ### a class of errors of the text -/
/-- what the object of the class is -/
structure ErrCls (K : PySem.W.Frag) (C : Addr) : Prop where
  q : PySem.W.excIn K C [.type "ValueError", .type "Exception", .type "BaseException", .type "object"] "ValueError.__new__" = true
theorem ErrCls.obj {K : PySem.W.Frag} {C : Addr} {h : Heap} (c : ErrCls K C) (k : K.In h) : ∃ bm N nm q bs hdct sn sub ab col dd k0 k1 k2 k3 k5 mN, h.get? C = some (excClassObj nm q C N bs bm hdct sn sub ab col dd k0 k1 k2 k3 k5 "ValueError.__new__") ∧ h.Ns N mN ∧ mN "__init__" = none ∧
    OwnTail h [.type "ValueError", .type "Exception", .type "BaseException", .type "object"] bm := by
  have e := c.q
  unfold PySem.W.excIn at e
  split at e
  next dd cd sl ho =>
    split at e
    next C1 bm k0 k1 k2 k3 n k5 hm hs =>
      simp only [Bool.and_eq_true, beq_iff_eq, Bool.not_eq_true'] at e
      obtain ⟨⟨⟨⟨⟨e1, e2⟩, e3⟩, e4⟩, e5⟩, e6⟩ := e
      subst e1 e2
      have hg := k _ _ ho
      cases cd with
      | mk nm bs mro ns qn hd sn sub ab col del =>
        simp only at hm e3 e5 e6
        have hsl : sl = #[k0, k1, k2, k3, some (.builtin "ValueError.__new__"), k5] := by
          cases sl with
          | mk l => simp only at hs; rw [hs]
        rw [hm, e3, hsl] at hg
        exact ⟨bm, ns, nm, qn, bs, hd, sn, sub, ab, col, dd, k0, k1, k2, k3, k5, _, hg, .of_isNs (PySem.W.isNs_of_in k e5), PySem.W.nsMap_none_of_in k e5 e6, PySem.W.tail_of_in k e4⟩
    next => cases e
  next => cases e
end ExcR

namespace ExcR
open PySem PySem.Spec PyProof.Rows L2
/-! ### texts with braces -/
abbrev TF := L2.St → Hp → Str → (Str → Hp → Prop) → Prop
section
variable {X : Cx} {e e1 e2 : Expr} {es : List Expr} {t : TF} {tv : TE} {pos : Pos}
end
/-! ### raise C(..) -/
/-- a new exception of the class at C is what this body lets out -/
def Raises (X : Cx) (E : XK) : Prop := ∀ (pins : List (Addr × Obj)) (σ : L2.St) (H : Hp) (s : Shared) (C a : Addr) (h' : Heap) (args : List Value), Inv X pins σ H s → Heap.MadeExcOf s.heap h' a (.ref C) args → E (.ref C) none H → X.xe (.ref a) { s with heap := h' }
def tRaise (C : Addr) (E : XK) (t : TA) : TS := fun _ σ H => t σ H fun vs H1 => vs.length ≤ sizeLine ∧ E (.ref C) none H1
section
variable {X : Cx} {x : Str} {C : Addr} {E : XK} {e : Expr} {es : List Expr} {t : TA} {p cpos pos : Pos}
theorem ps_raise (c : ErrCls X.K C) (hm : X.mg x = some (.ref C)) (hR : Raises X E) (hc : X.calm = true) (ha : PA X (e :: es) t) (hg : Gl X x := by rfl) (hdb : (x == ("__debug__" : Str)) = false := by decide)
    (he : starEach (e :: es) X.env = (false, eval e X.env) :: starEach es X.env := by rfl) (hpl : (backTo cpos (starEach es X.env)).any (·.1) = false := by rfl) : PS X (.Raise (some (.Call (.Name x p) (e :: es) [] cpos)) none pos) (tRaise C E t) := by
  intro pins s σ H D I h
  obtain ⟨bm, N, nm, q, bs, hdct, sn, sub, ab, col, dd, k0, k1, k2, k3, k5, mN, hC, hN, hni, hT⟩ := c.obj I.ok.mod.kin
  have hpl' : (backTo cpos (starEach (e :: es) X.env)).any (·.1) = false := by
    rw [he]
    show (false || (backTo cpos (starEach es X.env)).any (·.1)) = false
    rw [hpl]
    rfl
  refine wpAny_Raise_call_subU (C := C) (nm := nm) (q := q) (N := N) (bs := bs) (bm := bm) (hdct := hdct) (sn := sn) (sub := sub) (ab := ab) (col := col) (dd := dd) (k0 := k0) (k1 := k1) (k2 := k2) (k3 := k3) (k5 := k5)
    PySem.F.excBase_ValueError (by decide +kernel) PySem.F.excBase_ValueError (hT.hasType (by decide +kernel)) (I.ok.hd hc) hpl' hni (ld_glob I hg hm ⟨rfl, ?_⟩ hdb)
  have hA := ha cpos pins s σ H _ I h
  rw [he] at hA ⊢
  refine Calls.evalArgs_plain (thn hA fun us s2 ⟨vs, H2, I2, r2, q1, q2⟩ => ⟨rfl, by rw [← r2.length]; exact q1, I2.bk _ _ hC, hN.keeps I2.bk, hT.keeps I2.bk, fun h' a hm' => ?_⟩)
  exact hR pins σ H2 s2 C a h' us I2 hm' q2
end
/-! ### the body of a def that lets exceptions out -/
section
variable {P : Program} {w : World} {K : PySem.W.Frag} {mg : Str → Option Value} {base : Heap} {N ps : List Str} {qual x : Str} {scope : Scope} {f : Addr} {cd : Value} {A : Around} {outer : List Env} {s : Shared} {H : Hp} {E : XK}
theorem raises_e : Raises (cxOf (CXe P w) P w K mg base N qual scope f cd A outer s H E) E := by
  intro pins σ H1 s1 C a h' args I m q
  obtain ⟨t, ht, _, _⟩ := m.there
  exact wpAny_mono (leave_new I rfl rfl rfl m.keeps m.new ht rfl rfl rfl) (fun _ s3 ⟨T2, y⟩ => ⟨a, T2, C, H1, rfl, y, q⟩) fun _ _ z => z
theorem passes_e : Passes (CXe P w) (cxOf (CXe P w) P w K mg base N qual scope f cd A outer s H E) E := by
  rintro pins σ H1 s1 e s2 I ⟨a, T, C, H', rfl, y, q⟩
  exact wpAny_mono (leave_pass I rfl rfl rfl y) (fun _ s3 ⟨T2, z⟩ => ⟨a, T2, C, H', rfl, z, q⟩) fun _ _ z => z
theorem loops_e : PassesOwn (model P w) (cxOf (CXe P w) P w K mg base N qual scope f cd A outer s H E).A (cxOf (CXe P w) P w K mg base N qual scope f cd A outer s H E).env (cxOf (CXe P w) P w K mg base N qual scope f cd A outer s H E).xe := PassesOwn.leaving
theorem Def.okX {st : Stmt} {k : Nat} {sp : Sp} (D : Own.Def K mg x st ps) (S : FnScope N ps (defScope st)) (len : ∀ vs H Q E, sp vs H Q E → vs.length = ps.length)
    (hbody : ∀ (f : Addr) (cdv : Value) (A : Around) (outer : List Env) (s : Shared) (H : Hp) (vs : List V) (Q : VK) (E : XK), Room k (A.deeper (envOfC x (defScope st) s.heap.objs.size f cdv)) → sp vs H Q E →
      ∃ t, PSs (cxOf (CXe P w) P w K mg base N x (defScope st) f cdv A outer s H E) (defBody st) t ∧ t { nx := fun _ H' => Q .non H', rt := Q } (start N vs) H) : Own.Callee P w K mg base (CXe P w) (k + 1) x ps sp := by
  obtain ⟨f, fd, F, hm, hb⟩ := D.ex
  have kp := F.kp
  obtain ⟨oc, od, kV, doc, pm, an, cdv, ct, osl, rfl, lk, hcd⟩ := F.ex
  exact ⟨f, _, fn_of lk hcd S len fun A outer s H vs Q E hr hsp => hbody f cdv A outer s H vs Q E hr hsp, hm, kp, ⟨_, lk, rfl⟩, hb⟩
end
end ExcR

namespace ExcR
open PySem PySem.Spec PyProof.Rows L2
open Sem (wp)
/-- what is read of a class of errors by isinstance -/
structure ErrGet (K : PySem.W.Frag) (C : Addr) : Prop where
  c : ErrCls K C
  ga : PySem.W.findIn K (.ref C) "__getattribute__" = some (some (.builtin "BaseException.__getattribute__"))
  gt : PySem.W.findIn K (.ref C) "__getattr__" = some none
  cl : PySem.W.findIn K (.ref C) "__class__" = some (some (.builtin "object.__class__"))
  is : (PySem.W.clsIn K C).isSome = true
section
variable {prog : Program} {w : World} {A : Around} {E : Value → Shared → Prop} {h : Heap} {g : Array GenState} {d : Drawn} {t : Nat} {os : OsState} {a C : Addr} {o : Obj} {K : PySem.W.Frag}
theorem xc_get {R : Result → Shared → Prop} (k : K.In h) (G : ErrGet K C) (hx : h.get? a = some o) (hc : o.cls = .ref C) (hq : R (.ok (.ret (.ref C))) ⟨h, g, d, t, os⟩) :
    codeAny (model prog w) A (.call (.builtin "getset_descriptor.__get__") ⟨[.builtin "object.__class__", .ref a, .ref C], []⟩) R ⟨h, g, d, t, os⟩ := by
  obtain ⟨bm, N, nm, q, bs, hdct, sn, sub, ab, col, dd, k0, k1, k2, k3, k5, mN, hC, hN, hni, hT⟩ := G.c.obj k
  have hty : (⟨h, g, d, t, os⟩ : Shared).TypeIs (.builtin "object.__class__") "getset_descriptor" := F.typeOf_object_class
  have hob : (Value.ref C :: bm).contains (.type (".".intercalate ("object.__class__".cutAt '.').dropLast)) = true := by
    rw [F.owner_object_class, List.contains_cons, hT.hasType (b := true) (by decide +kernel)]
    rfl
  refine codeAny_call_builtin F.slot_gs_get.plain F.entry_gs_get (F.slot_gs_get.check _ _ _ _ _ _ _ _ hty (F.args_gs_get _ _ _) ?_)
  repeat (any_goals (first | assumption | (with_reducible refine wpAny_loadPart_at hx ?_; rw [hc]) | (with_reducible refine wpAny_isSubtype_exc hC ?_; rw [hob]) | wp_step))
  refine ⟨Code.quiet_builtin _ (by decide +kernel), codeAny_builtin F.entry_object_class ?_⟩
  repeat (any_goals (first | assumption | (with_reducible refine wpAny_loadPart_at hx ?_; rw [hc]) | wp_step))
theorem xc_entry {tk : Tok} {Q : Fin → Shared → Prop} (k : K.In h) (G : ErrGet K C) (hx : h.get? a = some o) (hc : o.cls = .ref C) (hq : Q (.done (.ret (.ref C))) ⟨h, g, d, t, os⟩) :
    wpAny (model prog w) A (Builtin.«object.__getattribute__» ⟨[.ref a, .str "__class__" tk], []⟩) Q E ⟨h, g, d, t, os⟩ := by
  have hty : (⟨h, g, d, t, os⟩ : Shared).TypeIs (.builtin "object.__class__") "getset_descriptor" := F.typeOf_object_class
  have f1 := F.typeOf_object_class
  have f2 := F.slot_gs_get.lookup
  have f3 := F.slot_gs_set.lookup
  have L := PySem.W.looks_findIn (M := model prog w) k G.cl
  repeat (any_goals (first | assumption | (with_reducible refine wpAny_loadPart_at hx ?_; rw [hc]) | with_reducible refine L.at ?_ | wp_step))
  refine xc_get k G hx hc ?_
  repeat (any_goals (first | assumption | wp_step))
theorem xc_check {M : Model} {v : Value} {Q : Unit → Shared → Prop} (k : K.In h) (G : ErrGet K C) (hx : h.get? a = some o) (hc : o.cls = .ref C) (hq : Q () ⟨h, g, d, t, os⟩) :
    wpAny M A (checkBuiltinCall "BaseException.__getattribute__" ⟨[.ref a, v], []⟩) Q E ⟨h, g, d, t, os⟩ := by
  obtain ⟨bm, N, nm, q, bs, hdct, sn, sub, ab, col, dd, k0, k1, k2, k3, k5, mN, hC, hN, hni, hT⟩ := G.c.obj k
  have hbe : (Value.ref C :: bm).contains (.type "BaseException") = true := by rw [List.contains_cons, hT.hasType (b := true) (by decide +kernel)]; rfl
  have e1 : builtinKind "BaseException.__getattribute__" = some .slot := by decide +kernel
  have e2 : splitId "BaseException.__getattribute__" = some ("BaseException", "__getattribute__") := by decide +kernel
  have e3 := F.args_bexc_ga (.ref a) v
  simp only [checkBuiltinCall, e1, e2]
  refine wpAny_bind ?_
  unfold isInstance
  repeat (first | (with_reducible refine wpAny_loadPart_at hx ?_; rw [hc]) | (with_reducible refine wpAny_isSubtype_exc hC ?_; rw [hbe]) | wp_step)
  exact hq
theorem xc_by {tk : Tok} {Q : Value → Shared → Prop} (k : K.In h) (G : ErrGet K C) (hx : h.get? a = some o) (hc : o.cls = .ref C) (hq : Q (.ref C) ⟨h, g, d, t, os⟩) :
    wpAny (model prog w) A (getAttrBy (.ref a) (.str "__class__" tk) false) Q E ⟨h, g, d, t, os⟩ := by
  obtain ⟨bm, N, nm, q, bs, hdct, sn, sub, ab, col, dd, k0, k1, k2, k3, k5, mN, hC, hN, hni, hT⟩ := G.c.obj k
  have f0 := F.attrBase_ValueError.ga.bind (.ref a)
  have x2 : (Value.builtin "BaseException.__getattribute__" == Value.builtin "object.__getattribute__") = false := by decide +kernel
  have x1 : (onTheHeap (Value.ref C) && Value.builtin "BaseException.__getattribute__" == Value.builtin "object.__getattribute__") = false := by rw [x2]; rfl
  have L := PySem.W.looks_findIn (M := model prog w) k G.ga
  have L2 := PySem.W.looks_findIn (M := model prog w) k G.gt
  repeat (any_goals (first | assumption | (with_reducible refine wpAny_loadPart_at hx ?_; rw [hc]) | with_reducible refine L.at ?_ | with_reducible refine L2.at ?_ | wp_step))
  refine codeAny_call_builtin F.attrBase_ValueError.ga.plain F.entry_bexc_ga (xc_check k G hx hc (xc_entry k G hx hc ?_))
  repeat (any_goals (first | assumption | wp_step))
theorem xc_attr {Q : Option Value → Shared → Prop} (k : K.In h) (G : ErrGet K C) (hx : h.get? a = some o) (hc : o.cls = .ref C) (hq : Q (some (.ref C)) ⟨h, g, d, t + 1, os⟩) :
    wpAny (model prog w) A (getAttr? (.ref a) "__class__") Q E ⟨h, g, d, t, os⟩ := by
  unfold getAttr? getAttrBy?
  repeat (any_goals (first | assumption | with_reducible apply xc_by k G hx hc | wp_step))
end
end ExcR

namespace ExcR
open PySem PySem.Spec PyProof.Rows L2
/-! ### isinstance(e, C), e caught -/
/-- a caught error of the class at C -/
def ErrH (a C : Addr) : HO := .ext fun h => ∃ o, h.get? a = some o ∧ o.cls = .ref C ∧ ∃ vs, o.data = .fields vs
theorem errH_ok {P : Program} {w : World} {H : Hp} {h : Heap} {a T C : Addr} {fl : Value} (x : Trc h a T (.ref C) fl) : ObjOk P w H h a (ErrH a C) := by
  obtain ⟨_, ⟨o, vs, e1, e2, e3, _⟩, _⟩ := x
  exact ⟨⟨o, e1, e2, vs, e3⟩, ⟨o, e1⟩, fun h1 h2 ⟨o1, q1, q2⟩ k => ⟨o1, k o1 q1, q2⟩⟩
theorem is_type {K : PySem.W.Frag} {M : Model} {h : Heap} {C : Addr} (k : K.In h) (e : (PySem.W.clsIn K C).isSome = true) : PySem.W.Looks M h (isType (.ref C)) true := by
  unfold PySem.W.clsIn at e
  split at e
  next ho =>
    intro A' Q' E' s' kk q
    unfold isType loadHead
    exact wpAny_bind (wpAny_loadPart (kk _ _ (k _ _ ho)) (wpAny_pure q))
  next => cases e
theorem kitx_err {K : PySem.W.Frag} {a C : Addr} (G : ErrGet K C) : PySem.W.KitX K (.ref a) (.ref C) (fun h => ∃ o, h.get? a = some o ∧ o.cls = .ref C) where
  ty := fun M h _ ⟨o, h1, h2⟩ => h2 ▸ (PySem.W.Looks.ld h1).andThen .now
  it := fun M h k _ => is_type k G.is
  ne := fun h tp dd its n sl k htp => by
    refine Bool.eq_false_iff.mpr fun q => ?_
    obtain rfl : C = tp := Value.ref.inj (beq_iff_eq.mp q)
    obtain ⟨bm, N, nm, q, bs, hdct, sn, sub, ab, col, dd, k0, k1, k2, k3, k5, mN, hC, _⟩ := G.c.obj k
    rw [htp] at hC
    have z : Value.type "tuple" = Value.type "type" := congrArg Obj.cls (Option.some.inj hC)
    injection z with z
    exact absurd z (by decide)
  ca := fun {prog w A E Q s} k ⟨o, h1, h2⟩ q => by
    obtain ⟨h, g, d, t, os⟩ := s
    exact xc_attr k G h1 h2 q
section
variable {X : Cx}
theorem call_isiE : CallR X (.builtin "isinstance") (fun xs H Q => ∃ (a C : Addr) (c : V) (b : Bool), xs = [.ref a, c] ∧ H a = some (ErrH a C) ∧ ErrGet X.K C ∧ (∃ cv : Value, (∀ u, RelV c u → u = cv) ∧ PySem.W.kitOne X.K (.ref C) cv = some b) ∧ Q (.bl b) H) := by
  intro pins s σ H xs us Q I rv h
  obtain ⟨a, C, c, b, rfl, ha, G, ⟨cv, hcv, e⟩, q⟩ := h
  cases rv with
  | cons r rr =>
    cases rr with
    | cons r' rr' =>
      cases rr'
      obtain rfl : _ = Value.ref a := r
      cases hcv _ r'
      obtain ⟨⟨o, h1, h2, _⟩, _⟩ := (show ObjOk X.prog X.w H s.heap a (ErrH a C) from I.hok a _ ha)
      exact PySem.W.kia_one (kitx_err G) I.kIn ⟨o, h1, h2⟩ e (fun z => nomatch z) fun tk => ⟨.bl b, H, I.tok tk, rfl, q⟩
theorem call_isiEK {K : PySem.W.Frag} (hK : X.K = K := by rfl) : CallR X (.builtin "isinstance") (fun xs H Q => ∃ (a C : Addr) (c : V) (b : Bool), xs = [.ref a, c] ∧ H a = some (ErrH a C) ∧ ErrGet K C ∧ (∃ cv : Value, (∀ u, RelV c u → u = cv) ∧ PySem.W.kitOne K (.ref C) cv = some b) ∧ Q (.bl b) H) := by
  subst hK
  exact call_isiE
end
/-! ### try -/
theorem un_after {fs ex : List Addr} {H H' : Hp} {h h1 h2 : Heap} (u : Un fs [] H H' h h1) (k : KeepX fs ex h1 h2) (hx : ∀ b ∈ ex, h.get? b = none) : Un fs [] H H' h h2 := by
  have out : ∀ b o, h.get? b = some o → b ∉ ex := fun b o q z => by rw [hx b z] at q; cases q
  refine ⟨fun b o q n nf ne => k.keep b o (u.keep b o q n nf ne) nf (out b o q), fun b o q n hf ne => ?_, u.free, fun b o q ne => ?_, u.tups, u.frzs, u.tbls⟩
  · obtain ⟨sl, q1⟩ := u.slot b o q n hf ne
    obtain ⟨sl2, q2⟩ := k.slot b _ q1 (out b o q)
    exact ⟨sl2, q2⟩
  · obtain ⟨o1, q1⟩ := u.there b o q ne
    obtain ⟨sl2, q2⟩ := k.slot b _ q1 (out b o q)
    exact ⟨_, q2⟩
/-- the suite's context -/
def sufX (X : Cx) (a : Addr) : Cx := { X with A := X.A.mark (some (.ref a)), calm := false, xe := fun _ _ => False }
/-- the body's -/
def tryX (X : Cx) (pins : List (Addr × Obj)) (D : Ends) (h0 : ExceptHandler) : Cx :=
  { X with pn := X.pn ++ pins, xe := fun e s1 => wpAny (model X.prog X.w) X.A (noteFrame e X.env) (fun _ s2 => wpAny (model X.prog X.w) X.A (setFlight e none) (fun _ s3 => wpAny (model X.prog X.w) X.A (handleBy e X.env [h0]) (SP X pins D) X.xe s3) X.xe s2) X.xe s1 }
section
variable {X : Cx} {pins pins1 : List (Addr × Obj)} {σ : L2.St} {H H' : Hp} {s s' : Shared} {a T C : Addr} {D : Ends} {h0 : ExceptHandler}
theorem ok_suf (o : X.Ok) : (sufX X a).Ok := ⟨o.mod, o.kind, o.glob, o.blt, o.above, o.inj, o.has, o.cab, (fun z => nomatch z), o.frames, o.stk, o.exf, o.bs, o.bsz, o.noex, o.exfs, o.funs, o.frf⟩
theorem inv_suf (I : Inv X pins σ H s) : Inv (sufX X a) pins σ H s := ⟨ok_suf I.ok, I.os, I.bare, I.base, I.loc, I.cell, I.free, I.freeC, I.pin, I.hok, I.len⟩
theorem inv_uns (o : X.Ok) (I : Inv (sufX X a) pins σ H s) : Inv X pins σ H s := ⟨o, I.os, I.bare, I.base, I.loc, I.cell, I.free, I.freeC, I.pin, I.hok, I.len⟩
theorem ok_try (o : X.Ok) : (tryX X pins D h0).Ok := ⟨o.mod, o.kind, o.glob, o.blt, o.above, o.inj, o.has, o.cab, o.hd, o.frames, o.stk, o.exf, o.bs, o.bsz, o.noex, o.exfs, o.funs, o.frf⟩
theorem ok_unt (o : (tryX X pins D h0).Ok) : X.Ok := ⟨o.mod, o.kind, o.glob, o.blt, o.above, o.inj, o.has, o.cab, o.hd, o.frames, o.stk, o.exf, o.bs, o.bsz, o.noex, o.exfs, o.funs, o.frf⟩
theorem inv_try (I : Inv X pins σ H s) : Inv (tryX X pins D h0) [] σ H s := ⟨ok_try I.ok, I.os, I.bare, I.base, I.loc, I.cell, I.free, I.freeC, fun p hp => I.pin p (by simpa [tryX] using hp), I.hok, I.len⟩
theorem inv_unt (I : Inv (tryX X pins D h0) pins1 σ H s) : Inv X pins σ H s := ⟨ok_unt I.ok, I.os, I.bare, I.base, I.loc, I.cell, I.free, I.freeC, fun p hp => I.pin p (List.mem_append_left _ hp), I.hok, I.len⟩
/-- a name of the frame's own goes -/
theorem inv_goes {i : Nat} {n : Str} {m : Str → Option Value} {v : Option Value} {h' : Heap} {tk : Nat} (I : Inv X pins σ H s) (hN : X.N.Nodup) (hi : X.N[i]? = some n) (hk : X.env.scope.names.lookup n = some .local)
    (hm : ∀ (i : Nat) (x : Str) (v : V), X.N[i]? = some x → σ[i]? = some (some v) → Vis X.env.scope x → ∃ u, RelV v u ∧ Look X.env s.heap m x u) (hn : s.heap.Ns X.env.locals m)
    (hn' : h'.Ns X.env.locals (fun x => if x = n then v else m x)) (hs : Heap.SameBut X.env.locals s.heap h') : Inv X pins (σ.set i none) H { s with heap := h', toks := tk } := by
  have cne := I.cne
  have nl : ∀ {b o}, X.s₀.heap.get? b = some o → b ≠ X.env.locals := fun e => Nat.ne_of_lt (Nat.lt_of_lt_of_le (Heap.lt_size e) I.ok.above)
  refine ⟨I.ok, I.os, I.bare, ⟨fun b o e n hb hx => (hs.2 b (nl e)).trans (I.base.keep b o e n hb hx), fun b o e n hb hx => ?_, I.base.free, fun b o e hx => ?_, I.base.tups, I.base.frzs, I.base.tbls⟩, ⟨_, hn', fun j y v' e1 e2 e3 => ?_⟩, fun y c e => ?_, I.free, I.freeC, fun p hp => ?_, fun b ob e => ?_, by simpa using I.len⟩
  · obtain ⟨sl, e1⟩ := I.base.slot b o e n hb hx
    exact ⟨sl, (hs.2 b (nl e)).trans e1⟩
  · obtain ⟨o', e1⟩ := I.base.there b o e hx
    exact ⟨o', (hs.2 b (nl e)).trans e1⟩
  · by_cases hj : j = i
    · subst hj
      have hz : j < σ.length := by rw [I.len]; exact (List.getElem?_eq_some_iff.mp hi).1
      rw [List.getElem?_set_self hz] at e2
      cases e2
    · rw [List.getElem?_set_ne (Ne.symm hj)] at e2
      obtain ⟨u', r', q⟩ := hm j y v' e1 e2 e3
      refine ⟨u', r', ?_⟩
      rcases q with ⟨k, e⟩ | ⟨k, c, e, z⟩
      · have hy : y ≠ n := fun z => hj (nodup_ix hN e1 (z ▸ hi))
        exact .inl ⟨k, by simp [hy, e]⟩
      · exact .inr ⟨k, c, e, z.sameBut hs (cne y c e)⟩
  · obtain ⟨w', z⟩ := I.cell y c e
    exact ⟨w', z.sameBut hs (cne y c e)⟩
  · obtain ⟨e, n, ne, nf, d⟩ := I.pin p hp
    exact ⟨(hs.2 p.1 ne).trans e, n, ne, nf, d⟩
  · refine (I.hok b ob e).stay (fun c u hc q => (hs.2 c ?_).trans q) (fun _ q => q) fun _ _ q => q
    rintro rfl
    have hf := I.free
    rcases hc with z | z
    · rw [← z, hf] at e; cases e
    · rw [hf] at z; cases z
end
/-- ends of an except suite, whose name goes -/
def sufD (i : Nat) (D : Ends) : Ends := { nx := fun σ H => D.nx (σ.set i none) H, rt := D.rt, bk := fun σ H => D.bk (σ.set i none) H, ct := fun σ H => D.ct (σ.set i none) H }
/-- what a caught error must find: the clause's class at C0, its name in the i-th slot, the suite's reading -/
def hx (K : PySem.W.Frag) (C0 : Addr) (i : Nat) (ts : TS) (D : Ends) : L2.St → XK := fun σ c _ H => ∃ C, c = .ref C ∧ ErrGet K C ∧ PySem.W.exmOne K (.ref C) (.ref C0) = some true ∧
  ∀ a, H a = none → ts (sufD i D) (σ.set i (some (.ref a))) (upd H a (ErrH a C))
/-- a callee's exception, by the names' values -/
def PassesS (CX : CXT) (X : Cx) (E : L2.St → XK) : Prop := ∀ (pins : List (Addr × Obj)) (σ : L2.St) (H : Hp) (s : Shared) (e : Value) (s' : Shared), Inv X pins σ H s → CX X.stack H s (E σ) e s' → X.xe e s'
def tCallS (sp : Sp) (E : L2.St → XK) (t : TA) : TE := fun σ H Q => t σ H fun vs H1 => sp (vs ++ []) H1 Q (E σ)
section
variable {X : Cx} {CX : CXT} {k : Nat} {ps : List Str} {sp : Sp} {E : L2.St → XK} {x : Str} {p pos : Pos} {e : Expr} {es : List Expr} {t : TA}
theorem pe_fnS (C : Own.Callee X.prog X.w X.K X.mg X.base CX k x ps sp) (hr : Room k X.A) (hp : PassesS CX X E) (ha : PA X (e :: es) t) (hg : Gl X x := by rfl)
    (hdb : (x == ("__debug__" : Str)) = false := by decide) (he : starEach (e :: es) X.env = (false, eval e X.env) :: starEach es X.env := by rfl) (hpl : (backTo pos (starEach es X.env)).any (·.1) = false := by rfl) :
    PE X (.Call (.Name x p) (e :: es) [] pos) (tCallS sp E t) := by
  obtain ⟨f, fd, F, hm, hk, _, hb⟩ := C.ex
  intro pins s σ H Q I h
  refine wpAny_Call_Name_kw (ld_glob I hg hm ?_ hdb)
  refine PySem.W.callWith_K (h₀ := X.base) I.ok.mod.kin hk (thn (ha pos pins s σ H _ I h) fun us s1 ⟨vs, H1, I1, r, q⟩ => ⟨I1.kIn, ?_⟩) he hpl
  have hl : (us ++ []).length = ps.length := by rw [List.append_nil, ← r.length, ← F.len _ _ _ _ q, List.append_nil]
  refine wpAny_call (codeAny_mono (F.run X.A X.stack s1 H1 ⟨us, []⟩ (us ++ []) (vs ++ []) Q (E σ) hr I1.env0 (hb s1 us I1.kIn hl) (by simpa using r) q) fun r s' hq => ?_)
  cases r with
  | error e => exact hp pins σ H1 s1 e s' I1 hq
  | ok fl =>
    cases fl with
    | ret u => exact I1.after hq
    | next => exact False.elim hq
    | brk => exact False.elim hq
    | cont => exact False.elim hq
end
section
variable {X : Cx} {pins : List (Addr × Obj)} {D : Ends} {x n : Str} {np hpos pos : Pos} {b0 : Stmt} {suite body : List Stmt} {C0 : Addr} {i : Nat} {ts : TS}
theorem passes_try (hst : X.stack = X.env :: X.outer) (hfr : X.env.frame = some X.env.locals) (hN : X.N.Nodup) (hi : X.N[i]? = some n) (hk : X.env.scope.names.lookup n = some .local) (hg : Gl X x) (hm : X.mg x = some (.ref C0)) (hdb : (x == ("__debug__" : Str)) = false)
    (hs : ∀ a, PSs (sufX X a) (b0 :: suite) ts) : PassesS (CXe X.prog X.w) (tryX X pins D (.ExceptHandler (some (.Name x np)) (some n) (b0 :: suite) hpos)) (hx X.K C0 i ts D) := by
  rintro pins1 σ H s e s' I ⟨a, T, C, H', rfl, y, C', ec, G, em, q⟩
  obtain rfl : C = C' := Value.ref.inj ec
  have I := inv_unt I
  have J : Inv X pins σ H' s' := I.call' (ch := []) y.os y.un y.hok y.bare fun b z => absurd z (by simp)
  have hF := J.stack
  have hA := J.ok.frames
  rw [hst] at hF hA
  -- the frame is noted
  refine note_next hA hF hfr y.tr fun h2 T2 hT2 tr2 k2 => ?_
  have nT2 : s.heap.get? T2 = none := by
    cases z : s.heap.get? T2 with
    | none => rfl
    | some o =>
      obtain ⟨o1, z1⟩ := y.un.there T2 o z (by simp)
      exact absurd (Heap.lt_size z1) (Nat.not_lt.mpr hT2)
  have fT2 : H' T2 = none := y.hok.fresh hT2
  have u2 : Un (frs X.stack) [] H H' s.heap h2 := un_after y.un (by rw [hst]; exact k2) fun b hb => by
    rcases List.mem_cons.mp hb with rfl | hb
    · exact y.na
    · rw [List.mem_singleton.mp hb]; exact y.nT
  have ok2 : HOk X.prog X.w H' h2 := hok_keep y.hok k2 (fun b hb => J.stkFree b (by rw [hst]; exact hb)) fun b hb => by
    rcases List.mem_cons.mp hb with rfl | hb
    · exact y.fa
    · rw [List.mem_singleton.mp hb]; exact y.fT
  -- no longer in flight
  refine flight_off (s := { s' with heap := h2 }) tr2 fun h3 tr3 k3 => ?_
  have u3 : Un (frs X.stack) [] H H' s.heap h3 := un_after u2 (k3.mono (by simp) fun _ z => z) fun b hb => by rw [List.mem_singleton.mp hb]; exact nT2
  have ok3 : HOk X.prog X.w H' h3 := hok_keep ok2 k3 (by simp) fun b hb => by rw [List.mem_singleton.mp hb]; exact fT2
  have J3 : Inv X pins σ H' { s' with heap := h3 } := I.call' (s' := { s' with heap := h3 }) (ch := []) y.os u3 ok3 y.bare fun b z => absurd z (by simp)
  have S3 : Inv (sufX X a) pins σ H' { s' with heap := h3 } := inv_suf J3
  -- the clause
  refine wpAny_handleBy_cons (codeAny_handlers_test (ld_glob S3 hg hm ?_ hdb)) (by intro z; cases z)
  obtain ⟨_, ⟨oe, vs, g1, g2, g3, g4⟩, _⟩ := id tr3
  refine (PySem.W.exm_one (M := model X.prog X.w) (cls := .ref C) J3.kIn (g2 ▸ (PySem.W.Looks.ld g1).andThen .now) em).here ?_
  -- its suite
  refine codeAny_handlers_suite_as (flight_off (s := { s' with heap := h3 }) tr3 fun h4 tr4 k4 => ?_)
  have u4 : Un (frs X.stack) [] H H' s.heap h4 := un_after u3 (k4.mono (by simp) fun _ z => z) fun b hb => by rw [List.mem_singleton.mp hb]; exact nT2
  have ok4 : HOk X.prog X.w H' h4 := hok_keep ok3 k4 (by simp) fun b hb => by rw [List.mem_singleton.mp hb]; exact fT2
  have fr4 : ∀ b, b = a → H b = none := fun b z => by rw [z]; exact free_of I.hok y.na
  have u5 : Un (frs X.stack) [] H (upd H' a (ErrH a C)) s.heap h4 := by
    have ne : ∀ b o, s.heap.get? b = some o → b ≠ a := fun b o z w => by rw [w, y.na] at z; cases z
    have ne2 : ∀ b o, H' b = some o → b ≠ a := fun b o z w => by rw [w, y.fa] at z; cases z
    refine ⟨u4.keep, u4.slot, fun b o z n m => by rw [upd_ne (ne b o z)]; exact u4.free b o z n m, u4.there, fun b xs z => ?_, fun b o u z => ?_, fun b ps z => ?_⟩
    · rw [upd_ne (ne2 b _ (u4.tups b xs z))]; exact u4.tups b xs z
    · rw [upd_ne (ne2 b _ (u4.frzs b o u z))]; exact u4.frzs b o u z
    · obtain ⟨more, z1⟩ := u4.tbls b ps z
      exact ⟨more, by rw [upd_ne (ne2 b _ z1)]; exact z1⟩
  have ok5 : HOk X.prog X.w (upd H' a (ErrH a C)) h4 := fun b ob e => by
    by_cases hb : b = a
    · subst hb
      rw [upd_same] at e
      cases e
      exact errH_ok tr4
    · rw [upd_ne hb] at e
      refine (ok4 b ob e).stay (fun _ _ _ z => z) (fun c z => ?_) fun c xs z => ?_
      · rw [upd_ne fun w => by rw [w, y.fa] at z; cases z]; exact z
      · rw [upd_ne fun w => by rw [w, y.fa] at z; cases z]; exact z
  have J5 : Inv X pins σ (upd H' a (ErrH a C)) { s' with heap := h4 } := I.call' (s' := { s' with heap := h4 }) (ch := []) y.os u5 ok5 y.bare fun b z => absurd z (by simp)
  have S5 : Inv (sufX X a) pins σ (upd H' a (ErrH a C)) { s' with heap := h4 } := inv_suf J5
  refine store_ok (X := sufX X a) S5 hN hi (.inl hk) (v := .ref a) rfl (fun s6 S6 => ?_) (.inr hk)
  refine wpAny_mono (hs a pins s6 _ _ _ S6 (q a y.fa)) (fun f s7 h7 => ?_) fun _ _ z => z.elim
  -- the name goes
  have gone : ∀ {σ' : L2.St} {H7 : Hp} {R : Unit → Shared → Prop}, Inv (sufX X a) pins σ' H7 s7 → (∀ s8, Inv X pins (σ'.set i none) H7 s8 → R () s8) → wpAny (model X.prog X.w) X.A (do bindName X.env n .none; unbindBehindTheSuite X.env n hpos) R X.xe s7 := fun {σ' H7 R} S7 hR => by
    obtain ⟨m, hn, hl⟩ := id S7.loc
    exact wpAny_nameGoes_keeps hk hn (by rw [show X.env.scope.kind = .function from J5.ok.kind]; rfl) fun h8 v hn8 hs8 => hR _ (inv_goes (inv_uns J5.ok S7) hN hi hk hl hn hn8 hs8)
  cases f with
  | next => obtain ⟨σ', H7, S7, q7⟩ := h7; exact gone S7 fun s8 I8 => ⟨_, _, I8, q7⟩
  | brk => obtain ⟨σ', H7, S7, q7⟩ := h7; exact gone S7 fun s8 I8 => ⟨_, _, I8, q7⟩
  | cont => obtain ⟨σ', H7, S7, q7⟩ := h7; exact gone S7 fun s8 I8 => ⟨_, _, I8, q7⟩
  | ret u => obtain ⟨v, σ', H7, S7, rv, q7⟩ := h7; exact gone S7 fun s8 I8 => ⟨v, _, _, I8, rv, q7⟩
/-- try: body; except C0 as n: suite -/
theorem ps_try {tb : Ends → TS} (hb : ∀ pins D, PSs (tryX X pins D (.ExceptHandler (some (.Name x np)) (some n) (b0 :: suite) hpos)) body (tb D)) :
    PS X (.Try body [.ExceptHandler (some (.Name x np)) (some n) (b0 :: suite) hpos] [] [] pos) (fun D σ H => tb D D σ H) := by
  intro pins s σ H D I h
  refine wpAny_Try_except (wpAny_mono (hb pins D [] s σ H D (inv_try I) h) (fun f s1 h1 => ?_) fun _ _ z => z)
  cases f with
  | next =>
    obtain ⟨σ', H', J, q⟩ := h1
    exact wpAny_pure ⟨σ', H', inv_unt J, q⟩
  | brk => obtain ⟨σ', H', J, q⟩ := h1; exact ⟨σ', H', inv_unt J, q⟩
  | cont => obtain ⟨σ', H', J, q⟩ := h1; exact ⟨σ', H', inv_unt J, q⟩
  | ret u => obtain ⟨v, σ', H', J, r, q⟩ := h1; exact ⟨v, σ', H', inv_unt J, r, q⟩
end
/-! ### names of the module -/
/-- the class that stands under the name -/
def clsOf (mg : Str → Option Value) (x : Str) : Addr := match mg x with
  | some (.ref C) => C
  | _ => 0
theorem clsOf_eq {mg : Str → Option Value} {x : Str} {C : Addr} (h : mg x = some (.ref C)) : clsOf mg x = C := by unfold clsOf; rw [h]
theorem pe_cls {X : Cx} {x : Str} {C : Addr} {pos : Pos} (h : X.mg x = some (.ref C)) (hg : Gl X x := by rfl) (hd : (x == ("__debug__" : Str)) = false := by decide) : PE X (.Name x pos) (tC (.ref C)) := pe_glob hg h rfl hd
end ExcR

namespace Own
open PySem PySem.Spec PyProof.Rows L2 M
section
variable {X : Cx} {pins : List (Addr × Obj)} {σ : L2.St} {H : Hp} {s : Shared}
/-! ### pairs of ints: ==, in -/
/-! ### xs.count(z) -/
end
end Own
namespace M
open PySem PySem.Spec PyProof.Rows L2 Own
section
variable {α : Type} {R : Hp → V → α → Prop} {H : Hp}
theorem LV.cons_iff {v : V} {vs : List V} {x : α} {xs : List α} : LV R H (v :: vs) (x :: xs) ↔ R H v x ∧ LV R H vs xs := by
  constructor
  · intro h
    obtain ⟨v', e, r⟩ := h.2 0 x rfl
    cases e
    exact ⟨r, by simpa using h.1, fun i y e => h.2 (i + 1) y e⟩
  · rintro ⟨r, h⟩
    refine ⟨by simp [h.1], fun i y e => ?_⟩
    cases i with
    | zero => cases e; exact ⟨v, rfl, r⟩
    | succ i => exact h.2 i y e
/-- the items that a test lets by, as they are -/
def pick (c : α → Bool) (d : V × α) : Option V := if c d.2 = true then some d.1 else none
theorem LV.pick (c : α → Bool) : ∀ {vs : List V} {xs : List α}, LV R H vs xs → LV R H ((vs.zip xs).filterMap (pick c)) (xs.filter c)
  | [], [], _ => LV.nil
  | [], _ :: _, h => absurd h.1 (by simp)
  | _ :: _, [], h => absurd h.1 (by simp)
  | v :: vs, x :: xs, h => by
    obtain ⟨r, h⟩ := LV.cons_iff.mp h
    have ih := LV.pick c h
    rw [List.zip_cons_cons]
    by_cases e : c x = true
    · rw [List.filterMap_cons_some (show M.pick c (v, x) = some v from if_pos e), List.filter_cons_of_pos e]
      exact LV.cons_iff.mpr ⟨r, ih⟩
    · rw [List.filterMap_cons_none (show M.pick c (v, x) = none from if_neg e), List.filter_cons_of_neg e]
      exact ih
end
end M


namespace Own
open PySem PySem.Spec PyProof.Rows L2 M
section
variable {X : Cx}
/-! ### range(i, j) as a thing, list of it -/
theorem call_range2 : CallR X (.type "range") (fun xs H Q => ∃ i j : Int, xs = [.int i, .int j] ∧ ∀ r, H r = none → Q (.ref r) (upd H r (.rng i j))) := by
  intro pins s σ H xs us Q I rv h
  obtain ⟨i, j, rfl, q⟩ := h
  cases rv with
  | cons r rr =>
    cases rr with
    | cons r' rr =>
      cases rr
      obtain ⟨t, rfl⟩ := r
      obtain ⟨t', rfl⟩ := r'
      refine call_range_2 ⟨.ref s.heap.objs.size, upd H s.heap.objs.size (.rng i j), ?_, rfl, q _ (I.hok.fresh (Nat.le_refl _))⟩
      exact I.laid (t' := s.toks + 1) (fun b o e => Heap.get?_push_of_some _ e) (Nat.le_refl _) ⟨t, t', s.toks, Heap.get?_push_size _ rfl⟩
/-- the numbers from i on, n of them -/
def runI (i : Int) (n : Nat) : List Int := (List.range n).map fun (k : Nat) => i + (k : Int)
theorem vals_run {i : Int} : ∀ (n : Nat) (us : List Value), us.length = n → (∀ (j : Nat) (v : Value), us[j]? = some v → ∃ t, v = Value.int (i + (j : Int) * 1) t) → Vals ((runI i n).map V.int) us := by
  intro n us hl h
  have key : ∀ (us : List Value) (o : Nat), (∀ (j : Nat) (v : Value), us[j]? = some v → ∃ t, v = Value.int (i + ((o + j : Nat) : Int)) t) → Vals (((List.range' o us.length).map fun (k : Nat) => i + (k : Int)).map V.int) us := by
    intro us
    induction us with
    | nil => intro o _; exact .nil
    | cons u us ih =>
      intro o h
      obtain ⟨t, e⟩ := h 0 u rfl
      show Vals (((List.range' o (us.length + 1)).map fun (k : Nat) => i + (k : Int)).map V.int) (u :: us)
      rw [List.range'_succ, List.map_cons, List.map_cons]
      refine .cons ⟨t, by rw [e]; simp⟩ (ih (o + 1) fun j v hv => ?_)
      obtain ⟨t', e'⟩ := h (j + 1) v hv
      exact ⟨t', by rw [e']; congr 1 <;> omega⟩
  have := key us 0 (fun j v hv => by obtain ⟨t, e⟩ := h j v hv; exact ⟨t, by rw [e]; congr 1 <;> omega⟩)
  unfold runI
  rw [List.range_eq_range', ← hl]
  exact this
theorem call_listR (hc : X.calm = true) : CallR X (.type "list") (fun xs H Q => ∃ (r : Addr) (i j : Int), xs = [.ref r] ∧ H r = some (.rng i j) ∧ (-(2 ^ 62) ≤ i ∧ i < 2 ^ 62 ∧ -(2 ^ 62) ≤ j ∧ j < 2 ^ 62) ∧ (j - i).toNat ≤ 1000000 ∧
    ∀ l, H l = none → Q (.ref l) (upd H l (.lst ((runI i (j - i).toNat).map V.int)))) := by
  intro pins s σ H xs us Q I rv h
  obtain ⟨r, i, j, rfl, hr, ⟨b1, b2, b3, b4⟩, hn, q⟩ := h
  obtain ⟨u, rfl, ru⟩ := rv.one
  obtain rfl : u = Value.ref r := ru
  obtain ⟨t, u, v, e⟩ := (show ObjOk X.prog X.w H s.heap r (.rng i j) from I.hok r _ hr)
  refine call_list_range (I.ok.hd hc) (show IsRange s.heap r i j 1 t u v from e) (small_one b1 b2 b3 b4) (rangeSize_nat i j) (Nat.le_trans hn (by decide)) fun h' tk acc c hk hD hI => ?_
  refine ⟨.ref s.heap.objs.size, upd H s.heap.objs.size (.lst ((runI i (j - i).toNat).map V.int)), ?_, rfl, q _ (I.hok.fresh (Nat.le_refl _))⟩
  have hv : Vals ((runI i (j - i).toNat).map V.int) acc.toList := vals_run _ _ (by rw [Array.length_toList]; exact hI.1) fun k w hw => hI.2 k w (by rw [← hw, Array.getElem?_toList])
  refine I.laid (t' := tk) hk (Nat.le_refl _) ⟨?_, acc.toList, c, hv, by simpa using hD⟩
  rw [List.length_map]
  unfold runI
  rw [List.length_map, List.length_range]
  exact Nat.le_trans hn (by decide)
end
end Own
namespace M
open PySem PySem.Spec PyProof.Rows L2 Own
end M


namespace Own
open PySem PySem.Spec PyProof.Rows L2
section
variable {X : Cx} {K : PySem.W.Frag}
/-! ### sum, min, max, any of a list -/
/-! ### == [] and != [], whatever the list holds -/
def rEqE (K : PySem.W.Frag) (neg : Bool) : R2 := fun x y H Q => ∃ (p q : Addr) (xs : List V), x = .ref p ∧ y = .ref q ∧ SqL K H p xs ∧ SqL K H q [] ∧ Q (.bl (if neg then !xs.isEmpty else xs.isEmpty)) H
theorem op_eqE (hu : X.A.units < cLine) (hK : X.K = K := by rfl) : OpR X (compareOp .Eq) (rEqE K false) := by
  subst hK
  intro pins s σ H x y v u Q I rx ry h
  obtain ⟨p, q, xs, rfl, rfl, hp, hq, k⟩ := h
  obtain rfl : v = Value.ref p := rx
  obtain rfl : u = Value.ref q := ry
  obtain ⟨us, r1, p1, _⟩ := I.list hp
  obtain ⟨ws, r2, p2, _⟩ := I.list hq
  have l1 := r1.length
  have l2 : 0 = ws.length := r2.length
  have k' : Q (.bl xs.isEmpty) H := k
  by_cases e : xs.length = 0
  · refine SeqAt.eq_listAt (e := fun _ => true) p1.isList p2.isList (by simp; omega) hu (fun j h1 h2 => by simp at h2; omega) ⟨.bl xs.isEmpty, H, I, ?_, k'⟩
    show _ = Value.bool xs.isEmpty
    have : xs = [] := List.length_eq_zero_iff.mp e
    subst this
    rw [List.size_toArray, ← l1]
    rfl
  · refine SeqAt.eq_list_lengthsAt p1.isList p2.isList (by simp; omega) hu ⟨.bl xs.isEmpty, H, I, ?_, k'⟩
    show _ = Value.bool xs.isEmpty
    cases xs with
    | nil => exact absurd rfl e
    | cons a r => rfl
theorem op_neE (hu : X.A.units < cLine) (hK : X.K = K := by rfl) : OpR X (compareOp .NotEq) (rEqE K true) := by
  subst hK
  intro pins s σ H x y v u Q I rx ry h
  obtain ⟨p, q, xs, rfl, rfl, hp, hq, k⟩ := h
  obtain rfl : v = Value.ref p := rx
  obtain rfl : u = Value.ref q := ry
  obtain ⟨us, r1, p1, _⟩ := I.list hp
  obtain ⟨ws, r2, p2, _⟩ := I.list hq
  have l1 := r1.length
  have l2 : 0 = ws.length := r2.length
  have k' : Q (.bl (!xs.isEmpty)) H := k
  by_cases e : xs.length = 0
  · refine SeqAt.RcNeAt.lists (e := fun _ => true) p1.isList p2.isList (by simp; omega) hu (fun j h1 h2 => by simp at h2; omega) _ _ _ _ ⟨.bl (!xs.isEmpty), H, I, ?_, k'⟩
    show _ = Value.bool (!xs.isEmpty)
    have : xs = [] := List.length_eq_zero_iff.mp e
    subst this
    rw [List.size_toArray, ← l1]
    rfl
  · refine SeqAt.RcNeAt.lists_lengths p1.isList p2.isList (by simp; omega) hu _ _ _ _ ⟨.bl (!xs.isEmpty), H, I, ?_, k'⟩
    show _ = Value.bool (!xs.isEmpty)
    cases xs with
    | nil => exact absurd rfl e
    | cons a r => rfl
end
end Own

namespace M
open PySem PySem.Spec PyProof.Rows L2 Own
/-! ### rings of wishes -/
/-- a chain: each is wished ahead of the next -/
def Chain (ws : List (Int × Int)) (r : List Int) : Prop := ∀ (i : Nat) (x y : Int), r[i]? = some x → r[i + 1]? = some y → (x, y) ∈ ws
structure Ring (hs : List Int) (ws : List (Int × Int)) (r : List Int) : Prop where
  two : 2 ≤ r.length
  nodup : r.Nodup
  sub : ∀ x ∈ r, x ∈ hs
  chain : Chain ws r
  last : ∀ x y, r[0]? = some x → r[r.length - 1]? = some y → (y, x) ∈ ws
/-- each of a ring has one of it ahead -/
theorem Ring.ahead {hs : List Int} {ws : List (Int × Int)} {r : List Int} (R : Ring hs ws r) {x : Int} (hx : x ∈ r) : ∃ y ∈ r, (y, x) ∈ ws := by
  obtain ⟨i, hi, e⟩ := List.mem_iff_getElem.mp hx
  have two := R.two
  cases i with
  | zero =>
    have hl : r.length - 1 < r.length := by omega
    exact ⟨r[r.length - 1], List.getElem_mem hl, R.last x _ (by rw [List.getElem?_eq_getElem hi, e]) (List.getElem?_eq_getElem hl)⟩
  | succ i =>
    have hl : i < r.length := by omega
    exact ⟨r[i], List.getElem_mem hl, R.chain i _ x (List.getElem?_eq_getElem hl) (by rw [List.getElem?_eq_getElem hi, e])⟩
end M

namespace M
/-! ### rows of wishes, step by step; the first of the shortest that come round -/
/-- strictly ahead by the numbers from the left, of as many -/
def sl : List Int → List Int → Prop
  | x :: xs, y :: ys => x < y ∨ (x = y ∧ sl xs ys)
  | _, _ => False
theorem sl_snoc : ∀ {a b : List Int} (x y : Int), sl a b → sl (a ++ [x]) (b ++ [y])
  | [], [], _, _, h => by unfold sl at h; exact h.elim
  | [], _ :: _, _, _, h => by unfold sl at h; exact h.elim
  | _ :: _, [], _, _, h => by unfold sl at h; exact h.elim
  | p :: a, q :: b, x, y, h => by
    rw [List.cons_append, List.cons_append]
    unfold sl at h ⊢
    rcases h with h | ⟨h1, h2⟩
    · exact .inl h
    · exact .inr ⟨h1, sl_snoc x y h2⟩
theorem sl_trans : ∀ {a b c : List Int}, sl a b → sl b c → sl a c
  | [], b, c, h, _ => by unfold sl at h; exact h.elim
  | _ :: _, [], _, h, _ => by unfold sl at h; exact h.elim
  | _ :: _, _ :: _, [], _, h => by unfold sl at h; exact h.elim
  | x :: a, y :: b, z :: c, h1, h2 => by
    unfold sl at h1 h2 ⊢
    rcases h1 with h1 | ⟨h1, k1⟩
    · rcases h2 with h2 | ⟨h2, k2⟩
      · exact .inl (by omega)
      · exact .inl (by omega)
    · rcases h2 with h2 | ⟨h2, k2⟩
      · exact .inl (by omega)
      · exact .inr ⟨by omega, sl_trans k1 k2⟩
def lastI (g : Int) : List Int → Int
  | [] => g
  | x :: t => lastI x t
theorem last_app (g : Int) : ∀ (a b : List Int), lastI g (a ++ b) = lastI (lastI g a) b
  | [], b => rfl
  | x :: a, b => last_app x a b
theorem last_get (g : Int) : ∀ (t : List Int), (g :: t)[t.length]? = some (lastI g t)
  | [] => rfl
  | x :: t => by
    rw [List.length_cons, List.getElem?_cons_succ]
    exact last_get x t
/-- a way from g over members of C -/
def Path (C : Int → Prop) (ws : List (Int × Int)) : Int → List Int → Prop
  | _, [] => True
  | g, x :: t => C x ∧ (g, x) ∈ ws ∧ Path C ws x t
section
variable {C : Int → Prop} {ws : List (Int × Int)}
theorem path_app : ∀ {g : Int} {a b : List Int}, Path C ws g (a ++ b) ↔ Path C ws g a ∧ Path C ws (lastI g a) b
  | g, [], b => ⟨fun h => ⟨trivial, h⟩, fun h => h.2⟩
  | g, x :: a, b => by
    rw [List.cons_append]
    constructor
    · rintro ⟨h1, h2, h3⟩
      have := path_app.mp h3
      exact ⟨⟨h1, h2, this.1⟩, this.2⟩
    · rintro ⟨⟨h1, h2, h3⟩, h4⟩
      exact ⟨h1, h2, path_app.mpr ⟨h3, h4⟩⟩
theorem path_mem : ∀ {g : Int} {t : List Int}, Path C ws g t → ∀ x ∈ t, C x
  | g, [], _, x, h => by cases h
  | g, y :: t, ⟨h1, _, h3⟩, x, h => by
    rcases List.mem_cons.mp h with rfl | h
    · exact h1
    · exact path_mem h3 x h
theorem path_chain : ∀ {g : Int} {t : List Int}, Path C ws g t → Chain ws (g :: t)
  | g, [], _ => fun i x y h1 h2 => by simp at h2
  | g, z :: t, ⟨h1, h2, h3⟩ => fun i x y k1 k2 => by
    cases i with
    | zero =>
      cases k1
      cases k2
      exact h2
    | succ i => exact path_chain h3 i x y k1 k2
end
/-- what comes round from l, over greater ones of hs -/
def Gr (hs : List Int) (l : Int) : Int → Prop := fun x => x ∈ hs ∧ l < x
def Closed (hs : List Int) (ws : List (Int × Int)) (l : Int) (t : List Int) : Prop := Path (Gr hs l) ws l t ∧ (lastI l t, l) ∈ ws
/-- what is told of l: nothing where nothing comes round, else the first of the shortest -/
def RF (hs : List Int) (ws : List (Int × Int)) (l : Int) (r : List Int) : Prop :=
  (r = [] ∧ ∀ t, ¬ Closed hs ws l t) ∨ ∃ t, r = l :: t ∧ Closed hs ws l t ∧ ∀ u, Closed hs ws l u → t.length < u.length ∨ (t.length = u.length ∧ (t = u ∨ sl t u))
/-- the k-th step: ps the ways that lead to somebody new, ls those that are left -/
structure Lev (hs : List Int) (ws : List (Int × Int)) (l : Int) (k : Nat) (ps : List (List Int)) (ls : List Int) : Prop where
  way : ∀ p ∈ ps, p.length = k ∧ Path (Gr hs l) ws l p
  srt : ps.Pairwise sl
  lin : ∀ h ∈ ls, Gr hs l h
  lsrt : ls.Pairwise (· < ·)
  cover : ∀ t, t.length ≤ k → Path (Gr hs l) ws l t → lastI l t ∉ ls
  first : ∀ t, t.length = k → Path (Gr hs l) ws l t → (∃ p ∈ ps, lastI l p = lastI l t ∧ (p = t ∨ sl p t)) ∨ ∃ u, u.length < k ∧ Path (Gr hs l) ws l u ∧ lastI l u = lastI l t
  none : ∀ t, t.length < k → ¬ Closed hs ws l t
  comp : ∀ h, Gr hs l h → h ∉ ls → ∃ t, t.length ≤ k ∧ Path (Gr hs l) ws l t ∧ lastI l t = h
section
variable {hs : List Int} {ws : List (Int × Int)} {l : Int} {k : Nat} {ps : List (List Int)} {ls : List Int}
theorem Lev.start (hl : ls.Pairwise (· < ·)) (hm : ∀ h, h ∈ ls ↔ Gr hs l h) : Lev hs ws l 0 [[]] ls := by
  have nil : ∀ t : List Int, t.length = 0 → t = [] := fun t h => List.length_eq_zero_iff.mp h
  refine ⟨fun p hp => ?_, by simp, fun h hh => (hm h).mp hh, hl, fun t ht _ h => ?_, fun t ht _ => .inl ⟨[], by simp, by rw [nil t ht], .inl (nil t ht).symm⟩, fun t ht => by omega, fun h hh hn => absurd ((hm h).mpr hh) hn⟩
  · rw [List.mem_singleton.mp hp]
    exact ⟨rfl, trivial⟩
  · rw [nil t (by omega)] at h
    have := ((hm _).mp h).2
    exact absurd this (by show ¬ l < l; omega)
theorem Lev.none_here (L : Lev hs ws l k ps ls) (h : ∀ p ∈ ps, (lastI l p, l) ∉ ws) : ∀ t, t.length < k + 1 → ¬ Closed hs ws l t := fun t ht hc => by
  by_cases h1 : t.length < k
  · exact L.none t h1 hc
  · rcases L.first t (by omega) hc.1 with ⟨q, hq, e1, e2⟩ | ⟨v, v1, v2, v3⟩
    · exact h q hq (by rw [e1]; exact hc.2)
    · exact L.none v v1 ⟨v2, by rw [v3]; exact hc.2⟩
/-- nobody new: nothing comes round -/
theorem Lev.over (L : Lev hs ws l k [] ls) : RF hs ws l [] := by
  refine .inl ⟨rfl, ?_⟩
  -- whoever is reached is reached early
  have early : ∀ (n : Nat) (t : List Int), t.length = n → Path (Gr hs l) ws l t → ∃ u, u.length < k ∧ Path (Gr hs l) ws l u ∧ lastI l u = lastI l t := by
    intro n
    induction n with
    | zero =>
      intro t ht hp
      by_cases hk : 0 < k
      · exact ⟨t, by omega, hp, rfl⟩
      · rcases L.first t (by omega) hp with ⟨q, hq, _⟩ | ⟨v, v1, _⟩
        · cases hq
        · omega
    | succ n ih =>
      intro t ht hp
      have ne : t ≠ [] := fun z => by rw [z] at ht; cases ht
      have et : t = t.dropLast ++ [t.getLast ne] := (List.dropLast_concat_getLast ne).symm
      generalize t.getLast ne = x at et
      generalize t.dropLast = s at et
      subst et
      obtain ⟨p1, p2⟩ := path_app.mp hp
      obtain ⟨u, u1, u2, u3⟩ := ih s (by simpa using ht) p1
      have pu : Path (Gr hs l) ws l (u ++ [x]) := path_app.mpr ⟨u2, by rw [u3]; exact p2⟩
      have lu : lastI l (u ++ [x]) = lastI l (s ++ [x]) := by rw [last_app, last_app]; rfl
      by_cases h1 : (u ++ [x]).length < k
      · exact ⟨_, h1, pu, lu⟩
      · rcases L.first (u ++ [x]) (by rw [List.length_append] at h1 ⊢; simp at h1 ⊢; omega) pu with ⟨q, hq, _⟩ | ⟨v, v1, v2, v3⟩
        · cases hq
        · exact ⟨v, v1, v2, v3.trans lu⟩
  intro t hc
  obtain ⟨u, u1, u2, u3⟩ := early t.length t rfl hc.1
  exact L.none u u1 ⟨u2, by rw [u3]; exact hc.2⟩
/-- the longer ways: P says which two have been looked at -/
structure LG (ws : List (Int × Int)) (l : Int) (P : List Int → Int → Prop) (lg : List (List Int)) : Prop where
  mem : ∀ q ∈ lg, ∃ p h, P p h ∧ q = p ++ [h] ∧ (lastI l p, h) ∈ ws
  srt : lg.Pairwise sl
  has : ∀ p h, P p h → (lastI l p, h) ∈ ws → ∃ p', p' ++ [h] ∈ lg ∧ (p' = p ∨ sl p' p)
theorem Lev.next {lg : List (List Int)} {ls' : List Int} (L : Lev hs ws l k ps ls) (hn : ∀ p ∈ ps, (lastI l p, l) ∉ ws) (G : LG ws l (fun p h => p ∈ ps ∧ h ∈ ls) lg)
    (e : ls' = ls.filter fun h => decide (¬ h ∈ lg.map (lastI l))) : Lev hs ws l (k + 1) lg ls' := by
  have mem' : ∀ h, h ∈ ls' ↔ h ∈ ls ∧ ¬ h ∈ lg.map (lastI l) := fun h => by rw [e, List.mem_filter, decide_eq_true_eq]
  have way' : ∀ q ∈ lg, q.length = k + 1 ∧ Path (Gr hs l) ws l q := fun q hq => by
    obtain ⟨p, h, ⟨h1, h2⟩, rfl, h3⟩ := G.mem q hq
    obtain ⟨w1, w2⟩ := L.way p h1
    exact ⟨by simp [w1], path_app.mpr ⟨w2, L.lin h h2, h3, trivial⟩⟩
  -- a way of one step more to somebody left
  have reach : ∀ (s : List Int) (x : Int), s.length = k → Path (Gr hs l) ws l s → Gr hs l x → (lastI l s, x) ∈ ws → x ∈ ls → ∃ p ∈ ps, lastI l p = lastI l s ∧ (p = s ∨ sl p s) := fun s x h1 h2 h3 h4 h5 => by
    rcases L.first s h1 h2 with z | ⟨v, v1, v2, v3⟩
    · exact z
    · have := L.cover (v ++ [x]) (by simp; omega) (path_app.mpr ⟨v2, h3, by rw [v3]; exact h4, trivial⟩)
      rw [last_app] at this
      exact absurd h5 this
  refine ⟨way', G.srt, fun h hh => L.lin h ((mem' h).mp hh).1, ?_, fun t ht hp hl => ?_, fun t ht hp => ?_, L.none_here hn, fun h hg hnl => ?_⟩
  · rw [e]
    exact L.lsrt.filter _
  · obtain ⟨m1, m2⟩ := (mem' _).mp hl
    by_cases h1 : t.length ≤ k
    · exact L.cover t h1 hp m1
    · have ne : t ≠ [] := fun z => by rw [z] at h1; simp at h1
      have et : t = t.dropLast ++ [t.getLast ne] := (List.dropLast_concat_getLast ne).symm
      generalize t.getLast ne = x at et
      generalize t.dropLast = s at et
      subst et
      obtain ⟨p1, p2, p3, _⟩ := path_app.mp hp
      rw [last_app] at m1 m2
      obtain ⟨p, hp', e1, _⟩ := reach s x (by simp at ht h1; omega) p1 p2 p3 m1
      obtain ⟨p', k1, _⟩ := G.has p x ⟨hp', m1⟩ (by rw [e1]; exact p3)
      exact m2 (List.mem_map.mpr ⟨_, k1, by rw [last_app]; rfl⟩)
  · have ne : t ≠ [] := fun z => by rw [z] at ht; simp at ht
    have et : t = t.dropLast ++ [t.getLast ne] := (List.dropLast_concat_getLast ne).symm
    generalize t.getLast ne = x at et
    generalize t.dropLast = s at et
    subst et
    obtain ⟨p1, p2, p3, _⟩ := path_app.mp hp
    have hs' : s.length = k := by simpa using ht
    by_cases hx : x ∈ ls
    · obtain ⟨p, hp', e1, e2⟩ := reach s x hs' p1 p2 p3 hx
      obtain ⟨p', k1, k2⟩ := G.has p x ⟨hp', hx⟩ (by rw [e1]; exact p3)
      refine .inl ⟨_, k1, by rw [last_app, last_app]; rfl, ?_⟩
      have : p' = s ∨ sl p' s := by
        rcases k2 with rfl | k2
        · exact e2
        · rcases e2 with rfl | e2
          · exact .inr k2
          · exact .inr (sl_trans k2 e2)
      rcases this with rfl | h
      · exact .inl rfl
      · exact .inr (sl_snoc x x h)
    · obtain ⟨u, u1, u2, u3⟩ := L.comp x p2 hx
      exact .inr ⟨u, by omega, u2, by rw [u3, last_app]; rfl⟩
  · by_cases hx : h ∈ ls
    · have : h ∈ lg.map (lastI l) := Classical.byContradiction fun z => hnl ((mem' h).mpr ⟨hx, z⟩)
      obtain ⟨q, hq, e1⟩ := List.mem_map.mp this
      obtain ⟨w1, w2⟩ := way' q hq
      exact ⟨q, by omega, w2, e1⟩
    · obtain ⟨u, u1, u2, u3⟩ := L.comp h hg hx
      exact ⟨u, by omega, u2, u3⟩
end
end M
namespace M
/-- the first of the shortest that come round, [] where none does -/
def FR (hs : List Int) (ws : List (Int × Int)) (r : List Int) : Prop :=
  (r = [] ∧ ∀ l ∈ hs, ∀ t, ¬ Closed hs ws l t) ∨ ∃ l t, r = l :: t ∧ l ∈ hs ∧ Closed hs ws l t ∧ ∀ m ∈ hs, ∀ u, Closed hs ws m u → t.length < u.length ∨ (t.length = u.length ∧ (l < m ∨ (l = m ∧ (t = u ∨ sl t u))))
theorem not_nodup : ∀ {t : List Int}, ¬ t.Nodup → ∃ a x b c, t = a ++ x :: (b ++ x :: c)
  | [], h => absurd List.nodup_nil h
  | y :: t, h => by
    by_cases hy : y ∈ t
    · obtain ⟨b, c, e⟩ := List.append_of_mem hy
      exact ⟨[], y, b, c, by rw [e]; rfl⟩
    · obtain ⟨a, x, b, c, e⟩ := not_nodup (t := t) fun z => h (List.nodup_cons.mpr ⟨hy, z⟩)
      exact ⟨y :: a, x, b, c, by rw [e]; rfl⟩
/-- the shortest that come round are rings -/
theorem closed_ring {hs : List Int} {ws : List (Int × Int)} {l : Int} {t : List Int} (hu : ∀ q ∈ ws, q.1 ≠ q.2) (hl : l ∈ hs) (hc : Closed hs ws l t) (hmin : ∀ u, Closed hs ws l u → t.length ≤ u.length) : Ring hs ws (l :: t) := by
  have hne : t ≠ [] := fun z => by
    have h2 := hc.2
    rw [z] at h2
    exact hu _ h2 rfl
  have hg := path_mem hc.1
  refine ⟨by have := List.length_pos_iff.mpr hne; simp; omega, List.nodup_cons.mpr ⟨fun z => absurd (hg l z).2 (by omega), ?_⟩, fun x hx => ?_, path_chain hc.1, fun x y h1 h2 => ?_⟩
  · refine Classical.byContradiction fun z => ?_
    obtain ⟨a, x, b, c, e⟩ := not_nodup z
    have h1 := hc.1
    rw [e] at h1
    obtain ⟨p1, p2⟩ := path_app.mp h1
    have p3 := (path_app (a := x :: b) (b := x :: c) (g := lastI l a)).mp p2
    have cl : Closed hs ws l (a ++ x :: c) := by
      refine ⟨path_app.mpr ⟨p1, p2.1, p2.2.1, p3.2.2.2⟩, ?_⟩
      have e2 : lastI l (a ++ x :: c) = lastI l t := by
        rw [e, last_app, last_app]
        show lastI x c = lastI x (b ++ x :: c)
        rw [last_app]
        rfl
      rw [e2]
      exact hc.2
    have := hmin _ cl
    rw [e] at this
    simp at this
    omega
  · rcases List.mem_cons.mp hx with rfl | hx
    · exact hl
    · exact (hg x hx).1
  · cases h1
    have e := last_get l t
    simp only [List.length_cons, Nat.add_sub_cancel] at h2
    rw [e] at h2
    cases h2
    exact hc.2
theorem FR.ring {hs : List Int} {ws : List (Int × Int)} {r : List Int} (hu : ∀ q ∈ ws, q.1 ≠ q.2) (F : FR hs ws r) (h : r ≠ []) : Ring hs ws r ∧ ∃ l t, r = l :: t ∧ ∀ x ∈ t, l < x := by
  rcases F with ⟨e, _⟩ | ⟨l, t, rfl, hl, hc, hm⟩
  · exact absurd e h
  · refine ⟨closed_ring hu hl hc fun u hu' => ?_, l, t, rfl, fun x hx => (path_mem hc.1 x hx).2⟩
    rcases hm l hl u hu' with z | ⟨z, _⟩ <;> omega
end M

namespace M
open Own
/-! ### exchanges of neighbours -/
/-- what it costs to exchange the two at that place -/
def exM (ps : List (Int × Int)) (ns : List Int) (p : Nat) : Int := (ps.getD (ns.getD (p - 1) 0 - 1).toNat (0, 0)).2 * (ps.getD (ns.getD p 0 - 1).toNat (0, 0)).2
/-- the two at that place exchanged -/
def swapM (ns : List Int) (p : Nat) : List Int := ns.take (p - 1) ++ [ns.getD p 0, ns.getD (p - 1) 0] ++ ns.drop (p + 1)
/-- the numbers and the cost behind these exchanges; none where a place is bad -/
def walkM (ps : List (Int × Int)) : List Int → List Int × Int → Option (List Int × Int)
  | [], st => some st
  | p :: r, st => if p < 1 ∨ (ps.length : Int) ≤ p then none else walkM ps r (swapM st.1 p.toNat, st.2 + exM ps st.1 p.toNat)
theorem swap_perm {ns : List Int} {p : Nat} (h1 : 1 ≤ p) (h2 : p < ns.length) : (swapM ns p).Perm ns := by
  unfold swapM
  have e1 : ns.getD p 0 = ns[p] := by rw [List.getD_eq_getElem?_getD, List.getElem?_eq_getElem h2]; rfl
  have e2 : ns.getD (p - 1) 0 = ns[p - 1]'(by omega) := by rw [List.getD_eq_getElem?_getD, List.getElem?_eq_getElem (by omega)]; rfl
  rw [e1, e2]
  have e : ns = ns.take (p - 1) ++ [ns[p - 1]'(by omega), ns[p]] ++ ns.drop (p + 1) := by
    have h3 : ns.drop (p - 1) = ns[p - 1]'(by omega) :: ns.drop (p - 1 + 1) := List.drop_eq_getElem_cons (by omega)
    have h4 : ns.drop p = ns[p] :: ns.drop (p + 1) := List.drop_eq_getElem_cons h2
    have h5 : p - 1 + 1 = p := by omega
    rw [h5, h4] at h3
    calc ns = ns.take (p - 1) ++ ns.drop (p - 1) := (List.take_append_drop _ _).symm
      _ = _ := by rw [h3]; simp
  refine List.Perm.trans ?_ (List.Perm.of_eq e.symm)
  exact List.Perm.append_right _ (List.Perm.append_left _ (List.Perm.swap _ _ _))
theorem runI_mem {n : Nat} {x : Int} : x ∈ runI 1 n ↔ 1 ≤ x ∧ x ≤ n := by
  unfold runI
  rw [List.mem_map]
  constructor
  · rintro ⟨k, hk, rfl⟩
    have := List.mem_range.mp hk
    omega
  · intro h
    exact ⟨(x - 1).toNat, List.mem_range.mpr (by omega), by omega⟩
theorem runI_len (n : Nat) : (runI 1 n).length = n := by unfold runI; rw [List.length_map, List.length_range]
theorem walkM_nil (ps : List (Int × Int)) (st : List Int × Int) : walkM ps [] st = some st := rfl
theorem walkM_cons (ps : List (Int × Int)) (p : Int) (r : List Int) (st : List Int × Int) : walkM ps (p :: r) st = if p < 1 ∨ (ps.length : Int) ≤ p then none else walkM ps r (swapM st.1 p.toNat, st.2 + exM ps st.1 p.toNat) := rfl
theorem set_swap {α : Type} (a b : List α) (x y : α) : ((a ++ x :: y :: b).set a.length y).set (a.length + 1) x = a ++ y :: x :: b := by
  rw [List.set_append_right _ _ (Nat.le_refl _), Nat.sub_self, List.set_cons_zero, List.set_append_right _ _ (Nat.le_succ _)]
  have : a.length + 1 - a.length = 1 := by omega
  rw [this]
  rfl
theorem set_swapM {ns : List Int} {p : Nat} (h1 : 1 ≤ p) (h2 : p < ns.length) : (ns.set (p - 1) ns[p]).set p (ns[p - 1]'(by omega)) = swapM ns p := by
  have h3 : ns.drop (p - 1) = ns[p - 1]'(by omega) :: ns.drop (p - 1 + 1) := List.drop_eq_getElem_cons (by omega)
  have h4 : ns.drop p = ns[p] :: ns.drop (p + 1) := List.drop_eq_getElem_cons h2
  have h5 : p - 1 + 1 = p := by omega
  rw [h5, h4] at h3
  have e : ns = ns.take (p - 1) ++ ns[p - 1]'(by omega) :: ns[p] :: ns.drop (p + 1) := by rw [← h3, List.take_append_drop]
  have e1 : ns.getD p 0 = ns[p] := by rw [List.getD_eq_getElem?_getD, List.getElem?_eq_getElem h2]; rfl
  have e2 : ns.getD (p - 1) 0 = ns[p - 1]'(by omega) := by rw [List.getD_eq_getElem?_getD, List.getElem?_eq_getElem (by omega)]; rfl
  have hl : (ns.take (p - 1)).length = p - 1 := by rw [List.length_take]; omega
  unfold swapM
  rw [e1, e2]
  generalize ns[p - 1]'(by omega) = x at e
  generalize ns[p] = y at e
  generalize ns.take (p - 1) = a at e hl
  generalize ns.drop (p + 1) = b at e
  have := set_swap a b x y
  rw [hl, h5, ← e] at this
  rw [this]
  simp
end M

namespace Pu
open PySem PySem.Spec PyProof.Rows L2 Own
/-! ### values without a heap -/
inductive D where
  | int (i : Int) | bl (b : Bool) | non | str (x : Str) | ty (n : String) | tup (ds : List D) | lst (ds : List D) | scr (ns : List Int) | dK (kvs : List (Key × V)) | dT (kvs : List (List Key × V)) | loc (a : Addr) (d : D) | err (C : Addr) | ref (a : Addr)
mutual
inductive Rp (K : PySem.W.Frag) (H : Hp) : D → V → Prop
  | int (i : Int) : Rp K H (.int i) (.int i)
  | bl (b : Bool) : Rp K H (.bl b) (.bl b)
  | non : Rp K H .non .non
  | str (x : Str) : Rp K H (.str x) (.str x)
  | ty (n : String) : Rp K H (.ty n) (.ty n)
  | tup {ds : List D} {vs : List V} {a : Addr} : H a = some (.tup vs) → Rps K H ds vs → Rp K H (.tup ds) (.ref a)
  | lst {ds : List D} {vs : List V} {a : Addr} : H a = some (.lst vs) → Rps K H ds vs → Rp K H (.lst ds) (.ref a)
  | scr {ns : List Int} {a : Addr} : SqL K H a (ns.map V.int) → Rp K H (.scr ns) (.ref a)
  | dK {kvs : List (Key × V)} {a : Addr} : H a = some (.dK kvs) → Rp K H (.dK kvs) (.ref a)
  | dT {kvs : List (List Key × V)} {a : Addr} : H a = some (.dT kvs) → Rp K H (.dT kvs) (.ref a)
  | loc {d : D} {a : Addr} : Rp K H d (.ref a) → Rp K H (.loc a d) (.ref a)
  | err {C a : Addr} : H a = some (ExcR.ErrH a C) → Rp K H (.err C) (.ref a)
  | ref (a : Addr) : Rp K H (.ref a) (.ref a)
inductive Rps (K : PySem.W.Frag) (H : Hp) : List D → List V → Prop
  | nil : Rps K H [] []
  | cons {d : D} {v : V} {ds : List D} {vs : List V} : Rp K H d v → Rps K H ds vs → Rps K H (d :: ds) (v :: vs)
end
section
variable {K : PySem.W.Frag} {H H' : Hp}
mutual
theorem Rp.mono (S : Same H H') : ∀ {d : D} {v : V}, Rp K H d v → Rp K H' d v
  | _, _, .int i => .int i
  | _, _, .bl b => .bl b
  | _, _, .non => .non
  | _, _, .str x => .str x
  | _, _, .ty n => .ty n
  | _, _, .tup h r => .tup (S _ _ h) (Rps.mono S r)
  | _, _, .lst h r => .lst (S _ _ h) (Rps.mono S r)
  | _, _, .scr h => .scr (S.seq h)
  | _, _, .dK h => .dK (S _ _ h)
  | _, _, .dT h => .dT (S _ _ h)
  | _, _, .loc h => .loc (Rp.mono S h)
  | _, _, .err h => .err (S _ _ h)
  | _, _, .ref a => .ref a
theorem Rps.mono (S : Same H H') : ∀ {ds : List D} {vs : List V}, Rps K H ds vs → Rps K H' ds vs
  | _, _, .nil => .nil
  | _, _, .cons h r => .cons (Rp.mono S h) (Rps.mono S r)
end
theorem Rps.len : ∀ {ds : List D} {vs : List V}, Rps K H ds vs → vs.length = ds.length
  | _, _, .nil => rfl
  | _, _, .cons _ r => congrArg (· + 1) (Rps.len r)
theorem Rps.get : ∀ {ds : List D} {vs : List V} {i : Nat} {d : D}, Rps K H ds vs → ds[i]? = some d → ∃ v, vs[i]? = some v ∧ Rp K H d v
  | _, _, _, _, .nil, e => by simp at e
  | _, _, 0, _, .cons h _, e => by simp at e; subst e; exact ⟨_, rfl, h⟩
  | _, _, i + 1, d, .cons _ r, e => by
    obtain ⟨v, h1, h2⟩ := Rps.get (i := i) (d := d) r (by simpa using e)
    exact ⟨v, by simpa using h1, h2⟩
theorem Rps.append : ∀ {ds es : List D} {vs us : List V}, Rps K H ds vs → Rps K H es us → Rps K H (ds ++ es) (vs ++ us)
  | _, _, _, _, .nil, s => s
  | _, _, _, _, .cons h r, s => .cons h (Rps.append r s)
theorem Rps.at {ds : List D} {vs : List V} {i : Int} {d : D} (r : Rps K H ds vs) (e : atI ds i = some d) : ∃ v, atI vs i = some v ∧ Rp K H d v := by
  unfold atI at e ⊢
  rw [r.len]
  cases q : ixN ds.length i with
  | none => rw [q] at e; cases e
  | some j =>
    rw [q] at e
    exact r.get (show ds[j]? = some d from e)
theorem Rps.drop : ∀ {ds : List D} {vs : List V} (n : Nat), Rps K H ds vs → Rps K H (ds.drop n) (vs.drop n)
  | _, _, 0, r => r
  | _, _, _ + 1, .nil => .nil
  | _, _, n + 1, .cons _ r => Rps.drop n r
theorem Rps.take : ∀ {ds : List D} {vs : List V} (n : Nat), Rps K H ds vs → Rps K H (ds.take n) (vs.take n)
  | _, _, 0, _ => .nil
  | _, _, _ + 1, .nil => .nil
  | _, _, n + 1, .cons h r => .cons h (Rps.take n r)
end
mutual
/-- nothing in it can change -/
def imm : D → Bool
  | .tup ds => imms ds
  | .lst _ => false
  | .scr _ => false
  | .dK _ => false
  | .dT _ => false
  | .loc _ _ => false
  | .err _ => false
  | _ => true
def imms : List D → Bool
  | [] => true
  | d :: r => imm d && imms r
end

/-! ### a part of a heap -/
open Classical in
noncomputable def off (Z : Addr → Prop) (H : Hp) : Hp := fun b => if Z b then none else H b
section
variable {K : PySem.W.Frag} {H H' : Hp} {Z Z' : Addr → Prop}
theorem off_in {b : Addr} {o : HO} (h : off Z H b = some o) : H b = some o ∧ ¬ Z b := by
  unfold off at h
  by_cases z : Z b
  · rw [if_pos z] at h; cases h
  · rw [if_neg z] at h; exact ⟨h, z⟩
theorem off_of {b : Addr} {o : HO} (h : H b = some o) (z : ¬ Z b) : off Z H b = some o := by
  unfold off
  rw [if_neg z]
  exact h
theorem off_mono (S : Same H H') (hz : ∀ b o, H b = some o → ¬ Z b → ¬ Z' b) : Same (off Z H) (off Z' H') := fun b o h => by
  obtain ⟨h1, h2⟩ := off_in h
  exact off_of (S b o h1) (hz b o h1 h2)
theorem off_sub : Same (off Z H) H := fun _ _ h => (off_in h).1
mutual
theorem Rp.off (hm : ∀ b, Z b → Mut (H b)) : ∀ {d : D} {v : V}, Rp K H d v → imm d = true → Rp K (off Z H) d v
  | _, _, .int i, _ => .int i
  | _, _, .bl b, _ => .bl b
  | _, _, .non, _ => .non
  | _, _, .str x, _ => .str x
  | _, _, .ty n, _ => .ty n
  | _, _, .tup h r, e => .tup (off_of h fun z => by have := hm _ z; rw [h] at this; exact this) (Rps.off hm r (by unfold imm at e; exact e))
  | _, _, .lst _ _, e => by unfold imm at e; cases e
  | _, _, .scr _, e => by unfold imm at e; cases e
  | _, _, .dK _, e => by unfold imm at e; cases e
  | _, _, .dT _, e => by unfold imm at e; cases e
  | _, _, .loc _, e => by unfold imm at e; cases e
  | _, _, .err _, e => by unfold imm at e; cases e
  | _, _, .ref a, _ => .ref a
theorem Rps.off (hm : ∀ b, Z b → Mut (H b)) : ∀ {ds : List D} {vs : List V}, Rps K H ds vs → imms ds = true → Rps K (off Z H) ds vs
  | _, _, .nil, _ => .nil
  | _, _, .cons h r, e => by
    unfold imms at e
    rw [Bool.and_eq_true] at e
    exact .cons (Rp.off hm h e.1) (Rps.off hm r e.2)
end
end

/-! ### what a slot or an expression holds: lent by the caller, shared for good, one's own list, a look at one's own list, a passing look -/
inductive O where
  | lst (ds : List D) | dK (kvs : List (Key × V)) | dT (kvs : List (List Key × V))
instance : Coe (List D) O := ⟨O.lst⟩
def O.d : O → D
  | .lst ds => .lst ds | .dK kvs => .dK kvs | .dT kvs => .dT kvs
/-- the thing at a, its parts in F -/
def OR (K : PySem.W.Frag) (F H : Hp) (a : Addr) : O → Prop
  | .lst ds => ∃ vs, H a = some (.lst vs) ∧ Rps K F ds vs
  | .dK kvs => H a = some (.dK kvs)
  | .dT kvs => H a = some (.dT kvs)
theorem OR.mono {K : PySem.W.Frag} {F F' H H' : Hp} {a : Addr} {o : O} (S1 : Same F F') (S2 : ∀ x, H a = some x → H' a = some x) (h : OR K F H a o) : OR K F' H' a o := by
  cases o with
  | lst ds => obtain ⟨vs, h1, h2⟩ := h; exact ⟨vs, S2 _ h1, Rps.mono S1 h2⟩
  | dK kvs => exact S2 _ h
  | dT kvs => exact S2 _ h
theorem OR.rp {K : PySem.W.Frag} {F H : Hp} {a : Addr} {o : O} (S1 : Same F H) (h : OR K F H a o) : Rp K H o.d (.ref a) := by
  cases o with
  | lst ds => obtain ⟨vs, h1, h2⟩ := h; exact .lst h1 (Rps.mono S1 h2)
  | dK kvs => exact .dK h
  | dT kvs => exact .dT h
theorem OR.rpIn {K : PySem.W.Frag} {F F' H : Hp} {a : Addr} {o : O} (S1 : Same F F') (S2 : ∀ x, H a = some x → F' a = some x) (h : OR K F H a o) : Rp K F' o.d (.ref a) := by
  cases o with
  | lst ds => obtain ⟨vs, h1, h2⟩ := h; exact .lst (S2 _ h1) (Rps.mono S1 h2)
  | dK kvs => exact .dK (S2 _ h)
  | dT kvs => exact .dT (S2 _ h)
theorem OR.mut {K : PySem.W.Frag} {F H : Hp} {a : Addr} {o : O} (h : OR K F H a o) : Mut (H a) := by
  cases o with
  | lst ds => obtain ⟨vs, h1, h2⟩ := h; rw [h1]; trivial
  | dK kvs => rw [show H a = some (.dK kvs) from h]; trivial
  | dT kvs => rw [show H a = some (.dT kvs) from h]; trivial
inductive S where
  | bor (d : D) | sh (d : D) | own (o : O) | view (o : O) | tmp (d : D)
abbrev Γ := List (Option S)
/-- without the place that it is said to have -/
def D.strip : D → D
  | .loc _ d => d | d => d
theorem Rp.strip {K : PySem.W.Frag} {H : Hp} {d : D} {v : V} (h : Rp K H d v) : Rp K H d.strip v := by
  cases h with
  | loc h => exact h
  | int i => exact .int i
  | bl b => exact .bl b
  | non => exact .non
  | str x => exact .str x
  | ty n => exact .ty n
  | tup h r => exact .tup h r
  | lst h r => exact .lst h r
  | scr h => exact .scr h
  | dK h => exact .dK h
  | dT h => exact .dT h
  | err h => exact .err h
  | ref a => exact .ref a
def S.d : S → D
  | .bor d => d.strip | .sh d => d | .own o => o.d | .view o => o.d | .tmp d => d
def arg (d : D) : S := match imm d with | true => .sh d | false => .bor d
def argT (d : D) : S := match imm d with | true => .sh d | false => .tmp d
/-- a part of it -/
def S.sub : S → D → S
  | .bor _, e => arg e | .tmp _, e => argT e | _, e => .sh e
/-- as a part of something new -/
def S.shd : S → Option D
  | .sh d => some d | .own o => some o.d
  | .bor d => match imm d with | true => some d | false => none
  | .tmp d => match imm d with | true => some d | false => none
  | .view _ => none
/-- as a name's value -/
def S.slot : S → Option S
  | .view _ => none | .bor d => some (.bor d) | .sh d => some (.sh d) | .own ds => some (.own ds)
  | .tmp d => match imm d with | true => some (.sh d) | false => none
def isOwn (γ : Γ) (σ : L2.St) (b : Addr) : Prop := ∃ (i : Nat) (ds : O), γ[i]? = some (some (.own ds)) ∧ σ[i]? = some (some (.ref b))
def zof (B : Addr → Prop) (γ : Γ) (σ : L2.St) : Addr → Prop := fun b => B b ∨ isOwn γ σ b
def SV (K : PySem.W.Frag) (Z : Addr → Prop) (H0 H : Hp) : S → V → Prop
  | .bor d, v => Rp K H0 d v
  | .sh d, v => Rp K (off Z H) d v
  | .own o, v => ∃ a, v = .ref a ∧ H0 a = none ∧ OR K (off Z H) H a o
  | _, _ => False
def TV (K : PySem.W.Frag) (Z : Addr → Prop) (H0 H H' : Hp) : S → V → Prop
  | .bor d, v => Rp K H0 d v
  | .sh d, v => Rp K (off Z H') d v
  | .own o, v => ∃ a, v = .ref a ∧ H a = none ∧ OR K (off (fun b => Z b ∨ b = a) H') H' a o
  | .view o, v => ∃ a, v = .ref a ∧ OR K (off Z H') H' a o
  | .tmp d, v => Rp K H' d v
structure EnvR (K : PySem.W.Frag) (H0 : Hp) (B : Addr → Prop) (H : Hp) (σ : L2.St) (γ : Γ) : Prop where
  same : Same H0 H
  len : σ.length = γ.length
  bm : ∀ b, B b → Mut (H b)
  own : ∀ (i j : Nat) (a : Addr) (ds es : O), γ[i]? = some (some (.own ds)) → γ[j]? = some (some (.own es)) → σ[i]? = some (some (.ref a)) → σ[j]? = some (some (.ref a)) → i = j
  slot : ∀ (i : Nat) (s : S), γ[i]? = some (some s) → ∃ v, σ[i]? = some (some v) ∧ SV K (zof B γ σ) H0 H s v
section
variable {K : PySem.W.Frag} {H0 H H1 H' : Hp} {B Z Z' : Addr → Prop} {σ : L2.St} {γ : Γ}
theorem mut_same (S : Same H H') {b : Addr} (h : Mut (H b)) : Mut (H' b) := by
  cases e : H b with
  | none => rw [e] at h; exact h.elim
  | some o => rw [S b o e, ← e]; exact h
theorem mut_some {b : Addr} (h : Mut (H b)) : ∃ o, H b = some o := by
  cases e : H b with
  | none => rw [e] at h; exact h.elim
  | some o => exact ⟨o, rfl⟩
theorem EnvR.grow (E : EnvR K H0 B H σ γ) (S : Same H H') : EnvR K H0 B H' σ γ where
  same := E.same.trans S
  len := E.len
  bm b h := mut_same S (E.bm b h)
  own := E.own
  slot i s h := by
    obtain ⟨v, h1, h2⟩ := E.slot i s h
    refine ⟨v, h1, ?_⟩
    cases s with
    | bor d => exact h2
    | sh d => exact Rp.mono (off_mono S fun _ _ _ z => z) h2
    | own ds =>
      obtain ⟨a, e1, e3, e4⟩ := h2
      exact ⟨a, e1, e3, e4.mono (off_mono S fun _ _ _ z => z) fun x => S a x⟩
    | view ds => exact h2
    | tmp d => exact h2
theorem EnvR.zm (E : EnvR K H0 B H σ γ) : ∀ b, zof B γ σ b → Mut (H b) := fun b h => by
  rcases h with h | ⟨i, ds, h1, h2⟩
  · exact E.bm b h
  · obtain ⟨v, e1, a, e2, e3, e4⟩ := E.slot i _ h1
    rw [h2] at e1
    cases e1
    cases e2
    exact e4.mut
theorem TV.rp {s : S} {v : V} (h0 : Same H0 H') (h : TV K Z H0 H H' s v) : Rp K H' s.d v := by
  cases s with
  | bor d => exact (Rp.mono h0 h).strip
  | sh d => exact Rp.mono off_sub h
  | own ds =>
    obtain ⟨a, rfl, _, r⟩ := h
    exact r.rp off_sub
  | view ds =>
    obtain ⟨a, rfl, r⟩ := h
    exact r.rp off_sub
  | tmp d => exact h
/-- a value stays what it is while the heap grows -/
theorem TV.grow {s : S} {v : V} (S1 : Same H' H1) (h : TV K Z H0 H H' s v) : TV K Z H0 H H1 s v := by
  cases s with
  | bor d => exact h
  | sh d => exact Rp.mono (off_mono S1 fun _ _ _ z => z) h
  | own ds =>
    obtain ⟨a, rfl, e0, r⟩ := h
    exact ⟨a, rfl, e0, r.mono (off_mono S1 fun _ _ _ z => z) fun x => S1 a x⟩
  | view ds =>
    obtain ⟨a, rfl, r⟩ := h
    exact ⟨a, rfl, r.mono (off_mono S1 fun _ _ _ z => z) fun x => S1 a x⟩
  | tmp d => exact Rp.mono S1 h
/-- counted from an earlier heap, apart from less -/
theorem TV.weak {s : S} {v : V} (S1 : Same H H1) (hz : ∀ b, Z b → Z' b) (h : TV K Z' H0 H1 H' s v) : TV K Z H0 H H' s v := by
  cases s with
  | bor d => exact h
  | sh d => exact Rp.mono (off_mono (Same.refl _) fun b _ _ z y => z (hz b y)) h
  | own ds =>
    obtain ⟨a, rfl, e0, r⟩ := h
    exact ⟨a, rfl, S1.free e0, r.mono (off_mono (Same.refl _) fun b _ _ z y => z (y.imp (hz b) id)) fun _ q => q⟩
  | view ds =>
    obtain ⟨a, rfl, r⟩ := h
    exact ⟨a, rfl, r.mono (off_mono (Same.refl _) fun b _ _ z y => z (hz b y)) fun _ q => q⟩
  | tmp d => exact h
theorem TV.shd {s : S} {v : V} {d : D} (h0 : Same H0 H') (hm : ∀ b, Z b → Mut (H b)) (S1 : Same H H') (h : TV K Z H0 H H' s v) (e : s.shd = some d) : Rp K (off Z H') d v := by
  have hm' : ∀ b, Z b → Mut (H' b) := fun b z => mut_same S1 (hm b z)
  cases s with
  | bor d' =>
    unfold S.shd at e
    cases q : imm d' with
    | false => simp [q] at e
    | true =>
      simp [q] at e
      subst e
      exact Rp.off hm' (Rp.mono h0 h) q
  | sh d' => cases e; exact h
  | own ds =>
    cases e
    obtain ⟨a, rfl, e0, r⟩ := h
    exact r.rpIn (off_mono (Same.refl _) fun b _ _ z y => z (.inl y)) fun x e => off_of e fun z => by have := hm _ z; rw [e0] at this; exact this
  | view ds => cases e
  | tmp d' =>
    unfold S.shd at e
    cases q : imm d' with
    | false => simp [q] at e
    | true =>
      simp [q] at e
      subst e
      exact Rp.off hm' h q
theorem argR {d : D} {v : V} (hm : ∀ b, Z b → Mut (H' b)) (h0 : Same H0 H') (h : Rp K H0 d v) : TV K Z H0 H H' (arg d) v := by
  unfold arg
  cases q : imm d with
  | true => exact Rp.off hm (Rp.mono h0 h) q
  | false => exact h
theorem argTR {d : D} {v : V} (hm : ∀ b, Z b → Mut (H' b)) (h : Rp K H' d v) : TV K Z H0 H H' (argT d) v := by
  unfold argT
  cases q : imm d with
  | true => exact Rp.off hm h q
  | false => exact h
theorem Rp.lst_inv {ds : List D} {v : V} (h : Rp K H (.lst ds) v) : ∃ a vs, v = .ref a ∧ H a = some (.lst vs) ∧ Rps K H ds vs := by
  cases h with
  | lst h r => exact ⟨_, _, rfl, h, r⟩
theorem Rp.tup_inv {ds : List D} {v : V} (h : Rp K H (.tup ds) v) : ∃ a vs, v = .ref a ∧ H a = some (.tup vs) ∧ Rps K H ds vs := by
  cases h with
  | tup h r => exact ⟨_, _, rfl, h, r⟩
/-- how a list or a tuple is seen through a value -/
theorem TV.part {s : S} {v : V} (h0 : Same H0 H') (hm : ∀ b, Z b → Mut (H b)) (S1 : Same H H') (h : TV K Z H0 H H' s v) :
    (∀ ds, s.d = .lst ds → ∃ a vs, v = .ref a ∧ H' a = some (.lst vs) ∧ vs.length = ds.length ∧ ∀ (i : Nat) d, ds[i]? = some d → ∃ u, vs[i]? = some u ∧ TV K Z H0 H H' (s.sub d) u) ∧
    (∀ ds, s.d = .tup ds → ∃ a vs, v = .ref a ∧ H' a = some (.tup vs) ∧ vs.length = ds.length ∧ ∀ (i : Nat) d, ds[i]? = some d → ∃ u, vs[i]? = some u ∧ TV K Z H0 H H' (s.sub d) u) := by
  have hm' : ∀ b, Z b → Mut (H' b) := fun b z => mut_same S1 (hm b z)
  cases s with
  | bor d =>
    have h := Rp.strip h
    refine ⟨fun ds e => ?_, fun ds e => ?_⟩ <;> rw [show d.strip = _ from e] at h
    · obtain ⟨a, vs, rfl, h, r⟩ := Rp.lst_inv h
      exact ⟨_, _, rfl, h0 _ _ h, r.len, fun i d e => let ⟨u, h1, h2⟩ := r.get e; ⟨u, h1, argR hm' h0 h2⟩⟩
    · obtain ⟨a, vs, rfl, h, r⟩ := Rp.tup_inv h
      exact ⟨_, _, rfl, h0 _ _ h, r.len, fun i d e => let ⟨u, h1, h2⟩ := r.get e; ⟨u, h1, argR hm' h0 h2⟩⟩
  | sh d =>
    refine ⟨fun ds e => ?_, fun ds e => ?_⟩ <;> (have e' : d = _ := e; subst e')
    · obtain ⟨a, vs, rfl, h, r⟩ := Rp.lst_inv h
      exact ⟨_, _, rfl, off_sub _ _ h, r.len, fun i d e => r.get e⟩
    · obtain ⟨a, vs, rfl, h, r⟩ := Rp.tup_inv h
      exact ⟨_, _, rfl, off_sub _ _ h, r.len, fun i d e => r.get e⟩
  | own es =>
    cases es with
    | lst es =>
      refine ⟨fun ds e => ?_, fun ds e => by cases e⟩
      cases e
      obtain ⟨a, rfl, e0, vs, e, r⟩ := h
      exact ⟨a, vs, rfl, e, r.len, fun i d e => let ⟨u, h1, h2⟩ := r.get e; ⟨u, h1, Rp.mono (off_mono (Same.refl _) fun b _ _ z y => z (.inl y)) h2⟩⟩
    | dK es => exact ⟨(fun ds e => by cases e), (fun ds e => by cases e)⟩
    | dT es => exact ⟨(fun ds e => by cases e), (fun ds e => by cases e)⟩
  | view es =>
    cases es with
    | lst es =>
      refine ⟨fun ds e => ?_, fun ds e => by cases e⟩
      cases e
      obtain ⟨a, rfl, vs, e, r⟩ := h
      exact ⟨a, vs, rfl, e, r.len, fun i d e => r.get e⟩
    | dK es => exact ⟨(fun ds e => by cases e), (fun ds e => by cases e)⟩
    | dT es => exact ⟨(fun ds e => by cases e), (fun ds e => by cases e)⟩
  | tmp d =>
    refine ⟨fun ds e => ?_, fun ds e => ?_⟩ <;> (have e' : d = _ := e; subst e')
    · obtain ⟨a, vs, rfl, h, r⟩ := Rp.lst_inv h
      exact ⟨_, _, rfl, h, r.len, fun i d e => let ⟨u, h1, h2⟩ := r.get e; ⟨u, h1, argTR hm' h2⟩⟩
    · obtain ⟨a, vs, rfl, h, r⟩ := Rp.tup_inv h
      exact ⟨_, _, rfl, h, r.len, fun i d e => let ⟨u, h1, h2⟩ := r.get e; ⟨u, h1, argTR hm' h2⟩⟩
/-- what stays when a name gets a value: all that was apart from one's own -/
def Fr (B : Addr → Prop) (H : Hp) (σ : L2.St) (γ : Γ) (H' : Hp) (σ' : L2.St) (γ' : Γ) : Prop := ∀ b o, H b = some o → ¬ zof B γ σ b → H' b = some o ∧ ¬ zof B γ' σ' b
theorem Fr.refl : Fr B H σ γ H σ γ := fun _ _ h z => ⟨h, z⟩
theorem Fr.trans {H1 H2 : Hp} {σ1 σ2 : L2.St} {γ1 γ2 : Γ} (a : Fr B H σ γ H1 σ1 γ1) (b : Fr B H1 σ1 γ1 H2 σ2 γ2) : Fr B H σ γ H2 σ2 γ2 := fun x o h z => let ⟨h1, z1⟩ := a x o h z; b x o h1 z1
theorem Fr.grow (S1 : Same H H') : Fr B H σ γ H' σ γ := fun _ _ h z => ⟨S1 _ _ h, z⟩
theorem Fr.off {H' : Hp} {σ' : L2.St} {γ' : Γ} (f : Fr B H σ γ H' σ' γ') : Same (off (zof B γ σ) H) (Pu.off (zof B γ' σ') H') := fun b o h => by
  obtain ⟨h1, h2⟩ := off_in h
  obtain ⟨h3, h4⟩ := f b o h1 h2
  exact off_of h3 h4
theorem set_get {α : Type} {l : List α} {i j : Nat} {x y : α} (h : (l.set i x)[j]? = some y) : (j = i ∧ x = y ∧ i < l.length) ∨ (j ≠ i ∧ l[j]? = some y) := by
  rw [List.getElem?_set] at h
  by_cases e : i = j
  · subst e
    rw [if_pos rfl] at h
    by_cases e2 : i < l.length
    · rw [if_pos e2] at h
      exact .inl ⟨rfl, Option.some.inj h, e2⟩
    · rw [if_neg e2] at h; cases h
  · rw [if_neg e] at h
    exact .inr ⟨fun z => e z.symm, h⟩
theorem set_at {α : Type} {l : List α} {i : Nat} {x : α} (h : i < l.length) : (l.set i x)[i]? = some x := by rw [List.getElem?_set_self h]
theorem set_ne {α : Type} {l : List α} {i j : Nat} {x : α} (h : j ≠ i) : (l.set i x)[j]? = l[j]? := List.getElem?_set_ne fun z => h z.symm
/-- names that are let go: what is known of the i-th is forgotten -/
theorem EnvR.drop (E : EnvR K H0 B H σ γ) (i : Nat) : EnvR K H0 B H σ (γ.set i none) ∧ Fr B H σ γ H σ (γ.set i none) := by
  have hz : ∀ b, zof B (γ.set i none) σ b → zof B γ σ b := fun b z => z.imp id fun ⟨j, ds, h1, h2⟩ => by
    rcases set_get h1 with ⟨_, e, _⟩ | ⟨_, e⟩
    · cases e
    · exact ⟨j, ds, e, h2⟩
  refine ⟨⟨E.same, by rw [List.length_set]; exact E.len, E.bm, fun k j a ds es h1 h2 => ?_, fun k s h => ?_⟩, fun b o h z => ⟨h, fun y => z (hz b y)⟩⟩
  · rcases set_get h1 with ⟨_, e, _⟩ | ⟨_, e1⟩
    · cases e
    · rcases set_get h2 with ⟨_, e, _⟩ | ⟨_, e2⟩
      · cases e
      · exact E.own k j a ds es e1 e2
  · rcases set_get h with ⟨_, e, _⟩ | ⟨_, e⟩
    · cases e
    · obtain ⟨v, h1, h2⟩ := E.slot k s e
      refine ⟨v, h1, ?_⟩
      have S1 : Same (Pu.off (zof B γ σ) H) (Pu.off (zof B (γ.set i none) σ) H) := off_mono (Same.refl _) fun b _ _ z y => z (hz b y)
      cases s with
      | bor d => exact h2
      | sh d => exact Rp.mono S1 h2
      | own ds =>
        obtain ⟨a, e1, e3, e4⟩ := h2
        exact ⟨a, e1, e3, e4.mono S1 fun _ q => q⟩
      | view ds => exact h2
      | tmp d => exact h2
/-- a name gets a value -/
theorem EnvR.put {i : Nat} {s s' : S} {v : V} (E : EnvR K H0 B H σ γ) (S1 : Same H H') (h : TV K (zof B γ σ) H0 H H' s v) (e : s.slot = some s') (hi : i < γ.length) :
    EnvR K H0 B H' (σ.set i (some v)) (γ.set i (some s')) ∧ Fr B H σ γ H' (σ.set i (some v)) (γ.set i (some s')) := by
  have hiσ : i < σ.length := by rw [E.len]; exact hi
  have E' := E.grow S1
  -- the new part's own address
  have hown : ∀ b, zof B (γ.set i (some s')) (σ.set i (some v)) b → zof B γ σ b ∨ ∃ ds, s = .own ds ∧ v = .ref b := fun b z => by
    rcases z with z | ⟨j, ds, h1, h2⟩
    · exact .inl (.inl z)
    · rcases set_get h1 with ⟨ej, e1, _⟩ | ⟨nj, e1⟩
      · subst ej
        rw [set_at hiσ] at h2
        have : s' = .own ds := Option.some.inj e1
        subst this
        refine .inr ⟨ds, ?_, Option.some.inj (Option.some.inj h2)⟩
        cases s with
        | own es => cases e; rfl
        | bor d => cases e
        | sh d => cases e
        | view d => cases e
        | tmp d => unfold S.slot at e; cases q : imm d <;> simp [q] at e
      · rw [set_ne nj] at h2
        exact .inl (.inr ⟨j, ds, e1, h2⟩)
  have fresh : ∀ ds b, s = .own ds → v = .ref b → H b = none := fun ds b es ev => by
    subst es
    obtain ⟨a, e1, e0, _⟩ := h
    rw [ev] at e1
    cases e1
    exact e0
  have hz : ∀ b o, H b = some o → ¬ zof B γ σ b → ¬ zof B (γ.set i (some s')) (σ.set i (some v)) b := fun b o hb z y => by
    rcases hown b y with y | ⟨ds, y1, y2⟩
    · exact z y
    · rw [fresh ds b y1 y2] at hb
      cases hb
  have So : Same (off (zof B γ σ) H) (Pu.off (zof B (γ.set i (some s')) (σ.set i (some v))) H') := off_mono S1 hz
  refine ⟨⟨E'.same, by rw [List.length_set, List.length_set]; exact E.len, E'.bm, fun k j a ds es h1 h2 h3 h4 => ?_, fun k u hk => ?_⟩, fun b o hb z => ⟨S1 b o hb, hz b o hb z⟩⟩
  · have old : ∀ (k : Nat) (ds : O) (a : Addr), γ[k]? = some (some (.own ds)) → σ[k]? = some (some (.ref a)) → ∃ o, H a = some o := fun k ds a e1 e2 => by
      obtain ⟨u, q1, a', q2, _, q3⟩ := E.slot k _ e1
      rw [e2] at q1
      cases q1
      cases q2
      exact mut_some q3.mut
    have isown : ∀ ds, s' = .own ds → s = .own ds := fun ds q => by
      subst q
      cases s with
      | own es => cases e; rfl
      | bor d => cases e
      | sh d => cases e
      | view d => cases e
      | tmp d => unfold S.slot at e; cases q : imm d <;> simp [q] at e
    rcases set_get h1 with ⟨ek, e1, _⟩ | ⟨nk, e1⟩
    · rcases set_get h2 with ⟨ej, e2, _⟩ | ⟨nj, e2⟩
      · rw [ek, ej]
      · subst ek
        rw [set_at hiσ] at h3
        rw [set_ne nj] at h4
        obtain ⟨o, ho⟩ := old j es a e2 h4
        rw [fresh ds a (isown ds (Option.some.inj e1)) (Option.some.inj (Option.some.inj h3))] at ho
        cases ho
    · rcases set_get h2 with ⟨ej, e2, _⟩ | ⟨nj, e2⟩
      · subst ej
        rw [set_at hiσ] at h4
        rw [set_ne nk] at h3
        obtain ⟨o, ho⟩ := old k ds a e1 h3
        rw [fresh es a (isown es (Option.some.inj e2)) (Option.some.inj (Option.some.inj h4))] at ho
        cases ho
      · rw [set_ne nk] at h3
        rw [set_ne nj] at h4
        exact E.own k j a ds es e1 e2 h3 h4
  · rcases set_get hk with ⟨ek, e1, _⟩ | ⟨nk, e1⟩
    · subst ek
      have : u = s' := (Option.some.inj e1).symm
      subst this
      refine ⟨v, set_at hiσ, ?_⟩
      cases s with
      | own ds =>
        cases e
        obtain ⟨a, rfl, e0, r⟩ := h
        refine ⟨a, rfl, E.same.free e0, r.mono (off_mono (Same.refl _) fun b o _ z y => ?_) fun _ q => q⟩
        rcases hown b y with y | ⟨_, _, y⟩
        · exact z (.inl y)
        · cases y; exact z (.inr rfl)
      | sh d =>
        cases e
        refine Rp.mono (off_mono (Same.refl _) fun b o _ z y => ?_) h
        rcases hown b y with y | ⟨_, y, _⟩
        · exact z y
        · cases y
      | bor d => cases e; exact h
      | view d => cases e
      | tmp d =>
        unfold S.slot at e
        cases q : imm d with
        | false => simp [q] at e
        | true =>
          simp [q] at e
          subst e
          refine Rp.off (fun b y => ?_) h q
          rcases hown b y with y | ⟨_, y, _⟩
          · exact mut_same S1 (E.zm b y)
          · cases y
    · obtain ⟨w, q1, q2⟩ := E.slot k u e1
      refine ⟨w, by rw [set_ne nk]; exact q1, ?_⟩
      cases u with
      | bor d => exact q2
      | sh d => exact Rp.mono So q2
      | own ds =>
        obtain ⟨a, e1, e3, e4⟩ := q2
        exact ⟨a, e1, e3, e4.mono So fun x => S1 a x⟩
      | view ds => exact q2
      | tmp d => exact q2
/-- one's own list is shared from now on -/
def frz (i : Nat) (γ : Γ) : Γ := match γ[i]? with
  | some (some (.own o)) => γ.set i (some (.sh o.d))
  | _ => γ
theorem EnvR.frz (E : EnvR K H0 B H σ γ) (hB : ∀ b, B b → ∃ o, H0 b = some o) (i : Nat) : EnvR K H0 B H σ (frz i γ) ∧ Fr B H σ γ H σ (Pu.frz i γ) := by
  unfold Pu.frz
  split
  · rename_i ds hi
    have hlt : i < γ.length := (List.getElem?_eq_some_iff.mp hi).1
    have hz : ∀ b, zof B (γ.set i (some (.sh ds.d))) σ b → zof B γ σ b := fun b z => z.imp id fun ⟨j, es, h1, h2⟩ => by
      rcases set_get h1 with ⟨_, e, _⟩ | ⟨_, e⟩
      · cases e
      · exact ⟨j, es, e, h2⟩
    have S1 : Same (Pu.off (zof B γ σ) H) (Pu.off (zof B (γ.set i (some (.sh ds.d))) σ) H) := off_mono (Same.refl _) fun b _ _ z y => z (hz b y)
    refine ⟨⟨E.same, by rw [List.length_set]; exact E.len, E.bm, fun k j a es es' h1 h2 => ?_, fun k s h => ?_⟩, fun b o h z => ⟨h, fun y => z (hz b y)⟩⟩
    · rcases set_get h1 with ⟨_, e, _⟩ | ⟨_, e1⟩
      · cases e
      · rcases set_get h2 with ⟨_, e, _⟩ | ⟨_, e2⟩
        · cases e
        · exact E.own k j a es es' e1 e2
    · rcases set_get h with ⟨ek, e, _⟩ | ⟨nk, e⟩
      · subst ek
        have := Option.some.inj e
        subst this
        obtain ⟨v, h1, a, rfl, h3, h4⟩ := E.slot k _ hi
        refine ⟨_, h1, h4.rpIn S1 fun x h2 => off_of h2 fun z => ?_⟩
        rcases z with z | ⟨j, es, e1, e2⟩
        · obtain ⟨o, ho⟩ := hB a z
          rw [h3] at ho
          cases ho
        · rcases set_get e1 with ⟨_, q, _⟩ | ⟨nj, q⟩
          · cases q
          · exact nj (E.own j k a es ds q hi e2 h1)
      · obtain ⟨v, h1, h2⟩ := E.slot k s e
        refine ⟨v, h1, ?_⟩
        cases s with
        | bor d => exact h2
        | sh d => exact Rp.mono S1 h2
        | own ds =>
          obtain ⟨a, e1, e3, e4⟩ := h2
          exact ⟨a, e1, e3, e4.mono S1 fun _ q => q⟩
        | view ds => exact h2
        | tmp d => exact h2
  · exact ⟨E, Fr.refl⟩
/-- one's own list changes -/
theorem EnvR.mutate {i : Nat} {a : Addr} {ds es : O} {us : HO} (E : EnvR K H0 B H σ γ) (hi : γ[i]? = some (some (.own ds))) (ha : σ[i]? = some (some (.ref a))) (hu : Mut (some us)) (r : ∀ F H' : Hp, Same (Pu.off (zof B γ σ) H) F → H' a = some us → OR K F H' a es) :
    EnvR K H0 B (upd H a us) σ (γ.set i (some (.own es))) ∧ Fr B H σ γ (upd H a us) σ (γ.set i (some (.own es))) := by
  have hlt : i < γ.length := (List.getElem?_eq_some_iff.mp hi).1
  obtain ⟨v, h1, a', rfl, h3, h4⟩ := E.slot i _ hi
  rw [ha] at h1
  cases h1
  have za : zof B γ σ a := .inr ⟨i, ds, hi, ha⟩
  have hz : ∀ b, zof B (γ.set i (some (.own es))) σ b → zof B γ σ b := fun b z => z.imp id fun ⟨j, fs, e1, e2⟩ => by
    rcases set_get e1 with ⟨ej, _, _⟩ | ⟨_, e⟩
    · subst ej; exact ⟨j, ds, hi, e2⟩
    · exact ⟨j, fs, e, e2⟩
  have S1 : Same (Pu.off (zof B γ σ) H) (Pu.off (zof B (γ.set i (some (.own es))) σ) (upd H a us)) := fun b o h => by
    obtain ⟨q1, q2⟩ := off_in h
    refine off_of ?_ fun z => q2 (hz b z)
    rw [upd_ne (fun z => q2 (by rw [z]; exact za))]
    exact q1
  refine ⟨⟨fun b o h => ?_, by rw [List.length_set]; exact E.len, fun b hb => ?_, fun k j x fs fs' e1 e2 => ?_, fun k s h => ?_⟩, fun b o h z => ⟨?_, fun y => z (hz b y)⟩⟩
  · rw [upd_ne (ne_of_none h h3)]
    exact E.same b o h
  · by_cases e : b = a
    · subst e; rw [upd_same]; exact hu
    · rw [upd_ne e]; exact E.bm b hb
  · rcases set_get e1 with ⟨ek, _, _⟩ | ⟨_, q1⟩
    · rcases set_get e2 with ⟨ej, _, _⟩ | ⟨_, q2⟩
      · intro _ _; rw [ek, ej]
      · subst ek; exact E.own k j x ds fs' hi q2
    · rcases set_get e2 with ⟨ej, _, _⟩ | ⟨_, q2⟩
      · subst ej; exact E.own k j x fs ds q1 hi
      · exact E.own k j x fs fs' q1 q2
  · rcases set_get h with ⟨ek, e, _⟩ | ⟨nk, e⟩
    · subst ek
      have := Option.some.inj e
      subst this
      exact ⟨_, ha, a, rfl, h3, r _ _ S1 upd_same⟩
    · obtain ⟨v, q1, q2⟩ := E.slot k s e
      refine ⟨v, q1, ?_⟩
      cases s with
      | bor d => exact q2
      | sh d => exact Rp.mono S1 q2
      | own fs =>
        obtain ⟨x, rfl, e3, e4⟩ := q2
        refine ⟨x, rfl, e3, e4.mono S1 fun y e2 => ?_⟩
        rw [upd_ne]
        · exact e2
        · intro z
          subst z
          exact nk (E.own k i x fs ds e hi q1 ha)
      | view ds => exact q2
      | tmp d => exact q2
  · rw [upd_ne (fun q => z (by rw [q]; exact za))]
    exact h
end
end Pu

namespace Pu
open PySem PySem.Spec PyProof.Rows L2 Own
/-! ### readings without a heap, and what it is that they stand for the others -/
abbrev XR := Str → Prop
abbrev PTE := Γ → (S → Prop) → XR → Prop
abbrev PTT := Γ → (Bool → Prop) → XR → Prop
abbrev PTA := Γ → (List S → Prop) → XR → Prop
abbrev PTO := Γ → (Option Int → Prop) → XR → Prop
structure PEnds where
  nx : Γ → Prop
  rt : S → Prop
  ex : Γ → Str → Prop
  bk : Γ → Prop := fun _ => False
  ct : Γ → Prop := fun _ => False
abbrev PTS := PEnds → Γ → Prop
abbrev PTG := S → Γ → (Γ → Prop) → Prop
inductive TVs (K : PySem.W.Frag) (Z : Addr → Prop) (H0 H H' : Hp) : List S → List V → Prop
  | nil : TVs K Z H0 H H' [] []
  | cons {s : S} {v : V} {ss : List S} {vs : List V} : TV K Z H0 H H' s v → TVs K Z H0 H H' ss vs → TVs K Z H0 H H' (s :: ss) (v :: vs)
section
variable (K : PySem.W.Frag) (mg : Str → Option Value) (E : L2.St → XK)
def SndE (t : TE) (p : PTE) : Prop := ∀ (H0 : Hp) (B : Addr → Prop) (H : Hp) (σ : L2.St) (γ : Γ) (R : S → Prop) (X : XR) (Q : VK), EnvR K H0 B H σ γ → p γ R X →
  (∀ s v H', R s → Same H H' → TV K (zof B γ σ) H0 H H' s v → Q v H') → (∀ c H', X c → Same H H' → E σ (.ref (ExcR.clsOf mg c)) none H') → t σ H Q
def SndT (t : TT) (p : PTT) : Prop := ∀ (H0 : Hp) (B : Addr → Prop) (H : Hp) (σ : L2.St) (γ : Γ) (R : Bool → Prop) (X : XR) (Q : Bool → Hp → Prop), EnvR K H0 B H σ γ → p γ R X →
  (∀ b H', R b → Same H H' → Q b H') → (∀ c H', X c → Same H H' → E σ (.ref (ExcR.clsOf mg c)) none H') → t σ H Q
def SndA (t : TA) (p : PTA) : Prop := ∀ (H0 : Hp) (B : Addr → Prop) (H : Hp) (σ : L2.St) (γ : Γ) (R : List S → Prop) (X : XR) (Q : List V → Hp → Prop), EnvR K H0 B H σ γ → p γ R X →
  (∀ ss vs H', R ss → Same H H' → TVs K (zof B γ σ) H0 H H' ss vs → Q vs H') → (∀ c H', X c → Same H H' → E σ (.ref (ExcR.clsOf mg c)) none H') → t σ H Q
def SndO (t : TO) (p : PTO) : Prop := ∀ (H0 : Hp) (B : Addr → Prop) (H : Hp) (σ : L2.St) (γ : Γ) (R : Option Int → Prop) (X : XR) (Q : Option Int → Hp → Prop), EnvR K H0 B H σ γ → p γ R X →
  (∀ o H', R o → Same H H' → Q o H') → (∀ c H', X c → Same H H' → E σ (.ref (ExcR.clsOf mg c)) none H') → t σ H Q
structure EndR (H0 : Hp) (B : Addr → Prop) (H : Hp) (σ : L2.St) (γ : Γ) (R : PEnds) (D : Ends) : Prop where
  nx : ∀ σ' γ' H', R.nx γ' → EnvR K H0 B H' σ' γ' → Fr B H σ γ H' σ' γ' → D.nx σ' H'
  rt : ∀ s v H', R.rt s → Same H0 H' → TV K B H0 H0 H' s v → D.rt v H'
  ex : ∀ σ' γ' c H', R.ex γ' c → EnvR K H0 B H' σ' γ' → Fr B H σ γ H' σ' γ' → E σ' (.ref (ExcR.clsOf mg c)) none H'
  bk : ∀ σ' γ' H', R.bk γ' → EnvR K H0 B H' σ' γ' → Fr B H σ γ H' σ' γ' → D.bk σ' H'
  ct : ∀ σ' γ' H', R.ct γ' → EnvR K H0 B H' σ' γ' → Fr B H σ γ H' σ' γ' → D.ct σ' H'
def SndS (t : TS) (p : PTS) : Prop := ∀ (H0 : Hp) (B : Addr → Prop) (H : Hp) (σ : L2.St) (γ : Γ) (R : PEnds) (D : Ends), (∀ b, B b → ∃ o, H0 b = some o) → EnvR K H0 B H σ γ → p R γ → EndR K mg E H0 B H σ γ R D → t D σ H
end
section
variable {K : PySem.W.Frag} {mg : Str → Option Value} {E : L2.St → XK} {H0 H H1 H' : Hp} {B Z Z' : Addr → Prop} {σ : L2.St} {γ : Γ}
theorem TVs.weakG {H1 H2 : Hp} : ∀ {ss : List S} {vs : List V}, Same H H1 → TVs K Z H0 H1 H2 ss vs → TVs K Z H0 H H2 ss vs
  | _, _, _, .nil => .nil
  | _, _, S1, .cons h r => .cons (TV.weak S1 (fun _ z => z) h) (TVs.weakG S1 r)
theorem TVs.rps (h0 : Same H0 H') : ∀ {ss : List S} {vs : List V}, TVs K Z H0 H H' ss vs → Rps K H' (ss.map S.d) vs
  | _, _, .nil => .nil
  | _, _, .cons h r => .cons (h.rp h0) (TVs.rps h0 r)
theorem TVs.shd {ds : List D} (h0 : Same H0 H') (hm : ∀ b, Z b → Mut (H b)) (S1 : Same H H') : ∀ {ss : List S} {vs : List V} {ds : List D}, TVs K Z H0 H H' ss vs → ss.map S.shd = ds.map some → Rps K (off Z H') ds vs
  | _, _, [], .nil, _ => .nil
  | _, _, _ :: _, .nil, e => by cases e
  | _, _, [], .cons _ _, e => by cases e
  | _, _, d :: ds, .cons h r, e => by
    rw [List.map_cons, List.map_cons, List.cons.injEq] at e
    exact .cons (h.shd h0 hm S1 e.1) (TVs.shd (ds := ds) h0 hm S1 r e.2)
theorem Rp.int_inv {i : Int} {v : V} (h : Rp K H (.int i) v) : v = .int i := by cases h; rfl
theorem Rp.bl_inv {b : Bool} {v : V} (h : Rp K H (.bl b) v) : v = .bl b := by cases h; rfl
theorem Rp.str_inv {x : Str} {v : V} (h : Rp K H (.str x) v) : v = .str x := by cases h; rfl
theorem Rp.non_inv {v : V} (h : Rp K H .non v) : v = .non := by cases h; rfl
theorem Rp.ty_inv {n : String} {v : V} (h : Rp K H (.ty n) v) : v = .ty n := by cases h; rfl
/-! ### expressions -/
def pVar (i : Nat) : PTE := fun γ R _ => match γ[i]? with
  | some (some (.own ds)) => R (.view ds)
  | some (some s) => R s
  | _ => False
theorem se_var (i : Nat) : SndE K mg E (tVar i) (pVar i) := by
  intro H0 B H σ γ R X Q env h q _
  unfold pVar at h
  split at h
  · rename_i ds e
    obtain ⟨v, h1, a, rfl, h3, h4⟩ := env.slot i _ e
    exact ⟨_, h1, q _ _ H h (Same.refl _) ⟨a, rfl, h4⟩⟩
  · rename_i s ns e
    obtain ⟨v, h1, h2⟩ := env.slot i _ e
    refine ⟨v, h1, q _ _ H h (Same.refl _) ?_⟩
    cases s with
    | bor d => exact h2
    | sh d => exact h2
    | own ds => exact absurd rfl (ns ds)
    | view ds => exact h2.elim
    | tmp d => exact h2.elim
  · exact h.elim
def pC (d : D) : PTE := fun _ R _ => R (.sh d)
theorem se_c {d : D} {v : V} (h : ∀ H, Rp K H d v) : SndE K mg E (tC v) (pC d) := by
  intro H0 B H σ γ R X Q env p q _
  exact q _ _ H p (Same.refl _) (h _)
theorem se_int {i : Int} : SndE K mg E (tC (.int i)) (pC (.int i)) := se_c fun _ => .int i
theorem se_bl {b : Bool} : SndE K mg E (tC (.bl b)) (pC (.bl b)) := se_c fun _ => .bl b
theorem se_str {x : Str} : SndE K mg E (tC (.str x)) (pC (.str x)) := se_c fun _ => .str x
theorem se_ty {n : String} : SndE K mg E (tC (.ty n)) (pC (.ty n)) := se_c fun _ => .ty n
/-- two values, one behind the other -/
def p2 (a b : PTE) (f : S → S → (S → Prop) → Prop) : PTE := fun γ R X => a γ (fun x => b γ (fun y => f x y R) X) X
theorem se_2 {r : R2} {ta tb : TE} {a b : PTE} {f : S → S → (S → Prop) → Prop} (ha : SndE K mg E ta a) (hb : SndE K mg E tb b)
    (hr : ∀ (H0 H H2 : Hp) (Z : Addr → Prop) (x y : S) (v u : V) (R : S → Prop) (Q : VK), Same H0 H2 → Same H H2 → (∀ b, Z b → Mut (H b)) → TV K Z H0 H H2 x v → TV K Z H0 H H2 y u → f x y R → (∀ s z H', R s → Same H2 H' → TV K Z H0 H H' s z → Q z H') → r v u H2 Q) :
    SndE K mg E (tOp r ta tb) (p2 a b f) := by
  intro H0 B H σ γ R X Q env p q qx
  refine ha H0 B H σ γ _ X _ env p (fun x v H1 h1 S1 t1 => ?_) qx
  have env1 := env.grow S1
  refine hb H0 B H1 σ γ _ X _ env1 h1 (fun y u H2 h2 S2 t2 => ?_) fun c H' hc S' => qx c H' hc (S1.trans S')
  exact hr H0 H H2 _ x y v u R Q (env1.same.trans S2) (S1.trans S2) env.zm (t1.grow S2) (TV.weak S1 (fun _ z => z) t2) h2 fun s z H' hs S3 t3 => q s z H' hs ((S1.trans S2).trans S3) t3
def fI0 (g : Int → Int → D) : S → S → (S → Prop) → Prop := fun x y R => match x.d, y.d with
  | .int i, .int j => R (.sh (g i j))
  | _, _ => False
def fI (C : Int → Int → Prop) (g : Int → Int → D) : S → S → (S → Prop) → Prop := fun x y R => match x.d, y.d with
  | .int i, .int j => C i j ∧ R (.sh (g i j))
  | _, _ => False
theorem se_I0 {g : Int → Int → V} {g' : Int → Int → D} {ta tb : TE} {a b : PTE} (hg : ∀ H i j, Rp K H (g' i j) (g i j)) (ha : SndE K mg E ta a) (hb : SndE K mg E tb b) : SndE K mg E (tOp (rI0 g) ta tb) (p2 a b (fI0 g')) := by
  refine se_2 ha hb fun H0 H H2 Z x y v u R Q s0 s1 hm tx ty h q => ?_
  unfold fI0 at h
  have rx := tx.rp s0
  have ry := ty.rp s0
  split at h
  · rename_i i j e1 e2
    rw [e1] at rx
    rw [e2] at ry
    exact ⟨i, j, rx.int_inv, ry.int_inv, q _ _ H2 h (Same.refl _) (hg _ i j)⟩
  · exact h.elim
theorem se_I {C : Int → Int → Prop} {g : Int → Int → V} {g' : Int → Int → D} {ta tb : TE} {a b : PTE} (hg : ∀ H i j, Rp K H (g' i j) (g i j)) (ha : SndE K mg E ta a) (hb : SndE K mg E tb b) : SndE K mg E (tOp (rI C g) ta tb) (p2 a b (fI C g')) := by
  refine se_2 ha hb fun H0 H H2 Z x y v u R Q s0 s1 hm tx ty h q => ?_
  unfold fI at h
  have rx := tx.rp s0
  have ry := ty.rp s0
  split at h
  · rename_i i j e1 e2
    rw [e1] at rx
    rw [e2] at ry
    exact ⟨i, j, rx.int_inv, ry.int_inv, h.1, q _ _ H2 h.2 (Same.refl _) (hg _ i j)⟩
  · exact h.elim
section
variable {ta tb tc : TE} {a b c : PTE}
theorem se_add (ha : SndE K mg E ta a) (hb : SndE K mg E tb b) : SndE K mg E (tOp (rI0 fun i j => .int (i + j)) ta tb) (p2 a b (fI0 fun i j => .int (i + j))) := se_I0 (fun _ _ _ => .int _) ha hb
theorem se_sub (ha : SndE K mg E ta a) (hb : SndE K mg E tb b) : SndE K mg E (tOp (rI0 fun i j => .int (i - j)) ta tb) (p2 a b (fI0 fun i j => .int (i - j))) := se_I0 (fun _ _ _ => .int _) ha hb
theorem se_mul (ha : SndE K mg E ta a) (hb : SndE K mg E tb b) : SndE K mg E (tOp (rI CMul fun i j => .int (i * j)) ta tb) (p2 a b (fI CMul fun i j => .int (i * j))) := se_I (fun _ _ _ => .int _) ha hb
theorem se_fdiv (ha : SndE K mg E ta a) (hb : SndE K mg E tb b) : SndE K mg E (tOp (rI CDiv fun i j => .int (i / j)) ta tb) (p2 a b (fI CDiv fun i j => .int (i / j))) := se_I (fun _ _ _ => .int _) ha hb
theorem se_mod (ha : SndE K mg E ta a) (hb : SndE K mg E tb b) : SndE K mg E (tOp (rI (fun _ j => 0 < j) fun i j => .int (i % j)) ta tb) (p2 a b (fI (fun _ j => 0 < j) fun i j => .int (i % j))) := se_I (fun _ _ _ => .int _) ha hb
theorem se_pow (ha : SndE K mg E ta a) (hb : SndE K mg E tb b) : SndE K mg E (tOp (rI CPow fun i j => .int (i ^ j.toNat)) ta tb) (p2 a b (fI CPow fun i j => .int (i ^ j.toNat))) := se_I (fun _ _ _ => .int _) ha hb
theorem se_lt (ha : SndE K mg E ta a) (hb : SndE K mg E tb b) : SndE K mg E (tOp (rI0 fun i j => .bl (decide (i < j))) ta tb) (p2 a b (fI0 fun i j => .bl (decide (i < j)))) := se_I0 (fun _ _ _ => .bl _) ha hb
theorem se_ge (ha : SndE K mg E ta a) (hb : SndE K mg E tb b) : SndE K mg E (tOp (rI0 fun i j => .bl (decide (j ≤ i))) ta tb) (p2 a b (fI0 fun i j => .bl (decide (j ≤ i)))) := se_I0 (fun _ _ _ => .bl _) ha hb
def fEq (neg : Bool) : S → S → (S → Prop) → Prop := fun x y R => match x.d, y.d with
  | .int i, .int j => R (.sh (.bl (if neg then !decide (i = j) else decide (i = j))))
  | .str i, .str j => R (.sh (.bl (if neg then !decide (i = j) else decide (i = j))))
  | .bl i, .bl j => R (.sh (.bl (if neg then !decide (i = j) else decide (i = j))))
  | _, _ => False
theorem dec_inj {α β : Type} [DecidableEq α] [DecidableEq β] {f : α → β} (hf : ∀ a b, f a = f b → a = b) (a b : α) : decide (f a = f b) = decide (a = b) := by
  by_cases e : a = b
  · rw [decide_eq_true e, decide_eq_true (congrArg f e)]
  · rw [decide_eq_false e, decide_eq_false fun z => e (hf a b z)]
/-- a place in a list or a tuple -/
def fIx : S → S → (S → Prop) → Prop := fun x y R => match x.d, y.d with
  | .lst ds, .int k => ∃ d, atI ds k = some d ∧ R (x.sub d)
  | .tup ds, .int k => ∃ d, atI ds k = some d ∧ R (x.sub d)
  | .scr ns, .int k => ∃ i, atI ns k = some i ∧ R (.sh (.int i))
  | _, _ => False
theorem at_part {ds : List D} {vs : List V} {k : Int} {d : D} {P : D → V → Prop} (hl : vs.length = ds.length) (h : ∀ (i : Nat) d, ds[i]? = some d → ∃ u, vs[i]? = some u ∧ P d u) (e : atI ds k = some d) : ∃ u, atI vs k = some u ∧ P d u := by
  unfold atI at e ⊢
  rw [hl]
  cases q : ixN ds.length k with
  | none => rw [q] at e; cases e
  | some j =>
    rw [q] at e
    exact h j d e
theorem se_ix (ha : SndE K mg E ta a) (hb : SndE K mg E tb b) : SndE K mg E (tOp (fun x y H Q => rIxL K x y H Q ∨ rIxT K x y H Q) ta tb) (p2 a b fIx) := by
  refine se_2 ha hb fun H0 H H2 Z x y v u R Q s0 s1 hm tx ty h q => ?_
  unfold fIx at h
  have ry := ty.rp s0
  obtain ⟨pl, pt⟩ := tx.part s0 hm s1
  split at h
  · rename_i ds k e1 e2
    rw [e2] at ry
    obtain ⟨d, hd, hR⟩ := h
    obtain ⟨l, vs, rfl, hl, hn, hp⟩ := pl ds e1
    obtain ⟨z, hz, tz⟩ := at_part hn hp hd
    exact .inl ⟨l, vs, k, z, rfl, ry.int_inv, SqL.of hl, hz, q _ _ H2 hR (Same.refl _) tz⟩
  · rename_i ds k e1 e2
    rw [e2] at ry
    obtain ⟨d, hd, hR⟩ := h
    obtain ⟨l, vs, rfl, hl, hn, hp⟩ := pt ds e1
    obtain ⟨z, hz, tz⟩ := at_part hn hp hd
    exact .inr ⟨l, vs, k, z, rfl, ry.int_inv, SqT.of hl, hz, q _ _ H2 hR (Same.refl _) tz⟩
  · rename_i ns k e1 e2
    rw [e2] at ry
    obtain ⟨i, hi, hR⟩ := h
    have rx := tx.rp s0
    rw [e1] at rx
    cases rx with
    | scr hs => exact .inl ⟨_, _, k, .int i, rfl, ry.int_inv, hs, atI_map hi, q _ _ H2 hR (Same.refl _) (.int i)⟩
  · exact h.elim
/-- and, or, not as values; x if c else y -/
def pAndV (a b : PTE) : PTE := fun γ R X => a γ (fun x => match x.d with | .bl c => if c = true then b γ R X else R (.sh (.bl false)) | _ => False) X
theorem se_andV (ha : SndE K mg E ta a) (hb : SndE K mg E tb b) : SndE K mg E (tAndV ta tb) (pAndV a b) := by
  intro H0 B H σ γ R X Q env p q qx
  refine ha H0 B H σ γ _ X _ env p (fun x v H1 h1 S1 t1 => ?_) qx
  have env1 := env.grow S1
  have rx := t1.rp env1.same
  split at h1
  · rename_i c e1
    rw [e1] at rx
    refine ⟨c, rx.bl_inv, ?_⟩
    split at h1
    · rename_i hc
      rw [if_pos hc]
      exact hb H0 B H1 σ γ _ X _ env1 h1 (fun y u H2 h2 S2 t2 => q y u H2 h2 (S1.trans S2) (TV.weak S1 (fun _ z => z) t2)) fun c H' hc S' => qx c H' hc (S1.trans S')
    · rename_i hc
      rw [if_neg hc]
      exact q _ _ H1 h1 S1 (.bl _)
  · exact h1.elim
def pNeg (a : PTE) : PTE := fun γ R X => a γ (fun x => match x.d with | .int i => R (.sh (.int (-i))) | _ => False) X
theorem se_neg (ha : SndE K mg E ta a) : SndE K mg E (tUn (rU fun i => .int (-i)) ta) (pNeg a) := by
  intro H0 B H σ γ R X Q env p q qx
  refine ha H0 B H σ γ _ X _ env p (fun x v H1 h1 S1 t1 => ?_) qx
  have rx := t1.rp (env.grow S1).same
  split at h1
  · rename_i c e1
    rw [e1] at rx
    exact ⟨c, rx.int_inv, q _ _ H1 h1 S1 (.int _)⟩
  · exact h1.elim
/-! ### tests -/
def pTest (a : PTE) : PTT := fun γ R X => a γ (fun x => match x.d with | .bl c => R c | _ => False) X
theorem st_test (ha : SndE K mg E ta a) : SndT K mg E (tTest ta) (pTest a) := by
  intro H0 B H σ γ R X Q env p q qx
  refine ha H0 B H σ γ _ X _ env p (fun x v H1 h1 S1 t1 => ?_) qx
  have rx := t1.rp (env.grow S1).same
  split at h1
  · rename_i c e1
    rw [e1] at rx
    exact ⟨c, rx.bl_inv, q _ H1 h1 S1⟩
  · exact h1.elim
variable {sa sb : TT} {pa pb : PTT}
def pAnd (a b : PTT) : PTT := fun γ R X => a γ (fun c => if c = true then b γ R X else R false) X
def pOr (a b : PTT) : PTT := fun γ R X => a γ (fun c => if c = true then R true else b γ R X) X
def pNot (a : PTT) : PTT := fun γ R X => a γ (fun c => R (!c)) X
theorem st_and (ha : SndT K mg E sa pa) (hb : SndT K mg E sb pb) : SndT K mg E (tAnd sa sb) (pAnd pa pb) := by
  intro H0 B H σ γ R X Q env p q qx
  refine ha H0 B H σ γ _ X _ env p (fun c H1 h1 S1 => ?_) qx
  split at h1
  · rename_i hc
    rw [if_pos hc]
    exact hb H0 B H1 σ γ _ X _ (env.grow S1) h1 (fun y H2 h2 S2 => q y H2 h2 (S1.trans S2)) fun c H' hc S' => qx c H' hc (S1.trans S')
  · rename_i hc
    rw [if_neg hc]
    exact q _ H1 h1 S1
theorem st_or (ha : SndT K mg E sa pa) (hb : SndT K mg E sb pb) : SndT K mg E (tOr sa sb) (pOr pa pb) := by
  intro H0 B H σ γ R X Q env p q qx
  refine ha H0 B H σ γ _ X _ env p (fun c H1 h1 S1 => ?_) qx
  split at h1
  · rename_i hc
    rw [if_pos hc]
    exact q _ H1 h1 S1
  · rename_i hc
    rw [if_neg hc]
    exact hb H0 B H1 σ γ _ X _ (env.grow S1) h1 (fun y H2 h2 S2 => q y H2 h2 (S1.trans S2)) fun c H' hc S' => qx c H' hc (S1.trans S')
theorem st_not (ha : SndT K mg E sa pa) : SndT K mg E (tNot sa) (pNot pa) := by
  intro H0 B H σ γ R X Q env p q qx
  exact ha H0 B H σ γ _ X _ env p (fun c H1 h1 S1 => q _ H1 h1 S1) qx
end
/-! ### argument lists, tuples, lists -/
def pNil : PTA := fun _ R _ => R []
def pCons (a : PTE) (r : PTA) : PTA := fun γ R X => a γ (fun s => r γ (fun ss => R (s :: ss)) X) X
theorem sa_nil : SndA K mg E tNil pNil := by
  intro H0 B H σ γ R X Q env p q _
  exact q _ _ H p (Same.refl _) .nil
theorem sa_cons {te : TE} {ta : TA} {a : PTE} {r : PTA} (ha : SndE K mg E te a) (hr : SndA K mg E ta r) : SndA K mg E (tCons te ta) (pCons a r) := by
  intro H0 B H σ γ R X Q env p q qx
  refine ha H0 B H σ γ _ X _ env p (fun s v H1 h1 S1 t1 => ?_) qx
  refine hr H0 B H1 σ γ _ X _ (env.grow S1) h1 (fun ss vs H2 h2 S2 t2 => ?_) fun c H' hc S' => qx c H' hc (S1.trans S')
  exact q _ _ H2 h2 (S1.trans S2) (.cons (t1.grow S2) (TVs.weakG S1 t2))
def shds : List S → Option (List D)
  | [] => some []
  | s :: r => match s.shd, shds r with
    | some d, some ds => some (d :: ds)
    | _, _ => none
theorem shds_map : ∀ {ss : List S} {ds : List D}, shds ss = some ds → ss.map S.shd = ds.map some
  | [], ds, h => by cases h; rfl
  | s :: r, ds, h => by
    unfold shds at h
    split at h
    · rename_i d es e1 e2
      cases h
      rw [List.map_cons, List.map_cons, e1, shds_map e2]
    · cases h
def pTup (r : PTA) : PTE := fun γ R X => r γ (fun ss => match shds ss with | some ds => ds.length ≤ 1000 ∧ R (.sh (.tup ds)) | none => False) X
def pLst (r : PTA) : PTE := fun γ R X => r γ (fun ss => match shds ss with | some ds => ds.length ≤ 1000 ∧ R (.own ds) | none => False) X
theorem big1000 {n : Nat} (h : n ≤ 1000) : n ≤ sizeLine := Nat.le_of_lt (small1000 h)
theorem se_tup {ta : TA} {r : PTA} (hr : SndA K mg E ta r) : SndE K mg E (tTup ta) (pTup r) := by
  intro H0 B H σ γ R X Q env p q qx
  refine hr H0 B H σ γ _ X _ env p (fun ss vs H1 h1 S1 t1 => ?_) qx
  split at h1
  · rename_i ds e
    have env1 := env.grow S1
    have rp := t1.shd (ds := ds) env1.same env.zm S1 (shds_map e)
    refine ⟨by rw [rp.len]; exact big1000 h1.1, fun l nl => ?_⟩
    have S2 := same_upd (o := .tup vs) nl
    refine q _ _ _ h1.2 (S1.trans S2) (.tup (off_of upd_same fun z => ?_) (Rps.mono (off_mono S2 fun _ _ _ z => z) rp))
    have := env1.zm l z
    rw [nl] at this
    exact this
  · exact h1.elim
theorem own_new {H H1 : Hp} {l : Addr} {vs : List V} {ds : List D} (S1 : Same H H1) (nl : H1 l = none) (rp : Rps K (off Z H1) ds vs) : TV K Z H0 H (upd H1 l (.lst vs)) (.own ds) (.ref l) :=
  ⟨l, rfl, S1.free nl, vs, upd_same, Rps.mono (off_mono (same_upd nl) fun b o hb z y => y.elim z fun e => by rw [e, nl] at hb; cases hb) rp⟩
theorem se_lst {ta : TA} {r : PTA} (hr : SndA K mg E ta r) : SndE K mg E (tLst ta) (pLst r) := by
  intro H0 B H σ γ R X Q env p q qx
  refine hr H0 B H σ γ _ X _ env p (fun ss vs H1 h1 S1 t1 => ?_) qx
  split at h1
  · rename_i ds e
    have env1 := env.grow S1
    have rp := t1.shd (ds := ds) env1.same env.zm S1 (shds_map e)
    refine ⟨by rw [rp.len]; exact big1000 h1.1, fun l nl => ?_⟩
    exact q _ _ _ h1.2 (S1.trans (same_upd nl)) (own_new S1 nl rp)
  · exact h1.elim
/-! ### calls of defs -/
abbrev Pc := List D → (S → Prop) → XR → Prop
def spOf (mg : Str → Option Value) (c : Pc) (K : PySem.W.Frag) : Sp := fun vs H Q E => ∃ ds R X, Rps K H ds vs ∧ c ds R X ∧ (∀ s v H', R s → Same H H' → TV K (fun b => Mut (H b)) H H H' s v → Q v H') ∧ ∀ e H', X e → Same H H' → E (.ref (ExcR.clsOf mg e)) none H'
/-- a result as the caller has it -/
def S.back : S → S
  | .bor d => argT d | .view o => .tmp o.d | s => s
theorem TV.back {s : S} {v : V} (env : EnvR K H0 B H1 σ γ) (S1 : Same H H1) (S2 : Same H1 H') (h : TV K (fun b => Mut (H1 b)) H1 H1 H' s v) : TV K (zof B γ σ) H0 H H' s.back v := by
  cases s with
  | bor d => exact argTR (fun b z => mut_same S2 (env.zm b z)) (Rp.mono S2 h)
  | sh d => exact Rp.mono (off_mono (Same.refl _) fun b _ _ z y => z (env.zm b y)) h
  | own ds =>
    obtain ⟨a, rfl, e0, r⟩ := h
    exact ⟨a, rfl, S1.free e0, r.mono (off_mono (Same.refl _) fun b _ _ z y => z (y.imp (env.zm b) id)) fun _ q => q⟩
  | view ds =>
    obtain ⟨a, rfl, r⟩ := h
    exact r.rp off_sub
  | tmp d => exact h
def pCall (c : Pc) (r : PTA) : PTE := fun γ R X => r γ (fun ss => c (ss.map S.d) (fun s => R s.back) fun _ => False) X
def pCallX (c : Pc) (r : PTA) : PTE := fun γ R X => r γ (fun ss => c (ss.map S.d) (fun s => R s.back) X) X
theorem se_call {c : Pc} {ta : TA} {r : PTA} (hr : SndA K mg E ta r) : SndE K mg E (tCall (spOf mg c K) [] E0 ta) (pCall c r) := by
  intro H0 B H σ γ R X Q env p q qx
  refine hr H0 B H σ γ _ X _ env p (fun ss vs H1 h1 S1 t1 => ?_) qx
  rw [List.append_nil]
  have env1 := env.grow S1
  exact ⟨_, _, _, t1.rps env1.same, h1, fun s v H' hs S2 tv => q _ _ H' hs (S1.trans S2) (tv.back env1 S1 S2), fun _ _ z => z.elim⟩
theorem se_callX {c : Pc} {ta : TA} {r : PTA} {Ec : XK} (hr : SndA K mg (fun _ => Ec) ta r) : SndE K mg (fun _ => Ec) (tCall (spOf mg c K) [] Ec ta) (pCallX c r) := by
  intro H0 B H σ γ R X Q env p q qx
  refine hr H0 B H σ γ _ X _ env p (fun ss vs H1 h1 S1 t1 => ?_) qx
  rw [List.append_nil]
  have env1 := env.grow S1
  exact ⟨_, _, X, t1.rps env1.same, h1, fun s v H' hs S2 tv => q _ _ H' hs (S1.trans S2) (tv.back env1 S1 S2), fun e H' he S2 => qx e H' he (S1.trans S2)⟩
theorem se_callS {c : Pc} {ta : TA} {r : PTA} (hr : SndA K mg E ta r) : SndE K mg E (ExcR.tCallS (spOf mg c K) E ta) (pCallX c r) := by
  intro H0 B H σ γ R X Q env p q qx
  refine hr H0 B H σ γ _ X _ env p (fun ss vs H1 h1 S1 t1 => ?_) qx
  rw [List.append_nil]
  have env1 := env.grow S1
  exact ⟨_, _, X, t1.rps env1.same, h1, fun s v H' hs S2 tv => q _ _ H' hs (S1.trans S2) (tv.back env1 S1 S2), fun e H' he S2 => qx e H' he (S1.trans S2)⟩
end
end Pu

namespace Pu
open PySem PySem.Spec PyProof.Rows L2 Own
section
variable {K : PySem.W.Frag} {mg : Str → Option Value} {E : L2.St → XK} {H0 H H1 H' : Hp} {B Z Z' : Addr → Prop} {σ : L2.St} {γ : Γ}
/-- a name gets a value, wherever it stands -/
theorem EnvR.set {i : Nat} {s s' : S} {v : V} (Ev : EnvR K H0 B H σ γ) (S1 : Same H H') (h : TV K (zof B γ σ) H0 H H' s v) (e : s.slot = some s') :
    EnvR K H0 B H' (σ.set i (some v)) (γ.set i (some s')) ∧ Fr B H σ γ H' (σ.set i (some v)) (γ.set i (some s')) := by
  by_cases hi : i < γ.length
  · exact Ev.put S1 h e hi
  · rw [List.set_eq_of_length_le (by rw [Ev.len]; omega), List.set_eq_of_length_le (by omega)]
    exact ⟨Ev.grow S1, Fr.grow S1⟩
/-! ### targets -/
def Upd (is : List Nat) (σ σ' : L2.St) : Prop := (∀ j, j ∉ is → σ'[j]? = σ[j]?) ∧ σ'.length = σ.length
def SndGi (K : PySem.W.Frag) (is : List Nat) (t : TG) (p : PTG) : Prop := ∀ (H0 : Hp) (B : Addr → Prop) (H H' : Hp) (σ : L2.St) (γ : Γ) (s : S) (v : V) (R : Γ → Prop) (Q : L2.St → Hp → Prop), EnvR K H0 B H σ γ → Same H H' → TV K (zof B γ σ) H0 H H' s v → p s γ R →
  (∀ σ' γ', R γ' → EnvR K H0 B H' σ' γ' → Fr B H σ γ H' σ' γ' → Upd is σ σ' → Q σ' H') → t v σ H' Q
def pName (i : Nat) : PTG := fun s γ R => match s.slot with | some s' => R (γ.set i (some s')) | none => False
theorem sg_name (i : Nat) : SndGi K [i] (gName i) (pName i) := by
  intro H0 B H H' σ γ s v R Q env S1 tv p q
  unfold pName at p
  split at p
  · rename_i s' e
    obtain ⟨e1, f1⟩ := env.set (i := i) S1 tv e
    exact q _ _ p e1 f1 ⟨fun j hj => set_ne fun z => hj (by rw [z]; exact List.mem_singleton.mpr rfl), List.length_set⟩
  · exact p.elim
theorem arg_cases (d : D) : arg d = .sh d ∨ arg d = .bor d := by unfold arg; cases imm d <;> simp
/-! ### statements -/
theorem EndR.from {R : PEnds} {D : Ends} {σ1 : L2.St} {γ1 : Γ} (e : EndR K mg E H0 B H σ γ R D) (f : Fr B H σ γ H1 σ1 γ1) : EndR K mg E H0 B H1 σ1 γ1 R D :=
  ⟨fun σ' γ' H' h1 h2 h3 => e.nx σ' γ' H' h1 h2 (f.trans h3), e.rt, fun σ' γ' c H' h1 h2 h3 => e.ex σ' γ' c H' h1 h2 (f.trans h3), fun σ' γ' H' h1 h2 h3 => e.bk σ' γ' H' h1 h2 (f.trans h3), fun σ' γ' H' h1 h2 h3 => e.ct σ' γ' H' h1 h2 (f.trans h3)⟩
variable {te : TE} {a : PTE} {tt : TT} {c : PTT} {t u : TS} {p q : PTS}
def pNext : PTS := fun R γ => R.nx γ
theorem ss_next : SndS K mg E tNext pNext := fun _ _ _ _ _ _ _ _ env h e => e.nx _ _ _ h env Fr.refl
def pSeq (p q : PTS) : PTS := fun R γ => p { R with nx := q R } γ
theorem ss_seq (hp : SndS K mg E t p) (hq : SndS K mg E u q) : SndS K mg E (tSeq t u) (pSeq p q) := by
  intro H0 B H σ γ R D hB env h e
  refine hp H0 B H σ γ _ _ hB env h ⟨fun σ' γ' H' h1 e1 f1 => ?_, e.rt, e.ex, e.bk, e.ct⟩
  exact hq H0 B H' σ' γ' R D hB e1 h1 (e.from f1)
structure JoinW (p q : PTS) (R : PEnds) (γ : Γ) : Prop where
  w : ∃ J : Γ → Prop, p { R with nx := J } γ ∧ ∀ γ', J γ' → q R γ'
def pJoin (p q : PTS) : PTS := fun R γ => JoinW p q R γ
theorem ss_join (hp : SndS K mg E t p) (hq : SndS K mg E u q) : SndS K mg E (Own.tJoin t u) (pJoin p q) := by
  intro H0 B H σ γ R D hB env h e
  obtain ⟨J, h, k⟩ := h.w
  refine ⟨fun σ' H' => ∃ γ', J γ' ∧ EnvR K H0 B H' σ' γ' ∧ Fr B H σ γ H' σ' γ', hp H0 B H σ γ _ _ hB env h ⟨fun σ' γ' H' h1 e1 f1 => ⟨γ', h1, e1, f1⟩, e.rt, e.ex, e.bk, e.ct⟩, ?_⟩
  rintro σ' H' ⟨γ', h1, e1, f1⟩
  exact hq H0 B H' σ' γ' R D hB e1 (k γ' h1) (e.from f1)
/-- the same statement, one's own list at i shared ahead of it -/
def pFrz (i : Nat) (p : PTS) : PTS := fun R γ => p R (frz i γ)
theorem ss_frz (i : Nat) (hp : SndS K mg E t p) : SndS K mg E t (pFrz i p) := by
  intro H0 B H σ γ R D hB env h e
  obtain ⟨e1, f1⟩ := env.frz hB i
  exact hp H0 B H σ _ R D hB e1 h (e.from f1)
def pAsg (a : PTE) (g : PTG) : PTS := fun R γ => a γ (fun s => g s γ R.nx) (R.ex γ)
theorem ss_asg {is : List Nat} {g : TG} {pg : PTG} (ha : SndE K mg E te a) (hg : SndGi K is g pg) : SndS K mg E (tAsg te g) (pAsg a pg) := by
  intro H0 B H σ γ R D hB env h e
  refine ha H0 B H σ γ _ _ _ env h (fun s v H1 h1 S1 t1 => ?_) fun c H' hc S' => e.ex σ γ c H' hc (env.grow S') (Fr.grow S')
  exact hg H0 B H H1 σ γ s v _ _ env S1 t1 h1 fun σ' γ' h2 e2 f2 _ => e.nx σ' γ' H1 h2 e2 f2
def pAug (i : Nat) (f : Int → Int → Int) (a : PTE) : PTS := fun R γ => match γ[i]? with
  | some (some (.sh (.int x))) => a γ (fun y => match y.d with | .int j => R.nx (γ.set i (some (.sh (.int (f x j))))) | _ => False) (R.ex γ)
  | _ => False
theorem ss_aug {i : Nat} {f : Int → Int → Int} (ha : SndE K mg E te a) : SndS K mg E (tAug i te (ipI f)) (pAug i f a) := by
  intro H0 B H σ γ R D hB env h e
  unfold pAug at h
  split at h
  · rename_i x hx
    obtain ⟨v, h1, h2⟩ := env.slot i _ hx
    refine ⟨v, h1, ha H0 B H σ γ _ _ _ env h (fun y u H1 h3 S1 t1 => ?_) fun c H' hc S' => e.ex σ γ c H' hc (env.grow S') (Fr.grow S')⟩
    have rx := t1.rp (env.grow S1).same
    split at h3
    · rename_i j ej
      rw [ej] at rx
      refine ⟨x, j, Rp.int_inv h2, rx.int_inv, ?_⟩
      obtain ⟨e1, f1⟩ := env.set (i := i) (s := .sh (.int (f x j))) (v := .int (f x j)) S1 (.int _) rfl
      exact e.nx _ _ H1 h3 e1 f1
    · exact h3.elim
  · exact h.elim
def pRet (a : PTE) : PTS := fun R γ => a γ R.rt (R.ex γ)
theorem ss_ret (ha : SndE K mg E te a) : SndS K mg E (tRet te) (pRet a) := by
  intro H0 B H σ γ R D hB env h e
  refine ha H0 B H σ γ _ _ _ env h (fun s v H1 h1 S1 t1 => ?_) fun c H' hc S' => e.ex σ γ c H' hc (env.grow S') (Fr.grow S')
  exact e.rt s v H1 h1 (env.same.trans S1) (TV.weak env.same (fun b z => .inl z) t1)
/-- return name -/
def pRetV (i : Nat) : PTS := fun R γ => match γ[i]? with | some (some s) => R.rt s | _ => False
theorem ss_retV (i : Nat) : SndS K mg E (tRet (tVar i)) (pRetV i) := by
  intro H0 B H σ γ R D hB env h e
  unfold pRetV at h
  split at h
  · rename_i s hs
    obtain ⟨v, h1, h2⟩ := env.slot i _ hs
    refine ⟨v, h1, e.rt s v H h env.same ?_⟩
    cases s with
    | bor d => exact h2
    | sh d => exact Rp.mono (off_mono (Same.refl _) fun b _ _ z y => z (.inl y)) h2
    | own ds =>
      obtain ⟨l, rfl, e2, e3⟩ := h2
      exact ⟨l, rfl, e2, e3.mono (off_mono (Same.refl _) fun b _ _ z y => z (y.elim .inl fun w => .inr ⟨i, ds, hs, by rw [w]; exact h1⟩)) fun _ q => q⟩
    | view ds => exact h2.elim
    | tmp d => exact h2.elim
  · exact h.elim
def pIfS (c : PTT) (p q : PTS) : PTS := fun R γ => c γ (fun b => if b = true then p R γ else q R γ) (R.ex γ)
theorem ss_if (hc : SndT K mg E tt c) (hp : SndS K mg E t p) (hq : SndS K mg E u q) : SndS K mg E (tIfS tt t u) (pIfS c p q) := by
  intro H0 B H σ γ R D hB env h e
  refine hc H0 B H σ γ _ _ _ env h (fun b H1 h1 S1 => ?_) fun c H' hc S' => e.ex σ γ c H' hc (env.grow S') (Fr.grow S')
  split at h1
  · rename_i hb
    rw [if_pos hb]
    exact hp H0 B H1 σ γ R D hB (env.grow S1) h1 (e.from (Fr.grow S1))
  · rename_i hb
    rw [if_neg hb]
    exact hq H0 B H1 σ γ R D hB (env.grow S1) h1 (e.from (Fr.grow S1))
def pDrop (a : PTE) : PTS := fun R γ => a γ (fun _ => R.nx γ) (R.ex γ)
theorem ss_drop (ha : SndE K mg E te a) : SndS K mg E (tDrop te) (pDrop a) := by
  intro H0 B H σ γ R D hB env h e
  exact ha H0 B H σ γ _ _ _ env h (fun s v H1 h1 S1 t1 => e.nx σ γ H1 h1 (env.grow S1) (Fr.grow S1)) fun c H' hc S' => e.ex σ γ c H' hc (env.grow S') (Fr.grow S')
/-- raise C(..) -/
def pRaise (x : Str) (r : PTA) : PTS := fun R γ => r γ (fun ss => ss.length ≤ 1000 ∧ R.ex γ x) (R.ex γ)
theorem TVs.len : ∀ {ss : List S} {vs : List V}, TVs K Z H0 H H' ss vs → vs.length = ss.length
  | _, _, .nil => rfl
  | _, _, .cons _ r => congrArg (· + 1) (TVs.len r)
theorem ss_raise {x : Str} {ta : TA} {r : PTA} {Ec : XK} (hr : SndA K mg (fun _ => Ec) ta r) : SndS K mg (fun _ => Ec) (ExcR.tRaise (ExcR.clsOf mg x) Ec ta) (pRaise x r) := by
  intro H0 B H σ γ R D hB env h e
  refine hr H0 B H σ γ _ _ _ env h (fun ss vs H1 h1 S1 t1 => ⟨?_, ?_⟩) fun c H' hc S' => e.ex σ γ c H' hc (env.grow S') (Fr.grow S')
  · rw [t1.len]
    exact big1000 h1.1
  · exact e.ex σ γ x H1 h1.2 (env.grow S1) (Fr.grow S1)
/-! ### names let go -/
def clr : List Nat → Γ → Γ
  | [], γ => γ
  | i :: r, γ => clr r (γ.set i none)
theorem EnvR.clr : ∀ (is : List Nat) {γ : Γ}, EnvR K H0 B H σ γ → EnvR K H0 B H σ (clr is γ) ∧ Fr B H σ γ H σ (Pu.clr is γ)
  | [], _, e => ⟨e, Fr.refl⟩
  | i :: r, γ, e => by
    obtain ⟨e1, f1⟩ := e.drop i
    obtain ⟨e2, f2⟩ := EnvR.clr r e1
    exact ⟨e2, f1.trans f2⟩
/-! ### loops -/
/-- a later heap, apart from Z' -/
def Later (H0 : Hp) (Z : Addr → Prop) (H1 : Hp) (Z' : Addr → Prop) (H' : Hp) : Prop := Same H0 H' ∧ (∀ b, Z' b → Mut (H' b)) ∧ ∀ b o, H1 b = some o → ¬ Z b → H' b = some o ∧ ¬ Z' b
theorem Later.of {σ' : L2.St} {γ' : Γ} (e : EnvR K H0 B H' σ' γ') (f : Fr B H1 σ γ H' σ' γ') : Later H0 (zof B γ σ) H1 (zof B γ' σ') H' := ⟨e.same, e.zm, f⟩
theorem Later.off (l : Later H0 Z H1 Z' H') : Same (off Z H1) (Pu.off Z' H') := fun b o h => by
  obtain ⟨h1, h2⟩ := off_in h
  obtain ⟨h3, h4⟩ := l.2.2 b o h1 h2
  exact off_of h3 h4
structure ItOk (K : PySem.W.Frag) (H0 : Hp) (B : Addr → Prop) (H1 : Hp) (σ : L2.St) (γ : Γ) (J : It) (n : Nat) (item : Nat → S) : Prop where
  go : ∀ (i : Nat) (H' : Hp) (Z' : Addr → Prop), i < n → Later H0 (zof B γ σ) H1 Z' H' → J.go i H' ∧ ∀ x H'', J.yld i H' x H'' → Same H' H'' ∧ TV K Z' H0 H' H'' (item i) x
  stop : ∀ (H' : Hp) (Z' : Addr → Prop), Later H0 (zof B γ σ) H1 Z' H' → J.stop n H'
abbrev PTI := Γ → (Nat → (Nat → S) → Prop) → XR → Prop
def SndI (K : PySem.W.Frag) (mg : Str → Option Value) (E : L2.St → XK) (wi : TI) (it : PTI) : Prop := ∀ (H0 : Hp) (B : Addr → Prop) (H : Hp) (σ : L2.St) (γ : Γ) (R : Nat → (Nat → S) → Prop) (X : XR) (Q : It → Hp → Prop), EnvR K H0 B H σ γ → it γ R X →
  (∀ n item J H1, R n item → Same H H1 → ItOk K H0 B H1 σ γ J n item → Q J H1) → (∀ c H', X c → Same H H' → E σ (.ref (ExcR.clsOf mg c)) none H') → wi σ H Q
structure ForW (js : List Nat) (γ : Γ) (g : PTG) (body : PTS) (R : PEnds) (n : Nat) (item : Nat → S) : Prop where
  w : ∃ inv : Nat → Γ → Prop, inv 0 (clr js γ) ∧
  (∀ i γ', i < n → inv i γ' → g (item i) γ' fun γ2 => body { R with nx := fun γ3 => inv (i + 1) (clr js γ3), ct := fun γ3 => inv (i + 1) (clr js γ3), bk := R.nx } γ2) ∧ ∀ γ', inv n γ' → R.nx γ'
def pFor (js : List Nat) (it : PTI) (g : PTG) (body : PTS) : PTS := fun R γ => it γ (fun n item => ForW js γ g body R n item) (R.ex γ)
theorem ss_for {is : List Nat} {wi : TI} {g : TG} {it : PTI} {pg : PTG} (js : List Nat) (hi : SndI K mg E wi it) (hg : SndGi K is g pg) (hb : SndS K mg E t p) : SndS K mg E (tFor wi g t) (pFor js it pg p) := by
  intro H0 B H σ γ R D hB env h e
  refine hi H0 B H σ γ _ _ _ env h (fun n item J H1 h1 S1 ok => ?_) fun c H' hc S' => e.ex σ γ c H' hc (env.grow S') (Fr.grow S')
  obtain ⟨inv, h0, hs, hd⟩ := h1.w
  have env1 := env.grow S1
  refine ⟨fun i m σ' H' => m = n - i ∧ i ≤ n ∧ ∃ γ', inv i γ' ∧ EnvR K H0 B H' σ' γ' ∧ Fr B H1 σ γ H' σ' γ', ⟨n, by simp, Nat.zero_le _, _, h0, (env1.clr js).1, (env1.clr js).2⟩, ?_⟩
  rintro i m σ' H' ⟨rfl, hin, γ', hi', e', f'⟩
  by_cases hlt : i < n
  · obtain ⟨go, yl⟩ := ok.go i H' _ hlt (Later.of e' f')
    refine .inr ⟨go, fun σ2 H2 => ∃ γ2, inv (i + 1) γ2 ∧ EnvR K H0 B H2 σ2 γ2 ∧ Fr B H1 σ γ H2 σ2 γ2, fun σ2 H2 ⟨γ2, a1, a2, a3⟩ => ⟨n - (i + 1), by omega, rfl, hlt, γ2, a1, a2, a3⟩, fun x H'' y => ?_⟩
    obtain ⟨S2, tv⟩ := yl x H'' y
    refine hg H0 B H' H'' σ' γ' _ _ _ _ e' S2 tv (hs i γ' hlt hi') fun σ2 γ2 q2 e2 f2 _ => ?_
    have fall := f'.trans f2
    refine hb H0 B H'' σ2 γ2 _ _ hB e2 q2 ⟨fun σ3 γ3 H3 q3 e3 f3 => ?_, e.rt, fun σ3 γ3 c H3 q3 e3 f3 => e.ex σ3 γ3 c H3 q3 e3 ((Fr.grow S1).trans (fall.trans f3)), fun σ3 γ3 H3 q3 e3 f3 => e.nx σ3 γ3 H3 q3 e3 ((Fr.grow S1).trans (fall.trans f3)), fun σ3 γ3 H3 q3 e3 f3 => ?_⟩
    · exact ⟨_, q3, (e3.clr js).1, (fall.trans f3).trans (e3.clr js).2⟩
    · exact ⟨_, q3, (e3.clr js).1, (fall.trans f3).trans (e3.clr js).2⟩
  · have : i = n := by omega
    subst this
    exact .inl ⟨ok.stop H' _ (Later.of e' f'), e.nx σ' γ' H' (hd γ' hi') e' ((Fr.grow S1).trans f')⟩
/-- a list that lasts -/
def S.fix : S → Bool
  | .bor _ => true | .sh _ => true | .own _ => true | _ => false
def pIL (a : PTE) : PTI := fun γ R X => a γ (fun s => match s.d with
  | .lst ds => s.fix = true ∧ R ds.length fun i => s.sub (ds.getD i .non)
  | .scr ns => s.fix = true ∧ R ns.length fun i => .sh (.int (ns.getD i 0))
  | _ => False) X
theorem TV.last {s : S} {v : V} {ds : List D} (env : EnvR K H0 B H σ γ) (S1 : Same H H1) (tv : TV K (zof B γ σ) H0 H H1 s v) (hf : s.fix = true) (hd : s.d = .lst ds) : ∃ l vs, v = .ref l ∧ vs.length = ds.length ∧
    ∀ (H' : Hp) (Z' : Addr → Prop), Later H0 (zof B γ σ) H1 Z' H' → H' l = some (.lst vs) ∧ ∀ (i : Nat) d, ds[i]? = some d → ∃ u, vs[i]? = some u ∧ TV K Z' H0 H' H' (s.sub d) u := by
  have env1 := env.grow S1
  have key : ∀ {s : S}, (∀ d, s.sub d = .sh d) → Rp K (Pu.off (zof B γ σ) H1) (.lst ds) v → ∃ l vs, v = .ref l ∧ vs.length = ds.length ∧
      ∀ (H' : Hp) (Z' : Addr → Prop), Later H0 (zof B γ σ) H1 Z' H' → H' l = some (.lst vs) ∧ ∀ (i : Nat) d, ds[i]? = some d → ∃ u, vs[i]? = some u ∧ TV K Z' H0 H' H' (s.sub d) u := fun hs h => by
    obtain ⟨l, vs, rfl, h1, h2⟩ := Rp.lst_inv h
    refine ⟨l, vs, rfl, h2.len, fun H' Z' lt => ⟨off_sub _ _ (lt.off _ _ h1), fun i d hi => ?_⟩⟩
    obtain ⟨u, h3, h4⟩ := h2.get hi
    refine ⟨u, h3, ?_⟩
    rw [hs]
    exact Rp.mono lt.off h4
  cases s with
  | bor d =>
    have tv := Rp.strip tv
    rw [show d.strip = .lst ds from hd] at tv
    obtain ⟨l, vs, rfl, h1, h2⟩ := Rp.lst_inv tv
    refine ⟨l, vs, rfl, h2.len, fun H' Z' lt => ⟨lt.1 _ _ h1, fun i d hi => ?_⟩⟩
    obtain ⟨u, h3, h4⟩ := h2.get hi
    exact ⟨u, h3, argR lt.2.1 lt.1 h4⟩
  | sh d =>
    have : d = .lst ds := hd
    subst this
    exact key (fun _ => rfl) tv
  | own es =>
    cases es with
    | lst es =>
      cases hd
      exact key (fun _ => rfl) (tv.shd env1.same env.zm S1 rfl)
    | dK es => cases hd
    | dT es => cases hd
  | view es => cases hf
  | tmp d => cases hf
theorem si_list {te : TE} {a : PTE} (ha : SndE K mg E te a) : SndI K mg E (iList K te) (pIL a) := by
  intro H0 B H σ γ R X Q env h q qx
  refine ha H0 B H σ γ _ X _ env h (fun s v H1 h1 S1 t1 => ?_) qx
  have env1 := env.grow S1
  split at h1
  · rename_i ds ed
    obtain ⟨l, vs, rfl, hn, hl⟩ := t1.last env S1 h1.1 ed
    obtain ⟨hl1, _⟩ := hl H1 _ (Later.of env1 Fr.refl)
    refine ⟨l, rfl, ⟨vs, SqL.of hl1⟩, q _ _ _ H1 h1.2 S1 ⟨fun i H' Z' hi lt => ?_, fun H' Z' lt => ?_⟩⟩
    · obtain ⟨k1, k2⟩ := hl H' Z' lt
      have hd : ds[i]? = some (ds.getD i .non) := by rw [List.getD_eq_getElem?_getD, List.getElem?_eq_getElem hi]; rfl
      obtain ⟨u, hu, tu⟩ := k2 i _ hd
      refine ⟨⟨vs, u, SqL.of k1, hu⟩, fun x H'' y => ?_⟩
      obtain ⟨rfl, y⟩ := y
      have := y vs (SqL.of k1)
      rw [hu] at this
      cases this
      exact ⟨Same.refl _, tu⟩
    · exact ⟨vs, SqL.of (hl H' Z' lt).1, by omega⟩
  · rename_i ns ed
    have hs : ∃ l, v = .ref l ∧ ∀ (H' : Hp) (Z' : Addr → Prop), Later H0 (zof B γ σ) H1 Z' H' → SqL K H' l (ns.map V.int) := by
      cases s with
      | bor d =>
        have t1 := Rp.strip t1
        rw [show d.strip = .scr ns from ed] at t1
        cases t1 with
        | scr hs => exact ⟨_, rfl, fun H' Z' lt => lt.1.seq hs⟩
      | sh d =>
        have : d = .scr ns := ed
        subst this
        cases t1 with
        | scr hs => exact ⟨_, rfl, fun H' Z' lt => off_sub.seq (lt.off.seq hs)⟩
      | own es => cases es <;> cases ed
      | view es => cases es <;> cases ed
      | tmp d => cases h1.1
    obtain ⟨l, rfl, hl⟩ := hs
    refine ⟨l, rfl, ⟨_, hl H1 _ (Later.of env1 Fr.refl)⟩, q _ _ _ H1 h1.2 S1 ⟨fun i H' Z' hi lt => ?_, fun H' Z' lt => ?_⟩⟩
    · have k1 := hl H' Z' lt
      have hu : (ns.map V.int)[i]? = some (.int (ns.getD i 0)) := by
        rw [List.getElem?_map, List.getElem?_eq_getElem hi, List.getD_eq_getElem?_getD, List.getElem?_eq_getElem hi]
        rfl
      refine ⟨⟨_, _, k1, hu⟩, fun x H'' y => ?_⟩
      obtain ⟨rfl, y⟩ := y
      have := y _ k1
      rw [hu] at this
      cases this
      exact ⟨Same.refl _, .int _⟩
    · exact ⟨_, hl H' Z' lt, by rw [List.length_map]; exact Nat.le_refl _⟩
  · exact h1.elim
def fR1 (R : Nat → (Nat → S) → Prop) : List D → Prop
  | [.int j] => (-(2 ^ 62) ≤ j ∧ j < 2 ^ 62) ∧ R j.toNat fun i => .sh (.int (0 + (i : Int)))
  | _ => False
def pIR1 (r : PTA) : PTI := fun γ R X => r γ (fun ss => fR1 R (ss.map S.d)) X
theorem Rps.one_inv {d : D} {vs : List V} (h : Rps K H [d] vs) : ∃ v, vs = [v] ∧ Rp K H d v := by
  cases h with
  | cons h r => cases r; exact ⟨_, rfl, h⟩
theorem Rps.two_inv {d e : D} {vs : List V} (h : Rps K H [d, e] vs) : ∃ v u, vs = [v, u] ∧ Rp K H d v ∧ Rp K H e u := by
  cases h with
  | cons h r => cases r with | cons h2 r => cases r; exact ⟨_, _, rfl, h, h2⟩
theorem itr_ok {lo : Int} {n : Nat} : ItOk K H0 B H1 σ γ (Itr lo n) n fun i => .sh (.int (lo + (i : Int))) := by
  refine ⟨fun i H' Z' hi lt => ⟨hi, fun x H'' y => ?_⟩, fun H' Z' lt => Nat.le_refl _⟩
  obtain ⟨e, y⟩ := y
  subst e y
  exact ⟨Same.refl _, .int _⟩
theorem si_range1 {ta : TA} {r : PTA} (hr : SndA K mg E ta r) : SndI K mg E (iRng1 ta) (pIR1 r) := by
  intro H0 B H σ γ R X Q env h q qx
  refine hr H0 B H σ γ _ X _ env h (fun ss vs H1 h1 S1 t1 => ?_) qx
  have rv := t1.rps (env.grow S1).same
  unfold fR1 at h1
  split at h1
  · rename_i j ej
    rw [ej] at rv
    obtain ⟨v, rfl, r1⟩ := rv.one_inv
    rw [r1.int_inv]
    exact ⟨j, rfl, h1.1.1, h1.1.2, q _ _ _ H1 h1.2 S1 itr_ok⟩
  · exact h1.elim
end
end Pu

namespace Pu
open PySem PySem.Spec PyProof.Rows L2 Own
section
variable {K : PySem.W.Frag} {mg : Str → Option Value} {E : L2.St → XK} {H0 H H1 H' : Hp} {B Z Z' : Addr → Prop} {σ : L2.St} {γ : Γ}
/-! ### a def by its body -/
def startP (N : List Str) (ds : List D) : Γ := ds.map (fun d => some (arg d)) ++ List.replicate (N.length - ds.length) none
theorem start_env {N : List Str} {ds : List D} {vs : List V} (r : Rps K H ds vs) (hn : ds.length ≤ N.length) : EnvR K H (fun b => Mut (H b)) H (start N vs) (startP N ds) := by
  have hlen := r.len
  have get : ∀ (i : Nat) (s : S), (startP N ds)[i]? = some (some s) → ∃ d, ds[i]? = some d ∧ s = arg d := fun i s h => by
    unfold startP at h
    by_cases hi : i < ds.length
    · rw [List.getElem?_append_left (by rw [List.length_map]; exact hi), List.getElem?_map, List.getElem?_eq_getElem hi] at h
      exact ⟨_, List.getElem?_eq_getElem hi, (Option.some.inj (Option.some.inj h)).symm⟩
    · rw [List.getElem?_append_right (by rw [List.length_map]; omega), List.getElem?_replicate] at h
      split at h <;> cases h
  have noown : ∀ (i : Nat) (es : O), (startP N ds)[i]? ≠ some (some (.own es)) := fun i es h => by
    obtain ⟨d, _, e⟩ := get i _ h
    rcases arg_cases d with q | q <;> rw [q] at e <;> cases e
  refine ⟨Same.refl _, ?_, fun b h => h, fun i j a es es' h => absurd h (noown i es), fun i s h => ?_⟩
  · unfold L2.start startP
    simp [hlen]
  · obtain ⟨d, hd, rfl⟩ := get i s h
    obtain ⟨v, hv, rv⟩ := r.get hd
    refine ⟨v, ?_, ?_⟩
    · unfold L2.start
      rw [List.getElem?_append_left (by rw [List.length_map]; exact (List.getElem?_eq_some_iff.mp hv).1), List.getElem?_map, hv]
      rfl
    · have tv := argR (K := K) (Z := zof (fun b => Mut (H b)) (startP N ds) (start N vs)) (H0 := H) (H := H) (H' := H) (fun b z => z.elim id fun ⟨k, es, k1, _⟩ => absurd k1 (noown k es)) (Same.refl _) rv
      rcases arg_cases d with q | q <;> rw [q] at tv ⊢ <;> exact tv
theorem fn_use {c : Pc} {N : List Str} {t : TS} {p : PTS} {vs : List V} {Q : VK} {Ec : XK} {n : Nat} (h : spOf mg c K vs H Q Ec) (snd : SndS K mg (fun _ => Ec) t p) (hn : n ≤ N.length)
    (hp : ∀ ds R X, c ds R X → ds.length = n ∧ p { nx := fun _ => R (.sh .non), rt := R, ex := fun _ e => X e } (startP N ds)) : t { nx := fun _ H' => Q .non H', rt := Q } (start N vs) H := by
  obtain ⟨ds, R, X, r, hc, hQ, hX⟩ := h
  obtain ⟨e, hp⟩ := hp ds R X hc
  refine snd H (fun b => Mut (H b)) H _ _ _ _ (fun b z => mut_some z) (start_env r (by rw [e]; exact hn)) hp ⟨fun σ' γ' H' h1 e1 f1 => hQ _ _ H' h1 e1.same .non, fun s v H' h1 S1 tv => hQ s v H' h1 S1 tv, fun σ' γ' c H' h1 e1 f1 => hX c H' h1 e1.same, fun _ _ _ z => z.elim, fun _ _ _ z => z.elim⟩
theorem spOf_len {c : Pc} {vs : List V} {Q : VK} {Ec : XK} {n : Nat} (h : spOf mg c K vs H Q Ec) (hn : ∀ ds R X, c ds R X → ds.length = n) : vs.length = n := by
  obtain ⟨ds, R, X, r, hc, _⟩ := h
  rw [r.len]
  exact hn ds R X hc
/-! ### a comprehension -/
def atP (φ : List (Option Nat)) (γ : Γ) : Γ := φ.map fun o => o.bind fun j => (γ[j]?).join
structure CompW (φ : List (Option Nat)) (γ : Γ) (g : PTG) (c : PTT) (e : PTE) (n : Nat) (item : Nat → S) (R : S → Prop) : Prop where
  w : n ≤ 100000 ∧ ∃ f : Nat → Option D, (∀ i, i < n → g (item i) (atP φ γ) fun γ2 => c γ2 (fun b => if b = true then e γ2 (fun s => ∃ d, s.shd = some d ∧ f i = some d) (fun _ => False) else f i = none) (fun _ => False)) ∧ R (.own ((List.range n).filterMap f))
def pComp (φ : List (Option Nat)) (it : PTI) (g : PTG) (c : PTT) (e : PTE) : PTE := fun γ R X => it γ (fun n item => CompW φ γ g c e n item R) X
theorem atP_get {φ : List (Option Nat)} {i : Nat} {s : S} (h : (atP φ γ)[i]? = some (some s)) : ∃ j, φ[i]? = some (some j) ∧ γ[j]? = some (some s) := by
  unfold atP at h
  rw [List.getElem?_map] at h
  cases e : φ[i]? with
  | none => rw [e] at h; cases h
  | some o =>
    rw [e] at h
    cases o with
    | none => simp at h
    | some j =>
      refine ⟨j, rfl, ?_⟩
      simp at h
      cases e2 : γ[j]? with
      | none => rw [e2] at h; simp at h
      | some w => rw [e2] at h; simp at h; rw [h]
theorem inj_of : ∀ {φ : List (Option Nat)}, (φ.filterMap id).Nodup → ∀ (i j k : Nat), φ[i]? = some (some k) → φ[j]? = some (some k) → i = j
  | [], _, i, _, _, h, _ => by simp at h
  | none :: r, hn, i, j, k, h1, h2 => by
    cases i with
    | zero => simp at h1
    | succ i =>
      cases j with
      | zero => simp at h2
      | succ j => exact congrArg (· + 1) (inj_of (φ := r) (by simpa using hn) i j k (by simpa using h1) (by simpa using h2))
  | some m :: r, hn, i, j, k, h1, h2 => by
    have hn' : m ∉ r.filterMap id ∧ (r.filterMap id).Nodup := by simpa using hn
    have mem : ∀ {j : Nat}, r[j]? = some (some k) → k ∈ r.filterMap id := fun h => List.mem_filterMap.mpr ⟨some k, List.mem_of_getElem? h, rfl⟩
    cases i with
    | zero =>
      cases j with
      | zero => rfl
      | succ j =>
        have e : m = k := by simpa using h1
        subst e
        exact absurd (mem (by simpa using h2)) hn'.1
    | succ i =>
      cases j with
      | zero =>
        have e : m = k := by simpa using h2
        subst e
        exact absurd (mem (by simpa using h1)) hn'.1
      | succ j => exact congrArg (· + 1) (inj_of (φ := r) hn'.2 i j k (by simpa using h1) (by simpa using h2))
/-- the names of the block within -/
theorem atStart_got {φ : List (Option Nat)} {i j : Nat} (h1 : φ[i]? = some (some j)) {v : V} (h2 : σ[j]? = some (some v)) : (atStart φ σ)[i]? = some (some v) := by
  unfold atStart
  rw [List.getElem?_map, h1]
  simp [h2]
theorem atStart_z {φ : List (Option Nat)} {L : Addr} (env : EnvR K H0 B H σ γ) (nL : H L = none) : ∀ b o, H b = some o → ¬ zof B γ σ b → ¬ zof (fun b => zof B γ σ b ∨ b = L) (atP φ γ) (atStart φ σ) b := fun b o hb z y => by
  rcases y with (y | y) | ⟨i', ds, y1, y2⟩
  · exact z y
  · rw [y, nL] at hb; cases hb
  · obtain ⟨m, m1, m2⟩ := atP_get y1
    obtain ⟨w, w1, _⟩ := env.slot m _ m2
    rw [atStart_got m1 w1] at y2
    exact z (.inr ⟨m, ds, m2, by rw [w1]; exact congrArg some (Option.some.inj y2)⟩)
theorem atStart_env {φ : List (Option Nat)} {L : Addr} (env : EnvR K H0 B H σ γ) (S1 : Same H H') (nL : H L = none) (hL : ∃ ys, H' L = some (.lst ys)) (hφ : (φ.filterMap id).Nodup) :
    EnvR K H0 (fun b => zof B γ σ b ∨ b = L) H' (atStart φ σ) (atP φ γ) := by
  refine ⟨env.same.trans S1, by unfold atStart atP; simp, fun b z => ?_, fun i j a ds es h1 h2 h3 h4 => ?_, fun i s h => ?_⟩
  · rcases z with z | rfl
    · exact mut_same S1 (env.zm b z)
    · obtain ⟨ys, e⟩ := hL
      rw [e]
      trivial
  · obtain ⟨k, k1, k2⟩ := atP_get h1
    obtain ⟨l, l1, l2⟩ := atP_get h2
    obtain ⟨v, v1, _⟩ := env.slot k _ k2
    obtain ⟨u, u1, _⟩ := env.slot l _ l2
    rw [atStart_got k1 v1] at h3
    rw [atStart_got l1 u1] at h4
    have := env.own k l a ds es k2 l2 (by rw [v1]; exact congrArg some (Option.some.inj h3)) (by rw [u1]; exact congrArg some (Option.some.inj h4))
    subst this
    exact inj_of hφ i j k k1 l1
  · obtain ⟨k, k1, k2⟩ := atP_get h
    obtain ⟨v, v1, v2⟩ := env.slot k _ k2
    have So : Same (off (zof B γ σ) H) (off (zof (fun b => zof B γ σ b ∨ b = L) (atP φ γ) (atStart φ σ)) H') := off_mono S1 (atStart_z env nL)
    refine ⟨v, atStart_got k1 v1, ?_⟩
    cases s with
    | bor d => exact v2
    | sh d => exact Rp.mono So v2
    | own ds =>
      obtain ⟨a, e1, e3, e4⟩ := v2
      exact ⟨a, e1, e3, e4.mono So fun x => S1 a x⟩
    | view ds => exact v2
    | tmp d => exact v2
theorem Sub.of {σ σ' : L2.St} {is : List Nat} (hl : σ'.length = σ.length) (h1 : ∀ j, j ∉ is → σ'[j]? = σ[j]?) (h2 : ∀ j ∈ is, ∀ v, σ[j]? ≠ some (some v)) : Sub σ σ' := ⟨hl, fun i v e => by
  by_cases hi : i ∈ is
  · exact absurd e (h2 i hi v)
  · rw [h1 i hi]; exact e⟩
structure ItOkC (K : PySem.W.Frag) (H0 : Hp) (B : Addr → Prop) (H1 : Hp) (σ : L2.St) (γ : Γ) (J : It) (n : Nat) (item : Nat → S) : Prop where
  go : ∀ (i : Nat) (H' : Hp) (Z' : Addr → Prop), i < n → Same H1 H' → Later H0 (zof B γ σ) H1 Z' H' → J.go i H' ∧ ∀ x H'', J.yld i H' x H'' → Same H' H'' ∧ TV K Z' H0 H' H'' (item i) x
  stop : ∀ (H' : Hp) (Z' : Addr → Prop), Same H1 H' → Later H0 (zof B γ σ) H1 Z' H' → J.stop n H'
def SndIc (K : PySem.W.Frag) (mg : Str → Option Value) (E : L2.St → XK) (wi : TI) (it : PTI) : Prop := ∀ (H0 : Hp) (B : Addr → Prop) (H : Hp) (σ : L2.St) (γ : Γ) (R : Nat → (Nat → S) → Prop) (X : XR) (Q : It → Hp → Prop), EnvR K H0 B H σ γ → it γ R X →
  (∀ n item J H1, R n item → Same H H1 → ItOkC K H0 B H1 σ γ J n item → Q J H1) → (∀ c H', X c → Same H H' → E σ (.ref (ExcR.clsOf mg c)) none H') → wi σ H Q
theorem SndI.c {wi : TI} {it : PTI} (h : SndI K mg E wi it) : SndIc K mg E wi it := fun H0 B H σ γ R X Q env p q qx =>
  h H0 B H σ γ R X Q env p (fun n item J H1 hR S1 ok => q n item J H1 hR S1 ⟨fun i H' Z' hi _ lt => ok.go i H' Z' hi lt, fun H' Z' _ lt => ok.stop H' Z' lt⟩) qx
theorem se_comp {φ : List (Option Nat)} {is : List Nat} {wi : TI} {g : TG} {tc : TT} {te : TE} {it : PTI} {pg : PTG} {c : PTT} {a : PTE} (hi : SndIc K mg E wi it) (hg : SndGi K is g pg) (hc : SndT K mg E tc c) (he : SndE K mg E te a)
    (h1 : (φ.filterMap id).Nodup := by decide) (h2 : ∀ j ∈ is, φ[j]? = some none := by decide) : SndE K mg E (tComp φ wi g tc te) (pComp φ it pg c a) := by
  intro H0 B H σ γ R X Q env h q qx
  refine hi H0 B H σ γ _ X _ env h (fun n item J H1 h1' S1 ok => ?_) qx
  obtain ⟨hn, f, hf, hR⟩ := h1'.w
  have env1 := env.grow S1
  have hbig : n ≤ sizeLine := Nat.le_trans hn (by decide)
  intro L nL
  refine ⟨fun i m ys H2 => m = n - i ∧ i ≤ n ∧ Same H1 H2 ∧ H2 L = some (.lst ys) ∧ Rps K (off (fun b => zof B γ σ b ∨ b = L) H2) ((List.range i).filterMap f) ys, ⟨n, by simp, Nat.zero_le _, same_upd nL, upd_same, .nil⟩, ?_⟩
  rintro i m ys H2 ⟨rfl, hin, S2, hL, hys⟩
  have env2 := env1.grow S2
  by_cases hlt : i < n
  · have envI2 := atStart_env (φ := φ) env1 S2 nL ⟨ys, hL⟩ h1
    obtain ⟨go, yl⟩ := ok.go i H2 _ hlt S2 ⟨env2.same, envI2.zm, fun b o hb z => ⟨S2 _ _ hb, atStart_z env1 nL b o hb z⟩⟩
    refine .inr ⟨go, fun x H3 y => ?_⟩
    obtain ⟨S3, tv⟩ := yl x H3 y
    refine hg H0 _ H2 H3 _ _ _ _ _ _ envI2 S3 tv (hf i hlt) fun σ2 γ2 p2 e2 f2 k2 => ⟨?_, ?_⟩
    · refine Sub.of (is := is) k2.2 k2.1 fun j hj v z => ?_
      obtain ⟨k, k1, _⟩ := Own.atStart_get z
      rw [h2 j hj] at k1
      cases k1
    · refine hc H0 _ H3 σ2 γ2 _ _ _ e2 p2 (fun b H5 q5 S5 => ?_) fun _ _ z => z.elim
      have e5 := e2.grow S5
      cases b with
      | false =>
        rw [if_neg Bool.false_ne_true] at q5 ⊢
        refine ⟨n - (i + 1), by omega, rfl, hlt, (S2.trans S3).trans S5, (S3.trans S5) _ _ hL, ?_⟩
        rw [List.range_succ, List.filterMap_append]
        simp only [List.filterMap_cons, q5, List.filterMap_nil, List.append_nil]
        exact Rps.mono (off_mono (S3.trans S5) fun _ _ _ z => z) hys
      | true =>
        rw [if_pos rfl] at q5 ⊢
        refine he H0 _ H5 σ2 γ2 _ _ _ e5 q5 (fun s v H6 q6 S6 t6 => ?_) fun _ _ z => z.elim
        obtain ⟨d, hd, hfd⟩ := q6
        have S26 := (S3.trans S5).trans S6
        have hr := t6.shd (e5.grow S6).same e5.zm S6 hd
        have hlen : ys.length ≤ i := by
          rw [hys.len]
          exact Nat.le_trans (List.length_filterMap_le _ _) (by rw [List.length_range]; exact Nat.le_refl _)
        refine ⟨S26 _ _ hL, by omega, n - (i + 1), by omega, rfl, hlt, fun b o hb => ?_, upd_same, ?_⟩
        · rw [upd_ne (ne_of_none hb nL)]
          exact S26 _ _ (S2 _ _ hb)
        · rw [List.range_succ, List.filterMap_append]
          have ef : [i].filterMap f = [d] := by simp [hfd]
          rw [ef]
          have So : Same (off (fun b => zof B γ σ b ∨ b = L) H6) (off (fun b => zof B γ σ b ∨ b = L) (upd H6 L (.lst (ys ++ [v])))) := fun b o h => by
            obtain ⟨a1, a2⟩ := off_in h
            refine off_of ?_ a2
            rw [upd_ne fun z => a2 (.inr z)]
            exact a1
          refine Rps.append (Rps.mono So (Rps.mono (off_mono S26 fun _ _ _ z => z) hys)) (.cons (Rp.mono So (Rp.mono (off_mono (Same.refl _) fun b _ _ z y => z (.inl y)) hr)) .nil)
  · have : i = n := by omega
    subst this
    exact .inl ⟨ok.stop H2 _ S2 (Later.of env2 (Fr.grow S2)), q _ _ H2 hR (S1.trans S2) ⟨L, rfl, S1.free nL, ys, hL, hys⟩⟩
/-- a test that is not there -/
def pYes : PTT := fun _ R _ => R true
theorem st_yes : SndT K mg E tNoIf pYes := fun _ _ H _ _ _ _ _ _ p q _ => q _ H p (Same.refl _)
end
end Pu

namespace Pu
open PySem PySem.Spec PyProof.Rows L2 Own M
section
variable {K : PySem.W.Frag} {mg : Str → Option Value} {E : L2.St → XK} {H0 H H1 H' : Hp} {B Z Z' : Addr → Prop} {σ : L2.St} {γ : Γ}
/-! ### Python's own functions -/
/-- f: what is wanted of the values at hand -/
def pCB (f : List S → (S → Prop) → Prop) (r : PTA) : PTE := fun γ R X => r γ (fun ss => f ss R) X
theorem se_cb {rr : List V → Hp → VK → Prop} {f : List S → (S → Prop) → Prop} {ta : TA} {r : PTA} (hr : SndA K mg E ta r)
    (h : ∀ (H0 H H1 : Hp) (Z : Addr → Prop) (ss : List S) (vs : List V) (R : S → Prop) (Q : VK), Same H0 H1 → Same H H1 → (∀ b, Z b → Mut (H b)) → TVs K Z H0 H H1 ss vs → f ss R → (∀ s z H', R s → Same H1 H' → TV K Z H0 H H' s z → Q z H') → rr vs H1 Q) :
    SndE K mg E (tCB rr ta) (pCB f r) := by
  intro H0 B H σ γ R X Q env p q qx
  refine hr H0 B H σ γ _ X _ env p (fun ss vs H1 h1 S1 t1 => ?_) qx
  exact h H0 H H1 _ ss vs R Q (env.grow S1).same S1 env.zm t1 h1 fun s z H' hs S2 tv => q s z H' hs (S1.trans S2) tv
/-- its parts may be parts of something new -/
def S.free : S → List D → Bool
  | .bor _, ds => imms ds | .tmp _, ds => imms ds | _, _ => true
theorem TVs.one_inv {s : S} {vs : List V} (h : TVs K Z H0 H H' [s] vs) : ∃ v, vs = [v] ∧ TV K Z H0 H H' s v := by
  cases h with
  | cons h r => cases r; exact ⟨_, rfl, h⟩
theorem TVs.two_inv {s t : S} {vs : List V} (h : TVs K Z H0 H H' [s, t] vs) : ∃ v u, vs = [v, u] ∧ TV K Z H0 H H' s v ∧ TV K Z H0 H H' t u := by
  cases h with
  | cons h r => cases r with | cons h2 r => cases r; exact ⟨_, _, rfl, h, h2⟩
/-- the items of a list that may be handed on -/
theorem TV.items {s : S} {v : V} {ds : List D} (h0 : Same H0 H') (hm : ∀ b, Z b → Mut (H b)) (S1 : Same H H') (h : TV K Z H0 H H' s v) (hf : s.free ds = true) :
    (s.d = .lst ds → ∃ a vs, v = .ref a ∧ H' a = some (.lst vs) ∧ Rps K (off Z H') ds vs) ∧ (s.d = .tup ds → ∃ a vs, v = .ref a ∧ H' a = some (.tup vs) ∧ Rps K (off Z H') ds vs) := by
  have hm' : ∀ b, Z b → Mut (H' b) := fun b z => mut_same S1 (hm b z)
  cases s with
  | bor d =>
    have h := Rp.strip h
    refine ⟨fun e => ?_, fun e => ?_⟩ <;> rw [show d.strip = _ from e] at h
    · obtain ⟨a, vs, rfl, h1, r⟩ := Rp.lst_inv h
      exact ⟨a, vs, rfl, h0 _ _ h1, Rps.off hm' (Rps.mono h0 r) hf⟩
    · obtain ⟨a, vs, rfl, h1, r⟩ := Rp.tup_inv h
      exact ⟨a, vs, rfl, h0 _ _ h1, Rps.off hm' (Rps.mono h0 r) hf⟩
  | sh d =>
    refine ⟨fun e => ?_, fun e => ?_⟩ <;> (have e' : d = _ := e; subst e')
    · obtain ⟨a, vs, rfl, h1, r⟩ := Rp.lst_inv h
      exact ⟨a, vs, rfl, off_sub _ _ h1, r⟩
    · obtain ⟨a, vs, rfl, h1, r⟩ := Rp.tup_inv h
      exact ⟨a, vs, rfl, off_sub _ _ h1, r⟩
  | own es =>
    cases es with
    | dK es => exact ⟨(fun e => by cases e), (fun e => by cases e)⟩
    | dT es => exact ⟨(fun e => by cases e), (fun e => by cases e)⟩
    | lst es =>
      refine ⟨fun e => ?_, fun e => by cases e⟩
      cases e
      obtain ⟨a, rfl, e0, vs, e, r⟩ := h
      exact ⟨a, vs, rfl, e, Rps.mono (off_mono (Same.refl _) fun b _ _ z y => z (.inl y)) r⟩
  | view es =>
    cases es with
    | dK es => exact ⟨(fun e => by cases e), (fun e => by cases e)⟩
    | dT es => exact ⟨(fun e => by cases e), (fun e => by cases e)⟩
    | lst es =>
      refine ⟨fun e => ?_, fun e => by cases e⟩
      cases e
      obtain ⟨a, rfl, vs, e, r⟩ := h
      exact ⟨a, vs, rfl, e, r⟩
  | tmp d =>
    refine ⟨fun e => ?_, fun e => ?_⟩ <;> (have e' : d = _ := e; subst e')
    · obtain ⟨a, vs, rfl, h1, r⟩ := Rp.lst_inv h
      exact ⟨a, vs, rfl, h1, Rps.off hm' r hf⟩
    · obtain ⟨a, vs, rfl, h1, r⟩ := Rp.tup_inv h
      exact ⟨a, vs, rfl, h1, Rps.off hm' r hf⟩
def fLen : List S → (S → Prop) → Prop
  | [s], R => (match s.d with
    | .lst ds => R (.sh (.int ds.length)) | .tup ds => R (.sh (.int ds.length)) | .scr ns => R (.sh (.int ns.length)) | .str x => x.length ≤ sizeLine ∧ R (.sh (.int x.length)) | _ => False)
  | _, _ => False
theorem se_len {ta : TA} {r : PTA} (hr : SndA K mg E ta r) : SndE K mg E (tCB (fun xs H Q => ∃ x n, xs = [x] ∧ LenV K x H n ∧ Q (.int n) H) ta) (pCB fLen r) := by
  refine se_cb hr fun H0 H H1 Z ss vs R Q s0 s1 hm tv h q => ?_
  unfold fLen at h
  split at h
  · rename_i s
    obtain ⟨v, rfl, t1⟩ := tv.one_inv
    have rv := t1.rp s0
    split at h
    · rename_i ds e
      rw [e] at rv
      obtain ⟨a, us, rfl, h1, r1⟩ := rv.lst_inv
      exact ⟨_, _, rfl, .inl ⟨us, SqL.of h1, rfl⟩, by rw [r1.len]; exact q _ _ H1 h (Same.refl _) (.int _)⟩
    · rename_i ds e
      rw [e] at rv
      obtain ⟨a, us, rfl, h1, r1⟩ := rv.tup_inv
      exact ⟨_, _, rfl, .inr ⟨us, SqT.of h1, rfl⟩, by rw [r1.len]; exact q _ _ H1 h (Same.refl _) (.int _)⟩
    · rename_i ns e
      rw [e] at rv
      cases rv with
      | scr hs => exact ⟨_, _, rfl, .inl ⟨_, hs, rfl⟩, by rw [List.length_map]; exact q _ _ H1 h (Same.refl _) (.int _)⟩
    · rename_i x e
      rw [e] at rv
      rw [rv.str_inv]
      exact ⟨_, _, rfl, ⟨h.1, rfl⟩, q _ _ H1 h.2 (Same.refl _) (.int _)⟩
    · exact h.elim
  · exact h.elim
/-- list(xs) -/
def fList : List S → (S → Prop) → Prop
  | [s], R => (match s.d with
    | .lst ds => s.free ds = true ∧ R (.own ds) | .tup ds => s.free ds = true ∧ R (.own ds) | _ => False)
  | _, _ => False
theorem se_list {ta : TA} {r : PTA} (hr : SndA K mg E ta r) : SndE K mg E (tCB (fun xs H Q => ∃ p ys, xs = [.ref p] ∧ (SqL K H p ys ∨ SqT K H p ys) ∧ ∀ l, H l = none → Q (.ref l) (upd H l (.lst ys))) ta) (pCB fList r) := by
  refine se_cb hr fun H0 H H1 Z ss vs R Q s0 s1 hm tv h q => ?_
  unfold fList at h
  split at h
  · rename_i s
    obtain ⟨v, rfl, t1⟩ := tv.one_inv
    split at h
    · rename_i ds e
      obtain ⟨a, us, rfl, h1, r1⟩ := (t1.items s0 hm s1 h.1).1 e
      exact ⟨a, us, rfl, .inl (SqL.of h1), fun l nl => q _ _ _ h.2 (same_upd nl) (own_new s1 nl r1)⟩
    · rename_i ds e
      obtain ⟨a, us, rfl, h1, r1⟩ := (t1.items s0 hm s1 h.1).2 e
      exact ⟨a, us, rfl, .inr (SqT.of h1), fun l nl => q _ _ _ h.2 (same_upd nl) (own_new s1 nl r1)⟩
    · exact h.elim
  · exact h.elim
theorem Rps.ints {K : PySem.W.Frag} {H : Hp} : ∀ {js : List Int} {vs : List V}, Rps K H (js.map D.int) vs → vs = js.map V.int
  | [], _, .nil => rfl
  | j :: r, _, .cons h t => by rw [Rp.int_inv h, Rps.ints t]; rfl
theorem Rps.of_ints {K : PySem.W.Frag} {H : Hp} : ∀ (js : List Int), Rps K H (js.map D.int) (js.map V.int)
  | [] => .nil
  | j :: r => .cons (.int j) (Rps.of_ints r)
def fMax2 : List S → (S → Prop) → Prop
  | [s, t], R => (match s.d, t.d with | .int i, .int j => R (.sh (.int (if j > i then j else i))) | _, _ => False)
  | _, _ => False
theorem se_max2 {ta : TA} {r : PTA} (hr : SndA K mg E ta r) : SndE K mg E (tCB (fun xs H Q => ∃ i j, xs = [.int i, .int j] ∧ Q (.int (if j > i then j else i)) H) ta) (pCB fMax2 r) := by
  refine se_cb hr fun H0 H H1 Z ss vs R Q s0 s1 hm tv h q => ?_
  unfold fMax2 at h
  split at h
  · obtain ⟨v, u, rfl, t1, t2⟩ := tv.two_inv
    have r1 := t1.rp s0
    have r2 := t2.rp s0
    split at h
    · rename_i i j e1 e2
      rw [e1] at r1
      rw [e2] at r2
      rw [r1.int_inv, r2.int_inv]
      exact ⟨i, j, rfl, q _ _ H1 h (Same.refl _) (.int _)⟩
    · exact h.elim
  · exact h.elim
/-- isinstance(x, T), T of Python's own -/
def tyD : D → Option String
  | .int _ => some "int" | .bl _ => some "bool" | .non => some "NoneType" | .str _ => some "str" | .tup _ => some "tuple" | .lst _ => some "list" | .dK _ => some "dict" | .dT _ => some "dict" | _ => none
inductive IsiR : String → String → Bool → Prop
  | same (n : String) : IsiR n n true
  | ib : IsiR "int" "bool" false
  | bi : IsiR "bool" "int" true
  | tl : IsiR "tuple" "list" false
  | lt : IsiR "list" "tuple" false
  | it : IsiR "int" "tuple" false
  | il : IsiR "int" "list" false
  | bt : IsiR "bool" "tuple" false
  | bL : IsiR "bool" "list" false
  | ti : IsiR "tuple" "int" false
  | li : IsiR "list" "int" false
  | si : IsiR "str" "int" false
  | is : IsiR "int" "str" false
  | ni : IsiR "NoneType" "int" false
  | nl : IsiR "NoneType" "list" false
  | nt : IsiR "NoneType" "tuple" false
theorem IsiR.kit {m n : String} {b : Bool} (h : IsiR m n b) : PySem.W.kitOne K (.type m) (.type n) = some b := by
  cases h with
  | same => exact kit_same K _
  | _ => rfl
def fIsi : List S → (S → Prop) → Prop
  | [s, t], R => (match tyD s.d, t.d with | some m, .ty n => ∃ b, IsiR m n b ∧ R (.sh (.bl b)) | _, _ => False)
  | _, _ => False
theorem tyD_of {d : D} {v : V} {m : String} (h : Rp K H d v) (e : tyD d = some m) : TyOf K H v (.type m) := by
  cases h with
  | int i => cases e; exact .int i
  | bl b => cases e; exact .bl b
  | non => cases e; exact .non
  | str x => cases e; exact .str x
  | ty n => cases e
  | tup h r => cases e; exact .tup h
  | lst h r => cases e; exact .lst h
  | scr h => cases e
  | dK h => cases e; exact .dK h
  | dT h => cases e; exact .dT h
  | loc h => cases e
  | err h => cases e
  | ref a => cases e
theorem se_isi {ta : TA} {r : PTA} (hr : SndA K mg E ta r) : SndE K mg E (tCB (fun xs H Q => ∃ x n t b, xs = [x, .ty n] ∧ TyOf K H x t ∧ PySem.W.kitOne K t (.type n) = some b ∧ Q (.bl b) H) ta) (pCB fIsi r) := by
  refine se_cb hr fun H0 H H1 Z ss vs R Q s0 s1 hm tv h q => ?_
  unfold fIsi at h
  split at h
  · obtain ⟨v, u, rfl, t1, t2⟩ := tv.two_inv
    have r1 := t1.rp s0
    have r2 := t2.rp s0
    split at h
    · rename_i m n e1 e2
      rw [e2] at r2
      rw [r2.ty_inv]
      obtain ⟨b, k, hR⟩ := h
      exact ⟨v, n, _, b, rfl, tyD_of r1 e1, k.kit, q _ _ H1 hR (Same.refl _) (.bl _)⟩
    · exact h.elim
  · exact h.elim
def fRun2 : List S → (S → Prop) → Prop
  | [s, t], R => (match s.d, t.d with | .int i, .int j => (-(2 ^ 62) ≤ i ∧ i < 2 ^ 62 ∧ -(2 ^ 62) ≤ j ∧ j < 2 ^ 62) ∧ (j - i).toNat ≤ 1000000 ∧ R (.own ((runI i (j - i).toNat).map D.int)) | _, _ => False)
  | _, _ => False
abbrev rListR : List V → Hp → VK → Prop := fun xs H Q => ∃ (r : Addr) (i j : Int), xs = [.ref r] ∧ H r = some (.rng i j) ∧ (-(2 ^ 62) ≤ i ∧ i < 2 ^ 62 ∧ -(2 ^ 62) ≤ j ∧ j < 2 ^ 62) ∧ (j - i).toNat ≤ 1000000 ∧ ∀ l, H l = none → Q (.ref l) (upd H l (.lst ((runI i (j - i).toNat).map V.int)))
theorem se_run2 {ta : TA} {r : PTA} (hr : SndA K mg E ta r) : SndE K mg E (tCB rListR (tCons (tCB (fun xs H Q => ∃ i j : Int, xs = [.int i, .int j] ∧ ∀ r, H r = none → Q (.ref r) (upd H r (.rng i j))) ta) tNil)) (pCB fRun2 r) := by
  intro H0 B H σ γ R X Q env p q qx
  refine hr H0 B H σ γ _ X _ env p (fun ss vs H1 h1 S1 t1 => ?_) qx
  have s0 := (env.grow S1).same
  unfold fRun2 at h1
  split at h1
  · obtain ⟨v, u, rfl, t1', t2'⟩ := t1.two_inv
    have r1 := t1'.rp s0
    have r2 := t2'.rp s0
    split at h1
    · rename_i i j e1 e2
      rw [e1] at r1
      rw [e2] at r2
      rw [r1.int_inv, r2.int_inv]
      refine ⟨i, j, rfl, fun a na => ⟨a, i, j, rfl, upd_same, h1.1, h1.2.1, fun l nl => ?_⟩⟩
      have S2 := same_upd (o := .rng i j) na
      exact q _ _ _ h1.2.2 ((S1.trans S2).trans (same_upd nl)) (own_new (S1.trans S2) nl (Rps.of_ints _))
    · exact h1.elim
  · exact h1.elim
/-! ### methods of lists that change nothing -/
/-! ### in -/
def prD (p : Int × Int) : D := .tup [.int p.1, .int p.2]
theorem Rp.pair {q : Int × Int} {v : V} (h : Rp K H (prD q) v) : PairR H v q := by
  obtain ⟨a, vs, rfl, h1, r⟩ := Rp.tup_inv h
  obtain ⟨x, y, rfl, r1, r2⟩ := r.two_inv
  rw [r1.int_inv, r2.int_inv] at h1
  exact ⟨a, rfl, h1⟩
theorem Rp.of_pair {q : Int × Int} {v : V} (h : PairR H v q) : Rp K H (prD q) v := by
  obtain ⟨a, rfl, h1⟩ := h
  exact .tup h1 (.cons (.int _) (.cons (.int _) .nil))
theorem Rps.lv {K : PySem.W.Frag} {H : Hp} {ps : List (Int × Int)} {vs : List V} (h : Rps K H (ps.map prD) vs) : LV PairR H vs ps := by
  refine ⟨by rw [h.len, List.length_map], fun i p hp => ?_⟩
  obtain ⟨v, h1, h2⟩ := h.get (i := i) (d := prD p) (by rw [List.getElem?_map, hp]; rfl)
  exact ⟨v, h1, h2.pair⟩
theorem Rps.of_lv {K : PySem.W.Frag} {H : Hp} : ∀ {ps : List (Int × Int)} {vs : List V}, LV PairR H vs ps → Rps K H (ps.map prD) vs
  | [], [], _ => .nil
  | [], _ :: _, h => by have := h.1; simp at this
  | _ :: _, [], h => by have := h.1; simp at this
  | p :: ps, v :: vs, h => by
    have h' := (LV.cons_iff (R := PairR) (H := H) (v := v) (vs := vs) (x := p) (xs := ps)).mp h
    exact .cons (Rp.of_pair h'.1) (Rps.of_lv h'.2)
/-! ### == of lists of ints too -/
def fEqU (neg : Bool) : S → S → (S → Prop) → Prop := fun x y R => match x.d, y.d with
  | .lst ds, .lst es => ∃ xs ys : List Int, ds = xs.map D.int ∧ es = ys.map D.int ∧ R (.sh (.bl (if neg then !decide (xs = ys) else decide (xs = ys))))
  | _, _ => fEq neg x y R
theorem se_eqU {ta tb : TE} {a b : PTE} (ha : SndE K mg E ta a) (hb : SndE K mg E tb b) : SndE K mg E (tOp (fun x y H Q => rEq x y H Q ∨ rEqL K false x y H Q) ta tb) (p2 a b (fEqU false)) := by
  refine se_2 ha hb fun H0 H H2 Z x y v u R Q s0 s1 hm tx ty h q => ?_
  have rx := tx.rp s0
  have ry := ty.rp s0
  unfold fEqU at h
  split at h
  · rename_i ds es e1 e2
    obtain ⟨xs, ys, rfl, rfl, hR⟩ := h
    rw [e1] at rx
    rw [e2] at ry
    obtain ⟨l, us, rfl, hl, r⟩ := rx.lst_inv
    obtain ⟨m, ws, rfl, hm, r'⟩ := ry.lst_inv
    rw [r.ints] at hl
    rw [r'.ints] at hm
    refine .inr ⟨l, m, _, _, rfl, rfl, SqL.of hl, SqL.of hm, flat_ints _, flat_ints _, ?_⟩
    rw [eqL_ints]
    exact q _ _ H2 hR (Same.refl _) (.bl _)
  · refine .inl ?_
    unfold fEq at h
    split at h
    · rename_i i j e1 e2
      rw [e1] at rx
      rw [e2] at ry
      rw [rx.int_inv, ry.int_inv]
      refine ⟨rfl, ?_⟩
      rw [dec_inj (f := V.int) fun _ _ z => V.int.inj z]
      exact q _ _ H2 h (Same.refl _) (.bl _)
    · rename_i i j e1 e2
      rw [e1] at rx
      rw [e2] at ry
      rw [rx.str_inv, ry.str_inv]
      refine ⟨rfl, ?_⟩
      rw [dec_inj (f := V.str) fun _ _ z => V.str.inj z]
      exact q _ _ H2 h (Same.refl _) (.bl _)
    · rename_i i j e1 e2
      rw [e1] at rx
      rw [e2] at ry
      rw [rx.bl_inv, ry.bl_inv]
      refine ⟨rfl, ?_⟩
      rw [dec_inj (f := V.bl) fun _ _ z => V.bl.inj z]
      exact q _ _ H2 h (Same.refl _) (.bl _)
    · exact h.elim
theorem se_neU {ta tb : TE} {a b : PTE} (ha : SndE K mg E ta a) (hb : SndE K mg E tb b) : SndE K mg E (tOp (fun x y H Q => rNe x y H Q ∨ rEqL K true x y H Q) ta tb) (p2 a b (fEqU true)) := by
  refine se_2 ha hb fun H0 H H2 Z x y v u R Q s0 s1 hm tx ty h q => ?_
  have rx := tx.rp s0
  have ry := ty.rp s0
  unfold fEqU at h
  split at h
  · rename_i ds es e1 e2
    obtain ⟨xs, ys, rfl, rfl, hR⟩ := h
    rw [e1] at rx
    rw [e2] at ry
    obtain ⟨l, us, rfl, hl, r⟩ := rx.lst_inv
    obtain ⟨m, ws, rfl, hm, r'⟩ := ry.lst_inv
    rw [r.ints] at hl
    rw [r'.ints] at hm
    refine .inr ⟨l, m, _, _, rfl, rfl, SqL.of hl, SqL.of hm, flat_ints _, flat_ints _, ?_⟩
    rw [eqL_ints]
    exact q _ _ H2 hR (Same.refl _) (.bl _)
  · refine .inl ?_
    unfold fEq at h
    split at h
    · rename_i i j e1 e2
      rw [e1] at rx
      rw [e2] at ry
      rw [rx.int_inv, ry.int_inv]
      refine ⟨rfl, ?_⟩
      rw [dec_inj (f := V.int) fun _ _ z => V.int.inj z]
      exact q _ _ H2 h (Same.refl _) (.bl _)
    · rename_i i j e1 e2
      rw [e1] at rx
      rw [e2] at ry
      rw [rx.str_inv, ry.str_inv]
      refine ⟨rfl, ?_⟩
      rw [dec_inj (f := V.str) fun _ _ z => V.str.inj z]
      exact q _ _ H2 h (Same.refl _) (.bl _)
    · rename_i i j e1 e2
      rw [e1] at rx
      rw [e2] at ry
      rw [rx.bl_inv, ry.bl_inv]
      refine ⟨rfl, ?_⟩
      rw [dec_inj (f := V.bl) fun _ _ z => V.bl.inj z]
      exact q _ _ H2 h (Same.refl _) (.bl _)
    · exact h.elim
/-! ### truth -/
abbrev tTru (K : PySem.W.Frag) (ta : TE) : TT := fun σ H Q => ta σ H fun x H' => ∃ k, TruV K x H' k ∧ Q k H'
def pTru (a : PTE) : PTT := fun γ R X => a γ (fun x => match x.d with
  | .bl b => R b | .lst ds => R (!ds.isEmpty) | .tup ds => R (!ds.isEmpty) | .int i => R (i != 0) | .non => R false | _ => False) X
theorem isEmpty_len {α β : Type} {l : List α} {m : List β} (h : l.length = m.length) : l.isEmpty = m.isEmpty := by
  cases l <;> cases m <;> simp at h ⊢
theorem st_tru {te : TE} {a : PTE} (ha : SndE K mg E te a) : SndT K mg E (tTru K te) (pTru a) := by
  intro H0 B H σ γ R X Q env p q qx
  refine ha H0 B H σ γ _ X _ env p (fun x v H1 h1 S1 t1 => ?_) qx
  have rx := t1.rp (env.grow S1).same
  split at h1
  · rename_i b e
    rw [e] at rx
    rw [rx.bl_inv]
    exact ⟨b, rfl, q _ H1 h1 S1⟩
  · rename_i ds e
    rw [e] at rx
    obtain ⟨l, us, rfl, hl, r⟩ := rx.lst_inv
    exact ⟨!us.isEmpty, .inl ⟨us, SqL.of hl, rfl⟩, by rw [isEmpty_len r.len]; exact q _ H1 h1 S1⟩
  · rename_i ds e
    rw [e] at rx
    obtain ⟨l, us, rfl, hl, r⟩ := rx.tup_inv
    exact ⟨!us.isEmpty, .inr (.inl ⟨us, SqT.of hl, rfl⟩), by rw [isEmpty_len r.len]; exact q _ H1 h1 S1⟩
  · rename_i i e
    rw [e] at rx
    rw [rx.int_inv]
    exact ⟨_, rfl, q _ H1 h1 S1⟩
  · rename_i e
    rw [e] at rx
    rw [rx.non_inv]
    exact ⟨_, rfl, q _ H1 h1 S1⟩
  · exact h1.elim
/-! ### slices, + of lists -/
def cutD {α : Type} (xs : List α) (lo hi : Option Int) : List α := (xs.drop (HT.sIx xs.length 0 lo)).take (HT.sIx xs.length xs.length hi - HT.sIx xs.length 0 lo)
def pNoPart : PTO := fun _ R _ => R none
def pPart (a : PTE) : PTO := fun γ R X => a γ (fun s => match s.d with | .int i => R (some i) | _ => False) X
theorem so_none : SndO K mg E tNoPart pNoPart := fun _ _ H _ _ _ _ _ _ p q _ => q _ H p (Same.refl _)
theorem so_some {te : TE} {a : PTE} (ha : SndE K mg E te a) : SndO K mg E (tPart te) (pPart a) := by
  intro H0 B H σ γ R X Q env p q qx
  refine ha H0 B H σ γ _ X _ env p (fun x v H1 h1 S1 t1 => ?_) qx
  have rx := t1.rp (env.grow S1).same
  split at h1
  · rename_i i e
    rw [e] at rx
    exact ⟨i, rx.int_inv, q _ H1 h1 S1⟩
  · exact h1.elim
def pSl (a : PTE) (l u : PTO) : PTE := fun γ R X => a γ (fun s => l γ (fun lo => u γ (fun hi => match s.d with | .lst ds => s.free ds = true ∧ R (.own (cutD ds lo hi)) | _ => False) X) X) X
theorem Rps.cut {ds : List D} {vs : List V} {lo hi : Option Int} (r : Rps K H ds vs) : Rps K H (cutD ds lo hi) (cutV vs lo hi) := by
  unfold cutD cutV
  rw [r.len]
  exact Rps.take _ (Rps.drop _ r)
theorem se_slice {te : TE} {tl th : TO} {a : PTE} {l u : PTO} (ha : SndE K mg E te a) (hl : SndO K mg E tl l) (hu : SndO K mg E th u) : SndE K mg E (tSl (rSlL K) te tl th) (pSl a l u) := by
  intro H0 B H σ γ R X Q env p q qx
  refine ha H0 B H σ γ _ X _ env p (fun x v H1 h1 S1 t1 => ?_) qx
  refine hl H0 B H1 σ γ _ X _ (env.grow S1) h1 (fun lo H2 h2 S2 => ?_) fun c H' hc S' => qx c H' hc (S1.trans S')
  refine hu H0 B H2 σ γ _ X _ ((env.grow S1).grow S2) h2 (fun hi H3 h3 S3 => ?_) fun c H' hc S' => qx c H' hc ((S1.trans S2).trans S')
  have S13 := (S1.trans S2).trans S3
  split at h3
  · rename_i ds e
    obtain ⟨b, us, rfl, hb, r⟩ := ((t1.grow (S2.trans S3)).items (env.grow S13).same env.zm S13 h3.1).1 e
    exact ⟨b, us, rfl, SqL.of hb, fun m nm => q _ _ _ h3.2 (S13.trans (same_upd nm)) (own_new S13 nm r.cut)⟩
  · exact h3.elim
def fCat : S → S → (S → Prop) → Prop := fun x y R => match x.d, y.d with
  | .lst ds, .lst es => x.free ds = true ∧ y.free es = true ∧ ds.length + es.length ≤ 100000 ∧ R (.own (ds ++ es))
  | _, _ => False
theorem se_cat {ta tb : TE} {a b : PTE} (ha : SndE K mg E ta a) (hb : SndE K mg E tb b) : SndE K mg E (tOp rCat ta tb) (p2 a b fCat) := by
  refine se_2 ha hb fun H0 H H2 Z x y v u R Q s0 s1 hm tx ty h q => ?_
  unfold fCat at h
  split at h
  · rename_i ds es e1 e2
    obtain ⟨l, us, rfl, hl, r⟩ := (tx.items s0 hm s1 h.1).1 e1
    obtain ⟨m, ws, rfl, hm', r'⟩ := (ty.items s0 hm s1 h.2.1).1 e2
    have hz : us.length + ws.length ≤ sizeLine := by rw [r.len, r'.len]; exact Nat.le_trans h.2.2.1 (by decide)
    exact ⟨l, m, us, ws, rfl, rfl, hl, hm', hz, fun p np => q _ _ _ h.2.2.2 (same_upd np) (own_new s1 np (r.append r'))⟩
  · exact h.elim
/-! ### one's own lists that change -/
def pAppend (i : Nat) (a : PTE) : PTS := fun R γ => match γ[i]? with
  | some (some (.own (.lst ds))) => a γ (fun s => match s.shd with
    | some d => ds.length < 10000000 ∧ R.nx (γ.set i (some (.own (ds ++ [d]))))
    | none => False) (R.ex γ)
  | _ => False
theorem ss_append (i : Nat) {te : TE} {a : PTE} (ha : SndE K mg E te a) : SndS K mg E (tDrop (tBM K "list" rAppend (tVar i) (tCons te tNil))) (pAppend i a) := by
  intro H0 B H σ γ R D hB env h e
  unfold pAppend at h
  split at h
  · rename_i ds hi
    obtain ⟨v, hv, b, rfl, hb0, us, hb, rb⟩ := env.slot i _ hi
    refine ⟨_, hv, .inl ⟨rfl, us, SqL.of hb⟩, ha H0 B H σ γ _ _ _ env h (fun s u H1 h1 S1 t1 => ?_) fun c H' hc S' => e.ex σ γ c H' hc (env.grow S') (Fr.grow S')⟩
    have env1 := env.grow S1
    split at h1
    · rename_i d e2
      have rd := t1.shd env1.same env.zm S1 e2
      refine ⟨b, us, u, rfl, rfl, S1 _ _ hb, by rw [rb.len]; exact Nat.lt_trans h1.1 (by decide), ?_⟩
      obtain ⟨e2, f2⟩ := env1.mutate (es := .lst (ds ++ [d])) (us := .lst (us ++ [u])) hi hv trivial fun F H' SF hF => ⟨_, hF, Rps.mono SF (Rps.append (Rps.mono (off_mono S1 fun _ _ _ z => z) rb) (.cons rd .nil))⟩
      exact e.nx _ _ _ h1.2 e2 ((Fr.grow S1).trans f2)
    · exact h1.elim
  · exact h.elim
end
section
variable {X : Cx} {K : PySem.W.Frag}
theorem op_eqU (hu : X.A.units < cLine) (hK : X.K = K := by rfl) : OpR X (compareOp .Eq) (fun x y H Q => rEq x y H Q ∨ rEqL K false x y H Q) := by subst hK; exact op_eq.or (op_eqL hu)
theorem op_neU (hu : X.A.units < cLine) (hK : X.K = K := by rfl) : OpR X (compareOp .NotEq) (fun x y H Q => rNe x y H Q ∨ rEqL K true x y H Q) := by subst hK; exact op_ne.or (op_neL hu)
theorem pt_tru {e : Expr} {te : TE} (ha : PE X e te) (hK : X.K = K := by rfl) (he : ∀ whole, isTrue e X.env whole = (do let v ← whole; standAt e.pos; holding [v] (truthy v)) := by intro _; rfl) : PT X e (tTru K te) := by
  subst hK
  exact pt_truth ha he
theorem call_listK (hK : X.K = K := by rfl) : CallR X (.type "list") (fun xs H Q => ∃ p ys, xs = [.ref p] ∧ (SqL K H p ys ∨ SqT K H p ys) ∧ ∀ l, H l = none → Q (.ref l) (upd H l (.lst ys))) := by subst hK; exact call_list_of
theorem call_isiK (hK : X.K = K := by rfl) : CallR X (.builtin "isinstance") (fun xs H Q => ∃ x n t b, xs = [x, .ty n] ∧ TyOf K H x t ∧ PySem.W.kitOne K t (.type n) = some b ∧ Q (.bl b) H) := by subst hK; exact call_isi
theorem sl_listK (hK : X.K = K := by rfl) : SlR X (rSlL K) := by subst hK; exact sl_list
theorem pi_listK {tg l : Expr} {tl : TE} (hl : PE X l tl) (hK : X.K = K := by rfl) : PI X tg l (iList K tl) := by subst hK; exact pi_list hl
end
end Pu

namespace Pu
open PySem PySem.Spec PyProof.Rows L2 Own M
section
variable {P : Program} {w : World} {K : PySem.W.Frag} {mg : Str → Option Value} {base : Heap} {H H' : Hp}
/-! ### from promises over a heap -/
theorem imp_of {CX : CXT} {k : Nat} {x : Str} {ps : List Str} {sp : Sp} {c : Pc} (C : Callee P w K mg base CX k x ps sp)
    (h : ∀ ds R X vs H (Q : VK) (E : XK), Rps K H ds vs → c ds R X → (∀ s v H', R s → Same H H' → TV K (fun b => Mut (H b)) H H H' s v → Q v H') → (∀ e H', X e → Same H H' → E (.ref (ExcR.clsOf mg e)) none H') → sp vs H Q E) :
    Callee P w K mg base CX k x ps (spOf mg c K) := by
  obtain ⟨f, fd, F, rest⟩ := C.ex
  exact ⟨f, fd, F.imp fun vs H Q E ⟨ds, R, X, r, hc, hQ, hX⟩ => h ds R X vs H Q E r hc hQ hX, rest⟩
theorem Rp.scr_inv {ns : List Int} {v : V} (h : Rp K H (.scr ns) v) : ∃ a, v = .ref a ∧ SqL K H a (ns.map V.int) := by
  cases h with
  | scr h => exact ⟨_, rfl, h⟩
theorem Rp.ints_inv {ns : List Int} {v : V} (h : Rp K H (.lst (ns.map D.int)) v) : ∃ a, v = .ref a ∧ H a = some (.lst (ns.map V.int)) := by
  obtain ⟨a, vs, rfl, h1, r⟩ := h.lst_inv
  rw [r.ints] at h1
  exact ⟨a, rfl, h1⟩
theorem Rp.pairs_inv {ps : List (Int × Int)} {v : V} (h : Rp K H (.lst (ps.map prD)) v) : ∃ a, v = .ref a ∧ LAt PairR H a ps := by
  obtain ⟨a, vs, rfl, h1, r⟩ := h.lst_inv
  exact ⟨a, rfl, vs, h1, r.lv⟩
theorem ret_ints {a : Addr} {ns : List Int} (n : H a = none) (h : H' a = some (.lst (ns.map V.int))) : TV K (fun b => Mut (H b)) H H H' (.own (ns.map D.int)) (.ref a) := ⟨a, rfl, n, _, h, Rps.of_ints ns⟩
theorem pairs_off {vs : List V} {ps : List (Int × Int)} {Z : Addr → Prop} (hz : ∀ b xs, H' b = some (.tup xs) → ¬ Z b) (h : LV PairR H' vs ps) : Rps K (off Z H') (ps.map prD) vs := by
  refine Rps.of_lv ⟨h.1, fun i p hp => ?_⟩
  obtain ⟨v, h1, a, e, h2⟩ := h.2 i p hp
  exact ⟨v, h1, a, e, off_of h2 (hz a _ h2)⟩
theorem ret_pairs {a : Addr} {ps : List (Int × Int)} (n : H a = none) (S1 : Same H H') (h : LAt PairR H' a ps) : TV K (fun b => Mut (H b)) H H H' (.own (ps.map prD)) (.ref a) := by
  obtain ⟨vs, h1, h2⟩ := h
  refine ⟨a, rfl, n, vs, h1, pairs_off (fun b xs hb z => ?_) h2⟩
  rcases z with z | z
  · have := mut_same S1 z
    rw [hb] at this
    exact this
  · rw [z, h1] at hb
    cases hb
theorem imms_ints : ∀ (ns : List Int), imms (ns.map D.int) = true
  | [] => by unfold List.map imms; rfl
  | n :: r => by rw [List.map_cons]; unfold imms; rw [imms_ints r]; unfold imm; rfl
/-! ### loops and blocks over lists of one kind -/
theorem getD_map {α : Type} {f : α → D} {xs : List α} {i : Nat} (h : i < xs.length) : (xs.map f).getD i .non = f xs[i] := by
  rw [List.getD_eq_getElem?_getD, List.getElem?_map, List.getElem?_eq_getElem h]
  rfl
theorem at_map {α : Type} {f : α → D} {xs : List α} {i : Int} (h0 : 0 ≤ i) (h : i < (xs.length : Int)) : atI (xs.map f) i = some (f (xs[i.toNat]'(by omega))) := by
  have h' : i.toNat < xs.length := by omega
  exact atI_map (atI_pos h0 (List.getElem?_eq_getElem h'))
/-- [e for k in range(n) if c] -/
theorem compR_of {φ : List (Option Nat)} {γ : Γ} {g : PTG} {c : PTT} {e : PTE} {item : Nat → S} {R : S → Prop} {n : Nat} (f : Nat → Option D) (hz : n ≤ 100000)
    (turn : ∀ i, i < n → g (item i) (atP φ γ) fun γ2 => c γ2 (fun b => if b = true then e γ2 (fun s => ∃ d, s.shd = some d ∧ f i = some d) (fun _ => False) else f i = none) fun _ => False)
    (done : R (.own ((List.range n).filterMap f))) :
    CompW φ γ g c e n item R := ⟨⟨hz, f, turn, done⟩⟩
/-- for x in xs, xs of one kind -/
theorem for_of {α : Type} {js : List Nat} {γ : Γ} {g : PTG} {body : PTS} {s : S} {R : PEnds} {xs : List α} {emb : α → D} (inv : Nat → Γ → Prop) (h0 : inv 0 (clr js γ))
    (turn : ∀ (i : Nat) (hi : i < xs.length) γ', inv i γ' → g (s.sub (emb xs[i])) γ' fun γ2 => body { R with nx := fun γ3 => inv (i + 1) (clr js γ3), ct := fun γ3 => inv (i + 1) (clr js γ3), bk := R.nx } γ2)
    (done : ∀ γ', inv xs.length γ' → R.nx γ') :
    ForW js γ g body R (xs.map emb).length (fun i => s.sub ((xs.map emb).getD i .non)) := by
  refine ⟨⟨inv, h0, fun i γ' hi h => ?_, fun γ' h => ?_⟩⟩
  · rw [List.length_map] at hi
    have t := turn i hi γ' h
    rw [← getD_map (f := emb) hi] at t
    exact t
  · rw [List.length_map] at h
    exact done γ' h
/-- for k in range(..) -/
theorem forR_of {js : List Nat} {γ : Γ} {g : PTG} {body : PTS} {R : PEnds} {n : Nat} {item : Nat → S} (inv : Nat → Γ → Prop) (h0 : inv 0 (clr js γ))
    (turn : ∀ (i : Nat) γ', i < n → inv i γ' → g (item i) γ' fun γ2 => body { R with nx := fun γ3 => inv (i + 1) (clr js γ3), ct := fun γ3 => inv (i + 1) (clr js γ3), bk := R.nx } γ2)
    (done : ∀ γ', inv n γ' → R.nx γ') : ForW js γ g body R n item := ⟨⟨inv, h0, turn, done⟩⟩
theorem join_of {p q : PTS} {R : PEnds} {γ : Γ} (J : Γ → Prop) (h1 : p { R with nx := J } γ) (h2 : ∀ γ', J γ' → q R γ') : JoinW p q R γ := ⟨⟨J, h1, h2⟩⟩
theorem cutD_map {α : Type} (f : α → D) (xs : List α) (lo hi : Option Int) : cutD (xs.map f) lo hi = (cutD xs lo hi).map f := by
  unfold cutD
  rw [List.length_map, List.map_take, List.map_drop]
theorem cutD_to {α : Type} (xs : List α) {n : Int} (h : 0 ≤ n) : cutD xs none (some n) = xs.take n.toNat := by
  unfold cutD
  have e : n = (n.toNat : Int) := by omega
  rw [HT.sIx_none, e, HT.sIx_nat, List.drop_zero]
  rw [Nat.sub_zero, Int.toNat_natCast]
  by_cases c : n.toNat ≤ xs.length
  · rw [Nat.min_eq_left c]
  · rw [Nat.min_eq_right (by omega), List.take_of_length_le (Nat.le_refl _), List.take_of_length_le (by omega)]
theorem cutD_from {α : Type} (xs : List α) {n : Int} (h : 0 ≤ n) : cutD xs (some n) none = xs.drop n.toNat := by
  unfold cutD
  have e : n = (n.toNat : Int) := by omega
  rw [HT.sIx_none, e, HT.sIx_nat, Int.toNat_natCast]
  by_cases c : n.toNat ≤ xs.length
  · rw [Nat.min_eq_left c, List.take_of_length_le (by rw [List.length_drop]; omega)]
  · rw [Nat.min_eq_right (by omega), List.drop_of_length_le (Nat.le_refl _), List.drop_of_length_le (by omega)]
    simp
/-! ### the law itself -/
def lawSp (K : PySem.W.Frag) : Sp := fun vs H Q _ => ∃ (a : Addr) (ns : List Int), vs = [.ref a] ∧ SqL K H a (ns.map V.int) ∧ ∀ H', Q (.bl true) H'
def pc_law : Pc := fun ds R _ => ∃ ns : List Int, ds = [.scr ns] ∧ R (.sh (.bl true))
theorem law_of {vs : List V} {Q : VK} {Ec : XK} (h : lawSp K vs H Q Ec) : spOf mg pc_law K vs H Q Ec := by
  obtain ⟨a, ns, rfl, hS, q⟩ := h
  refine ⟨[.scr ns], fun s => s = .sh (.bl true), fun _ => False, .cons (.scr hS) .nil, ⟨ns, rfl, rfl⟩, fun s v H' e S1 tv => ?_, fun _ _ z => z.elim⟩
  subst e
  cases tv
  exact q H'
end
end Pu

namespace Pu
open PySem PySem.Spec PyProof.Rows L2 Own M
section
variable {K : PySem.W.Frag} {mg : Str → Option Value} {E : L2.St → XK} {H0 H H1 H' : Hp} {B Z Z' : Addr → Prop} {σ : L2.St} {γ : Γ}
/-! ### dicts of plain values -/
def scalV : D → Option V
  | .int i => some (.int i) | .bl b => some (.bl b) | .non => some .non | .str x => some (.str x) | _ => none
theorem rp_scal {d : D} {v u : V} (h : Rp K H d v) (e : scalV d = some u) : v = u := by
  cases h with
  | int i => cases e; rfl
  | bl b => cases e; rfl
  | non => cases e; rfl
  | str x => cases e; rfl
  | _ => cases e
/-! ### enumerate -/
/-- a row that begins with l -/
def em (l : Int) (p : List Int) : D := .lst ((l :: p).map D.int)
end
end Pu

namespace Pu
open PySem PySem.Spec PyProof.Rows L2 Own M
section
variable {K : PySem.W.Frag} {mg : Str → Option Value} {E : L2.St → XK} {H0 H H1 H' : Hp} {B Z Z' : Addr → Prop} {σ : L2.St} {γ : Γ}
def fEqE (neg : Bool) : S → S → (S → Prop) → Prop := fun x y R => match x.d, y.d with
  | .lst ds, .lst [] => R (.sh (.bl (if neg then !ds.isEmpty else ds.isEmpty)))
  | _, _ => False
theorem se_eqE {neg : Bool} {ta tb : TE} {a b : PTE} (ha : SndE K mg E ta a) (hb : SndE K mg E tb b) : SndE K mg E (tOp (rEqE K neg) ta tb) (p2 a b (fEqE neg)) := by
  refine se_2 ha hb fun H0 H H2 Z x y v u R Q s0 s1 hm tx ty h q => ?_
  have rx := tx.rp s0
  have ry := ty.rp s0
  unfold fEqE at h
  split at h
  · rename_i ds e1 e2
    rw [e1] at rx
    rw [e2] at ry
    obtain ⟨l, us, rfl, hl, r⟩ := rx.lst_inv
    obtain ⟨m, ws, rfl, hm', r'⟩ := ry.lst_inv
    cases r'
    refine ⟨l, m, us, rfl, rfl, SqL.of hl, SqL.of hm', ?_⟩
    rw [isEmpty_len r.len]
    exact q _ _ H2 h (Same.refl _) (.bl _)
  · exact h.elim
theorem cutD_sub {α : Type} (xs : List α) (lo hi : Option Int) : (cutD xs lo hi).Sublist xs := (List.take_sublist _ _).trans (List.drop_sublist _ _)
end
end Pu

namespace Pu
open PySem PySem.Spec PyProof.Rows L2 Own M
section
variable {K : PySem.W.Frag} {mg : Str → Option Value} {E : L2.St → XK} {H0 H H1 H' : Hp} {B Z Z' : Addr → Prop} {σ : L2.St} {γ : Γ}
/-! ### try -/
theorem EnvR.gone (Ev : EnvR K H0 B H σ γ) (i : Nat) : EnvR K H0 B H (σ.set i none) (γ.set i none) ∧ Fr B H σ γ H (σ.set i none) (γ.set i none) := by
  obtain ⟨e1, f1⟩ := Ev.drop i
  have got : ∀ (j : Nat) (s : S), (γ.set i none)[j]? = some (some s) → j ≠ i := fun j s h => by
    rcases set_get h with ⟨_, e, _⟩ | ⟨n, _⟩
    · cases e
    · exact n
  have hz : ∀ b, zof B (γ.set i none) (σ.set i none) b ↔ zof B (γ.set i none) σ b := fun b => by
    constructor
    · rintro (z | ⟨j, ds, z1, z2⟩)
      · exact .inl z
      · rw [set_ne (got j _ z1)] at z2
        exact .inr ⟨j, ds, z1, z2⟩
    · rintro (z | ⟨j, ds, z1, z2⟩)
      · exact .inl z
      · exact .inr ⟨j, ds, z1, by rw [set_ne (got j _ z1)]; exact z2⟩
  have ez : zof B (γ.set i none) (σ.set i none) = zof B (γ.set i none) σ := funext fun b => propext (hz b)
  refine ⟨⟨e1.same, by rw [List.length_set]; exact e1.len, e1.bm, fun k j a ds es h1 h2 h3 h4 => ?_, fun j s h => ?_⟩, fun b o h z => ?_⟩
  · rw [set_ne (got k _ h1)] at h3
    rw [set_ne (got j _ h2)] at h4
    exact e1.own k j a ds es h1 h2 h3 h4
  · obtain ⟨v, h1, h2⟩ := e1.slot j s h
    rw [ez]
    exact ⟨v, by rw [set_ne (got j _ h)]; exact h1, h2⟩
  · rw [ez]
    exact f1 b o h z
def pTry (mg : Str → Option Value) (cs : List Str) (i : Nat) (pb ph : PTS) : PTS := fun R γ => pb { R with ex := fun γ' c => c ∈ cs ∧ ph { nx := fun g => R.nx (g.set i none), rt := R.rt, ex := fun _ _ => False, bk := fun g => R.bk (g.set i none), ct := fun g => R.ct (g.set i none) } (γ'.set i (some (.sh (.err (ExcR.clsOf mg c))))) } γ
theorem ss_try {i : Nat} {C0 : Addr} {tb : Ends → TS} {ts : TS} {pb ph : PTS} {E' : L2.St → XK} (cs : List Str) (hcs : ∀ c ∈ cs, ExcR.ErrGet K (ExcR.clsOf mg c) ∧ PySem.W.exmOne K (.ref (ExcR.clsOf mg c)) (.ref C0) = some true)
    (hb : ∀ D, SndS K mg (ExcR.hx K C0 i ts D) (tb D) pb) (hh : SndS K mg E' ts ph) : SndS K mg E (fun D σ H => tb D D σ H) (pTry mg cs i pb ph) := by
  intro H0 B H σ γ R D hB env h e
  refine hb D H0 B H σ γ _ D hB env h ⟨e.nx, e.rt, fun σ' γ' c H' hc e' f' => ?_, e.bk, e.ct⟩
  obtain ⟨hin, hp⟩ := hc
  obtain ⟨k1, k2⟩ := hcs c hin
  refine ⟨_, rfl, k1, k2, fun a na => ?_⟩
  have S1 := same_upd (o := ExcR.ErrH a (ExcR.clsOf mg c)) na
  have tv : TV K (zof B γ' σ') H0 H' (upd H' a (ExcR.ErrH a (ExcR.clsOf mg c))) (.sh (.err (ExcR.clsOf mg c))) (.ref a) := .err (off_of upd_same fun z => by have := e'.zm a z; rw [na] at this; exact this)
  obtain ⟨e2, f2⟩ := e'.set (i := i) S1 tv rfl
  have f12 := f'.trans f2
  refine hh H0 B _ _ _ _ _ hB e2 hp ⟨fun σ3 γ3 H3 q3 e3 f3 => ?_, e.rt, fun _ _ _ _ z => z.elim, fun σ3 γ3 H3 q3 e3 f3 => ?_, fun σ3 γ3 H3 q3 e3 f3 => ?_⟩
  · obtain ⟨e4, f4⟩ := e3.gone i
    exact e.nx _ _ H3 q3 e4 (f12.trans (f3.trans f4))
  · obtain ⟨e4, f4⟩ := e3.gone i
    exact e.bk _ _ H3 q3 e4 (f12.trans (f3.trans f4))
  · obtain ⟨e4, f4⟩ := e3.gone i
    exact e.ct _ _ H3 q3 e4 (f12.trans (f3.trans f4))
theorem se_ref {a : Addr} : SndE K mg E (tC (.ref a)) (pC (.ref a)) := se_c fun _ => .ref a
/-- isinstance of a caught error -/
def fIsiE (K : PySem.W.Frag) : List S → (S → Prop) → Prop
  | [s, t], R => (match s.d, t.d with
    | .err C, .ref C' => ∃ b, ExcR.ErrGet K C ∧ PySem.W.kitOne K (.ref C) (.ref C') = some b ∧ R (.sh (.bl b))
    | .err C, .ty n => ∃ b, ExcR.ErrGet K C ∧ PySem.W.kitOne K (.ref C) (.type n) = some b ∧ R (.sh (.bl b))
    | _, _ => False)
  | _, _ => False
theorem Rp.err_inv {C : Addr} {v : V} (h : Rp K H (.err C) v) : ∃ a, v = .ref a ∧ H a = some (ExcR.ErrH a C) := by
  cases h with
  | err h => exact ⟨_, rfl, h⟩
theorem Rp.ref_inv {a : Addr} {v : V} (h : Rp K H (.ref a) v) : v = .ref a := by cases h; rfl
theorem se_isiE {ta : TA} {r : PTA} (hr : SndA K mg E ta r) : SndE K mg E (tCB (fun xs H Q => ∃ (a C : Addr) (c : V) (b : Bool), xs = [.ref a, c] ∧ H a = some (ExcR.ErrH a C) ∧ ExcR.ErrGet K C ∧ (∃ cv : Value, (∀ u, RelV c u → u = cv) ∧ PySem.W.kitOne K (.ref C) cv = some b) ∧ Q (.bl b) H) ta) (pCB (fIsiE K) r) := by
  refine se_cb hr fun H0 H H1 Z ss vs R Q s0 s1 hm tv h q => ?_
  unfold fIsiE at h
  split at h
  · obtain ⟨v, u, rfl, t1, t2⟩ := tv.two_inv
    have r1 := t1.rp s0
    have r2 := t2.rp s0
    split at h
    · rename_i C C' e1 e2
      rw [e1] at r1
      rw [e2] at r2
      obtain ⟨a, rfl, ha⟩ := r1.err_inv
      obtain ⟨b, h1, h2, h3⟩ := h
      rw [r2.ref_inv]
      exact ⟨a, C, _, b, rfl, ha, h1, ⟨.ref C', fun u hu => hu, h2⟩, q _ _ H1 h3 (Same.refl _) (.bl _)⟩
    · rename_i C n e1 e2
      rw [e1] at r1
      rw [e2] at r2
      obtain ⟨a, rfl, ha⟩ := r1.err_inv
      obtain ⟨b, h1, h2, h3⟩ := h
      rw [r2.ty_inv]
      exact ⟨a, C, _, b, rfl, ha, h1, ⟨.type n, fun u hu => hu, h2⟩, q _ _ H1 h3 (Same.refl _) (.bl _)⟩
    · exact h.elim
  · exact h.elim
/-! ### xs[k] = v, xs one's own -/
def pSetI (i : Nat) (b a : PTE) : PTS := fun R γ => match γ[i]? with
  | some (some (.own (.lst ds))) => a γ (fun s => b γ (fun y => match y.d with
      | .int k => ∃ j d, ixN ds.length k = some j ∧ s.shd = some d ∧ R.nx (γ.set i (some (.own (.lst (ds.set j d)))))
      | _ => False) (R.ex γ)) (R.ex γ)
  | _ => False
theorem Rps.set {d : D} {v : V} (h : Rp K H d v) : ∀ {ds : List D} {vs : List V} (j : Nat), Rps K H ds vs → Rps K H (ds.set j d) (vs.set j v)
  | _, _, _, .nil => .nil
  | _, _, 0, .cons _ r => .cons h r
  | _, _, j + 1, .cons k r => .cons k (Rps.set h j r)
theorem ss_setI (i : Nat) {tb te : TE} {a b : PTE} (hb : SndE K mg E tb b) (ha : SndE K mg E te a) : SndS K mg E (tAsg te (gSub (tVar i) tb rSetL)) (pSetI i b a) := by
  intro H0 B H σ γ R D hB env h e
  have hx : ∀ c H', R.ex γ c → Same H H' → E σ (.ref (ExcR.clsOf mg c)) none H' := fun c H' hc S' => e.ex σ γ c H' hc (env.grow S') (Fr.grow S')
  unfold pSetI at h
  split at h
  · rename_i ds hi
    obtain ⟨v, hv, l, rfl, hb0, us, hl, ru⟩ := env.slot i _ hi
    refine ha H0 B H σ γ _ _ _ env h (fun s u H1 h1 S1 t1 => ⟨_, hv, ?_⟩) hx
    have env1 := env.grow S1
    refine hb H0 B H1 σ γ _ _ _ env1 h1 (fun y w H2 h2 S2 t2 => ?_) fun c H' hc S' => hx c H' hc (S1.trans S')
    have env2 := env1.grow S2
    have ry := t2.rp env2.same
    split at h2
    · rename_i k ek
      rw [ek] at ry
      obtain ⟨j, d, h3, h4, h5⟩ := h2
      have rd := Rp.mono (off_mono S2 fun _ _ _ z => z) (t1.shd env1.same env.zm S1 h4)
      refine ⟨l, us, k, j, rfl, ry.int_inv, (S1.trans S2) _ _ hl, by rw [ru.len]; exact h3, ?_⟩
      obtain ⟨e2, f2⟩ := env2.mutate (es := .lst (ds.set j d)) (us := .lst (us.set j u)) hi hv trivial fun F H' SF hF => ⟨_, hF, Rps.mono SF (Rps.set rd j (Rps.mono (off_mono (S1.trans S2) fun _ _ _ z => z) ru))⟩
      exact e.nx _ _ _ h5 e2 ((Fr.grow (S1.trans S2)).trans f2)
    · exact h2.elim
  · exact h.elim
/-! ### xs * k -/
def fRep : S → S → (S → Prop) → Prop := fun x y R => match x.d, y.d with
  | .lst ds, .int k => x.free ds = true ∧ (-(2 ^ 63) ≤ k ∧ k < 2 ^ 63) ∧ ds.length * k.toNat ≤ 10000000 ∧ R (.own (.lst (List.replicate k.toNat ds).flatten))
  | _, _ => False
theorem Rps.rep {ds : List D} {vs : List V} (h : Rps K H ds vs) : ∀ k : Nat, Rps K H (List.replicate k ds).flatten (List.replicate k vs).flatten
  | 0 => .nil
  | k + 1 => by
    rw [List.replicate_succ, List.replicate_succ, List.flatten_cons, List.flatten_cons]
    exact Rps.append h (Rps.rep h k)
theorem se_rep {ta tb : TE} {a b : PTE} (ha : SndE K mg E ta a) (hb : SndE K mg E tb b) : SndE K mg E (tOp rRep ta tb) (p2 a b fRep) := by
  refine se_2 ha hb fun H0 H H2 Z x y v u R Q s0 s1 hm tx ty h q => ?_
  unfold fRep at h
  have ry := ty.rp s0
  split at h
  · rename_i ds k e1 e2
    rw [e2] at ry
    obtain ⟨l, us, rfl, hl, r⟩ := (tx.items s0 hm s1 h.1).1 e1
    refine ⟨l, k, us, rfl, ry.int_inv, hl, h.2.1.1, h.2.1.2, by rw [r.len]; exact Nat.le_trans h.2.2.1 (by decide), fun p np => ?_⟩
    exact q _ _ _ h.2.2.2 (same_upd np) (own_new s1 np (r.rep _))
  · exact h.elim
/-! ### == of lists of plain values -/
def scalVs : List D → Option (List V)
  | [] => some []
  | d :: r => match scalV d, scalVs r with
    | some v, some vs => some (v :: vs)
    | _, _ => none
theorem scalVs_of : ∀ {ds : List D} {vs us : List V}, Rps K H ds vs → scalVs ds = some us → vs = us
  | [], _, _, .nil, e => by cases e; rfl
  | d :: r, _, us, .cons h t, e => by
    unfold scalVs at e
    split at e
    · rename_i v vs e1 e2
      cases e
      rw [rp_scal h e1, scalVs_of t e2]
    · cases e
def fEqV (neg : Bool) : S → S → (S → Prop) → Prop := fun x y R => match x.d, y.d with
  | .lst ds, .lst es => ∃ us ws, scalVs ds = some us ∧ scalVs es = some ws ∧ us.all flatV = true ∧ ws.all flatV = true ∧ R (.sh (.bl (if neg then !eqL us ws else eqL us ws)))
  | _, _ => False
theorem se_eqV {neg : Bool} {ta tb : TE} {a b : PTE} (ha : SndE K mg E ta a) (hb : SndE K mg E tb b) : SndE K mg E (tOp (rEqL K neg) ta tb) (p2 a b (fEqV neg)) := by
  refine se_2 ha hb fun H0 H H2 Z x y v u R Q s0 s1 hm tx ty h q => ?_
  unfold fEqV at h
  have rx := tx.rp s0
  have ry := ty.rp s0
  split at h
  · rename_i ds es e1 e2
    rw [e1] at rx
    rw [e2] at ry
    obtain ⟨us, ws, h1, h2, h3, h4, h5⟩ := h
    obtain ⟨l, vs, rfl, hl, r⟩ := rx.lst_inv
    obtain ⟨m, vs', rfl, hm', r'⟩ := ry.lst_inv
    rw [scalVs_of r h1] at hl
    rw [scalVs_of r' h2] at hm'
    exact ⟨l, m, us, ws, rfl, rfl, SqL.of hl, SqL.of hm', h3, h4, q _ _ H2 h5 (Same.refl _) (.bl _)⟩
  · exact h.elim
theorem op_eqLK {X : Cx} (hu : X.A.units < cLine) (hK : X.K = K := by rfl) : OpR X (compareOp .Eq) (rEqL K false) := by subst hK; exact op_eqL hu
end
end Pu


namespace T
open PySem PySem.Spec PyProof.Rows L2
def top (i : Nat) : Stmt := PySem.Challenge.pw_stripmeld_k16_places_walked.main.body.getD i (.Pass ⟨0, 0, 0, 0⟩)
abbrev s_own_numbers : Stmt := top 4
theorem sc_own_numbers : FnScope ["strips"] ["strips"] (defScope s_own_numbers) := ⟨rfl, rfl, rfl, by decide +kernel, rfl, by decide +kernel, by decide +kernel⟩
abbrev s_exchange_cost : Stmt := top 5
theorem sc_exchange_cost : FnScope ["strips", "numbers", "place", "left", "right"] ["strips", "numbers", "place"] (defScope s_exchange_cost) := ⟨rfl, rfl, rfl, by decide +kernel, rfl, by decide +kernel, by decide +kernel⟩
abbrev s_exchanged : Stmt := top 6
theorem sc_exchanged : FnScope ["numbers", "place"] ["numbers", "place"] (defScope s_exchanged) := ⟨rfl, rfl, rfl, by decide +kernel, rfl, by decide +kernel, by decide +kernel⟩
abbrev s_check_neighbours : Stmt := top 7
theorem sc_check_neighbours : FnScope ["strips", "place"] ["strips", "place"] (defScope s_check_neighbours) := ⟨rfl, rfl, rfl, by decide +kernel, rfl, by decide +kernel, by decide +kernel⟩
abbrev s_walk_places : Stmt := top 8
theorem sc_walk_places : FnScope ["strips", "places", "numbers", "cost", "place"] ["strips", "places"] (defScope s_walk_places) := ⟨rfl, rfl, rfl, by decide +kernel, rfl, by decide +kernel, by decide +kernel⟩
abbrev s_law_at : Stmt := top 10
theorem sc_law_at : FnScope ["_law_script", "_law_k"] ["_law_script", "_law_k"] (defScope s_law_at) := ⟨rfl, rfl, rfl, by decide +kernel, rfl, by decide +kernel, by decide +kernel⟩
abbrev s_law_whole : Stmt := top 11
theorem sc_law_whole : FnScope ["_law_found"] ["_law_found"] (defScope s_law_whole) := ⟨rfl, rfl, rfl, by decide +kernel, rfl, by decide +kernel, by decide +kernel⟩
abbrev s_law_mix : Stmt := top 12
theorem sc_law_mix : FnScope ["_law_cell", "_law_place", "_law_first"] ["_law_cell", "_law_place"] (defScope s_law_mix) := ⟨rfl, rfl, rfl, by decide +kernel, rfl, by decide +kernel, by decide +kernel⟩
abbrev s_law_draw : Stmt := top 13
theorem sc_law_draw : FnScope ["_law_script", "_law_k"] ["_law_script", "_law_k"] (defScope s_law_draw) := ⟨rfl, rfl, rfl, by decide +kernel, rfl, by decide +kernel, by decide +kernel⟩
abbrev s_law_menu : Stmt := top 14
theorem sc_law_menu : FnScope ["_law_cell", "_law_wide", "_law_least"] ["_law_cell"] (defScope s_law_menu) := ⟨rfl, rfl, rfl, by decide +kernel, rfl, by decide +kernel, by decide +kernel⟩
abbrev s_law_holder : Stmt := top 15
theorem sc_law_holder : FnScope ["_law_menu_here", "_law_k"] ["_law_menu_here", "_law_k"] (defScope s_law_holder) := ⟨rfl, rfl, rfl, by decide +kernel, rfl, by decide +kernel, by decide +kernel⟩
abbrev s_law_strips : Stmt := top 16
theorem sc_law_strips : FnScope ["_law_script", "_law_menu_here", "_law_many", "_law_strips_here", "_law_k", "_law_cell", "_law_width"] ["_law_script", "_law_menu_here", "_law_many"] (defScope s_law_strips) := ⟨rfl, rfl, rfl, by decide +kernel, rfl, by decide +kernel, by decide +kernel⟩
abbrev s_law_row : Stmt := top 17
theorem sc_law_row : FnScope ["_law_found", "_law_due", "_law_k"] ["_law_found", "_law_due"] (defScope s_law_row) := ⟨rfl, rfl, rfl, by decide +kernel, rfl, by decide +kernel, by decide +kernel⟩
abbrev s_law_tuples : Stmt := top 18
theorem sc_law_tuples : FnScope ["_law_found", "_law_due", "_law_k", "_law_j"] ["_law_found", "_law_due"] (defScope s_law_tuples) := ⟨rfl, rfl, rfl, by decide +kernel, rfl, by decide +kernel, by decide +kernel⟩
abbrev s_law_laid : Stmt := top 19
theorem sc_law_laid : FnScope ["_law_strips_here", "_law_places_here", "_law_numbers", "_law_total", "_law_place", "_law_one", "_law_two"] ["_law_strips_here", "_law_places_here"] (defScope s_law_laid) := ⟨rfl, rfl, rfl, by decide +kernel, rfl, by decide +kernel, by decide +kernel⟩
abbrev s_law_places : Stmt := top 20
theorem sc_law_places : FnScope ["_law_script", "_law_strips_here", "_law_how", "_law_places_here", "_law_k", "_law_odd"] ["_law_script", "_law_strips_here"] (defScope s_law_places) := ⟨rfl, rfl, rfl, by decide +kernel, rfl, by decide +kernel, by decide +kernel⟩
abbrev s_law : Stmt := top 21
theorem sc_law : FnScope ["_law_script", "_law_menu_here", "_law_strips_here", "_law_places_here", "_law_handed", "_law_named", "_law_found", "_law_kinds", "e", "_law_due"] ["_law_script"] (defScope s_law) := ⟨rfl, rfl, rfl, by decide +kernel, rfl, by decide +kernel, by decide +kernel⟩
structure Glob (K : PySem.W.Frag) (mg : Str → Option Value) : Prop where
  ValueError : mg "ValueError" = none
  bool : mg "bool" = none
  int : mg "int" = none
  isinstance : mg "isinstance" = none
  len : mg "len" = none
  list : mg "list" = none
  max : mg "max" = none
  range : mg "range" = none
  tuple : mg "tuple" = none
  m_MeldError : mg "MeldError" = some (.ref (ExcR.clsOf mg "MeldError"))
  g_MeldError : ExcR.ErrGet K (ExcR.clsOf mg "MeldError")
  m_NoStrip : mg "NoStrip" = some (.ref (ExcR.clsOf mg "NoStrip"))
  g_NoStrip : ExcR.ErrGet K (ExcR.clsOf mg "NoStrip")
  x_MeldError_NoStrip : PySem.W.exmOne K (.ref (ExcR.clsOf mg "MeldError")) (.ref (ExcR.clsOf mg "NoStrip")) = some false
  x_NoStrip_NoStrip : PySem.W.exmOne K (.ref (ExcR.clsOf mg "NoStrip")) (.ref (ExcR.clsOf mg "NoStrip")) = some true
  k_MeldError_MeldError : PySem.W.kitOne K (.ref (ExcR.clsOf mg "MeldError")) (.ref (ExcR.clsOf mg "MeldError")) = some true
  k_MeldError_ValueError : PySem.W.kitOne K (.ref (ExcR.clsOf mg "MeldError")) (.type "ValueError") = some true
  k_NoStrip_MeldError : PySem.W.kitOne K (.ref (ExcR.clsOf mg "NoStrip")) (.ref (ExcR.clsOf mg "MeldError")) = some true
  k_NoStrip_ValueError : PySem.W.kitOne K (.ref (ExcR.clsOf mg "NoStrip")) (.type "ValueError") = some true
end T

namespace M
open PySem PySem.Spec PyProof.Rows L2 Own Pu
def pc_own_numbers : Pc := fun ds R _ => ∃ ps : List (Int × Int), ds = [.lst (ps.map prD)] ∧ ps.length ≤ 1000 ∧ R (.own ((runI 1 ps.length).map D.int))
def pc_exchange_cost : Pc := fun ds R _ => ∃ (ps : List (Int × Int)) (ns : List Int) (p : Int), ds = [.lst (ps.map prD), .lst (ns.map D.int), .int p] ∧ Field ps ∧ (∀ n ∈ ns, 1 ≤ n ∧ n ≤ ps.length) ∧ 1 ≤ p ∧ p < ns.length ∧ R (.sh (.int (exM ps ns p.toNat)))
def pc_exchanged : Pc := fun ds R _ => ∃ (ns : List Int) (p : Int), ds = [.lst (ns.map D.int), .int p] ∧ 1 ≤ p ∧ p < ns.length ∧ ns.length ≤ 1000 ∧ R (.own ((swapM ns p.toNat).map D.int))
def pc_check_neighbours : Pc := fun ds R X => ∃ (ps : List (Int × Int)) (p : Int), ds = [.lst (ps.map prD), .int p] ∧ (if p < 1 ∨ (ps.length : Int) ≤ p then X "NoStrip" else R (.sh .non))
/-- the script's number at a place, 0 behind its end -/
def sp_law_at (K : PySem.W.Frag) : Sp := fun vs H Q _ => ∃ (a : Addr) (ns : List Int) (k : Int), vs = [.ref a, .int k] ∧ SqL K H a (ns.map V.int) ∧ 0 ≤ k ∧ Q (.int (ns.getD k.toNat 0)) H
def pc_law_at : Pc := fun ds R _ => ∃ (ns : List Int) (k : Int), ds = [.scr ns, .int k] ∧ 0 ≤ k ∧ R (.sh (.int (ns.getD k.toNat 0)))
theorem cv_law_at {P : Program} {w : World} {K : PySem.W.Frag} {mg : Str → Option Value} {base : Heap} (C : Callee P w K mg base CX0 1 "_law_at" ["_law_script", "_law_k"] (sp_law_at K)) : Callee P w K mg base CX0 1 "_law_at" ["_law_script", "_law_k"] (Pu.spOf mg pc_law_at K) := Pu.imp_of C fun ds R X vs H Q E r hc hQ hX => by
  obtain ⟨ns, k, rfl, hk, hR⟩ := hc
  obtain ⟨v, u, rfl, r1, r2⟩ := r.two_inv
  obtain ⟨a, rfl, hS⟩ := r1.scr_inv
  rw [r2.int_inv]
  exact ⟨a, ns, k, rfl, hS, hk, hQ _ _ H hR (Same.refl _) (.int _)⟩
/-- asked of a whole number -/
def sp_law_whole (_ : PySem.W.Frag) : Sp := fun vs H Q _ => ∃ i : Int, vs = [.int i] ∧ Q (.bl true) H
def pc_law_whole : Pc := fun ds R _ => ∃ i : Int, ds = [.int i] ∧ R (.sh (.bl true))
theorem cv_law_whole {P : Program} {w : World} {K : PySem.W.Frag} {mg : Str → Option Value} {base : Heap} (C : Callee P w K mg base CX0 1 "_law_whole" ["_law_found"] (sp_law_whole K)) : Callee P w K mg base CX0 1 "_law_whole" ["_law_found"] (Pu.spOf mg pc_law_whole K) := Pu.imp_of C fun ds R X vs H Q E r hc hQ hX => by
  obtain ⟨i, rfl, hR⟩ := hc
  obtain ⟨v, rfl, r1⟩ := r.one_inv
  rw [r1.int_inv]
  exact ⟨i, rfl, hQ _ _ H hR (Same.refl _) (.bl _)⟩
def mix (c p : Int) : Int := ((c % 2147483647 + 7919 * p + 1) * 48271 % 2147483647 + 104729 * p + 11) * 69621 % 2147483647
def sp_law_mix (_ : PySem.W.Frag) : Sp := fun vs H Q _ => ∃ c p : Int, vs = [.int c, .int p] ∧ Q (.int (mix c p)) H
def pc_law_mix : Pc := fun ds R _ => ∃ c p : Int, ds = [.int c, .int p] ∧ R (.sh (.int (mix c p)))
theorem cv_law_mix {P : Program} {w : World} {K : PySem.W.Frag} {mg : Str → Option Value} {base : Heap} (C : Callee P w K mg base CX0 1 "_law_mix" ["_law_cell", "_law_place"] (sp_law_mix K)) : Callee P w K mg base CX0 1 "_law_mix" ["_law_cell", "_law_place"] (Pu.spOf mg pc_law_mix K) := Pu.imp_of C fun ds R X vs H Q E r hc hQ hX => by
  obtain ⟨c, p, rfl, hR⟩ := hc
  obtain ⟨v, u, rfl, r1, r2⟩ := r.two_inv
  rw [r1.int_inv, r2.int_inv]
  exact ⟨c, p, rfl, hQ _ _ H hR (Same.refl _) (.int _)⟩
def menuM (c : Int) : List Int := [1 + c % 10, [1, 3, 7, 9].getD (c / 10 % 4).toNat 0, c / 40 % 10, [1000, 3, 1, 2, 3].getD (c / 400 % 5).toNat 0, [1, 1, 1, 1, 998].getD (c / 400 % 5).toNat 0]
def sp_law_menu (_ : PySem.W.Frag) : Sp := fun vs H Q _ => ∃ c : Int, vs = [.int c] ∧ ∀ (l : Addr) (H' : Hp), H l = none → Same H H' → H' l = some (.lst ((menuM c).map V.int)) → Menu (menuM c) → Q (.ref l) H'
theorem getD_of {xs : List Int} {i : Int} (h0 : 0 ≤ i) (h : i < xs.length) : atI (xs.map V.int) i = some (.int (xs.getD i.toNat 0)) := by
  apply atI_map (f := V.int)
  apply atI_pos h0
  rw [List.getD_eq_getElem?_getD, List.getElem?_eq_getElem (show i.toNat < xs.length by omega)]
  rfl
theorem menu_ok (c : Int) : Menu (menuM c) := by
  have h1 : 0 ≤ c / 10 % 4 ∧ c / 10 % 4 < 4 := by omega
  have h2 : 0 ≤ c / 400 % 5 ∧ c / 400 % 5 < 5 := by omega
  refine ⟨_, _, _, _, _, rfl, by omega, ?_, by omega, ?_, ?_⟩
  · have : c / 10 % 4 = 0 ∨ c / 10 % 4 = 1 ∨ c / 10 % 4 = 2 ∨ c / 10 % 4 = 3 := by omega
    rcases this with e | e | e | e <;> rw [e] <;> decide
  · have : c / 400 % 5 = 0 ∨ c / 400 % 5 = 1 ∨ c / 400 % 5 = 2 ∨ c / 400 % 5 = 3 ∨ c / 400 % 5 = 4 := by omega
    rcases this with e | e | e | e | e <;> rw [e] <;> decide
  · have : c / 400 % 5 = 0 ∨ c / 400 % 5 = 1 ∨ c / 400 % 5 = 2 ∨ c / 400 % 5 = 3 ∨ c / 400 % 5 = 4 := by omega
    rcases this with e | e | e | e | e <;> rw [e] <;> decide
def pc_law_menu : Pc := fun ds R _ => ∃ c : Int, ds = [.int c] ∧ (Menu (menuM c) → R (.own ((menuM c).map D.int)))
theorem cv_law_menu {P : Program} {w : World} {K : PySem.W.Frag} {mg : Str → Option Value} {base : Heap} (C : Callee P w K mg base CX0 1 "_law_menu" ["_law_cell"] (sp_law_menu K)) : Callee P w K mg base CX0 1 "_law_menu" ["_law_cell"] (Pu.spOf mg pc_law_menu K) := Pu.imp_of C fun ds R X vs H Q E r hc hQ hX => by
  obtain ⟨c, rfl, hR⟩ := hc
  obtain ⟨v, rfl, r1⟩ := r.one_inv
  rw [r1.int_inv]
  exact ⟨c, rfl, fun l H' nl S h hM => hQ _ _ H' (hR hM) S (ret_ints nl h)⟩
def holderM (m : List Int) (k : Int) : Int := 1 + (k * m.getD 1 0 + m.getD 2 0) % 10
def sp_law_holder (K : PySem.W.Frag) : Sp := fun vs H Q _ => ∃ (l : Addr) (m : List Int) (k : Int), vs = [.ref l, .int k] ∧ SqL K H l (m.map V.int) ∧ Menu m ∧ Q (.int (holderM m k)) H
def pc_law_holder : Pc := fun ds R _ => ∃ (m : List Int) (k : Int), ds = [.lst (m.map D.int), .int k] ∧ Menu m ∧ R (.sh (.int (holderM m k)))
theorem cv_law_holder {P : Program} {w : World} {K : PySem.W.Frag} {mg : Str → Option Value} {base : Heap} (C : Callee P w K mg base CX0 1 "_law_holder" ["_law_menu_here", "_law_k"] (sp_law_holder K)) : Callee P w K mg base CX0 1 "_law_holder" ["_law_menu_here", "_law_k"] (Pu.spOf mg pc_law_holder K) := Pu.imp_of C fun ds R X vs H Q E r hc hQ hX => by
  obtain ⟨m, k, rfl, hM, hR⟩ := hc
  obtain ⟨v, u, rfl, r1, r2⟩ := r.two_inv
  obtain ⟨a, rfl, hS⟩ := r1.ints_inv
  rw [r2.int_inv]
  exact ⟨a, m, k, rfl, SqL.of hS, hM, hQ _ _ H hR (Same.refl _) (.int _)⟩
def pc_law_laid : Pc := fun ds R _ => ∃ (ps : List (Int × Int)) (pl : List Int), ds = [.lst (ps.map prD), .lst (pl.map D.int)] ∧ Field ps ∧ ps.length ≤ 50 ∧ pl.length ≤ 1000 ∧
  R (match walkM ps pl (runI 1 ps.length, 0) with | some st => .own (.lst [.lst (st.1.map D.int), .int st.2]) | none => .own (.lst []))
def pc_walk_places : Pc := fun ds R X => ∃ (ps : List (Int × Int)) (pl : List Int), ds = [.lst (ps.map prD), .lst (pl.map D.int)] ∧ Field ps ∧ ps.length ≤ 50 ∧ pl.length ≤ 1000 ∧
  (match walkM ps pl (runI 1 ps.length, 0) with | some st => R (.sh (.tup [.lst (st.1.map D.int), .int st.2])) | none => X "NoStrip")
def drawM (ns : List Int) (k : Int) : Int := if ns.getD 0 0 % 2 = 0 then ns.getD (1 + k).toNat 0 else mix (ns.getD 1 0) k
def sp_law_draw (K : PySem.W.Frag) : Sp := fun vs H Q _ => ∃ (a : Addr) (ns : List Int) (k : Int), vs = [.ref a, .int k] ∧ SqL K H a (ns.map V.int) ∧ 0 ≤ k ∧ Q (.int (drawM ns k)) H
def pc_law_draw : Pc := fun ds R _ => ∃ (ns : List Int) (k : Int), ds = [.scr ns, .int k] ∧ 0 ≤ k ∧ R (.sh (.int (drawM ns k)))
theorem cv_law_draw {P : Program} {w : World} {K : PySem.W.Frag} {mg : Str → Option Value} {base : Heap} (C : Callee P w K mg base CX0 2 "_law_draw" ["_law_script", "_law_k"] (sp_law_draw K)) : Callee P w K mg base CX0 2 "_law_draw" ["_law_script", "_law_k"] (Pu.spOf mg pc_law_draw K) := Pu.imp_of C fun ds R X vs H Q E r hc hQ hX => by
  obtain ⟨ns, k, rfl, hk, hR⟩ := hc
  obtain ⟨v, u, rfl, r1, r2⟩ := r.two_inv
  obtain ⟨a, rfl, hS⟩ := r1.scr_inv
  rw [r2.int_inv]
  exact ⟨a, ns, k, rfl, hS, hk, hQ _ _ H hR (Same.refl _) (.int _)⟩
/-- asked of two lists of the same whole numbers -/
def sp_law_row (K : PySem.W.Frag) : Sp := fun vs H Q _ => ∃ (l l' : Addr) (xs : List Int), vs = [.ref l, .ref l'] ∧ H l = some (.lst (xs.map V.int)) ∧ SqL K H l' (xs.map V.int) ∧ xs.length ≤ 1000000 ∧ Q (.bl true) H
def pc_law_row : Pc := fun ds R _ => ∃ xs : List Int, ds = [.lst (xs.map D.int), .lst (xs.map D.int)] ∧ xs.length ≤ 1000000 ∧ R (.sh (.bl true))
theorem cv_law_row {P : Program} {w : World} {K : PySem.W.Frag} {mg : Str → Option Value} {base : Heap} (C : Callee P w K mg base CX0 2 "_law_row" ["_law_found", "_law_due"] (sp_law_row K)) : Callee P w K mg base CX0 2 "_law_row" ["_law_found", "_law_due"] (Pu.spOf mg pc_law_row K) := Pu.imp_of C fun ds R X vs H Q E r hc hQ hX => by
  obtain ⟨xs, rfl, hz, hR⟩ := hc
  obtain ⟨v, u, rfl, r1, r2⟩ := r.two_inv
  obtain ⟨a, rfl, ha⟩ := r1.ints_inv
  obtain ⟨l, rfl, hl⟩ := r2.ints_inv
  exact ⟨a, l, xs, rfl, ha, SqL.of hl, hz, hQ _ _ H hR (Same.refl _) (.bl _)⟩
/-- asked of two lists of the same pairs -/
def sp_law_tuples (_ : PySem.W.Frag) : Sp := fun vs H Q _ => ∃ (l l' : Addr) (ps : List (Int × Int)), vs = [.ref l, .ref l'] ∧ LAt PairR H l ps ∧ LAt PairR H l' ps ∧ ps.length ≤ 1000000 ∧ Q (.bl true) H
def pc_law_tuples : Pc := fun ds R _ => ∃ ps : List (Int × Int), ds = [.lst (ps.map prD), .lst (ps.map prD)] ∧ ps.length ≤ 1000000 ∧ R (.sh (.bl true))
theorem cv_law_tuples {P : Program} {w : World} {K : PySem.W.Frag} {mg : Str → Option Value} {base : Heap} (C : Callee P w K mg base CX0 2 "_law_tuples" ["_law_found", "_law_due"] (sp_law_tuples K)) : Callee P w K mg base CX0 2 "_law_tuples" ["_law_found", "_law_due"] (Pu.spOf mg pc_law_tuples K) := Pu.imp_of C fun ds R X vs H Q E r hc hQ hX => by
  obtain ⟨ps, rfl, hz, hR⟩ := hc
  obtain ⟨v, u, rfl, r1, r2⟩ := r.two_inv
  obtain ⟨a, rfl, ha⟩ := r1.pairs_inv
  obtain ⟨l, rfl, hl⟩ := r2.pairs_inv
  exact ⟨a, l, ps, rfl, ha, hl, hz, hQ _ _ H hR (Same.refl _) (.bl _)⟩
def stripM (ns m : List Int) (k : Nat) : Int × Int := (holderM m (drawM ns (2 + (k : Int)) % m.getD 0 0), m.getD 4 0 + drawM ns (2 + (k : Int)) / m.getD 0 0 % m.getD 3 0)
def stripsM (ns m : List Int) (n : Nat) : List (Int × Int) := (List.range n).map (stripM ns m)
def sp_law_strips (K : PySem.W.Frag) : Sp := fun vs H Q _ => ∃ (a l : Addr) (ns m : List Int) (n : Int), vs = [.ref a, .ref l, .int n] ∧ SqL K H a (ns.map V.int) ∧ SqL K H l (m.map V.int) ∧ Menu m ∧ 0 ≤ n ∧ n ≤ 1000 ∧
  ∀ (p : Addr) (H' : Hp), H p = none → Same H H' → LAt PairR H' p (stripsM ns m n.toNat) → Q (.ref p) H'
theorem stripsM_succ (ns m : List Int) (k : Nat) : stripsM ns m (k + 1) = stripsM ns m k ++ [stripM ns m k] := by
  unfold stripsM
  rw [List.range_succ, List.map_append]
  rfl
theorem stripsM_len (ns m : List Int) (k : Nat) : (stripsM ns m k).length = k := by simp [stripsM]
theorem stripM_field {ns m : List Int} (hM : Menu m) (k : Nat) : 1 ≤ (stripM ns m k).1 ∧ (stripM ns m k).1 ≤ 10 ∧ 1 ≤ (stripM ns m k).2 ∧ (stripM ns m k).2 ≤ 1000 := by
  obtain ⟨a, b, c, d, e, rfl, ha, hb, hc, hd, he⟩ := hM
  show 1 ≤ 1 + (_ * b + c) % 10 ∧ 1 + (_ * b + c) % 10 ≤ 10 ∧ 1 ≤ e + _ / a % d ∧ e + _ / a % d ≤ 1000
  have h1 := Int.emod_nonneg (drawM ns (2 + (k : Int)) / a) (show d ≠ 0 by omega)
  have h2 := Int.emod_lt_of_pos (drawM ns (2 + (k : Int)) / a) (show 0 < d by omega)
  omega
theorem stripsM_field {ns m : List Int} (hM : Menu m) (k : Nat) : Field (stripsM ns m k) := by
  intro q hq
  obtain ⟨j, _, rfl⟩ := List.mem_map.mp hq
  exact stripM_field hM j
def pc_law_strips : Pc := fun ds R _ => ∃ (ns m : List Int) (n : Int), ds = [.scr ns, .lst (m.map D.int), .int n] ∧ Menu m ∧ 0 ≤ n ∧ n ≤ 1000 ∧ R (.own ((stripsM ns m n.toNat).map prD))
theorem cv_law_strips {P : Program} {w : World} {K : PySem.W.Frag} {mg : Str → Option Value} {base : Heap} (C : Callee P w K mg base CX0 3 "_law_strips" ["_law_script", "_law_menu_here", "_law_many"] (sp_law_strips K)) : Callee P w K mg base CX0 3 "_law_strips" ["_law_script", "_law_menu_here", "_law_many"] (Pu.spOf mg pc_law_strips K) := Pu.imp_of C fun ds R X vs H Q E r hc hQ hX => by
  obtain ⟨ns, m, n, rfl, hM, h0, h1, hR⟩ := hc
  cases r with
  | cons r1 r =>
    obtain ⟨v, u, rfl, r2, r3⟩ := r.two_inv
    obtain ⟨a, rfl, hS⟩ := r1.scr_inv
    obtain ⟨l, rfl, hl⟩ := r2.ints_inv
    rw [r3.int_inv]
    exact ⟨a, l, ns, m, n, rfl, hS, SqL.of hl, hM, h0, h1, fun p H' np S h => hQ _ _ H' hR S (ret_pairs np S h)⟩
def pc_law_places : Pc := fun ds R _ => ∃ (ns : List Int) (ps : List (Int × Int)), ds = [.scr ns, .lst (ps.map prD)] ∧ ps.length ≤ 50 ∧ ∀ pl : List Int, pl.length ≤ 1000 → R (.own (pl.map D.int))
-- the law
end M


namespace T
open PySem PySem.Spec PyProof.Rows L2 Own M Pu
section
variable {P : Program} {w : World} {K : PySem.W.Frag} {mg : Str → Option Value} {base : Heap}
theorem ok_own_numbers (G : Glob K mg) (DD : Def K mg "own_numbers" s_own_numbers ["strips"])
    : Callee P w K mg base CX0 1 "own_numbers" ["strips"] (Pu.spOf mg pc_own_numbers K) := by
  refine DD.ok (k := 0) sc_own_numbers (fun vs H Q E h => spOf_len h (fun ds R X h => ?_)) (fun f cdv A outer s H vs Q E hr h => ?_)
  · obtain ⟨ps, rfl, hz, hR⟩ := h
    rfl
  · refine ⟨_, (pss_one (ps_ret (Own.pe_comp (N' := ["index"]) (φ := [none]) rfl (Own.CompOk.of (by rfl)) (pi_range1 rfl G.range (pa_cons (pe_callB (Own.call_lenK (K := K)) (by rfl) G.len PySem.boot_len (pa_cons (pv 0) pa_nil)) pa_nil)) (fun _ _ _ _ _ => ⟨(pg_name (i := 0) (show (["index"] : List Str).Nodup from by decide +kernel) rfl (by first | exact Or.inl rfl | exact Or.inr rfl)), Own.pifs_nil, (pe_op op_add (pv 0) pe_int)⟩)))), Pu.fn_use (n := 1) h
      (ss_ret (se_comp (SndI.c (si_range1 (sa_cons (se_len (sa_cons (se_var 0) sa_nil)) sa_nil))) (sg_name 0) st_yes (se_add (se_var 0) se_int))) (by decide) (fun ds R X h => ?_)⟩
    obtain ⟨ps, rfl, hz, hR⟩ := h
    refine ⟨rfl, ?_⟩
    have hl : (ps.map prD).length = ps.length := List.length_map ..
    refine ⟨⟨by omega, by omega⟩, compR_of (fun i => some (.int (0 + (i : Int) + 1))) (by omega) (fun i _ => ⟨_, rfl, rfl⟩) ?_⟩
    have e : (List.range ((ps.map prD).length : Int).toNat).filterMap (fun (i : Nat) => some (D.int (0 + (i : Int) + 1))) = (runI 1 ps.length).map D.int := by
      unfold runI
      rw [List.filterMap_eq_map', List.map_map, hl, Int.toNat_natCast]
      refine List.map_congr_left fun i _ => ?_
      show D.int (0 + (i : Int) + 1) = D.int (1 + (i : Int))
      congr 1
      omega
    rw [e]
    exact hR
end
end T

namespace M
open PySem PySem.Spec PyProof.Rows L2 Own Pu
theorem getD_lt {α : Type} {xs : List α} {i : Nat} {d : α} (h : i < xs.length) : xs.getD i d = xs[i] := by rw [List.getD_eq_getElem?_getD, List.getElem?_eq_getElem h]; rfl
end M

namespace T
open PySem PySem.Spec PyProof.Rows L2 Own M Pu
section
variable {P : Program} {w : World} {K : PySem.W.Frag} {mg : Str → Option Value} {base : Heap}
theorem ok_exchange_cost (G : Glob K mg) (DD : Def K mg "exchange_cost" s_exchange_cost ["strips", "numbers", "place"])
    : Callee P w K mg base CX0 1 "exchange_cost" ["strips", "numbers", "place"] (Pu.spOf mg pc_exchange_cost K) := by
  refine DD.ok (k := 0) sc_exchange_cost (fun vs H Q E h => spOf_len h (fun ds R X h => ?_)) (fun f cdv A outer s H vs Q E hr h => ?_)
  · obtain ⟨ps, ns, p, rfl, hF, hin, h1, h2, hR⟩ := h
    rfl
  · refine ⟨_, (pss_cons (ps_set (i := 3) sc_exchange_cost.nd rfl (by first | exact Or.inl rfl | exact Or.inr rfl) (pe_ix (Own.ix_ltK (K := K)) (pv 0) (pe_op op_sub (pe_ix (Own.ix_ltK (K := K)) (pv 1) (pe_op op_sub (pv 2) pe_int) (fun _ _ => rfl)) pe_int) (fun _ _ => rfl)))
      (pss_cons (ps_set (i := 4) sc_exchange_cost.nd rfl (by first | exact Or.inl rfl | exact Or.inr rfl) (pe_ix (Own.ix_ltK (K := K)) (pv 0) (pe_op op_sub (pe_ix (Own.ix_ltK (K := K)) (pv 1) (pv 2) (fun _ _ => rfl)) pe_int) (fun _ _ => rfl)))
      (pss_one (ps_ret (pe_op op_mul (pe_ix (Own.ix_ltK (K := K)) (pv 3) pe_int (fun _ _ => rfl)) (pe_ix (Own.ix_ltK (K := K)) (pv 4) pe_int (fun _ _ => rfl))))))), Pu.fn_use (n := 3) h
      (ss_seq (ss_asg (se_ix (se_var 0) (se_sub (se_ix (se_var 1) (se_sub (se_var 2) se_int)) se_int)) (sg_name 3))
        (ss_seq (ss_asg (se_ix (se_var 0) (se_sub (se_ix (se_var 1) (se_var 2)) se_int)) (sg_name 4))
        (ss_ret (se_mul (se_ix (se_var 3) se_int) (se_ix (se_var 4) se_int))))) (by decide) (fun ds R X h => ?_)⟩
    obtain ⟨ps, ns, p, rfl, hF, hin, h1, h2, hR⟩ := h
    refine ⟨rfl, ?_⟩
    have b1 : (p - 1).toNat < ns.length := by omega
    have b2 : p.toNat < ns.length := by omega
    have i1 := hin _ (List.getElem_mem b1)
    have i2 := hin _ (List.getElem_mem b2)
    refine ⟨_, at_map (by omega) (by omega), _, at_map (by omega) (by omega), _, at_map (by omega) (by omega), _, at_map (by omega) (by omega), _, rfl, _, rfl, ?_⟩
    have c1 : (ns[(p - 1).toNat] - 1).toNat < ps.length := by omega
    have c2 : (ns[p.toNat] - 1).toNat < ps.length := by omega
    have f1 := hF _ (List.getElem_mem c1)
    refine ⟨.inl ⟨by show -(2 ^ 64) < (ps[(ns[(p - 1).toNat] - 1).toNat]).2; omega, by show (ps[(ns[(p - 1).toNat] - 1).toNat]).2 < 2 ^ 64; omega⟩, ?_⟩
    have e : exM ps ns p.toNat = (ps[(ns[(p - 1).toNat] - 1).toNat]).2 * (ps[(ns[p.toNat] - 1).toNat]).2 := by
      unfold exM
      have e1 : ns.getD (p.toNat - 1) 0 = ns[(p - 1).toNat] := by
        rw [show p.toNat - 1 = (p - 1).toNat by omega]
        exact getD_lt b1
      rw [e1, getD_lt b2, getD_lt c1, getD_lt c2]
    rw [e] at hR
    exact hR
end
end T

namespace M
open PySem PySem.Spec PyProof.Rows L2 Own Pu
theorem getD_ltS {α : Type} {xs : List α} {i : Nat} {d : α} (h : i < xs.length) : xs.getD i d = xs[i] := by rw [List.getD_eq_getElem?_getD, List.getElem?_eq_getElem h]; rfl
theorem swap_eq {ns : List Int} {p : Int} (h1 : 1 ≤ p) (h2 : p < ns.length) {b1 : p.toNat < ns.length} {b2 : (p - 1).toNat < ns.length} : cutD (ns.map D.int) none (some (p - 1)) ++ [D.int ns[p.toNat], D.int ns[(p - 1).toNat]] ++ cutD (ns.map D.int) (some (p + 1)) none = (swapM ns p.toNat).map D.int := by
  unfold swapM
  rw [cutD_map, cutD_map, cutD_to ns (by omega), cutD_from ns (by omega), List.map_append, List.map_append]
  have e1 : p.toNat - 1 = (p - 1).toNat := by omega
  have e2 : p.toNat + 1 = (p + 1).toNat := by omega
  rw [e1, e2, getD_ltS b1, getD_ltS b2]
  rfl
end M

namespace T
open PySem PySem.Spec PyProof.Rows L2 Own M Pu
section
variable {P : Program} {w : World} {K : PySem.W.Frag} {mg : Str → Option Value} {base : Heap}
theorem ok_exchanged (G : Glob K mg) (DD : Def K mg "exchanged" s_exchanged ["numbers", "place"])
    : Callee P w K mg base CX0 1 "exchanged" ["numbers", "place"] (Pu.spOf mg pc_exchanged K) := by
  refine DD.ok (k := 0) sc_exchanged (fun vs H Q E h => spOf_len h (fun ds R X h => ?_)) (fun f cdv A outer s H vs Q E hr h => ?_)
  · obtain ⟨ns, p, rfl, h1, h2, hz, hR⟩ := h
    rfl
  · refine ⟨_, (pss_one (ps_ret (pe_op op_cat (pe_op op_cat (pe_slice (Pu.sl_listK (K := K)) (pv 0) po_none (po_some (pe_op op_sub (pv 1) pe_int))) (pe_lst (pa_cons (pe_ix (Own.ix_ltK (K := K)) (pv 0) (pv 1) (fun _ _ => rfl)) (pa_cons (pe_ix (Own.ix_ltK (K := K)) (pv 0) (pe_op op_sub (pv 1) pe_int) (fun _ _ => rfl)) pa_nil)))) (pe_slice (Pu.sl_listK (K := K)) (pv 0) (po_some (pe_op op_add (pv 1) pe_int)) po_none)))), Pu.fn_use (n := 2) h
      (ss_ret (se_cat (se_cat (se_slice (se_var 0) so_none (so_some (se_sub (se_var 1) se_int))) (se_lst (sa_cons (se_ix (se_var 0) (se_var 1)) (sa_cons (se_ix (se_var 0) (se_sub (se_var 1) se_int)) sa_nil)))) (se_slice (se_var 0) (so_some (se_add (se_var 1) se_int)) so_none))) (by decide) (fun ds R X h => ?_)⟩
    obtain ⟨ns, p, rfl, h1, h2, hz, hR⟩ := h
    refine ⟨rfl, ?_⟩
    have b1 : p.toNat < ns.length := by omega
    have b2 : (p - 1).toNat < ns.length := by omega
    have l1 : (cutD (ns.map D.int) none (some (p - 1))).length ≤ 1000 := by have := (cutD_sub (ns.map D.int) none (some (p - 1))).length_le; rw [List.length_map] at this; omega
    have l2 : (cutD (ns.map D.int) (some (p + 1)) none).length ≤ 1000 := by have := (cutD_sub (ns.map D.int) (some (p + 1)) none).length_le; rw [List.length_map] at this; omega
    refine ⟨imms_ints _, _, at_map (by omega) (by omega), _, at_map (by omega) (by omega), by simp, rfl, rfl, Nat.le_trans (Nat.add_le_add l1 (Nat.le_refl 2)) (by decide), imms_ints _, rfl, rfl, Nat.le_trans (Nat.add_le_add (by rw [List.length_append]; exact Nat.add_le_add l1 (Nat.le_refl 2)) l2) (by decide), ?_⟩
    have e := swap_eq h1 h2 (b1 := b1) (b2 := b2)
    rw [← e] at hR
    exact hR
end
end T


namespace T
open PySem PySem.Spec PyProof.Rows L2 Own M Pu
section
variable {P : Program} {w : World} {K : PySem.W.Frag} {mg : Str → Option Value} {base : Heap}
theorem ok_check_neighbours (G : Glob K mg) (DD : Def K mg "check_neighbours" s_check_neighbours ["strips", "place"])
    : Callee P w K mg base (ExcR.CXe P w) 1 "check_neighbours" ["strips", "place"] (Pu.spOf mg pc_check_neighbours K) := by
  refine ExcR.Def.okX DD (k := 0) sc_check_neighbours (fun vs H Q E h => spOf_len h (fun ds R X h => ?_)) (fun f cdv A outer s H vs Q E hr h => ?_)
  · obtain ⟨ps, p, rfl, hR⟩ := h
    rfl
  · refine ⟨_, (pss_one (ps_if (PW.pt (pw_or (pt_cmpR op_lt (pv 1) pe_int (nomark _)) (pw_or1 (pt_cmpR op_ge (pv 1) (pe_callB (Own.call_lenK (K := K)) (by rfl) G.len PySem.boot_len (pa_cons (pv 0) pa_nil)) (nomark _)))))
      (pss_one (ExcR.ps_raise G.g_NoStrip.c G.m_NoStrip ExcR.raises_e rfl (pa_cons pe_str pa_nil)))
      pss_nil)), Pu.fn_use (n := 2) h
      (ss_if (st_or (st_test (se_lt (se_var 1) se_int)) (st_test (se_ge (se_var 1) (se_len (sa_cons (se_var 0) sa_nil))))) (ss_raise (sa_cons se_str sa_nil)) ss_next) (by decide) (fun ds R X h => ?_)⟩
    obtain ⟨ps, p, rfl, hR⟩ := h
    refine ⟨rfl, ?_⟩
    have hl : (ps.map prD).length = ps.length := List.length_map ..
    refine ite2 (fun g => iteT ?_) (fun g => ?_)
    · rw [if_pos (.inl (of_decide_eq_true g))] at hR
      exact ⟨by simp, hR⟩
    · have g' : ¬ p < 1 := fun z => g (decide_eq_true z)
      refine ite2 (fun g2 => ?_) (fun g2 => ?_)
      · have g2' : ((ps.map prD).length : Int) ≤ p := of_decide_eq_true g2
        rw [if_pos (.inr (by omega))] at hR
        exact ⟨by simp, hR⟩
      · have g2' : ¬ ((ps.map prD).length : Int) ≤ p := fun z => g2 (decide_eq_true z)
        rw [if_neg (by omega)] at hR
        exact hR
end
end T


namespace T
open PySem PySem.Spec PyProof.Rows L2 Own M
section
variable {P : Program} {w : World} {K : PySem.W.Frag} {mg : Str → Option Value} {base : Heap}
theorem ok_law_at (G : Glob K mg) (D : Def K mg "_law_at" s_law_at ["_law_script", "_law_k"])
    : Callee P w K mg base CX0 1 "_law_at" ["_law_script", "_law_k"] (sp_law_at K) := by
  refine D.ok (k := 0) sc_law_at (fun vs H Q E h => ?_) (fun f cdv A outer s H vs Q E hr h => ?_)
  · obtain ⟨a, ns, k, rfl, hS, hk, q⟩ := h
    rfl
  · obtain ⟨a, ns, k, rfl, hS, hk, q⟩ := h
    refine ⟨_, (pss_cons (ps_if (pt_cmpR op_lt (pv 1) (pe_callB call_len (by rfl) G.len PySem.boot_len (pa_cons (pv 0) pa_nil)) (nomark _))
      (pss_one (ps_ret (pe_ix Own.ix_lt (pv 0) (pv 1) (fun _ _ => rfl))))
      pss_nil)
      (pss_one (ps_ret pe_int))), ?_⟩
    refine ⟨_, rfl, _, rfl, _, _, rfl, .inl ⟨_, hS, rfl⟩, _, _, rfl, rfl, _, rfl, ?_⟩
    refine ite2 (fun h => ?_) (fun h => ?_)
    · have h' : k < ((ns.map V.int).length : Int) := of_decide_eq_true h
      rw [List.length_map] at h'
      have hn : k.toNat < ns.length := by omega
      refine ⟨_, rfl, _, rfl, .inl ⟨_, _, _, .int (ns.getD k.toNat 0), rfl, rfl, hS, atI_pos hk ?_, q⟩⟩
      rw [List.getElem?_map, List.getD_eq_getElem?_getD, List.getElem?_eq_getElem hn]
      rfl
    · have h' : ¬ k < ((ns.map V.int).length : Int) := fun z => h (decide_eq_true z)
      rw [List.length_map] at h'
      have e : ns.getD k.toNat 0 = 0 := by
        rw [List.getD_eq_getElem?_getD, List.getElem?_eq_none_iff.mpr (by omega)]
        rfl
      rw [e] at q
      exact q
end
end T


namespace T
open PySem PySem.Spec PyProof.Rows L2 Own M
section
variable {P : Program} {w : World} {K : PySem.W.Frag} {mg : Str → Option Value} {base : Heap}
theorem ok_law_whole (G : Glob K mg) (D : Def K mg "_law_whole" s_law_whole ["_law_found"])
    : Callee P w K mg base CX0 1 "_law_whole" ["_law_found"] (sp_law_whole K) := by
  refine D.ok (k := 0) sc_law_whole (fun vs H Q E h => ?_) (fun f cdv A outer s H vs Q E hr h => ?_)
  · obtain ⟨i, rfl, q⟩ := h
    rfl
  · obtain ⟨i, rfl, q⟩ := h
    refine ⟨_, (pss_one (ps_ret (pe_and (pe_callB Own.call_isi (by rfl) G.isinstance boot_isinstance (pa_cons (pv 0) (pa_cons (pe_bltn (v := .ty "int") rfl G.int boot_int rfl) pa_nil))) (pe_one (pe_not (pe_callB Own.call_isi (by rfl) G.isinstance boot_isinstance (pa_cons (pv 0) (pa_cons (pe_bltn (v := .ty "bool") rfl G.bool boot_bool rfl) pa_nil)))))))), ?_⟩
    refine ⟨_, rfl, _, _, _, _, rfl, .int _, kit_same _ _, _, rfl, iteT ?_⟩
    exact ⟨_, rfl, _, _, _, _, rfl, .int _, kit_int_bool _, _, rfl, q⟩
end
end T


namespace T
open PySem PySem.Spec PyProof.Rows L2 Own M
section
variable {P : Program} {w : World} {K : PySem.W.Frag} {mg : Str → Option Value} {base : Heap}
theorem ok_law_mix (G : Glob K mg) (D : Def K mg "_law_mix" s_law_mix ["_law_cell", "_law_place"])
    : Callee P w K mg base CX0 1 "_law_mix" ["_law_cell", "_law_place"] (sp_law_mix K) := by
  refine D.ok (k := 0) sc_law_mix (fun vs H Q E h => ?_) (fun f cdv A outer s H vs Q E hr h => ?_)
  · obtain ⟨c, p, rfl, q⟩ := h
    rfl
  · obtain ⟨c, p, rfl, q⟩ := h
    refine ⟨_, (pss_cons (ps_set (i := 2) sc_law_mix.nd rfl (by first | exact Or.inl rfl | exact Or.inr rfl) (pe_op op_mod (pe_op op_mul (pe_op op_add (pe_op op_add (pe_op op_mod (pv 0) pe_int) (pe_op op_mul pe_int (pv 1))) pe_int) pe_int) pe_int))
      (pss_one (ps_ret (pe_op op_mod (pe_op op_mul (pe_op op_add (pe_op op_add (pv 2) (pe_op op_mul pe_int (pv 1))) pe_int) pe_int) pe_int)))), ?_⟩
    refine ⟨_, rfl, _, _, rfl, rfl, (by show (0 : Int) < 2147483647; decide), _, rfl, _, _, rfl, rfl, .inl ⟨by decide, by decide⟩, _, _, rfl, rfl, _, _, rfl, rfl, _, _, rfl, rfl, .inr ⟨by decide, by decide⟩, _, _, rfl, rfl, (by show (0 : Int) < 2147483647; decide), ?_⟩
    refine ⟨_, rfl, _, rfl, _, _, rfl, rfl, .inl ⟨by decide, by decide⟩, _, _, rfl, rfl, _, _, rfl, rfl, _, _, rfl, rfl, .inr ⟨by decide, by decide⟩, _, _, rfl, rfl, (by show (0 : Int) < 2147483647; decide), ?_⟩
    exact q
end
end T


namespace T
open PySem PySem.Spec PyProof.Rows L2 Own M
section
variable {P : Program} {w : World} {K : PySem.W.Frag} {mg : Str → Option Value} {base : Heap}
theorem ok_law_menu (G : Glob K mg) (D : Def K mg "_law_menu" s_law_menu ["_law_cell"])
    : Callee P w K mg base CX0 1 "_law_menu" ["_law_cell"] (sp_law_menu K) := by
  refine D.ok (k := 0) sc_law_menu (fun vs H Q E h => ?_) (fun f cdv A outer s H vs Q E hr h => ?_)
  · obtain ⟨c, rfl, q⟩ := h
    rfl
  · obtain ⟨c, rfl, q⟩ := h
    refine ⟨_, (pss_cons (ps_set (i := 1) sc_law_menu.nd rfl (by first | exact Or.inl rfl | exact Or.inr rfl) (pe_ix Own.ix_lt (pe_lst (pa_cons pe_int (pa_cons pe_int (pa_cons pe_int (pa_cons pe_int (pa_cons pe_int pa_nil)))))) (pe_op op_mod (pe_op op_fdiv (pv 0) pe_int) pe_int) (fun _ _ => rfl)))
      (pss_cons (ps_set (i := 2) sc_law_menu.nd rfl (by first | exact Or.inl rfl | exact Or.inr rfl) (pe_ix Own.ix_lt (pe_lst (pa_cons pe_int (pa_cons pe_int (pa_cons pe_int (pa_cons pe_int (pa_cons pe_int pa_nil)))))) (pe_op op_mod (pe_op op_fdiv (pv 0) pe_int) pe_int) (fun _ _ => rfl)))
      (pss_one (ps_ret (pe_lst (pa_cons (pe_op op_add pe_int (pe_op op_mod (pv 0) pe_int)) (pa_cons (pe_ix Own.ix_lt (pe_lst (pa_cons pe_int (pa_cons pe_int (pa_cons pe_int (pa_cons pe_int pa_nil))))) (pe_op op_mod (pe_op op_fdiv (pv 0) pe_int) pe_int) (fun _ _ => rfl)) (pa_cons (pe_op op_mod (pe_op op_fdiv (pv 0) pe_int) pe_int) (pa_cons (pv 1) (pa_cons (pv 2) pa_nil)))))))))), ?_⟩
    have h1 : 0 ≤ c / 10 % 4 ∧ c / 10 % 4 < 4 := by omega
    have h2 : 0 ≤ c / 400 % 5 ∧ c / 400 % 5 < 5 := by omega
    refine ⟨by decide, fun l1 n1 => ⟨_, rfl, _, _, rfl, rfl, ⟨by decide, by decide⟩, _, _, rfl, rfl, (by show (0 : Int) < 5; decide), .inl ⟨_, _, _, _, rfl, rfl, SqL.of upd_same, getD_of (xs := [1000, 3, 1, 2, 3]) h2.1 h2.2, ?_⟩⟩⟩
    refine ⟨by decide, fun l2 n2 => ⟨_, rfl, _, _, rfl, rfl, ⟨by decide, by decide⟩, _, _, rfl, rfl, (by show (0 : Int) < 5; decide), .inl ⟨_, _, _, _, rfl, rfl, SqL.of upd_same, getD_of (xs := [1, 1, 1, 1, 998]) h2.1 h2.2, ?_⟩⟩⟩
    refine ⟨_, rfl, _, _, rfl, rfl, (by show (0 : Int) < 10; decide), _, _, rfl, rfl, by decide, fun l3 n3 => ⟨_, rfl, _, _, rfl, rfl, ⟨by decide, by decide⟩, _, _, rfl, rfl, (by show (0 : Int) < 4; decide), .inl ⟨_, _, _, _, rfl, rfl, SqL.of upd_same, getD_of (xs := [1, 3, 7, 9]) h1.1 h1.2, ?_⟩⟩⟩
    refine ⟨_, rfl, _, _, rfl, rfl, ⟨by decide, by decide⟩, _, _, rfl, rfl, (by show (0 : Int) < 10; decide), _, rfl, _, rfl, (by show 5 ≤ sizeLine; decide), fun l4 n4 => ?_⟩
    have S1 : Same H (upd H l1 (.lst ([1000, 3, 1, 2, 3].map V.int))) := same_upd n1
    have S2 := Own.Same.new (o := .lst ([1, 1, 1, 1, 998].map V.int)) S1 n2
    have S3 := Own.Same.new (o := .lst ([1, 3, 7, 9].map V.int)) S2 n3
    have S4 := Own.Same.new (o := .lst ((menuM c).map V.int)) S3 n4
    exact q l4 _ (S3.free n4) S4 upd_same (menu_ok c)
end
end T


namespace T
open PySem PySem.Spec PyProof.Rows L2 Own M
section
variable {P : Program} {w : World} {K : PySem.W.Frag} {mg : Str → Option Value} {base : Heap}
theorem ok_law_holder (G : Glob K mg) (D : Def K mg "_law_holder" s_law_holder ["_law_menu_here", "_law_k"])
    : Callee P w K mg base CX0 1 "_law_holder" ["_law_menu_here", "_law_k"] (sp_law_holder K) := by
  refine D.ok (k := 0) sc_law_holder (fun vs H Q E h => ?_) (fun f cdv A outer s H vs Q E hr h => ?_)
  · obtain ⟨l, m, k, rfl, hS, hM, q⟩ := h
    rfl
  · obtain ⟨l, m, k, rfl, hS, hM, q⟩ := h
    refine ⟨_, (pss_one (ps_ret (pe_op op_add pe_int (pe_op op_mod (pe_op op_add (pe_op op_mul (pv 1) (pe_ix Own.ix_lt (pv 0) pe_int (fun _ _ => rfl))) (pe_ix Own.ix_lt (pv 0) pe_int (fun _ _ => rfl))) pe_int)))), ?_⟩
    obtain ⟨a, b, c, d, e, rfl, ha, hb, hc, hd, he⟩ := hM
    refine ⟨_, rfl, _, rfl, .inl ⟨_, _, _, _, rfl, rfl, hS, rfl, ?_⟩⟩
    refine ⟨_, _, rfl, rfl, .inr ⟨by omega, by omega⟩, _, rfl, .inl ⟨_, _, _, _, rfl, rfl, hS, rfl, ?_⟩⟩
    exact ⟨_, _, rfl, rfl, _, _, rfl, rfl, (by show (0 : Int) < 10; decide), _, _, rfl, rfl, q⟩
end
end T


namespace T
open PySem PySem.Spec PyProof.Rows L2 Own M Pu
section
variable {P : Program} {w : World} {K : PySem.W.Frag} {mg : Str → Option Value} {base : Heap}
theorem ok_law_laid (G : Glob K mg) (DD : Def K mg "_law_laid" s_law_laid ["_law_strips_here", "_law_places_here"])
    : Callee P w K mg base CX0 1 "_law_laid" ["_law_strips_here", "_law_places_here"] (Pu.spOf mg pc_law_laid K) := by
  refine DD.ok (k := 0) sc_law_laid (fun vs H Q E h => spOf_len h (fun ds R X h => ?_)) (fun f cdv A outer s H vs Q E hr h => ?_)
  · obtain ⟨ps, pl, rfl, hF, hz, hpl, hR⟩ := h
    rfl
  · refine ⟨_, (pss_cons (ps_set (i := 2) sc_law_laid.nd rfl (by first | exact Or.inl rfl | exact Or.inr rfl) (pe_callTy (Own.call_listR rfl) (by rfl) G.list boot_list (pa_cons (pe_callTy Own.call_range2 (by rfl) G.range boot_range (pa_cons pe_int (pa_cons (pe_op op_add (pe_callB (Own.call_lenK (K := K)) (by rfl) G.len PySem.boot_len (pa_cons (pv 0) pa_nil)) pe_int) pa_nil))) pa_nil)))
      (pss_cons (ps_set (i := 3) sc_law_laid.nd rfl (by first | exact Or.inl rfl | exact Or.inr rfl) pe_int)
      (pss_cons (ps_for PassesOwn.never rfl (Pu.pi_listK (K := K) (pv 1)) (pg_name (i := 4) sc_law_laid.nd rfl (by first | exact Or.inl rfl | exact Or.inr rfl))
      (pss_cons (ps_if (PW.pt (pw_or (pt_cmpR op_lt (pv 4) pe_int (nomark _)) (pw_or1 (pt_cmpR op_ge (pv 4) (pe_callB (Own.call_lenK (K := K)) (by rfl) G.len PySem.boot_len (pa_cons (pv 0) pa_nil)) (nomark _)))))
      (pss_one (ps_ret (pe_lst pa_nil)))
      pss_nil)
      (pss_cons (ps_set (i := 5) sc_law_laid.nd rfl (by first | exact Or.inl rfl | exact Or.inr rfl) (pe_ix (Own.ix_ltK (K := K)) (pv 2) (pe_op op_sub (pv 4) pe_int) (fun _ _ => rfl)))
      (pss_cons (ps_set (i := 6) sc_law_laid.nd rfl (by first | exact Or.inl rfl | exact Or.inr rfl) (pe_ix (Own.ix_ltK (K := K)) (pv 2) (pv 4) (fun _ _ => rfl)))
      (pss_cons (ps_set (i := 3) sc_law_laid.nd rfl (by first | exact Or.inl rfl | exact Or.inr rfl) (pe_op op_add (pv 3) (pe_op op_mul (pe_ix (Own.ix_ltK (K := K)) (pe_ix (Own.ix_ltK (K := K)) (pv 0) (pe_op op_sub (pv 5) pe_int) (fun _ _ => rfl)) pe_int (fun _ _ => rfl)) (pe_ix (Own.ix_ltK (K := K)) (pe_ix (Own.ix_ltK (K := K)) (pv 0) (pe_op op_sub (pv 6) pe_int) (fun _ _ => rfl)) pe_int (fun _ _ => rfl)))))
      (pss_cons (ps_asg (pv 6) (pg_sub (pv 2) (pe_op op_sub (pv 4) pe_int) set_list))
      (pss_one (ps_asg (pv 5) (pg_sub (pv 2) (pv 4) set_list)))))))))
      (pss_one (ps_ret (pe_lst (pa_cons (pv 2) (pa_cons (pv 3) pa_nil)))))))), Pu.fn_use (n := 2) h
      (ss_seq (ss_asg (se_run2 (sa_cons se_int (sa_cons (se_add (se_len (sa_cons (se_var 0) sa_nil)) se_int) sa_nil))) (sg_name 2))
        (ss_seq (ss_asg se_int (sg_name 3))
        (ss_seq (ss_frz 1 (ss_for [4, 5, 6] (si_list (se_var 1)) (sg_name 4)
        (ss_seq (ss_if (st_or (st_test (se_lt (se_var 4) se_int)) (st_test (se_ge (se_var 4) (se_len (sa_cons (se_var 0) sa_nil))))) (ss_ret (se_lst sa_nil)) ss_next)
        (ss_seq (ss_asg (se_ix (se_var 2) (se_sub (se_var 4) se_int)) (sg_name 5))
        (ss_seq (ss_asg (se_ix (se_var 2) (se_var 4)) (sg_name 6))
        (ss_seq (ss_asg (se_add (se_var 3) (se_mul (se_ix (se_ix (se_var 0) (se_sub (se_var 5) se_int)) se_int) (se_ix (se_ix (se_var 0) (se_sub (se_var 6) se_int)) se_int))) (sg_name 3))
        (ss_seq (ss_setI 2 (se_sub (se_var 4) se_int) (se_var 6))
        (ss_setI 2 (se_var 4) (se_var 5)))))))))
        (ss_frz 3 (ss_frz 2 (ss_ret (se_lst (sa_cons (se_var 2) (sa_cons (se_var 3) sa_nil))))))))) (by decide) (fun ds R X h => ?_)⟩
    obtain ⟨ps, pl, rfl, hF, hz, hpl, hR⟩ := h
    refine ⟨rfl, ?_⟩
    have hlm : (ps.map prD).length = ps.length := List.length_map ..
    refine ⟨⟨by decide, by decide, by omega, by omega⟩, by omega, ?_⟩
    have e0 : ((((ps.map prD).length : Nat) : Int) + 1 - 1).toNat = ps.length := by rw [hlm]; omega
    refine ⟨rfl, for_of (xs := pl) (emb := D.int) (fun i γ' => ∃ st : List Int × Int, γ' = [some (.bor (.lst (ps.map prD))), some (.bor (.lst (pl.map D.int))), some (.own (st.1.map D.int)), some (.sh (.int st.2)), none, none, none] ∧ st.1.Perm (runI 1 ps.length) ∧ walkM ps pl (runI 1 ps.length, 0) = walkM ps (pl.drop i) st) ⟨(runI 1 ps.length, 0), ?_, List.Perm.refl _, by rw [List.drop_zero]⟩ ?_ ?_⟩
    · show _ = ([some (.bor (.lst (ps.map prD))), some (.bor (.lst (pl.map D.int))), some (.own ((runI 1 ps.length).map D.int)), some (.sh (.int 0)), none, none, none] : List (Option S))
      rw [← e0]
      rfl
    · rintro i hi γ' ⟨st, rfl, hp, hw⟩
      have ed : pl.drop i = pl[i] :: pl.drop (i + 1) := List.drop_eq_getElem_cons hi
      rw [ed, walkM_cons] at hw
      generalize pl[i] = p at hw ⊢
      have hl : st.1.length = ps.length := by rw [hp.length_eq, runI_len]
      refine ite2 (fun g => iteT ?_) (fun g => ?_)
      · rw [if_pos (.inl (of_decide_eq_true g))] at hw
        rw [hw] at hR
        exact ⟨by simp, hR⟩
      have g' : ¬ p < 1 := fun z => g (decide_eq_true z)
      refine ite2 (fun g2 => ?_) (fun g2 => ?_)
      · have g2' : ((ps.map prD).length : Int) ≤ p := of_decide_eq_true g2
        rw [if_pos (.inr (by omega))] at hw
        rw [hw] at hR
        exact ⟨by simp, hR⟩
      have g2' : ¬ ((ps.map prD).length : Int) ≤ p := fun z => g2 (decide_eq_true z)
      rw [if_neg (by omega)] at hw
      have b1 : (p - 1).toNat < st.1.length := by omega
      have b2 : p.toNat < st.1.length := by omega
      have i1 := runI_mem.mp (hp.mem_iff.mp (List.getElem_mem b1))
      have i2 := runI_mem.mp (hp.mem_iff.mp (List.getElem_mem b2))
      have c1 : (st.1[(p - 1).toNat] - 1).toNat < ps.length := by omega
      have c2 : (st.1[p.toNat] - 1).toNat < ps.length := by omega
      have f1 := hF _ (List.getElem_mem c1)
      refine ⟨_, at_map (by omega) (by omega), _, at_map (by omega) (by omega), _, at_map (by omega) (by omega), _, rfl, _, at_map (by omega) (by omega), _, rfl, ?_⟩
      refine ⟨.inl ⟨by show -(2 ^ 64) < (ps[(st.1[(p - 1).toNat] - 1).toNat]).2; omega, by show (ps[(st.1[(p - 1).toNat] - 1).toNat]).2 < 2 ^ 64; omega⟩, ?_⟩
      have x1 : ixN (st.1.map D.int).length (p - 1) = some (p.toNat - 1) := by
        unfold ixN
        rw [List.length_map, if_pos (by omega), if_pos (by omega)]
        congr 1
        omega
      refine ⟨p.toNat - 1, _, x1, rfl, p.toNat, _, ?_, rfl, (swapM st.1 p.toNat, st.2 + exM ps st.1 p.toNat), ?_, (swap_perm (by omega) (by omega)).trans hp, hw⟩
      · unfold ixN
        rw [List.length_set, List.length_map, if_pos (by omega), if_pos (by omega)]
      · have e1 : (((st.1.map D.int).set (p.toNat - 1) (.int st.1[p.toNat])).set p.toNat (.int st.1[(p - 1).toNat])) = (swapM st.1 p.toNat).map D.int := by
          rw [← set_swapM (by omega) b2, List.map_set, List.map_set]
          congr 2
          congr 1
          omega
        have e2 : exM ps st.1 p.toNat = (ps[(st.1[(p - 1).toNat] - 1).toNat]).2 * (ps[(st.1[p.toNat] - 1).toNat]).2 := by
          unfold exM
          have k1 : st.1.getD (p.toNat - 1) 0 = st.1[(p - 1).toNat] := by
            rw [show p.toNat - 1 = (p - 1).toNat by omega, List.getD_eq_getElem?_getD, List.getElem?_eq_getElem b1]
            rfl
          have k2 : st.1.getD p.toNat 0 = st.1[p.toNat] := by rw [List.getD_eq_getElem?_getD, List.getElem?_eq_getElem b2]; rfl
          rw [k1, k2, List.getD_eq_getElem?_getD, List.getElem?_eq_getElem c1, List.getD_eq_getElem?_getD, List.getElem?_eq_getElem c2]
          rfl
        show _ = ([some (.bor (.lst (ps.map prD))), some (.bor (.lst (pl.map D.int))), some (.own ((swapM st.1 p.toNat).map D.int)), some (.sh (.int (st.2 + exM ps st.1 p.toNat))), none, none, none] : List (Option S))
        rw [← e1, e2]
        rfl
    · rintro γ' ⟨st, rfl, hp, hw⟩
      rw [List.drop_length, walkM_nil] at hw
      rw [hw] at hR
      exact ⟨by simp, hR⟩
end
end T


namespace T
open PySem PySem.Spec PyProof.Rows L2 Own M Pu
section
variable {P : Program} {w : World} {K : PySem.W.Frag} {mg : Str → Option Value} {base : Heap}
theorem ok_walk_places (G : Glob K mg) (DD : Def K mg "walk_places" s_walk_places ["strips", "places"])
    (c_own_numbers : Callee P w K mg base CX0 1 "own_numbers" ["strips"] (Pu.spOf mg pc_own_numbers K))
    (c_check_neighbours : Callee P w K mg base (ExcR.CXe P w) 1 "check_neighbours" ["strips", "place"] (Pu.spOf mg pc_check_neighbours K))
    (c_exchange_cost : Callee P w K mg base CX0 1 "exchange_cost" ["strips", "numbers", "place"] (Pu.spOf mg pc_exchange_cost K))
    (c_exchanged : Callee P w K mg base CX0 1 "exchanged" ["numbers", "place"] (Pu.spOf mg pc_exchanged K))
    : Callee P w K mg base (ExcR.CXe P w) 2 "walk_places" ["strips", "places"] (Pu.spOf mg pc_walk_places K) := by
  refine ExcR.Def.okX DD (k := 1) sc_walk_places (fun vs H Q E h => spOf_len h (fun ds R X h => ?_)) (fun f cdv A outer s H vs Q E hr h => ?_)
  · obtain ⟨ps, pl, rfl, hF, hz, hpl, hR⟩ := h
    rfl
  · refine ⟨_, (pss_cons (ps_set (i := 2) sc_walk_places.nd rfl (by first | exact Or.inl rfl | exact Or.inr rfl) (Own.pe_fn c_own_numbers (hr.mono (by decide)) pass0 (pa_cons (pv 0) pa_nil)))
      (pss_cons (ps_set (i := 3) sc_walk_places.nd rfl (by first | exact Or.inl rfl | exact Or.inr rfl) pe_int)
      (pss_cons (ps_for ExcR.loops_e rfl (Pu.pi_listK (K := K) (pv 1)) (pg_name (i := 4) sc_walk_places.nd rfl (by first | exact Or.inl rfl | exact Or.inr rfl))
      (pss_cons (ps_expr (Own.pe_fn c_check_neighbours (hr.mono (by decide)) ExcR.passes_e (pa_cons (pv 0) (pa_cons (pv 4) pa_nil))))
      (pss_cons (ps_aug (i := 3) sc_walk_places.nd rfl (by first | exact Or.inl rfl | exact Or.inr rfl) (Own.pe_fn c_exchange_cost (hr.mono (by decide)) pass0 (pa_cons (pv 0) (pa_cons (pv 2) (pa_cons (pv 4) pa_nil)))) ip_add)
      (pss_one (ps_set (i := 2) sc_walk_places.nd rfl (by first | exact Or.inl rfl | exact Or.inr rfl) (Own.pe_fn c_exchanged (hr.mono (by decide)) pass0 (pa_cons (pv 2) (pa_cons (pv 4) pa_nil))))))))
      (pss_one (ps_ret (pe_tup (pa_cons (pv 2) (pa_cons (pv 3) pa_nil)))))))), Pu.fn_use (n := 2) h
      (ss_seq (ss_asg (se_call (sa_cons (se_var 0) sa_nil)) (sg_name 2))
        (ss_seq (ss_asg se_int (sg_name 3))
        (ss_seq (ss_frz 1 (ss_for [4] (si_list (se_var 1)) (sg_name 4)
        (ss_seq (ss_drop (se_callX (sa_cons (se_var 0) (sa_cons (se_var 4) sa_nil))))
        (ss_seq (ss_aug (se_call (sa_cons (se_var 0) (sa_cons (se_var 2) (sa_cons (se_var 4) sa_nil)))))
        (ss_asg (se_call (sa_cons (se_var 2) (sa_cons (se_var 4) sa_nil))) (sg_name 2))))))
        (ss_frz 3 (ss_frz 2 (ss_ret (se_tup (sa_cons (se_var 2) (sa_cons (se_var 3) sa_nil))))))))) (by decide) (fun ds R X h => ?_)⟩
    obtain ⟨ps, pl, rfl, hF, hz, hpl, hR⟩ := h
    refine ⟨rfl, ?_⟩
    refine ⟨ps, rfl, by omega, ?_⟩
    refine ⟨rfl, for_of (xs := pl) (emb := D.int) (fun i γ' => ∃ st : List Int × Int, γ' = [some (.bor (.lst (ps.map prD))), some (.bor (.lst (pl.map D.int))), some (.own (st.1.map D.int)), some (.sh (.int st.2)), none] ∧ st.1.Perm (runI 1 ps.length) ∧ walkM ps pl (runI 1 ps.length, 0) = walkM ps (pl.drop i) st) ⟨(runI 1 ps.length, 0), rfl, List.Perm.refl _, by rw [List.drop_zero]⟩ ?_ ?_⟩
    · rintro i hi γ' ⟨st, rfl, hp, hw⟩
      have ed : pl.drop i = pl[i] :: pl.drop (i + 1) := List.drop_eq_getElem_cons hi
      rw [ed] at hw
      generalize pl[i] = p at hw ⊢
      refine ⟨ps, p, rfl, ?_⟩
      by_cases c : p < 1 ∨ (ps.length : Int) ≤ p
      · rw [if_pos c]
        rw [walkM_cons, if_pos c] at hw
        rw [hw] at hR
        exact hR
      · rw [if_neg c]
        rw [walkM_cons, if_neg c] at hw
        have hl : st.1.length = ps.length := by rw [hp.length_eq, runI_len]
        refine ⟨ps, st.1, p, rfl, hF, fun n hn => runI_mem.mp (hp.mem_iff.mp hn), by omega, by omega, st.1, p, rfl, by omega, by omega, by omega, (swapM st.1 p.toNat, st.2 + exM ps st.1 p.toNat), rfl, (swap_perm (by omega) (by omega)).trans hp, hw⟩
    · rintro γ' ⟨st, rfl, hp, hw⟩
      rw [List.drop_length] at hw
      rw [walkM_nil] at hw
      rw [hw] at hR
      exact ⟨by simp, hR⟩
end
end T


namespace T
open PySem PySem.Spec PyProof.Rows L2 Own M
section
variable {P : Program} {w : World} {K : PySem.W.Frag} {mg : Str → Option Value} {base : Heap}
theorem ok_law_draw (G : Glob K mg) (D : Def K mg "_law_draw" s_law_draw ["_law_script", "_law_k"])
    (c_law_mix : Callee P w K mg base CX0 1 "_law_mix" ["_law_cell", "_law_place"] (sp_law_mix K))
    (c_law_at : Callee P w K mg base CX0 1 "_law_at" ["_law_script", "_law_k"] (sp_law_at K))
    : Callee P w K mg base CX0 2 "_law_draw" ["_law_script", "_law_k"] (sp_law_draw K) := by
  refine D.ok (k := 1) sc_law_draw (fun vs H Q E h => ?_) (fun f cdv A outer s H vs Q E hr h => ?_)
  · obtain ⟨a, ns, k, rfl, hS, hk, q⟩ := h
    rfl
  · obtain ⟨a, ns, k, rfl, hS, hk, q⟩ := h
    refine ⟨_, (pss_cons (ps_if (pt_cmpR op_eq (pe_op op_mod (Own.pe_fn c_law_at (hr.mono (by decide)) pass0 (pa_cons (pv 0) (pa_cons pe_int pa_nil))) pe_int) pe_int (nomark _))
      (pss_one (ps_ret (Own.pe_fn c_law_at (hr.mono (by decide)) pass0 (pa_cons (pv 0) (pa_cons (pe_op op_add pe_int (pv 1)) pa_nil)))))
      pss_nil)
      (pss_one (ps_ret (Own.pe_fn c_law_mix (hr.mono (by decide)) pass0 (pa_cons (Own.pe_fn c_law_at (hr.mono (by decide)) pass0 (pa_cons (pv 0) (pa_cons pe_int pa_nil))) (pa_cons (pv 1) pa_nil)))))), ?_⟩
    refine ⟨_, rfl, a, ns, 0, rfl, hS, by decide, _, _, rfl, rfl, (by show (0 : Int) < 2; decide), rfl, _, rfl, ?_⟩
    refine ite2 (fun h => ?_) (fun h => ?_)
    · have e : ns.getD 0 0 % 2 = 0 := V.int.inj (of_decide_eq_true h)
      unfold drawM at q
      rw [if_pos e] at q
      exact ⟨_, rfl, _, rfl, _, _, rfl, rfl, a, ns, _, rfl, hS, by omega, q⟩
    · have e : ¬ ns.getD 0 0 % 2 = 0 := fun z => h (decide_eq_true (congrArg V.int z))
      unfold drawM at q
      rw [if_neg e] at q
      exact ⟨_, rfl, a, ns, 1, rfl, hS, by decide, _, rfl, _, _, rfl, q⟩
end
end T


namespace T
open PySem PySem.Spec PyProof.Rows L2 Own M
section
variable {P : Program} {w : World} {K : PySem.W.Frag} {mg : Str → Option Value} {base : Heap}
theorem ok_law_row (G : Glob K mg) (D : Def K mg "_law_row" s_law_row ["_law_found", "_law_due"])
    (c_law_whole : Callee P w K mg base CX0 1 "_law_whole" ["_law_found"] (sp_law_whole K))
    : Callee P w K mg base CX0 2 "_law_row" ["_law_found", "_law_due"] (sp_law_row K) := by
  refine D.ok (k := 1) sc_law_row (fun vs H Q E h => ?_) (fun f cdv A outer s H vs Q E hr h => ?_)
  · obtain ⟨l, l', xs, rfl, hl, hl', hz, q⟩ := h
    rfl
  · obtain ⟨l, l', xs, rfl, hl, hl', hz, q⟩ := h
    refine ⟨_, (pss_cons (ps_if (PW.pt (pw_or (pt_not (pt_val (pe_callB Own.call_isi (by rfl) G.isinstance boot_isinstance (pa_cons (pv 0) (pa_cons (pe_bltn (v := .ty "list") rfl G.list boot_list rfl) pa_nil))))) (pw_or1 (pt_cmpR op_ne (pe_callB call_len (by rfl) G.len PySem.boot_len (pa_cons (pv 0) pa_nil)) (pe_callB call_len (by rfl) G.len PySem.boot_len (pa_cons (pv 1) pa_nil)) (nomark _)))))
      (pss_one (ps_ret pe_bl))
      pss_nil)
      (pss_cons (ps_for PassesOwn.never rfl (pi_range1 rfl G.range (pa_cons (pe_callB call_len (by rfl) G.len PySem.boot_len (pa_cons (pv 1) pa_nil)) pa_nil)) (pg_name (i := 2) sc_law_row.nd rfl (by first | exact Or.inl rfl | exact Or.inr rfl))
      (pss_one (ps_if (PW.pt (pw_or (pt_not (pt_val (Own.pe_fn c_law_whole (hr.mono (by decide)) pass0 (pa_cons (pe_ix Own.ix_lt (pv 0) (pv 2) (fun _ _ => rfl)) pa_nil)))) (pw_or1 (pt_cmpR op_ne (pe_ix Own.ix_lt (pv 0) (pv 2) (fun _ _ => rfl)) (pe_ix Own.ix_lt (pv 1) (pv 2) (fun _ _ => rfl)) (nomark _)))))
      (pss_one (ps_ret pe_bl))
      pss_nil)))
      (pss_one (ps_ret pe_bl)))), ?_⟩
    refine ⟨_, rfl, _, _, _, _, rfl, .lst hl, kit_same _ _, _, rfl, iteF ⟨_, rfl, _, _, rfl, .inl ⟨_, SqL.of hl, rfl⟩, _, rfl, _, _, rfl, .inl ⟨_, hl', rfl⟩, rfl, _, rfl, iteNS rfl ?_⟩⟩
    refine ⟨_, rfl, _, _, rfl, .inl ⟨_, hl', rfl⟩, _, rfl, by rw [List.length_map]; omega, by rw [List.length_map]; omega, for_range (fun i σ H2 => H = H2 ∧ ∃ (x : Option V), σ = [some (.ref l), some (.ref l'), x]) ⟨rfl, none, rfl⟩ ?_ ?_⟩
    · rintro i σ H2 hi ⟨rfl, x, rfl⟩
      rw [List.length_map, Int.toNat_natCast] at hi
      have ez : (0 : Int) + (i : Int) = (i : Int) := by omega
      have av : atI (xs.map V.int) (0 + (i : Int)) = some (.int xs[i]) := by rw [ez]; exact atI_map (atI_nat (by simp [hi]))
      refine ⟨_, rfl, _, rfl, .inl ⟨_, _, _, _, rfl, rfl, SqL.of hl, av, _, rfl, _, rfl, iteF ⟨_, rfl, _, rfl, .inl ⟨_, _, _, _, rfl, rfl, SqL.of hl, av, _, rfl, _, rfl, .inl ⟨_, _, _, _, rfl, rfl, hl', av, rfl, _, rfl, iteNS rfl ?_⟩⟩⟩⟩⟩
      exact ⟨rfl, _, rfl⟩
    · rintro σ H2 ⟨rfl, x, rfl⟩
      exact q
end
end T


namespace T
open PySem PySem.Spec PyProof.Rows L2 Own M
section
variable {P : Program} {w : World} {K : PySem.W.Frag} {mg : Str → Option Value} {base : Heap}
theorem ok_law_tuples (G : Glob K mg) (D : Def K mg "_law_tuples" s_law_tuples ["_law_found", "_law_due"])
    (c_law_whole : Callee P w K mg base CX0 1 "_law_whole" ["_law_found"] (sp_law_whole K))
    : Callee P w K mg base CX0 2 "_law_tuples" ["_law_found", "_law_due"] (sp_law_tuples K) := by
  refine D.ok (k := 1) sc_law_tuples (fun vs H Q E h => ?_) (fun f cdv A outer s H vs Q E hr h => ?_)
  · obtain ⟨l, l', ps, rfl, ⟨vs, hl, hv⟩, ⟨us, hl', hu⟩, hz, q⟩ := h
    rfl
  · obtain ⟨l, l', ps, rfl, ⟨vs, hl, hv⟩, ⟨us, hl', hu⟩, hz, q⟩ := h
    refine ⟨_, (pss_cons (ps_if (PW.pt (pw_or (pt_not (pt_val (pe_callB Own.call_isi (by rfl) G.isinstance boot_isinstance (pa_cons (pv 0) (pa_cons (pe_bltn (v := .ty "list") rfl G.list boot_list rfl) pa_nil))))) (pw_or1 (pt_cmpR op_ne (pe_callB call_len (by rfl) G.len PySem.boot_len (pa_cons (pv 0) pa_nil)) (pe_callB call_len (by rfl) G.len PySem.boot_len (pa_cons (pv 1) pa_nil)) (nomark _)))))
      (pss_one (ps_ret pe_bl))
      pss_nil)
      (pss_cons (ps_for PassesOwn.never rfl (pi_range1 rfl G.range (pa_cons (pe_callB call_len (by rfl) G.len PySem.boot_len (pa_cons (pv 1) pa_nil)) pa_nil)) (pg_name (i := 2) sc_law_tuples.nd rfl (by first | exact Or.inl rfl | exact Or.inr rfl))
      (pss_cons (ps_if (PW.pt (pw_or (pt_not (pt_val (pe_callB Own.call_isi (by rfl) G.isinstance boot_isinstance (pa_cons (pe_ix Own.ix_lt (pv 0) (pv 2) (fun _ _ => rfl)) (pa_cons (pe_bltn (v := .ty "tuple") rfl G.tuple boot_tuple rfl) pa_nil))))) (pw_or1 (pt_cmpR op_ne (pe_callB call_len (by rfl) G.len PySem.boot_len (pa_cons (pe_ix Own.ix_lt (pv 0) (pv 2) (fun _ _ => rfl)) pa_nil)) (pe_callB call_len (by rfl) G.len PySem.boot_len (pa_cons (pe_ix Own.ix_lt (pv 1) (pv 2) (fun _ _ => rfl)) pa_nil)) (nomark _)))))
      (pss_one (ps_ret pe_bl))
      pss_nil)
      (pss_one (ps_for PassesOwn.never rfl (pi_range1 rfl G.range (pa_cons (pe_callB call_len (by rfl) G.len PySem.boot_len (pa_cons (pe_ix Own.ix_lt (pv 1) (pv 2) (fun _ _ => rfl)) pa_nil)) pa_nil)) (pg_name (i := 3) sc_law_tuples.nd rfl (by first | exact Or.inl rfl | exact Or.inr rfl))
      (pss_one (ps_if (PW.pt (pw_or (pt_not (pt_val (Own.pe_fn c_law_whole (hr.mono (by decide)) pass0 (pa_cons (pe_ix Own.ix_lt (pe_ix Own.ix_lt (pv 0) (pv 2) (fun _ _ => rfl)) (pv 3) (fun _ _ => rfl)) pa_nil)))) (pw_or1 (pt_cmpR op_ne (pe_ix Own.ix_lt (pe_ix Own.ix_lt (pv 0) (pv 2) (fun _ _ => rfl)) (pv 3) (fun _ _ => rfl)) (pe_ix Own.ix_lt (pe_ix Own.ix_lt (pv 1) (pv 2) (fun _ _ => rfl)) (pv 3) (fun _ _ => rfl)) (nomark _)))))
      (pss_one (ps_ret pe_bl))
      pss_nil))))))
      (pss_one (ps_ret pe_bl)))), ?_⟩
    have e1 := hv.1
    have e2 := hu.1
    refine ⟨_, rfl, _, _, _, _, rfl, .lst hl, kit_same _ _, _, rfl, iteF ⟨_, rfl, _, _, rfl, .inl ⟨_, SqL.of hl, rfl⟩, _, rfl, _, _, rfl, .inl ⟨_, SqL.of hl', rfl⟩, rfl, _, rfl, iteNS (by rw [e1, e2]) ?_⟩⟩
    refine ⟨_, rfl, _, _, rfl, .inl ⟨_, SqL.of hl', rfl⟩, _, rfl, by omega, by omega, for_range (fun i σ H2 => H = H2 ∧ ∃ (x y : Option V), σ = [some (.ref l), some (.ref l'), x, y]) ⟨rfl, none, none, rfl⟩ ?_ ?_⟩
    · rintro i σ H2 hi ⟨rfl, x, y, rfl⟩
      have hi' : i < ps.length := by omega
      obtain ⟨v, ev, a, rfl, ha⟩ := hv.2 i ps[i] (by simp [hi'])
      obtain ⟨u, eu, b, rfl, hb⟩ := hu.2 i ps[i] (by simp [hi'])
      have ez : (0 : Int) + (i : Int) = (i : Int) := by omega
      have av : atI vs (0 + (i : Int)) = some (.ref a) := by rw [ez]; exact atI_nat ev
      have au : atI us (0 + (i : Int)) = some (.ref b) := by rw [ez]; exact atI_nat eu
      refine ⟨_, rfl, _, rfl, .inl ⟨_, _, _, _, rfl, rfl, SqL.of hl, av, _, _, _, _, rfl, .tup ha, kit_same _ _, _, rfl, iteF ?_⟩⟩
      refine ⟨_, rfl, _, rfl, .inl ⟨_, _, _, _, rfl, rfl, SqL.of hl, av, _, _, rfl, .inr ⟨_, SqT.of ha, rfl⟩, _, rfl, _, rfl, .inl ⟨_, _, _, _, rfl, rfl, SqL.of hl', au, _, _, rfl, .inr ⟨_, SqT.of hb, rfl⟩, rfl, _, rfl, iteNS rfl ?_⟩⟩⟩
      refine ⟨_, rfl, _, rfl, .inl ⟨_, _, _, _, rfl, rfl, SqL.of hl', au, _, _, rfl, .inr ⟨_, SqT.of hb, rfl⟩, _, rfl, (by show -(2 ^ 62) ≤ (2 : Int); decide), (by show (2 : Int) < 2 ^ 62; decide), for_range (fun j σ H2 => H = H2 ∧ ∃ (y : Option V), σ = [some (.ref l), some (.ref l'), some (.int (0 + (i : Int))), y]) ⟨rfl, _, rfl⟩ ?_ ?_⟩⟩
      · rintro j σ H2 hj ⟨rfl, y, rfl⟩
        have hj2 : j < 2 := hj
        obtain ⟨z, ea⟩ : ∃ z : Int, atI [V.int ps[i].1, V.int ps[i].2] (0 + (j : Int)) = some (.int z) := by
          have : j = 0 ∨ j = 1 := by omega
          rcases this with rfl | rfl
          · exact ⟨_, rfl⟩
          · exact ⟨_, rfl⟩
        refine ⟨_, rfl, _, rfl, .inl ⟨_, _, _, _, rfl, rfl, SqL.of hl, av, _, rfl, .inr ⟨_, _, _, _, rfl, rfl, SqT.of ha, ea, z, rfl, _, rfl, iteF ?_⟩⟩⟩
        refine ⟨_, rfl, _, rfl, .inl ⟨_, _, _, _, rfl, rfl, SqL.of hl, av, _, rfl, .inr ⟨_, _, _, _, rfl, rfl, SqT.of ha, ea, _, rfl, _, rfl, .inl ⟨_, _, _, _, rfl, rfl, SqL.of hl', au, _, rfl, .inr ⟨_, _, _, _, rfl, rfl, SqT.of hb, ea, rfl, _, rfl, iteNS rfl ?_⟩⟩⟩⟩⟩
        exact ⟨rfl, _, rfl⟩
      · rintro σ H2 ⟨rfl, y, rfl⟩
        exact ⟨rfl, _, _, rfl⟩
    · rintro σ H2 ⟨rfl, x, y, rfl⟩
      exact q
end
end T


namespace T
open PySem PySem.Spec PyProof.Rows L2 Own M
section
variable {P : Program} {w : World} {K : PySem.W.Frag} {mg : Str → Option Value} {base : Heap}
theorem ok_law_strips (G : Glob K mg) (D : Def K mg "_law_strips" s_law_strips ["_law_script", "_law_menu_here", "_law_many"])
    (c_law_draw : Callee P w K mg base CX0 2 "_law_draw" ["_law_script", "_law_k"] (sp_law_draw K))
    (c_law_holder : Callee P w K mg base CX0 1 "_law_holder" ["_law_menu_here", "_law_k"] (sp_law_holder K))
    : Callee P w K mg base CX0 3 "_law_strips" ["_law_script", "_law_menu_here", "_law_many"] (sp_law_strips K) := by
  refine D.ok (k := 2) sc_law_strips (fun vs H Q E h => ?_) (fun f cdv A outer s H vs Q E hr h => ?_)
  · obtain ⟨a, l, ns, m, n, rfl, hA, hL, hM, h0, h1, q⟩ := h
    rfl
  · obtain ⟨a, l, ns, m, n, rfl, hA, hL, hM, h0, h1, q⟩ := h
    refine ⟨_, (pss_cons (ps_set (i := 3) sc_law_strips.nd rfl (by first | exact Or.inl rfl | exact Or.inr rfl) (pe_lst pa_nil))
      (pss_cons (ps_for PassesOwn.never rfl (pi_range1 rfl G.range (pa_cons (pv 2) pa_nil)) (pg_name (i := 4) sc_law_strips.nd rfl (by first | exact Or.inl rfl | exact Or.inr rfl))
      (pss_cons (ps_set (i := 5) sc_law_strips.nd rfl (by first | exact Or.inl rfl | exact Or.inr rfl) (Own.pe_fn c_law_draw (hr.mono (by decide)) pass0 (pa_cons (pv 0) (pa_cons (pe_op op_add pe_int (pv 4)) pa_nil))))
      (pss_cons (ps_set (i := 6) sc_law_strips.nd rfl (by first | exact Or.inl rfl | exact Or.inr rfl) (pe_op op_add (pe_ix Own.ix_lt (pv 1) pe_int (fun _ _ => rfl)) (pe_op op_mod (pe_op op_fdiv (pv 5) (pe_ix Own.ix_lt (pv 1) pe_int (fun _ _ => rfl))) (pe_ix Own.ix_lt (pv 1) pe_int (fun _ _ => rfl)))))
      (pss_one (ps_expr (pe_bm PySem.F.plainAttrs_list PySem.F.slot_list_append PySem.F.type_list_append mt_append (pv 3) (pa_cons (pe_tup (pa_cons (Own.pe_fn c_law_holder (hr.mono (by decide)) pass0 (pa_cons (pv 1) (pa_cons (pe_op op_mod (pv 5) (pe_ix Own.ix_lt (pv 1) pe_int (fun _ _ => rfl))) pa_nil))) (pa_cons (pv 6) pa_nil))) pa_nil)))))))
      (pss_one (ps_ret (pv 3))))), ?_⟩
    have hMM := hM
    obtain ⟨m0, m1, m2, m3, m4, em, ha, hb, hc, hd, he⟩ := hM
    refine ⟨by decide, fun p np => ?_⟩
    have S0 : Same H (upd H p (.lst [])) := same_upd np
    refine ⟨_, rfl, _, rfl, by omega, by omega, for_range (fun i σ H2 => ∃ (vs : List V) (x y z : Option V), σ = [some (.ref a), some (.ref l), some (.int n), some (.ref p), x, y, z] ∧ Same H H2 ∧ H2 p = some (.lst vs) ∧ LV PairR H2 vs (stripsM ns m i)) ⟨[], none, none, none, rfl, S0, upd_same, LV.nil⟩ ?_ ?_⟩
    · rintro i σ H2 hi ⟨vs, x, y, z, rfl, S, hp, hv⟩
      have hA2 := S.seq hA
      have hL2 := S.seq hL
      refine ⟨_, rfl, _, rfl, _, _, rfl, rfl, a, ns, _, rfl, hA2, by omega, ?_⟩
      rw [em] at hL2
      have ez : (0 : Int) + (i : Int) = (i : Int) := by omega
      refine ⟨_, rfl, .inl ⟨_, _, _, _, rfl, rfl, hL2, rfl, _, rfl, _, rfl, .inl ⟨_, _, _, _, rfl, rfl, hL2, rfl, _, _, rfl, rfl, ⟨by omega, by omega⟩, _, rfl, .inl ⟨_, _, _, _, rfl, rfl, hL2, rfl, _, _, rfl, rfl, (by show 0 < m3; omega), _, _, rfl, rfl, ?_⟩⟩⟩⟩
      refine ⟨_, rfl, .inl ⟨rfl, _, SqL.of hp⟩, _, rfl, _, rfl, _, rfl, .inl ⟨_, _, _, _, rfl, rfl, hL2, rfl, _, _, rfl, rfl, (by show 0 < m0; omega), l, m, _, rfl, (by rw [em]; exact hL2), hMM, _, rfl, (by show 2 ≤ sizeLine; decide), fun t nt => ?_⟩⟩
      have npt : p ≠ t := ne_of_none hp nt
      refine ⟨p, vs, _, rfl, rfl, by rw [upd_ne npt]; exact hp, small1000 (by rw [hv.1, stripsM_len]; omega), ?_⟩
      have nt0 : H t = none := S.free nt
      refine ⟨_, _, _, _, rfl, fun b o e => ?_, upd_same, ?_⟩
      · rw [upd_ne (ne_of_none e np), upd_ne (ne_of_none e nt0)]
        exact S b o e
      · have key : ∀ v q, PairR H2 v q → PairR (upd (upd H2 t (.tup [V.int (holderM m (drawM ns (2 + (0 + (i : Int))) % m0)), V.int (m4 + drawM ns (2 + (0 + (i : Int))) / m0 % m3)])) p (.lst (vs ++ [V.ref t]))) v q := by
          rintro v q ⟨b, eb, hb'⟩
          have hbp : b ≠ p := by
            intro z
            rw [z, hp] at hb'
            cases hb'
          exact ⟨b, eb, by rw [upd_ne hbp, upd_ne (ne_of_none hb' nt)]; exact hb'⟩
        rw [stripsM_succ]
        refine LV.snoc ⟨hv.1, fun j x ex => let ⟨v, e1, e2⟩ := hv.2 j x ex; ⟨v, e1, key _ _ e2⟩⟩ ⟨t, rfl, ?_⟩
        rw [upd_ne npt.symm, upd_same]
        unfold stripM
        rw [em, ez]
        rfl
    · rintro σ H2 ⟨vs, x, y, z, rfl, S, hp, hv⟩
      exact ⟨_, rfl, q p H2 np S ⟨vs, hp, hv⟩⟩
end
end T


namespace T
open PySem PySem.Spec PyProof.Rows L2 Own M Pu
section
variable {P : Program} {w : World} {K : PySem.W.Frag} {mg : Str → Option Value} {base : Heap}
theorem ok_law_places (G : Glob K mg) (DD : Def K mg "_law_places" s_law_places ["_law_script", "_law_strips_here"])
    (c_law_draw : Callee P w K mg base CX0 2 "_law_draw" ["_law_script", "_law_k"] (Pu.spOf mg pc_law_draw K))
    : Callee P w K mg base CX0 3 "_law_places" ["_law_script", "_law_strips_here"] (Pu.spOf mg pc_law_places K) := by
  refine DD.ok (k := 2) sc_law_places (fun vs H Q E h => spOf_len h (fun ds R X h => ?_)) (fun f cdv A outer s H vs Q E hr h => ?_)
  · obtain ⟨ns, ps, rfl, hz, hR⟩ := h
    rfl
  · refine ⟨_, (pss_cons (ps_set (i := 2) sc_law_places.nd rfl (by first | exact Or.inl rfl | exact Or.inr rfl) (Own.pe_fn c_law_draw (hr.mono (by decide)) pass0 (pa_cons (pv 0) (pa_cons pe_int pa_nil))))
      (pss_cons (ps_set (i := 3) sc_law_places.nd rfl (by first | exact Or.inl rfl | exact Or.inr rfl) (pe_lst pa_nil))
      (pss_cons (ps_for PassesOwn.never rfl (pi_range1 rfl G.range (pa_cons (pe_op op_mod (pe_op op_fdiv (pv 2) pe_int) pe_int) pa_nil)) (pg_name (i := 4) sc_law_places.nd rfl (by first | exact Or.inl rfl | exact Or.inr rfl))
      (pss_one (ps_expr (pe_bm PySem.F.plainAttrs_list PySem.F.slot_list_append PySem.F.type_list_append mt_append (pv 3) (pa_cons (pe_op op_add pe_int (pe_op op_mod (Own.pe_fn c_law_draw (hr.mono (by decide)) pass0 (pa_cons (pv 0) (pa_cons (pe_op op_add pe_int (pv 4)) pa_nil))) (pe_callB (call_max2 rfl) (by rfl) G.max boot_max (pa_cons pe_int (pa_cons (pe_op op_sub (pe_callB (Own.call_lenK (K := K)) (by rfl) G.len PySem.boot_len (pa_cons (pv 1) pa_nil)) pe_int) pa_nil))))) pa_nil)))))
      (Own.pss_join (ps_if (pt_cmpR (Pu.op_eqU (K := K) (show _ < cLine from hr.units0)) (pe_op op_mod (pe_op op_fdiv (pv 2) pe_int) pe_int) pe_int (nomark _))
      (pss_one (ps_set (i := 3) sc_law_places.nd rfl (by first | exact Or.inl rfl | exact Or.inr rfl) (pe_slice (Pu.sl_listK (K := K)) (pe_op op_rep (pv 3) pe_int) po_none (po_some pe_int))))
      pss_nil)
      (Own.pss_join (ps_if (PW.pt (pw_and (pt_cmpR (Pu.op_eqU (K := K) (show _ < cLine from hr.units0)) (pe_op op_mod (pv 2) pe_int) pe_int (nomark _)) (pw_and1 (pt_cmpR (Own.op_neE (K := K) (show _ < cLine from hr.units0)) (pv 3) (pe_lst pa_nil) (nomark _)))))
      (pss_cons (ps_set (i := 5) sc_law_places.nd rfl (by first | exact Or.inl rfl | exact Or.inr rfl) (pe_ix (Own.ix_ltK (K := K)) (pe_lst (pa_cons pe_int (pa_cons (pe_un un_neg pe_int) (pa_cons (pe_callB (Own.call_lenK (K := K)) (by rfl) G.len PySem.boot_len (pa_cons (pv 1) pa_nil)) (pa_cons (pe_op op_add (pe_callB (Own.call_lenK (K := K)) (by rfl) G.len PySem.boot_len (pa_cons (pv 1) pa_nil)) pe_int) (pa_cons (pe_op op_pow pe_int pe_int) pa_nil)))))) (pe_op op_mod (pe_op op_fdiv (pv 2) pe_int) pe_int) (fun _ _ => rfl)))
      (pss_one (ps_asg (pv 5) (pg_sub (pv 3) (pe_op op_mod (pe_op op_fdiv (pv 2) pe_int) (pe_callB (Own.call_lenK (K := K)) (by rfl) G.len PySem.boot_len (pa_cons (pv 3) pa_nil))) set_list))))
      pss_nil)
      (pss_one (ps_ret (pv 3)))))))), Pu.fn_use (n := 2) h
      (ss_seq (ss_asg (se_call (sa_cons (se_var 0) (sa_cons se_int sa_nil))) (sg_name 2))
        (ss_seq (ss_asg (se_lst sa_nil) (sg_name 3))
        (ss_seq (ss_for [4] (si_range1 (sa_cons (se_mod (se_fdiv (se_var 2) se_int) se_int) sa_nil)) (sg_name 4)
        (ss_append 3 (se_add se_int (se_mod (se_call (sa_cons (se_var 0) (sa_cons (se_add se_int (se_var 4)) sa_nil))) (se_max2 (sa_cons se_int (sa_cons (se_sub (se_len (sa_cons (se_var 1) sa_nil)) se_int) sa_nil)))))))
        (ss_join (ss_if (st_test (se_eqU (se_mod (se_fdiv (se_var 2) se_int) se_int) se_int)) (ss_asg (se_slice (se_rep (se_var 3) se_int) so_none (so_some se_int)) (sg_name 3)) ss_next)
        (ss_join (ss_if (st_and (st_test (se_eqU (se_mod (se_var 2) se_int) se_int)) (st_test (se_eqE (se_var 3) (se_lst sa_nil)))) (ss_seq (ss_asg (se_ix (se_lst (sa_cons se_int (sa_cons (se_neg se_int) (sa_cons (se_len (sa_cons (se_var 1) sa_nil)) (sa_cons (se_add (se_len (sa_cons (se_var 1) sa_nil)) se_int) (sa_cons (se_pow se_int se_int) sa_nil)))))) (se_mod (se_fdiv (se_var 2) se_int) se_int)) (sg_name 5))
        (ss_setI 3 (se_mod (se_fdiv (se_var 2) se_int) (se_len (sa_cons (se_var 3) sa_nil))) (se_var 5))) ss_next)
        (ss_retV 3)))))) (by decide) (fun ds R X h => ?_)⟩
    obtain ⟨ns, ps, rfl, hz, hR⟩ := h
    refine ⟨rfl, ?_⟩
    have hlm : (ps.map prD).length = ps.length := List.length_map ..
    refine ⟨ns, 1, rfl, by decide, by simp, ⟨by decide, by decide⟩, (by show (0 : Int) < 61; decide), ?_⟩
    generalize drawM ns 1 = how
    have hb : 0 ≤ how / 3 % 61 ∧ how / 3 % 61 < 61 := by omega
    refine ⟨⟨by omega, by omega⟩, forR_of (fun i γ' => ∃ pl : List Int, γ' = [some (.bor (.scr ns)), some (.bor (.lst (ps.map prD))), some (.sh (.int how)), some (.own (pl.map D.int)), none, none] ∧ pl.length ≤ i) ⟨[], rfl, Nat.le_refl _⟩ ?_ ?_⟩
    · rintro i γ' hi ⟨pl, rfl, hl⟩
      have hi' : i < (how / 3 % 61).toNat := hi
      refine ⟨ns, _, rfl, by omega, ?_⟩
      generalize drawM ns (42 + (0 + (i : Int))) = c
      refine ⟨(by show 0 < (if (((ps.map prD).length : Nat) : Int) - 1 > 1 then (((ps.map prD).length : Nat) : Int) - 1 else 1); split <;> omega), by rw [List.length_map]; omega, pl ++ [1 + c % (if (((ps.map prD).length : Nat) : Int) - 1 > 1 then (((ps.map prD).length : Nat) : Int) - 1 else 1)], ?_, by rw [List.length_append]; simp; omega⟩
      rw [List.map_append]
      rfl
    · rintro γ' ⟨pl, rfl, hl⟩
      have hl60 : pl.length ≤ 60 := by
        have : pl.length ≤ (how / 3 % 61).toNat := hl
        omega
      refine join_of (fun γ' => ∃ pl : List Int, γ' = [some (.bor (.scr ns)), some (.bor (.lst (ps.map prD))), some (.sh (.int how)), some (.own (pl.map D.int)), none, none] ∧ pl.length ≤ 1000) ?_ ?_
      · refine ⟨⟨by decide, by decide⟩, (by show (0 : Int) < 8; decide), ite2 (fun _ => ?_) (fun _ => ⟨pl, rfl, by omega⟩)⟩
        refine ⟨rfl, ⟨by decide, by decide⟩, by rw [List.length_map]; show pl.length * 1000 ≤ _; omega, rfl, ?_⟩
        have e : (List.replicate (Int.toNat 1000) (pl.map D.int)).flatten = ((List.replicate 1000 pl).flatten).map D.int := by
          rw [List.map_flatten, List.map_replicate]
          rfl
        refine ⟨cutD ((List.replicate 1000 pl).flatten) none (some 1000), ?_, ?_⟩
        · rw [← cutD_map, ← e]
          rfl
        · rw [cutD_to _ (by decide), List.length_take]
          exact Nat.min_le_left _ _
      · rintro γ' ⟨pl, rfl, hl⟩
        refine join_of (fun γ' => ∃ pl : List Int, (∃ y, γ' = [some (.bor (.scr ns)), some (.bor (.lst (ps.map prD))), some (.sh (.int how)), some (.own (pl.map D.int)), none, y]) ∧ pl.length ≤ 1000) ?_ ?_
        · refine ⟨(by show (0 : Int) < 3; decide), ite2 (fun _ => ⟨by simp, ?_⟩) (fun _ => iteF ⟨pl, ⟨_, rfl⟩, hl⟩)⟩
          have emp : (!(pl.map D.int).isEmpty) = decide (pl ≠ []) := by cases pl <;> simp
          show if (!(pl.map D.int).isEmpty) = true then _ else _
          rw [emp]
          refine ite2 (fun g => ?_) (fun _ => ⟨pl, ⟨_, rfl⟩, hl⟩)
          have hne : 0 < pl.length := List.length_pos_iff.mpr (of_decide_eq_true g)
          have hm5 : 0 ≤ how / 1464 % 5 ∧ how / 1464 % 5 < 5 := by omega
          obtain ⟨v, hv⟩ : ∃ v : Int, atI [D.int 0, D.int (-1), D.int (((ps.map prD).length : Nat) : Int), D.int ((((ps.map prD).length : Nat) : Int) + 1), D.int (10 ^ (30 : Int).toNat)] (how / 1464 % 5) = some (.int v) :=
            ⟨_, at_map (f := D.int) (xs := [0, -1, (((ps.map prD).length : Nat) : Int), (((ps.map prD).length : Nat) : Int) + 1, 10 ^ (30 : Int).toNat]) hm5.1 hm5.2⟩
          have q1 := Int.emod_nonneg (how / 7320) (show ((pl.length : Nat) : Int) ≠ 0 by omega)
          have q2 := Int.emod_lt_of_pos (how / 7320) (show 0 < ((pl.length : Nat) : Int) by omega)
          have x1 : ixN (pl.map D.int).length (how / 7320 % (((pl.map D.int).length : Nat) : Int)) = some (how / 7320 % ((pl.length : Nat) : Int)).toNat := by
            unfold ixN
            rw [List.length_map, if_pos q1, if_pos q2]
          refine ⟨⟨by decide, by decide, by decide⟩, by simp, ⟨by decide, by decide⟩, (by show (0 : Int) < 5; decide), _, hv, ⟨by decide, by decide⟩, (by show 0 < (((pl.map D.int).length : Nat) : Int); rw [List.length_map]; omega), _, _, x1, rfl, pl.set (how / 7320 % ((pl.length : Nat) : Int)).toNat v, ⟨some (.sh (.int v)), ?_⟩, by rw [List.length_set]; exact hl⟩
          rw [List.map_set]
          rfl
        · rintro γ' ⟨pl, ⟨y, rfl⟩, hl⟩
          exact hR pl hl
end
end T

namespace M
open PySem PySem.Spec PyProof.Rows L2 Own Pu
theorem swapM_len (ns : List Int) (p : Nat) (h1 : 1 ≤ p) (h2 : p < ns.length) : (swapM ns p).length = ns.length := (swap_perm h1 h2).length_eq
theorem walkM_len {ps : List (Int × Int)} : ∀ {pl : List Int} {st st' : List Int × Int}, st.1.length = ps.length ∧ ps.length ≤ 1000 → walkM ps pl st = some st' → st'.1.length ≤ 1000
  | [], st, st', h, e => by cases e; omega
  | p :: r, st, st', h, e => by
    rw [walkM_cons] at e
    by_cases c : p < 1 ∨ (ps.length : Int) ≤ p
    · rw [if_pos c] at e; cases e
    · rw [if_neg c] at e
      exact walkM_len (st := (swapM st.1 p.toNat, st.2 + exM ps st.1 p.toNat)) ⟨by rw [swapM_len _ _ (by omega) (by omega)]; exact h.1, h.2⟩ e
end M

namespace T
open PySem PySem.Spec PyProof.Rows L2 Own M Pu
section
variable {P : Program} {w : World} {K : PySem.W.Frag} {mg : Str → Option Value} {base : Heap}
theorem ok_law (G : Glob K mg) (DD : Def K mg "law" s_law ["_law_script"])
    (c_law_menu : Callee P w K mg base CX0 1 "_law_menu" ["_law_cell"] (Pu.spOf mg pc_law_menu K))
    (c_law_strips : Callee P w K mg base CX0 3 "_law_strips" ["_law_script", "_law_menu_here", "_law_many"] (Pu.spOf mg pc_law_strips K))
    (c_law_places : Callee P w K mg base CX0 3 "_law_places" ["_law_script", "_law_strips_here"] (Pu.spOf mg pc_law_places K))
    (c_law_laid : Callee P w K mg base CX0 1 "_law_laid" ["_law_strips_here", "_law_places_here"] (Pu.spOf mg pc_law_laid K))
    (c_law_draw : Callee P w K mg base CX0 2 "_law_draw" ["_law_script", "_law_k"] (Pu.spOf mg pc_law_draw K))
    (c_walk_places : Callee P w K mg base (ExcR.CXe P w) 2 "walk_places" ["strips", "places"] (Pu.spOf mg pc_walk_places K))
    (c_law_row : Callee P w K mg base CX0 2 "_law_row" ["_law_found", "_law_due"] (Pu.spOf mg pc_law_row K))
    (c_law_whole : Callee P w K mg base CX0 1 "_law_whole" ["_law_found"] (Pu.spOf mg pc_law_whole K))
    (c_law_tuples : Callee P w K mg base CX0 2 "_law_tuples" ["_law_found", "_law_due"] (Pu.spOf mg pc_law_tuples K))
    (c_law_at : Callee P w K mg base CX0 1 "_law_at" ["_law_script", "_law_k"] (Pu.spOf mg pc_law_at K))
    : Callee P w K mg base CX0 4 "law" ["_law_script"] (Pu.spOf mg pc_law K) := by
  refine DD.ok (k := 3) sc_law (fun vs H Q E h => spOf_len h (fun ds R X h => ?_)) (fun f cdv A outer s H vs Q E hr h => ?_)
  · obtain ⟨ns, rfl, hR⟩ := h
    rfl
  · refine ⟨_, (pss_cons (ps_set (i := 1) sc_law.nd rfl (by first | exact Or.inl rfl | exact Or.inr rfl) (Own.pe_fn c_law_menu (hr.mono (by decide)) pass0 (pa_cons (Own.pe_fn c_law_draw (hr.mono (by decide)) pass0 (pa_cons (pv 0) (pa_cons pe_int pa_nil))) pa_nil)))
      (pss_cons (ps_set (i := 2) sc_law.nd rfl (by first | exact Or.inl rfl | exact Or.inr rfl) (Own.pe_fn c_law_strips (hr.mono (by decide)) pass0 (pa_cons (pv 0) (pa_cons (pv 1) (pa_cons (pe_op op_mod (pe_op op_fdiv (Own.pe_fn c_law_at (hr.mono (by decide)) pass0 (pa_cons (pv 0) (pa_cons pe_int pa_nil))) pe_int) pe_int) pa_nil)))))
      (pss_cons (ps_set (i := 3) sc_law.nd rfl (by first | exact Or.inl rfl | exact Or.inr rfl) (Own.pe_fn c_law_places (hr.mono (by decide)) pass0 (pa_cons (pv 0) (pa_cons (pv 2) pa_nil))))
      (pss_cons (ps_set (i := 4) sc_law.nd rfl (by first | exact Or.inl rfl | exact Or.inr rfl) (pe_callTy (Pu.call_listK (K := K)) (by rfl) G.list boot_list (pa_cons (pv 2) pa_nil)))
      (pss_cons (ps_set (i := 5) sc_law.nd rfl (by first | exact Or.inl rfl | exact Or.inr rfl) (pe_callTy (Pu.call_listK (K := K)) (by rfl) G.list boot_list (pa_cons (pv 3) pa_nil)))
      (pss_cons (ps_set (i := 6) sc_law.nd rfl (by first | exact Or.inl rfl | exact Or.inr rfl) (pe_tup pa_nil))
      (pss_cons (ps_set (i := 7) sc_law.nd rfl (by first | exact Or.inl rfl | exact Or.inr rfl) (pe_lst pa_nil))
      (Own.pss_join (ExcR.ps_try (fun pins D => (pss_one (ps_set (i := 6) sc_law.nd rfl (by first | exact Or.inl rfl | exact Or.inr rfl) (ExcR.pe_fnS c_walk_places (hr.mono (by decide)) (ExcR.passes_try (pins := pins) (D := D) (i := 8) rfl rfl sc_law.nd rfl rfl rfl G.m_NoStrip (by decide) (fun a => (pss_one (ps_set (i := 7) sc_law.nd rfl (by first | exact Or.inl rfl | exact Or.inr rfl) (pe_lst (pa_cons (pe_callB (ExcR.call_isiEK (K := K)) (by rfl) G.isinstance boot_isinstance (pa_cons (pv 8) (pa_cons (ExcR.pe_cls G.m_MeldError) pa_nil))) (pa_cons (pe_callB (ExcR.call_isiEK (K := K)) (by rfl) G.isinstance boot_isinstance (pa_cons (pv 8) (pa_cons (pe_bltn (v := .ty "ValueError") rfl G.ValueError (by decide +kernel) rfl) pa_nil))) pa_nil))))))) (pa_cons (pv 4) (pa_cons (pv 5) pa_nil)))))))
      (pss_cons (ps_if (PW.pt (pw_or (pt_not (Pu.pt_tru (K := K) (Own.pe_fn c_law_tuples (hr.mono (by decide)) pass0 (pa_cons (pv 4) (pa_cons (pv 2) pa_nil))))) (pw_or1 (pt_not (Pu.pt_tru (K := K) (Own.pe_fn c_law_row (hr.mono (by decide)) pass0 (pa_cons (pv 5) (pa_cons (pv 3) pa_nil))))))))
      (pss_one (ps_ret pe_bl))
      pss_nil)
      (pss_cons (ps_set (i := 9) sc_law.nd rfl (by first | exact Or.inl rfl | exact Or.inr rfl) (Own.pe_fn c_law_laid (hr.mono (by decide)) pass0 (pa_cons (pv 2) (pa_cons (pv 3) pa_nil))))
      (pss_cons (ps_if (pt_cmpR (Own.op_eqE (K := K) (show _ < cLine from hr.units0)) (pv 9) (pe_lst pa_nil) (nomark _))
      (pss_one (ps_ret (pe_cmpR (Pu.op_eqLK (K := K) (show _ < cLine from hr.units0)) (pv 7) (pe_lst (pa_cons pe_bl (pa_cons pe_bl pa_nil))) (nomark _))))
      pss_nil)
      (pss_cons (ps_if (PW.pt (pw_or (pt_cmpR (Own.op_neE (K := K) (show _ < cLine from hr.units0)) (pv 7) (pe_lst pa_nil) (nomark _)) (pw_or (pt_not (Pu.pt_tru (K := K) (pe_callB (Pu.call_isiK (K := K)) (by rfl) G.isinstance boot_isinstance (pa_cons (pv 6) (pa_cons (pe_bltn (v := .ty "tuple") rfl G.tuple boot_tuple rfl) pa_nil))))) (pw_or1 (pt_cmpR (Pu.op_neU (K := K) (show _ < cLine from hr.units0)) (pe_callB (Own.call_lenK (K := K)) (by rfl) G.len PySem.boot_len (pa_cons (pv 6) pa_nil)) pe_int (nomark _))))))
      (pss_one (ps_ret pe_bl))
      pss_nil)
      (pss_one (ps_ret (pe_and (Own.pe_fn c_law_row (hr.mono (by decide)) pass0 (pa_cons (pe_ix (Own.ix_ltK (K := K)) (pv 6) pe_int (fun _ _ => rfl)) (pa_cons (pe_ix (Own.ix_ltK (K := K)) (pv 9) pe_int (fun _ _ => rfl)) pa_nil))) (pe_and (Own.pe_fn c_law_whole (hr.mono (by decide)) pass0 (pa_cons (pe_ix (Own.ix_ltK (K := K)) (pv 6) pe_int (fun _ _ => rfl)) pa_nil)) (pe_one (pe_cmpR (Pu.op_eqU (K := K) (show _ < cLine from hr.units0)) (pe_ix (Own.ix_ltK (K := K)) (pv 6) pe_int (fun _ _ => rfl)) (pe_ix (Own.ix_ltK (K := K)) (pv 9) pe_int (fun _ _ => rfl)) (nomark _))))))))))))))))))), Pu.fn_use (n := 1) h
      (ss_seq (ss_asg (se_call (sa_cons (se_call (sa_cons (se_var 0) (sa_cons se_int sa_nil))) sa_nil)) (sg_name 1))
        (ss_seq (ss_asg (se_call (sa_cons (se_var 0) (sa_cons (se_var 1) (sa_cons (se_mod (se_fdiv (se_call (sa_cons (se_var 0) (sa_cons se_int sa_nil))) se_int) se_int) sa_nil)))) (sg_name 2))
        (ss_seq (ss_asg (se_call (sa_cons (se_var 0) (sa_cons (se_var 2) sa_nil))) (sg_name 3))
        (ss_seq (ss_asg (se_list (sa_cons (se_var 2) sa_nil)) (sg_name 4))
        (ss_seq (ss_asg (se_list (sa_cons (se_var 3) sa_nil)) (sg_name 5))
        (ss_seq (ss_asg (se_tup sa_nil) (sg_name 6))
        (ss_seq (ss_asg (se_lst sa_nil) (sg_name 7))
        (ss_join (ss_try (E' := fun _ => E) ["NoStrip"] (fun c hc => by
        simp only [List.mem_cons, List.not_mem_nil, or_false] at hc
        rcases hc with rfl
        · exact ⟨G.g_NoStrip, G.x_NoStrip_NoStrip⟩)
        (fun D => (ss_asg (se_callS (sa_cons (se_var 4) (sa_cons (se_var 5) sa_nil))) (sg_name 6))) (ss_asg (se_lst (sa_cons (se_isiE (sa_cons (se_var 8) (sa_cons se_ref sa_nil))) (sa_cons (se_isiE (sa_cons (se_var 8) (sa_cons se_ty sa_nil))) sa_nil))) (sg_name 7)))
        (ss_seq (ss_if (st_or (st_not (st_tru (se_call (sa_cons (se_var 4) (sa_cons (se_var 2) sa_nil))))) (st_not (st_tru (se_call (sa_cons (se_var 5) (sa_cons (se_var 3) sa_nil)))))) (ss_ret se_bl) ss_next)
        (ss_seq (ss_asg (se_call (sa_cons (se_var 2) (sa_cons (se_var 3) sa_nil))) (sg_name 9))
        (ss_seq (ss_if (st_test (se_eqE (se_var 9) (se_lst sa_nil))) (ss_ret (se_eqV (se_var 7) (se_lst (sa_cons se_bl (sa_cons se_bl sa_nil))))) ss_next)
        (ss_seq (ss_if (st_or (st_test (se_eqE (se_var 7) (se_lst sa_nil))) (st_or (st_not (st_tru (se_isi (sa_cons (se_var 6) (sa_cons se_ty sa_nil))))) (st_test (se_neU (se_len (sa_cons (se_var 6) sa_nil)) se_int)))) (ss_ret se_bl) ss_next)
        (ss_ret (se_andV (se_call (sa_cons (se_ix (se_var 6) se_int) (sa_cons (se_ix (se_var 9) se_int) sa_nil))) (se_andV (se_call (sa_cons (se_ix (se_var 6) se_int) sa_nil)) (se_eqU (se_ix (se_var 6) se_int) (se_ix (se_var 9) se_int))))))))))))))))) (by decide) (fun ds R X h => ?_)⟩
    obtain ⟨ns, rfl, hR⟩ := h
    refine ⟨rfl, ?_⟩
    refine ⟨ns, 0, rfl, by decide, _, rfl, fun hM => ?_⟩
    generalize em : menuM (drawM ns 0) = m at hM ⊢
    refine ⟨ns, 0, rfl, by decide, ⟨by decide, by decide⟩, (by show (0 : Int) < 41; decide), ns, m, _, rfl, hM, by omega, by omega, ?_⟩
    generalize en : (ns.getD (0 : Int).toNat 0 / 2 % 41).toNat = n
    have hn : n ≤ 40 := by omega
    have hF := stripsM_field (ns := ns) hM n
    have hlen := stripsM_len ns m n
    generalize eps : stripsM ns m n = ps at hF hlen ⊢
    refine ⟨ns, ps, rfl, by omega, fun pl hpl => ?_⟩
    refine ⟨rfl, rfl, by simp, by simp, ?_⟩
    refine join_of (fun γ' => (∃ st, walkM ps pl (runI 1 ps.length, 0) = some st ∧ γ' = [some (.bor (.scr ns)), some (.own (m.map D.int)), some (.own (ps.map prD)), some (.own (pl.map D.int)), some (.own (ps.map prD)), some (.own (pl.map D.int)), some (.sh (.tup [.lst (st.1.map D.int), .int st.2])), some (.own (.lst [])), none, none]) ∨
      (walkM ps pl (runI 1 ps.length, 0) = none ∧ γ' = [some (.bor (.scr ns)), some (.own (m.map D.int)), some (.own (ps.map prD)), some (.own (pl.map D.int)), some (.own (ps.map prD)), some (.own (pl.map D.int)), some (.sh (.tup [])), some (.own (.lst [.bl true, .bl true])), none, none])) ?_ ?_
    · refine ⟨ps, pl, rfl, hF, by omega, hpl, ?_⟩
      cases eW : walkM ps pl (runI 1 ps.length, 0) with
      | some st => exact .inl ⟨st, rfl, rfl⟩
      | none => exact ⟨by simp, _, G.g_NoStrip, G.k_NoStrip_MeldError, _, G.g_NoStrip, G.k_NoStrip_ValueError, by simp, .inr ⟨rfl, rfl⟩⟩
    · rintro γ' (⟨st, eW, rfl⟩ | ⟨eW, rfl⟩)
      · refine ⟨ps, rfl, by omega, iteF ⟨pl, rfl, by omega, iteF ⟨ps, pl, rfl, hF, by omega, hpl, ?_⟩⟩⟩
        rw [eW]
        have hsl : st.1.length ≤ 1000 := by
          exact walkM_len (st := (runI 1 ps.length, 0)) ⟨runI_len _, by omega⟩ eW
        refine ⟨by simp, by simp, _, .same _, _, rfl, _, rfl, st.1, rfl, by omega, _, rfl, st.2, rfl, _, rfl, _, rfl, ?_⟩
        show R (.sh (.bl (decide (st.2 = st.2))))
        rw [decide_eq_true rfl]
        exact hR
      · refine ⟨ps, rfl, by omega, iteF ⟨pl, rfl, by omega, iteF ⟨ps, pl, rfl, hF, by omega, hpl, ?_⟩⟩⟩
        rw [eW]
        exact ⟨by simp, by simp, _, _, rfl, rfl, rfl, rfl, hR⟩
end
end T

namespace T
open PySem PySem.Spec PyProof.Rows L2 Own M
theorem all_mk {l : PySem.W.OpenLaw} {w : World} {K : PySem.W.Frag} {h : Heap} {mg : Str → Option Value} {fa : Addr} (X : K.In h) (G0 : h.Ns mainGlobals mg) (hfa : mg "law" = some (.ref fa))
    {f0 : Addr} {od0 an0 : Option Addr} {sl0 : Array (Option Value)} {oc0 kV0 dc0 pm0 cd0 ct0 : Value}
    (a0 : PySem.W.nsIn K mainGlobals "own_numbers" = some (some (.ref f0)))
    (l0 : K.lookup f0 = some ⟨oc0, od0, .func (PySem.W.fnOf "own_numbers" "own_numbers" (defArgs s_own_numbers) (defBody s_own_numbers) (defScope s_own_numbers) .none kV0 dc0 pm0 an0 cd0 ct0), sl0⟩)
    (c0 : PySem.W.codeIn K cd0 "own_numbers" = true) (k0 : PySem.W.keepIn K (.ref f0) = true)
    {f1 : Addr} {od1 an1 : Option Addr} {sl1 : Array (Option Value)} {oc1 kV1 dc1 pm1 cd1 ct1 : Value}
    (a1 : PySem.W.nsIn K mainGlobals "exchange_cost" = some (some (.ref f1)))
    (l1 : K.lookup f1 = some ⟨oc1, od1, .func (PySem.W.fnOf "exchange_cost" "exchange_cost" (defArgs s_exchange_cost) (defBody s_exchange_cost) (defScope s_exchange_cost) .none kV1 dc1 pm1 an1 cd1 ct1), sl1⟩)
    (c1 : PySem.W.codeIn K cd1 "exchange_cost" = true) (k1 : PySem.W.keepIn K (.ref f1) = true)
    {f2 : Addr} {od2 an2 : Option Addr} {sl2 : Array (Option Value)} {oc2 kV2 dc2 pm2 cd2 ct2 : Value}
    (a2 : PySem.W.nsIn K mainGlobals "exchanged" = some (some (.ref f2)))
    (l2 : K.lookup f2 = some ⟨oc2, od2, .func (PySem.W.fnOf "exchanged" "exchanged" (defArgs s_exchanged) (defBody s_exchanged) (defScope s_exchanged) .none kV2 dc2 pm2 an2 cd2 ct2), sl2⟩)
    (c2 : PySem.W.codeIn K cd2 "exchanged" = true) (k2 : PySem.W.keepIn K (.ref f2) = true)
    {f3 : Addr} {od3 an3 : Option Addr} {sl3 : Array (Option Value)} {oc3 kV3 dc3 pm3 cd3 ct3 : Value}
    (a3 : PySem.W.nsIn K mainGlobals "check_neighbours" = some (some (.ref f3)))
    (l3 : K.lookup f3 = some ⟨oc3, od3, .func (PySem.W.fnOf "check_neighbours" "check_neighbours" (defArgs s_check_neighbours) (defBody s_check_neighbours) (defScope s_check_neighbours) .none kV3 dc3 pm3 an3 cd3 ct3), sl3⟩)
    (c3 : PySem.W.codeIn K cd3 "check_neighbours" = true) (k3 : PySem.W.keepIn K (.ref f3) = true)
    {f4 : Addr} {od4 an4 : Option Addr} {sl4 : Array (Option Value)} {oc4 kV4 dc4 pm4 cd4 ct4 : Value}
    (a4 : PySem.W.nsIn K mainGlobals "walk_places" = some (some (.ref f4)))
    (l4 : K.lookup f4 = some ⟨oc4, od4, .func (PySem.W.fnOf "walk_places" "walk_places" (defArgs s_walk_places) (defBody s_walk_places) (defScope s_walk_places) .none kV4 dc4 pm4 an4 cd4 ct4), sl4⟩)
    (c4 : PySem.W.codeIn K cd4 "walk_places" = true) (k4 : PySem.W.keepIn K (.ref f4) = true)
    {f5 : Addr} {od5 an5 : Option Addr} {sl5 : Array (Option Value)} {oc5 kV5 dc5 pm5 cd5 ct5 : Value}
    (a5 : PySem.W.nsIn K mainGlobals "_law_at" = some (some (.ref f5)))
    (l5 : K.lookup f5 = some ⟨oc5, od5, .func (PySem.W.fnOf "_law_at" "_law_at" (defArgs s_law_at) (defBody s_law_at) (defScope s_law_at) .none kV5 dc5 pm5 an5 cd5 ct5), sl5⟩)
    (c5 : PySem.W.codeIn K cd5 "_law_at" = true) (k5 : PySem.W.keepIn K (.ref f5) = true)
    {f6 : Addr} {od6 an6 : Option Addr} {sl6 : Array (Option Value)} {oc6 kV6 dc6 pm6 cd6 ct6 : Value}
    (a6 : PySem.W.nsIn K mainGlobals "_law_whole" = some (some (.ref f6)))
    (l6 : K.lookup f6 = some ⟨oc6, od6, .func (PySem.W.fnOf "_law_whole" "_law_whole" (defArgs s_law_whole) (defBody s_law_whole) (defScope s_law_whole) .none kV6 dc6 pm6 an6 cd6 ct6), sl6⟩)
    (c6 : PySem.W.codeIn K cd6 "_law_whole" = true) (k6 : PySem.W.keepIn K (.ref f6) = true)
    {f7 : Addr} {od7 an7 : Option Addr} {sl7 : Array (Option Value)} {oc7 kV7 dc7 pm7 cd7 ct7 : Value}
    (a7 : PySem.W.nsIn K mainGlobals "_law_mix" = some (some (.ref f7)))
    (l7 : K.lookup f7 = some ⟨oc7, od7, .func (PySem.W.fnOf "_law_mix" "_law_mix" (defArgs s_law_mix) (defBody s_law_mix) (defScope s_law_mix) .none kV7 dc7 pm7 an7 cd7 ct7), sl7⟩)
    (c7 : PySem.W.codeIn K cd7 "_law_mix" = true) (k7 : PySem.W.keepIn K (.ref f7) = true)
    {f8 : Addr} {od8 an8 : Option Addr} {sl8 : Array (Option Value)} {oc8 kV8 dc8 pm8 cd8 ct8 : Value}
    (a8 : PySem.W.nsIn K mainGlobals "_law_draw" = some (some (.ref f8)))
    (l8 : K.lookup f8 = some ⟨oc8, od8, .func (PySem.W.fnOf "_law_draw" "_law_draw" (defArgs s_law_draw) (defBody s_law_draw) (defScope s_law_draw) .none kV8 dc8 pm8 an8 cd8 ct8), sl8⟩)
    (c8 : PySem.W.codeIn K cd8 "_law_draw" = true) (k8 : PySem.W.keepIn K (.ref f8) = true)
    {f9 : Addr} {od9 an9 : Option Addr} {sl9 : Array (Option Value)} {oc9 kV9 dc9 pm9 cd9 ct9 : Value}
    (a9 : PySem.W.nsIn K mainGlobals "_law_menu" = some (some (.ref f9)))
    (l9 : K.lookup f9 = some ⟨oc9, od9, .func (PySem.W.fnOf "_law_menu" "_law_menu" (defArgs s_law_menu) (defBody s_law_menu) (defScope s_law_menu) .none kV9 dc9 pm9 an9 cd9 ct9), sl9⟩)
    (c9 : PySem.W.codeIn K cd9 "_law_menu" = true) (k9 : PySem.W.keepIn K (.ref f9) = true)
    {f10 : Addr} {od10 an10 : Option Addr} {sl10 : Array (Option Value)} {oc10 kV10 dc10 pm10 cd10 ct10 : Value}
    (a10 : PySem.W.nsIn K mainGlobals "_law_holder" = some (some (.ref f10)))
    (l10 : K.lookup f10 = some ⟨oc10, od10, .func (PySem.W.fnOf "_law_holder" "_law_holder" (defArgs s_law_holder) (defBody s_law_holder) (defScope s_law_holder) .none kV10 dc10 pm10 an10 cd10 ct10), sl10⟩)
    (c10 : PySem.W.codeIn K cd10 "_law_holder" = true) (k10 : PySem.W.keepIn K (.ref f10) = true)
    {f11 : Addr} {od11 an11 : Option Addr} {sl11 : Array (Option Value)} {oc11 kV11 dc11 pm11 cd11 ct11 : Value}
    (a11 : PySem.W.nsIn K mainGlobals "_law_strips" = some (some (.ref f11)))
    (l11 : K.lookup f11 = some ⟨oc11, od11, .func (PySem.W.fnOf "_law_strips" "_law_strips" (defArgs s_law_strips) (defBody s_law_strips) (defScope s_law_strips) .none kV11 dc11 pm11 an11 cd11 ct11), sl11⟩)
    (c11 : PySem.W.codeIn K cd11 "_law_strips" = true) (k11 : PySem.W.keepIn K (.ref f11) = true)
    {f12 : Addr} {od12 an12 : Option Addr} {sl12 : Array (Option Value)} {oc12 kV12 dc12 pm12 cd12 ct12 : Value}
    (a12 : PySem.W.nsIn K mainGlobals "_law_row" = some (some (.ref f12)))
    (l12 : K.lookup f12 = some ⟨oc12, od12, .func (PySem.W.fnOf "_law_row" "_law_row" (defArgs s_law_row) (defBody s_law_row) (defScope s_law_row) .none kV12 dc12 pm12 an12 cd12 ct12), sl12⟩)
    (c12 : PySem.W.codeIn K cd12 "_law_row" = true) (k12 : PySem.W.keepIn K (.ref f12) = true)
    {f13 : Addr} {od13 an13 : Option Addr} {sl13 : Array (Option Value)} {oc13 kV13 dc13 pm13 cd13 ct13 : Value}
    (a13 : PySem.W.nsIn K mainGlobals "_law_tuples" = some (some (.ref f13)))
    (l13 : K.lookup f13 = some ⟨oc13, od13, .func (PySem.W.fnOf "_law_tuples" "_law_tuples" (defArgs s_law_tuples) (defBody s_law_tuples) (defScope s_law_tuples) .none kV13 dc13 pm13 an13 cd13 ct13), sl13⟩)
    (c13 : PySem.W.codeIn K cd13 "_law_tuples" = true) (k13 : PySem.W.keepIn K (.ref f13) = true)
    {f14 : Addr} {od14 an14 : Option Addr} {sl14 : Array (Option Value)} {oc14 kV14 dc14 pm14 cd14 ct14 : Value}
    (a14 : PySem.W.nsIn K mainGlobals "_law_laid" = some (some (.ref f14)))
    (l14 : K.lookup f14 = some ⟨oc14, od14, .func (PySem.W.fnOf "_law_laid" "_law_laid" (defArgs s_law_laid) (defBody s_law_laid) (defScope s_law_laid) .none kV14 dc14 pm14 an14 cd14 ct14), sl14⟩)
    (c14 : PySem.W.codeIn K cd14 "_law_laid" = true) (k14 : PySem.W.keepIn K (.ref f14) = true)
    {f15 : Addr} {od15 an15 : Option Addr} {sl15 : Array (Option Value)} {oc15 kV15 dc15 pm15 cd15 ct15 : Value}
    (a15 : PySem.W.nsIn K mainGlobals "_law_places" = some (some (.ref f15)))
    (l15 : K.lookup f15 = some ⟨oc15, od15, .func (PySem.W.fnOf "_law_places" "_law_places" (defArgs s_law_places) (defBody s_law_places) (defScope s_law_places) .none kV15 dc15 pm15 an15 cd15 ct15), sl15⟩)
    (c15 : PySem.W.codeIn K cd15 "_law_places" = true) (k15 : PySem.W.keepIn K (.ref f15) = true)
    {f16 : Addr} {od16 an16 : Option Addr} {sl16 : Array (Option Value)} {oc16 kV16 dc16 pm16 cd16 ct16 : Value}
    (a16 : PySem.W.nsIn K mainGlobals "law" = some (some (.ref f16)))
    (l16 : K.lookup f16 = some ⟨oc16, od16, .func (PySem.W.fnOf "law" "law" (defArgs s_law) (defBody s_law) (defScope s_law) .none kV16 dc16 pm16 an16 cd16 ct16), sl16⟩)
    (c16 : PySem.W.codeIn K cd16 "law" = true) (k16 : PySem.W.keepIn K (.ref f16) = true)
    (z_ValueError : PySem.W.nsIn K mainGlobals "ValueError" = some none)
    (z_bool : PySem.W.nsIn K mainGlobals "bool" = some none)
    (z_int : PySem.W.nsIn K mainGlobals "int" = some none)
    (z_isinstance : PySem.W.nsIn K mainGlobals "isinstance" = some none)
    (z_len : PySem.W.nsIn K mainGlobals "len" = some none)
    (z_list : PySem.W.nsIn K mainGlobals "list" = some none)
    (z_max : PySem.W.nsIn K mainGlobals "max" = some none)
    (z_range : PySem.W.nsIn K mainGlobals "range" = some none)
    (z_tuple : PySem.W.nsIn K mainGlobals "tuple" = some none)
    {C_MeldError : Addr} {d_MeldError : ClassData} (a_MeldError : PySem.W.nsIn K mainGlobals "MeldError" = some (some (.ref C_MeldError))) (q_MeldError : PySem.W.excIn K C_MeldError [.type "ValueError", .type "Exception", .type "BaseException", .type "object"] "ValueError.__new__" = true)
    (ga_MeldError : PySem.W.findIn K (.ref C_MeldError) "__getattribute__" = some (some (.builtin "BaseException.__getattribute__"))) (gt_MeldError : PySem.W.findIn K (.ref C_MeldError) "__getattr__" = some none)
    (cl_MeldError : PySem.W.findIn K (.ref C_MeldError) "__class__" = some (some (.builtin "object.__class__"))) (i_MeldError : PySem.W.clsIn K C_MeldError = some d_MeldError)
    {C_NoStrip : Addr} {d_NoStrip : ClassData} (a_NoStrip : PySem.W.nsIn K mainGlobals "NoStrip" = some (some (.ref C_NoStrip))) (q_NoStrip : PySem.W.excIn K C_NoStrip [.type "ValueError", .type "Exception", .type "BaseException", .type "object"] "ValueError.__new__" = true)
    (ga_NoStrip : PySem.W.findIn K (.ref C_NoStrip) "__getattribute__" = some (some (.builtin "BaseException.__getattribute__"))) (gt_NoStrip : PySem.W.findIn K (.ref C_NoStrip) "__getattr__" = some none)
    (cl_NoStrip : PySem.W.findIn K (.ref C_NoStrip) "__class__" = some (some (.builtin "object.__class__"))) (i_NoStrip : PySem.W.clsIn K C_NoStrip = some d_NoStrip)
    (x_MeldError_NoStrip : PySem.W.exmOne K (.ref C_MeldError) (.ref C_NoStrip) = some false)
    (x_NoStrip_NoStrip : PySem.W.exmOne K (.ref C_NoStrip) (.ref C_NoStrip) = some true)
    (k_MeldError_MeldError : PySem.W.kitOne K (.ref C_MeldError) (.ref C_MeldError) = some true)
    (k_MeldError_ValueError : PySem.W.kitOne K (.ref C_MeldError) (.type "ValueError") = some true)
    (k_NoStrip_MeldError : PySem.W.kitOne K (.ref C_NoStrip) (.ref C_MeldError) = some true)
    (k_NoStrip_ValueError : PySem.W.kitOne K (.ref C_NoStrip) (.type "ValueError") = some true)
    : ∃ fd : FuncData, (∀ (s : Shared) (v : Value), BindsTo s fd ⟨[v], []⟩ [("_law_script", v)]) ∧ ∀ base : Heap, K.In base → base.Ns mainGlobals mg → FnOk l.prog w K mg base CX0 4 fa fd ["_law_script"] (Pu.lawSp K) := by
  have e := hfa.symm.trans (PySem.W.mg_of X G0 a16)
  cases e
  have e_MeldError := ExcR.clsOf_eq (PySem.W.mg_of X G0 a_MeldError)
  have e_NoStrip := ExcR.clsOf_eq (PySem.W.mg_of X G0 a_NoStrip)
  have G : Glob K mg := ⟨PySem.W.mg_none_of X G0 z_ValueError, PySem.W.mg_none_of X G0 z_bool, PySem.W.mg_none_of X G0 z_int, PySem.W.mg_none_of X G0 z_isinstance, PySem.W.mg_none_of X G0 z_len, PySem.W.mg_none_of X G0 z_list, PySem.W.mg_none_of X G0 z_max, PySem.W.mg_none_of X G0 z_range, PySem.W.mg_none_of X G0 z_tuple, (by rw [e_MeldError]; exact PySem.W.mg_of X G0 a_MeldError), (by rw [e_MeldError]; exact ⟨⟨q_MeldError⟩, ga_MeldError, gt_MeldError, cl_MeldError, by rw [i_MeldError]; rfl⟩), (by rw [e_NoStrip]; exact PySem.W.mg_of X G0 a_NoStrip), (by rw [e_NoStrip]; exact ⟨⟨q_NoStrip⟩, ga_NoStrip, gt_NoStrip, cl_NoStrip, by rw [i_NoStrip]; rfl⟩), (by rw [e_MeldError, e_NoStrip]; exact x_MeldError_NoStrip), (by rw [e_NoStrip]; exact x_NoStrip_NoStrip), (by rw [e_MeldError]; exact k_MeldError_MeldError), (by rw [e_MeldError]; exact k_MeldError_ValueError), (by rw [e_NoStrip, e_MeldError]; exact k_NoStrip_MeldError), (by rw [e_NoStrip]; exact k_NoStrip_ValueError)⟩
  have F0 := fun_mk (st := s_own_numbers) l0 c0 k0
  have b0 := F0.binds (ps := ["strips"]) fun _ _ _ _ _ _ us hl => match us, hl with | [_], _ => rfl
  have D0 : Def K mg "own_numbers" s_own_numbers ["strips"] := ⟨_, _, F0, PySem.W.mg_of X G0 a0, b0⟩
  have F1 := fun_mk (st := s_exchange_cost) l1 c1 k1
  have b1 := F1.binds (ps := ["strips", "numbers", "place"]) fun _ _ _ _ _ _ us hl => match us, hl with | [_, _, _], _ => rfl
  have D1 : Def K mg "exchange_cost" s_exchange_cost ["strips", "numbers", "place"] := ⟨_, _, F1, PySem.W.mg_of X G0 a1, b1⟩
  have F2 := fun_mk (st := s_exchanged) l2 c2 k2
  have b2 := F2.binds (ps := ["numbers", "place"]) fun _ _ _ _ _ _ us hl => match us, hl with | [_, _], _ => rfl
  have D2 : Def K mg "exchanged" s_exchanged ["numbers", "place"] := ⟨_, _, F2, PySem.W.mg_of X G0 a2, b2⟩
  have F3 := fun_mk (st := s_check_neighbours) l3 c3 k3
  have b3 := F3.binds (ps := ["strips", "place"]) fun _ _ _ _ _ _ us hl => match us, hl with | [_, _], _ => rfl
  have D3 : Def K mg "check_neighbours" s_check_neighbours ["strips", "place"] := ⟨_, _, F3, PySem.W.mg_of X G0 a3, b3⟩
  have F4 := fun_mk (st := s_walk_places) l4 c4 k4
  have b4 := F4.binds (ps := ["strips", "places"]) fun _ _ _ _ _ _ us hl => match us, hl with | [_, _], _ => rfl
  have D4 : Def K mg "walk_places" s_walk_places ["strips", "places"] := ⟨_, _, F4, PySem.W.mg_of X G0 a4, b4⟩
  have F5 := fun_mk (st := s_law_at) l5 c5 k5
  have b5 := F5.binds (ps := ["_law_script", "_law_k"]) fun _ _ _ _ _ _ us hl => match us, hl with | [_, _], _ => rfl
  have D5 : Def K mg "_law_at" s_law_at ["_law_script", "_law_k"] := ⟨_, _, F5, PySem.W.mg_of X G0 a5, b5⟩
  have F6 := fun_mk (st := s_law_whole) l6 c6 k6
  have b6 := F6.binds (ps := ["_law_found"]) fun _ _ _ _ _ _ us hl => match us, hl with | [_], _ => rfl
  have D6 : Def K mg "_law_whole" s_law_whole ["_law_found"] := ⟨_, _, F6, PySem.W.mg_of X G0 a6, b6⟩
  have F7 := fun_mk (st := s_law_mix) l7 c7 k7
  have b7 := F7.binds (ps := ["_law_cell", "_law_place"]) fun _ _ _ _ _ _ us hl => match us, hl with | [_, _], _ => rfl
  have D7 : Def K mg "_law_mix" s_law_mix ["_law_cell", "_law_place"] := ⟨_, _, F7, PySem.W.mg_of X G0 a7, b7⟩
  have F8 := fun_mk (st := s_law_draw) l8 c8 k8
  have b8 := F8.binds (ps := ["_law_script", "_law_k"]) fun _ _ _ _ _ _ us hl => match us, hl with | [_, _], _ => rfl
  have D8 : Def K mg "_law_draw" s_law_draw ["_law_script", "_law_k"] := ⟨_, _, F8, PySem.W.mg_of X G0 a8, b8⟩
  have F9 := fun_mk (st := s_law_menu) l9 c9 k9
  have b9 := F9.binds (ps := ["_law_cell"]) fun _ _ _ _ _ _ us hl => match us, hl with | [_], _ => rfl
  have D9 : Def K mg "_law_menu" s_law_menu ["_law_cell"] := ⟨_, _, F9, PySem.W.mg_of X G0 a9, b9⟩
  have F10 := fun_mk (st := s_law_holder) l10 c10 k10
  have b10 := F10.binds (ps := ["_law_menu_here", "_law_k"]) fun _ _ _ _ _ _ us hl => match us, hl with | [_, _], _ => rfl
  have D10 : Def K mg "_law_holder" s_law_holder ["_law_menu_here", "_law_k"] := ⟨_, _, F10, PySem.W.mg_of X G0 a10, b10⟩
  have F11 := fun_mk (st := s_law_strips) l11 c11 k11
  have b11 := F11.binds (ps := ["_law_script", "_law_menu_here", "_law_many"]) fun _ _ _ _ _ _ us hl => match us, hl with | [_, _, _], _ => rfl
  have D11 : Def K mg "_law_strips" s_law_strips ["_law_script", "_law_menu_here", "_law_many"] := ⟨_, _, F11, PySem.W.mg_of X G0 a11, b11⟩
  have F12 := fun_mk (st := s_law_row) l12 c12 k12
  have b12 := F12.binds (ps := ["_law_found", "_law_due"]) fun _ _ _ _ _ _ us hl => match us, hl with | [_, _], _ => rfl
  have D12 : Def K mg "_law_row" s_law_row ["_law_found", "_law_due"] := ⟨_, _, F12, PySem.W.mg_of X G0 a12, b12⟩
  have F13 := fun_mk (st := s_law_tuples) l13 c13 k13
  have b13 := F13.binds (ps := ["_law_found", "_law_due"]) fun _ _ _ _ _ _ us hl => match us, hl with | [_, _], _ => rfl
  have D13 : Def K mg "_law_tuples" s_law_tuples ["_law_found", "_law_due"] := ⟨_, _, F13, PySem.W.mg_of X G0 a13, b13⟩
  have F14 := fun_mk (st := s_law_laid) l14 c14 k14
  have b14 := F14.binds (ps := ["_law_strips_here", "_law_places_here"]) fun _ _ _ _ _ _ us hl => match us, hl with | [_, _], _ => rfl
  have D14 : Def K mg "_law_laid" s_law_laid ["_law_strips_here", "_law_places_here"] := ⟨_, _, F14, PySem.W.mg_of X G0 a14, b14⟩
  have F15 := fun_mk (st := s_law_places) l15 c15 k15
  have b15 := F15.binds (ps := ["_law_script", "_law_strips_here"]) fun _ _ _ _ _ _ us hl => match us, hl with | [_, _], _ => rfl
  have D15 : Def K mg "_law_places" s_law_places ["_law_script", "_law_strips_here"] := ⟨_, _, F15, PySem.W.mg_of X G0 a15, b15⟩
  have F16 := fun_mk (st := s_law) l16 c16 k16
  have b16 := F16.binds (ps := ["_law_script"]) fun _ _ _ _ _ _ us hl => match us, hl with | [_], _ => rfl
  have D16 : Def K mg "law" s_law ["_law_script"] := ⟨_, _, F16, PySem.W.mg_of X G0 a16, b16⟩
  refine ⟨PySem.W.fnOf "law" "law" (defArgs s_law) (defBody s_law) (defScope s_law) .none kV16 dc16 pm16 an16 cd16 ct16, fun s v => .of_eq rfl, fun base _ _ => ?_⟩
  have C0 := ok_own_numbers (P := l.prog) (w := w) (base := base) G D0
  have C1 := ok_exchange_cost (P := l.prog) (w := w) (base := base) G D1
  have C2 := ok_exchanged (P := l.prog) (w := w) (base := base) G D2
  have C3 := ok_check_neighbours (P := l.prog) (w := w) (base := base) G D3
  have C5 := ok_law_at (P := l.prog) (w := w) (base := base) G D5
  have C6 := ok_law_whole (P := l.prog) (w := w) (base := base) G D6
  have C7 := ok_law_mix (P := l.prog) (w := w) (base := base) G D7
  have C9 := ok_law_menu (P := l.prog) (w := w) (base := base) G D9
  have C10 := ok_law_holder (P := l.prog) (w := w) (base := base) G D10
  have C14 := ok_law_laid (P := l.prog) (w := w) (base := base) G D14
  have C4 := ok_walk_places (P := l.prog) (w := w) (base := base) G D4 C0 C3 C1 C2
  have C8 := ok_law_draw (P := l.prog) (w := w) (base := base) G D8 C7 C5
  have C12 := ok_law_row (P := l.prog) (w := w) (base := base) G D12 C6
  have C13 := ok_law_tuples (P := l.prog) (w := w) (base := base) G D13 C6
  have C11 := ok_law_strips (P := l.prog) (w := w) (base := base) G D11 C8 C10
  have C15 := ok_law_places (P := l.prog) (w := w) (base := base) G D15 (cv_law_draw C8)
  have C16 := ok_law (P := l.prog) (w := w) (base := base) G D16 (cv_law_menu C9) (cv_law_strips C11) C15 C14 (cv_law_draw C8) C4 (cv_law_row C12) (cv_law_whole C6) (cv_law_tuples C13) (cv_law_at C5)
  exact (C16.at (PySem.W.mg_of X G0 a16) F16 D16).imp fun _ _ _ _ z => Pu.law_of z
end T
open PySem PySem.W PyProof.Rows
set_option maxRecDepth 100000 in
set_option maxHeartbeats 0 in
theorem PySem.Challenge.cw_stripmeld_k16_places_walked_holds : PySem.Challenge.rw_stripmeld_k16_places_walked.Holds := by
  w_on; o_law; k_head; (case hw => w_witness2)
  k_fill
  refine L2.walk_ofK (l := PySem.Challenge.rw_stripmeld_k16_places_walked) (n := 63) (k := 4) (x := "_law_script") (CX := L2.CX0) (sp := Pu.lawSp) rfl (by decide) rfl ⟨rfl, by decide, by decide⟩ (fun w h Y => PySem.W.kIn_of Y) ?F ?S ?C
  case F =>
    intro w mg fa h KX G hmg
    refine' T.all_mk KX G hmg ?a0 ?l0 ?c0 ?k0 ?a1 ?l1 ?c1 ?k1 ?a2 ?l2 ?c2 ?k2 ?a3 ?l3 ?c3 ?k3 ?a4 ?l4 ?c4 ?k4 ?a5 ?l5 ?c5 ?k5 ?a6 ?l6 ?c6 ?k6 ?a7 ?l7 ?c7 ?k7 ?a8 ?l8 ?c8 ?k8 ?a9 ?l9 ?c9 ?k9 ?a10 ?l10 ?c10 ?k10 ?a11 ?l11 ?c11 ?k11 ?a12 ?l12 ?c12 ?k12 ?a13 ?l13 ?c13 ?k13 ?a14 ?l14 ?c14 ?k14 ?a15 ?l15 ?c15 ?k15 ?a16 ?l16 ?c16 ?k16 ?z_ValueError ?z_bool ?z_int ?z_isinstance ?z_len ?z_list ?z_max ?z_range ?z_tuple ?a_MeldError ?q_MeldError ?ga_MeldError ?gt_MeldError ?cl_MeldError ?i_MeldError ?a_NoStrip ?q_NoStrip ?ga_NoStrip ?gt_NoStrip ?cl_NoStrip ?i_NoStrip ?x_MeldError_NoStrip ?x_NoStrip_NoStrip ?k_MeldError_MeldError ?k_MeldError_ValueError ?k_NoStrip_MeldError ?k_NoStrip_ValueError
    (case a0 => k_is)
    (case l0 => k_is)
    (case c0 => k_is)
    (case k0 => k_is)
    (case a1 => k_is)
    (case l1 => k_is)
    (case c1 => k_is)
    (case k1 => k_is)
    (case a2 => k_is)
    (case l2 => k_is)
    (case c2 => k_is)
    (case k2 => k_is)
    (case a3 => k_is)
    (case l3 => k_is)
    (case c3 => k_is)
    (case k3 => k_is)
    (case a4 => k_is)
    (case l4 => k_is)
    (case c4 => k_is)
    (case k4 => k_is)
    (case a5 => k_is)
    (case l5 => k_is)
    (case c5 => k_is)
    (case k5 => k_is)
    (case a6 => k_is)
    (case l6 => k_is)
    (case c6 => k_is)
    (case k6 => k_is)
    (case a7 => k_is)
    (case l7 => k_is)
    (case c7 => k_is)
    (case k7 => k_is)
    (case a8 => k_is)
    (case l8 => k_is)
    (case c8 => k_is)
    (case k8 => k_is)
    (case a9 => k_is)
    (case l9 => k_is)
    (case c9 => k_is)
    (case k9 => k_is)
    (case a10 => k_is)
    (case l10 => k_is)
    (case c10 => k_is)
    (case k10 => k_is)
    (case a11 => k_is)
    (case l11 => k_is)
    (case c11 => k_is)
    (case k11 => k_is)
    (case a12 => k_is)
    (case l12 => k_is)
    (case c12 => k_is)
    (case k12 => k_is)
    (case a13 => k_is)
    (case l13 => k_is)
    (case c13 => k_is)
    (case k13 => k_is)
    (case a14 => k_is)
    (case l14 => k_is)
    (case c14 => k_is)
    (case k14 => k_is)
    (case a15 => k_is)
    (case l15 => k_is)
    (case c15 => k_is)
    (case k15 => k_is)
    (case a16 => k_is)
    (case l16 => k_is)
    (case c16 => k_is)
    (case k16 => k_is)
    (case z_ValueError => k_is)
    (case z_bool => k_is)
    (case z_int => k_is)
    (case z_isinstance => k_is)
    (case z_len => k_is)
    (case z_list => k_is)
    (case z_max => k_is)
    (case z_range => k_is)
    (case z_tuple => k_is)
    (case a_MeldError => k_is)
    (case q_MeldError => k_exc)
    (case ga_MeldError => k_is)
    (case gt_MeldError => k_is)
    (case cl_MeldError => k_is)
    (case i_MeldError => k_is)
    (case a_NoStrip => k_is)
    (case q_NoStrip => k_exc)
    (case ga_NoStrip => k_is)
    (case gt_NoStrip => k_is)
    (case cl_NoStrip => k_is)
    (case i_NoStrip => k_is)
    (case x_MeldError_NoStrip => kts_exm)
    (case x_NoStrip_NoStrip => kts_exm)
    (case k_MeldError_MeldError => kit_is)
    (case k_MeldError_ValueError => kit_is)
    (case k_NoStrip_MeldError => kit_is)
    (case k_NoStrip_ValueError => kit_is)
  case S => exact fun K H a ns hl hO hS => ⟨a, ns, rfl, hS, fun _ => rfl⟩
  case C => exact fun _ _ _ _ z => z
