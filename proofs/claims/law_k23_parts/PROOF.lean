import PyProof.Rows.All
import Wide.All
import OpenK.AllK
import Wide.FinOn
import Lean
import PyProof.EqAt
import PyProof.EqKinds
import PyProof.TupleCall
import PySem.Challenge.RW_stripmeld_k23_parts
set_option Elab.async false
set_option linter.all false
set_option maxRecDepth 100000
/-! THE HAND LAYER, for ints, bools, texts, own classes, LISTS and tuples (index, slices, in, append, pop ..), calls, loops. Paste it whole ahead of your own text; what your proof does not reach may be deleted. -/
namespace L2
open PySem PySem.Spec PyProof.Rows

/-- a key: an int or a str -/
noncomputable abbrev Key := Sum Int Str
noncomputable def keyIs : Key → Value → Bool
  | .inl k, v => Value.isInt k v
  | .inr x, v => Value.isStrOf x v
noncomputable def keyH (w : World) : Key → Int
  | .inl k => hashInt k
  | .inr x => hashStr w x
theorem keyIs_shape : ∀ {k : Key} {v : Value}, keyIs k v = true → (∃ i t, k = Sum.inl i ∧ v = Value.int i t) ∨ (∃ x t, k = Sum.inr x ∧ v = Value.str x t)
  | .inl i, v, h => by
    obtain ⟨t, e⟩ := Value.isInt_shape (k := i) (v := v) h
    exact .inl ⟨i, t, rfl, e⟩
  | .inr x, v, h => by
    obtain ⟨t, e⟩ := Value.isStrOf_shape (x := x) (v := v) h
    exact .inr ⟨x, t, rfl, e⟩
theorem key_ll (a b : Int) : decide ((Sum.inl a : Key) = Sum.inl b) = (a == b) := by
  by_cases e : a = b
  · subst e; simp
  · have h : ¬ (Sum.inl a : Key) = Sum.inl b := fun q => e (Sum.inl.inj q)
    rw [decide_eq_false h]
    exact (beq_eq_false_iff_ne.mpr e).symm
theorem key_rr (a b : Str) : decide ((Sum.inr a : Key) = Sum.inr b) = decide (a = b) := by
  by_cases e : a = b
  · subst e; simp
  · have h : ¬ (Sum.inr a : Key) = Sum.inr b := fun q => e (Sum.inr.inj q)
    rw [decide_eq_false h, decide_eq_false e]
theorem key_lr (a : Int) (b : Str) : decide ((Sum.inl a : Key) = Sum.inr b) = false := decide_eq_false (fun q => nomatch q)
theorem key_rl (a : Str) (b : Int) : decide ((Sum.inr a : Key) = Sum.inl b) = false := decide_eq_false (fun q => nomatch q)

noncomputable def mixKind (prog : Program) (w : World) : PySem.KeyKind prog w Key where
  is := keyIs
  hash := keyH w
  inj := fun v a b ha hb => by
    rcases keyIs_shape ha with ⟨i, t, rfl, rfl⟩ | ⟨x, t, rfl, rfl⟩
    · rcases keyIs_shape hb with ⟨j, u, rfl, e⟩ | ⟨y, u, rfl, e⟩
      · injection e with e1 _; rw [e1]
      · exact nomatch e
    · rcases keyIs_shape hb with ⟨j, u, rfl, e⟩ | ⟨y, u, rfl, e⟩
      · exact nomatch e
      · injection e with e1 _; rw [e1]
  byValue := fun k v h => by
    rcases keyIs_shape h with ⟨i, t, rfl, rfl⟩ | ⟨x, t, rfl, rfl⟩ <;> rfl
  pyHash := fun hv h => by
    rcases keyIs_shape hv with ⟨i, t, rfl, rfl⟩ | ⟨x, t, rfl, rfl⟩
    · exact wpAny_pyHash_int h
    · exact wpAny_pyHash_str h
  eqBool := fun hu hv h => by
    rcases keyIs_shape hu with ⟨i, t, rfl, rfl⟩ | ⟨x, t, rfl, rfl⟩
    · rcases keyIs_shape hv with ⟨j, u, rfl, rfl⟩ | ⟨y, u, rfl, rfl⟩
      · rw [key_ll] at h; exact wpAny_eqBool_int h
      · rw [key_lr] at h; exact SeqAt.EqAt.int_str i t y u _ _ _ _ h
    · rcases keyIs_shape hv with ⟨j, u, rfl, rfl⟩ | ⟨y, u, rfl, rfl⟩
      · rw [key_rl] at h; exact SeqAt.EqAt.str_int x t j u _ _ _ _ h
      · rw [key_rr] at h; exact wpAny_eqBool_str h
  «strs» := fun k x t v h => by
    rcases keyIs_shape h with ⟨i, u, rfl, e⟩ | ⟨y, u, rfl, e⟩
    · exact nomatch e
    · injection e with e1 _
      subst e1
      cases v <;> rfl

end L2

namespace L2
open PySem PySem.Spec PyProof.Rows

/-- a value, without the heap -/
inductive V where
  | non | bl (b : Bool) | int (i : Int) | str (x : Str) | byt (b : Array UInt8) | flt (b : UInt64) | ref (a : Addr) | ty (n : String)
  deriving DecidableEq

noncomputable def RelV : V → Value → Prop
  | .non, u => u = Value.none
  | .bl b, u => u = Value.bool b
  | .int i, u => ∃ t, u = Value.int i t
  | .str x, u => ∃ t, u = Value.str x t
  | .byt b, u => ∃ t, u = Value.bytes b t
  | .flt b, u => ∃ t, u = Value.float b t
  | .ref a, u => u = Value.ref a
  | .ty n, u => u = Value.type n

noncomputable abbrev Vals : List V → List Value → Prop := Paired RelV
theorem Vals.length {xs : List V} {us : List Value} (r : Vals xs us) : xs.length = us.length := Paired.length r
theorem Vals.get : ∀ {xs : List V} {us : List Value} {i : Nat} {x : V}, Vals xs us → xs[i]? = some x → ∃ u, us[i]? = some u ∧ RelV x u
  | _, _, _, _, .nil, e => by simp at e
  | _, _, 0, _, .cons r _, e => by simp at e; subst e; exact ⟨_, rfl, r⟩
  | _, _, i + 1, x, .cons _ t, e => by
    obtain ⟨u, h1, h2⟩ := Vals.get (i := i) (x := x) t (by simpa using e)
    exact ⟨u, by simpa using h1, h2⟩
theorem Vals.append : ∀ {xs ys : List V} {us ws : List Value}, Vals xs us → Vals ys ws → Vals (xs ++ ys) (us ++ ws)
  | _, _, _, _, .nil, s => s
  | _, _, _, _, .cons r t, s => .cons r (Vals.append t s)
theorem Vals.take : ∀ {xs : List V} {us : List Value} (n : Nat), Vals xs us → Vals (xs.take n) (us.take n)
  | _, _, 0, _ => .nil
  | _, _, _ + 1, .nil => .nil
  | _, _, n + 1, .cons r t => .cons r (Vals.take n t)
theorem Vals.drop : ∀ {xs : List V} {us : List Value} (n : Nat), Vals xs us → Vals (xs.drop n) (us.drop n)
  | _, _, 0, r => r
  | _, _, _ + 1, .nil => .nil
  | _, _, n + 1, .cons _ t => Vals.drop n t
noncomputable def RelO : Option V → Option Value → Prop
  | some v, some u => RelV v u
  | none, none => True
  | _, _ => False
noncomputable def KV {κ : Type} : List (κ × V) → List (κ × Value) → Prop := Paired fun (p : κ × V) (q : κ × Value) => p.1 = q.1 ∧ RelV p.2 q.2

/-- a key of a dict (00_mix): an int or a text -/
noncomputable def kV : Key → V
  | .inl i => .int i
  | .inr x => .str x

/-- what stands at a tracked address -/
inductive HO where
  /-- a list -/
  | lst (xs : List V)
  /-- a tuple (never changes) -/
  | tup (xs : List V)
  /-- a dict whose keys are ints and texts; one whose keys are tuples of ints and texts (the empty one is both) -/
  | dK (kvs : List (Key × V)) | dT (kvs : List (List Key × V))
  /-- a set of ints: its members, its size -/
  | set (S : Int → Bool) (n : Nat)
  /-- an instance of the class at C, its dict at dx, its attributes -/
  | ins (C dx : Addr) (fs : List (Str × V))
  /-- the dict of the instance at x -/
  | own (x : Addr)
  /-- the dict of an exception -/
  | xd (fs : List (Str × V))
  /-- a bound method, f of x -/
  | met (f x : Addr)
  /-- a range object lo, lo + 1, .. below hi -/
  | rng (lo hi : Int)
  /-- a thing that is known to the object (the script; a dict while a loop walks it): read, never written while it is so -/
  | frz (o : Obj) (u : HO)
  /-- a code object's table -/
  | tbl (ps : Array Value)
  /-- any other thing, by what is true of its one object (a def of one's own: SetO a S n := HO.ext fun h => ..) -/
  | ext (φ : Heap → Prop)

noncomputable abbrev Hp := Addr → Option HO
noncomputable def upd (H : Hp) (a : Addr) (o : HO) : Hp := fun b => if b = a then some o else H b
theorem upd_same {H : Hp} {a : Addr} {o : HO} : upd H a o a = some o := by unfold upd; rw [if_pos rfl]
theorem upd_ne {H : Hp} {a b : Addr} {o : HO} (h : b ≠ a) : upd H a o b = H b := by unfold upd; rw [if_neg h]
theorem ne_of_none {H : Hp} {a b : Addr} {o : HO} (h : H a = some o) (h' : H b = none) : a ≠ b := by
  intro e; subst e; rw [h] at h'; cases h'

section
variable (P : Program) (w : World)
noncomputable def ObjOk (H : Hp) (h : Heap) (a : Addr) : HO → Prop
  | .lst xs => xs.length ≤ sizeLine ∧ ∃ (its : List Value) (n : Nat), Vals xs its ∧ h.get? a = some { cls := .type "list", data := .seq its.toArray n }
  | .tup xs => xs.length ≤ sizeLine ∧ ∃ its : List Value, Vals xs its ∧ IsTup h a its.toArray
  | .dK kvs => kvs.length ≤ sizeLine ∧ (a == sysModules) = false ∧ ∃ vs, KV kvs vs ∧ h.DictOf (mixKind P w) a vs
  | .dT kvs => kvs.length ≤ sizeLine ∧ (a == sysModules) = false ∧ ∃ xs : List (List Key × Addr × Value),
      Paired (fun (p : List Key × V) (q : List Key × Addr × Value) => p.1 = q.1 ∧ H q.2.1 = some (.tup (p.1.map kV)) ∧ RelV p.2 q.2.2) kvs xs ∧
      ∃ o es ep, h.get? a = some o ∧ o.ExactDict ∧ o.data = .dict es ep ∧ es.toList = xs.map (entryOfKey (tupleKind (mixKind P w))) ∧ (xs.map (·.1)).Nodup
  | .set S n => h.SetOf (intKind P w) a S n
  | .ins C dx fs => H dx = some (.own a) ∧ fs.length ≤ 1000 ∧ dx ≠ a ∧ h.get? a = some (PySem.W.instObj C dx) ∧
      ∃ mA, h.Ns1 dx mA ∧ (∀ f, RelO (fs.lookup f) (mA f)) ∧ PySem.Within mA (fs.map (·.1))
  | .own _ => ∃ o, h.get? a = some o
  | .xd fs => ∃ mA, h.Ns1 a mA ∧ ∀ f, RelO (fs.lookup f) (mA f)
  | .rng lo hi => ∃ t u v, h.get? a = some { cls := .type "range", data := .fields #[.int lo t, .int hi u, .int 1 v] }
  | .frz o u => h.get? a = some o ∧ ObjOk H h a u
  | .tbl ps => h.get? a = some { cls := .none, data := .fields ps }
  | .met f x => h.get? a = some (PySem.W.methodObj (.ref f) (.ref x))
  | .ext φ => φ h ∧ (∃ o, h.get? a = some o) ∧ ∀ h1 h2 : Heap, φ h1 → (∀ o, h1.get? a = some o → h2.get? a = some o) → φ h2
/-- the abstract heap is held -/
noncomputable def HOk (H : Hp) (h : Heap) : Prop := ∀ a o, H a = some o → ObjOk P w H h a o
end

section
variable {P : Program} {w : World} {H H' : Hp} {h h' : Heap} {a : Addr} {o : HO}
theorem ObjOk.lt (x : ObjOk P w H h a o) : a < h.objs.size := by
  cases o with
  | lst xs => obtain ⟨_, _, _, _, e⟩ := x; exact Heap.lt_size e
  | tup xs => obtain ⟨_, _, _, p⟩ := x; exact p.lt
  | dK kvs => obtain ⟨_, _, _, _, o, _, _, e, _⟩ := x; exact Heap.lt_size e
  | dT kvs => obtain ⟨_, _, _, _, o, _, _, e, _⟩ := x; exact Heap.lt_size e
  | set S n => obtain ⟨o, _, _, _, e, _⟩ := x; exact Heap.lt_size e
  | ins C dx fs => obtain ⟨_, _, _, e, _⟩ := x; exact Heap.lt_size e
  | own y => obtain ⟨_, e⟩ := x; exact Heap.lt_size e
  | xd fs => obtain ⟨_, ⟨_, _, _, e, _⟩, _⟩ := x; exact Heap.lt_size e
  | rng lo hi => obtain ⟨_, _, _, e⟩ := x; exact Heap.lt_size e
  | frz ob u => obtain ⟨e, _⟩ := x; exact Heap.lt_size e
  | tbl ps => exact Heap.lt_size (show h.get? a = some _ from x)
  | met f y => exact Heap.lt_size (show h.get? a = some _ from x)
  | ext φ => obtain ⟨_, ⟨_, e⟩, _⟩ := x; exact Heap.lt_size e
theorem Paired.mapP {α β : Type} {F G : α → β → Prop} : ∀ {l₁ : List α} {l₂ : List β}, Paired F l₁ l₂ → (∀ a b, F a b → G a b) → Paired G l₁ l₂
  | _, _, .nil, _ => .nil
  | _, _, .cons r t, f => .cons (f _ _ r) (Paired.mapP t f)
/-- what an object's description leans on: its own object, its own dict, the tuples -/
theorem ObjOk.stay (x : ObjOk P w H h a o) (k : ∀ b u, (b = a ∨ H b = some (.own a)) → h.get? b = some u → h'.get? b = some u)
    (ho : ∀ b, H b = some (.own a) → H' b = some (.own a)) (ht : ∀ b xs, H b = some (.tup xs) → H' b = some (.tup xs)) : ObjOk P w H' h' a o := by
  induction o with
  | lst xs => obtain ⟨z, its, n, r, e⟩ := x; exact ⟨z, its, n, r, k _ _ (.inl rfl) e⟩
  | tup xs => obtain ⟨z, its, r, ob, e, c⟩ := x; exact ⟨z, its, r, ob, k _ _ (.inl rfl) e, c⟩
  | dK kvs => obtain ⟨z, y, vs, r, ob, es, ep, e, c⟩ := x; exact ⟨z, y, vs, r, ob, es, ep, k _ _ (.inl rfl) e, c⟩
  | dT kvs =>
    obtain ⟨z, y, xs, r, ob, es, ep, e, c⟩ := x
    exact ⟨z, y, xs, Paired.mapP r fun p q z => ⟨z.1, ht _ _ z.2.1, z.2.2⟩, ob, es, ep, k _ _ (.inl rfl) e, c⟩
  | set S n => obtain ⟨ob, es, ep, t, e, c⟩ := x; exact ⟨ob, es, ep, t, k _ _ (.inl rfl) e, c⟩
  | ins C dx fs =>
    obtain ⟨d, z, ne, e, mA, ⟨od, es, ep, e2, c⟩, r⟩ := x
    exact ⟨ho _ d, z, ne, k _ _ (.inl rfl) e, mA, ⟨od, es, ep, k _ _ (.inr d) e2, c⟩, r⟩
  | own y => obtain ⟨ob, e⟩ := x; exact ⟨ob, k _ _ (.inl rfl) e⟩
  | xd fs => obtain ⟨mA, ⟨od, es, ep, e, c⟩, r⟩ := x; exact ⟨mA, ⟨od, es, ep, k _ _ (.inl rfl) e, c⟩, r⟩
  | rng lo hi => obtain ⟨t, u, v, e⟩ := x; exact ⟨t, u, v, k _ _ (.inl rfl) e⟩
  | frz ob u ih => obtain ⟨e, q⟩ := x; exact ⟨k _ _ (.inl rfl) e, ih q⟩
  | tbl ps =>
    have e : h.get? a = some { cls := .none, data := .fields ps } := x
    show h'.get? a = some { cls := .none, data := .fields ps }
    exact k a _ (.inl rfl) e
  | met f y =>
    have e : h.get? a = some (PySem.W.methodObj (.ref f) (.ref y)) := x
    show h'.get? a = some (PySem.W.methodObj (.ref f) (.ref y))
    exact k a _ (.inl rfl) e
  | ext φ => obtain ⟨p, ⟨o, e⟩, st⟩ := x; exact ⟨st _ _ p fun o q => k _ _ (.inl rfl) q, ⟨o, k _ _ (.inl rfl) e⟩, st⟩
theorem HOk.lt (x : HOk P w H h) (e : H a = some o) : a < h.objs.size := (x a o e).lt
theorem HOk.fresh (x : HOk P w H h) (e : h.objs.size ≤ a) : H a = none := by
  cases q : H a with
  | none => rfl
  | some u => exact absurd (Nat.lt_of_lt_of_le (x.lt q) e) (Nat.lt_irrefl _)
/-- every object of the heap is kept -/
theorem HOk.kept (x : HOk P w H h) (k : ∀ b u, h.get? b = some u → h'.get? b = some u) : HOk P w H h' := fun a o e =>
  (x a o e).stay (fun b u _ q => k b u q) (fun _ q => q) fun _ _ q => q
/-- a new object is laid and tracked -/
theorem HOk.laid (x : HOk P w H h) (k : ∀ b u, h.get? b = some u → h'.get? b = some u) (hp : h.objs.size ≤ a) (new : ObjOk P w (upd H a o) h' a o) : HOk P w (upd H a o) h' := fun b u e => by
  have hn := x.fresh hp
  by_cases hb : b = a
  · subst hb; rw [upd_same] at e; cases e; exact new
  · rw [upd_ne hb] at e
    exact (x b u e).stay (fun c v _ q => k c v q) (fun c q => by rw [upd_ne (ne_of_none q hn)]; exact q) fun c xs q => by rw [upd_ne (ne_of_none q hn)]; exact q
end

/-- what may be read as u: it is u, or a known u -/
noncomputable def Rd (H : Hp) (a : Addr) (u : HO) : Prop := H a = some u ∨ ∃ o, H a = some (.frz o u)
theorem Rd.ok {P : Program} {w : World} {H : Hp} {h : Heap} {a : Addr} {u : HO} (r : Rd H a u) (x : HOk P w H h) : ObjOk P w H h a u := by
  rcases r with r | ⟨o, r⟩
  · exact x a u r
  · obtain ⟨_, q⟩ := x a _ r
    exact q
/-- what may be written -/
noncomputable def Mut : Option HO → Prop
  | some (.lst _) => True
  | some (.dK _) => True
  | some (.dT _) => True
  | some (.set _ _) => True
  | some (.ins _ _ _) => True
  | some (.ext _) => True
  | _ => False
section
variable {P : Program} {w : World} {H : Hp} {h h' : Heap} {x e : Addr} {o' : HO}
/-- the object at e is changed: x itself, or the dict of the instance x -/
theorem HOk.write (ok : HOk P w H h) (mu : Mut (H x)) (he : e = x ∨ H e = some (.own x)) (k : ∀ b u, b ≠ e → h.get? b = some u → h'.get? b = some u) (heo : ∃ u, h'.get? e = some u)
    (new : ObjOk P w (upd H x o') h' x o') : HOk P w (upd H x o') h' := fun b u q => by
  have nown : ∀ c y, H c = some (.own y) → c ≠ x := fun c y r z => by subst z; rw [r] at mu; exact mu
  have ntup : ∀ c xs, H c = some (.tup xs) → c ≠ x := fun c xs r z => by subst z; rw [r] at mu; exact mu
  by_cases hb : b = x
  · subst hb; rw [upd_same] at q; cases q; exact new
  · rw [upd_ne hb] at q
    by_cases hbe : b = e
    · have q' : H b = some (.own x) := by
        rcases he with z | z
        · exact absurd (hbe.trans z) hb
        · rw [hbe]; exact z
      rw [q] at q'; cases q'
      obtain ⟨v, hv⟩ := heo
      exact ⟨v, by rw [hbe]; exact hv⟩
    · refine (ok b u q).stay (fun c v hc r => k c v ?_ r) (fun c r => by rw [upd_ne (nown c b r)]; exact r) fun c xs r => by rw [upd_ne (ntup c xs r)]; exact r
      rcases hc with rfl | hc
      · exact hbe
      · rintro rfl
        rcases he with z | z
        · exact nown c b hc z
        · rw [hc] at z; cases z; exact hb rfl
end

/-! ### kept unless tracked; of the frames at fs (the callers') the slots may change (an exception that passes writes there); of the records at ex (iterators) nothing is said -/
structure Un (fs ex : List Addr) (H H' : Hp) (h h' : Heap) : Prop where
  keep : ∀ b o, h.get? b = some o → H b = none → b ∉ fs → b ∉ ex → h'.get? b = some o
  slot : ∀ b o, h.get? b = some o → H b = none → b ∈ fs → b ∉ ex → ∃ sl, h'.get? b = some { o with slots := sl }
  free : ∀ b o, h.get? b = some o → H b = none → b ∉ ex → H' b = none
  there : ∀ b o, h.get? b = some o → b ∉ ex → ∃ o', h'.get? b = some o'
  tups : ∀ b xs, H b = some (.tup xs) → H' b = some (.tup xs)
  frzs : ∀ b o u, H b = some (.frz o u) → H' b = some (.frz o u)
  tbls : ∀ b ps, H b = some (.tbl ps) → ∃ more, H' b = some (.tbl (ps ++ more))
section
variable {fs fs' ex ex' : List Addr} {H H1 H2 : Hp} {h h1 h2 h' : Heap} {a x e : Addr} {o : HO}
theorem Un.any (u : Un fs ex H H1 h h1) {b : Addr} {ob : Obj} (q : h.get? b = some ob) (n : H b = none) (hx : b ∉ ex) : ∃ sl, h1.get? b = some { ob with slots := sl } := by
  by_cases hb : b ∈ fs
  · exact u.slot b ob q n hb hx
  · exact ⟨ob.slots, u.keep b ob q n hb hx⟩
theorem Un.kept (k : ∀ b u, h.get? b = some u → h'.get? b = some u) : Un fs ex H H h h' :=
  ⟨fun b ob q _ _ _ => k b ob q, fun b ob q _ _ _ => ⟨ob.slots, k b ob q⟩, fun _ _ _ n _ => n, fun b ob q _ => ⟨ob, k b ob q⟩, fun _ _ q => q, fun _ _ _ q => q, fun _ ps q => ⟨#[], by rw [q]; simp⟩⟩
theorem Un.refl : Un fs ex H H h h := Un.kept fun _ _ q => q
theorem Un.laid (k : ∀ b u, h.get? b = some u → h'.get? b = some u) (hp : h.objs.size ≤ a) (hn : H a = none) : Un fs ex H (upd H a o) h h' where
  keep := fun b u q _ _ _ => k b u q
  slot := fun b u q _ _ _ => ⟨u.slots, k b u q⟩
  free := fun b u q n _ => by rw [upd_ne (Nat.ne_of_lt (Nat.lt_of_lt_of_le (Heap.lt_size q) hp))]; exact n
  there := fun b u q _ => ⟨u, k b u q⟩
  tups := fun b xs q => by rw [upd_ne (ne_of_none q hn)]; exact q
  frzs := fun b u xs q => by rw [upd_ne (ne_of_none q hn)]; exact q
  tbls := fun b ps q => ⟨#[], by rw [upd_ne (ne_of_none q hn), q]; simp⟩
theorem Un.write (mu : Mut (H x)) (he : e = x ∨ H e = some (.own x)) (k : ∀ b u, b ≠ e → h.get? b = some u → h'.get? b = some u) (heo : ∃ u, h'.get? e = some u) : Un fs ex H (upd H x o) h h' := by
  have hx : ∀ b, H b = none → b ≠ x := fun b n z => by subst z; rw [n] at mu; exact mu
  have hb : ∀ b, H b = none → b ≠ e := fun b n z => by
    subst z
    rcases he with r | r
    · exact hx b n r
    · rw [n] at r; cases r
  have hm : ∀ b u, H b = some u → ¬ Mut (some u) → b ≠ x := fun b u q nm z => by subst z; rw [q] at mu; exact nm mu
  refine ⟨fun b u q n _ _ => k b u (hb b n) q, fun b u q n _ _ => ⟨u.slots, k b u (hb b n) q⟩, fun b u q n _ => by rw [upd_ne (hx b n)]; exact n, fun b u q _ => ?_,
    fun b xs q => by rw [upd_ne (hm b _ q fun z => z)]; exact q, fun b u xs q => by rw [upd_ne (hm b _ q fun z => z)]; exact q, fun b ps q => ⟨#[], by rw [upd_ne (hm b _ q fun z => z), q]; simp⟩⟩
  by_cases hbe : b = e
  · subst hbe; exact heo
  · exact ⟨u, k b u hbe q⟩
end

/-! ### the heap without what is tracked -/
noncomputable def trk (h : Heap) (H : Hp) : List Addr := (List.range h.objs.size).filter fun a => (H a).isSome
noncomputable def hidT (h : Heap) (H : Hp) : Heap := PySem.W.hideAll h (trk h H)
theorem hidT_size (h : Heap) (H : Hp) : (hidT h H).objs.size = h.objs.size := PySem.W.hideAll_size _ _
theorem hidT_get {h : Heap} {H : Hp} {b : Addr} {o : Obj} (e : h.get? b = some o) (n : H b = none) : (hidT h H).get? b = some o :=
  PySem.W.hideAll_get _ e fun hm => by
    have q : (H b).isSome = true := (List.mem_filter.mp hm).2
    rw [n] at q; simp at q
theorem of_hidT {h : Heap} {H : Hp} {b : Addr} {o : Obj} (e : (hidT h H).get? b = some o) : h.get? b = some o ∧ H b = none := by
  have e' : h.get? b = some o := PySem.W.of_hideAll (trk h H) e
  refine ⟨e', ?_⟩
  cases q : H b with
  | none => rfl
  | some x =>
    have hm : b ∈ trk h H := List.mem_filter.mpr ⟨List.mem_range.mpr (Heap.lt_size e'), by simp [q]⟩
    have z : (hidT h H).get? b = none := PySem.W.hideAll_none (trk h H) hm
    rw [z] at e; cases e

/-! ### OpenK's ledger, filled with every new object but one -/
noncomputable def allNews (g h : Heap) (L : Addr) : List (Addr × Obj) := (List.range h.objs.size).filterMap fun a => if a = L ∨ (g.get? a).isSome = true then none else (h.get? a).map fun o => (a, o)
noncomputable def rest (g h : Heap) (L d : Addr) : List (Addr × Obj) := (allNews g h L).filter fun p => decide (p.1 ≠ d)
end L2

namespace L2
open PySem PySem.Spec PyProof.Rows

/-- the module's facts, over the base: the heap at the law's entry without what is tracked there -/
structure Mod (K : PySem.W.Frag) (mg : Str → Option Value) (base : Heap) : Prop where
  kin : K.In base
  glob : base.Ns mainGlobals mg
  blt : ∃ mb, base.Ns builtinsNs mb ∧ ∀ x : Str, x ≠ "__name__" → mb x = bootBuiltins x
  nolimit : base.NoLimit

/-- the context: a def's body (or a comprehension's block) running. base: fixed through the whole law; s₀, H₀: the entry; outer: the frames whose slots others may change (a def's callers); stack: all frames that run;
   ex: iterators that were made ahead of the entry and are walked here (a comprehension's); fn: the names whose cells were made at the entry (a def: all; a comprehension's block: its own); calm: not within an except suite; pn: pins that every state bears; xe: what is wanted of an exception that leaves the code -/
structure Cx where
  prog : Program
  w : World
  K : PySem.W.Frag
  mg : Str → Option Value
  base : Heap
  A : Around
  N : List Str
  s₀ : Shared
  H₀ : Hp
  env : Env
  outer : List Env
  stack : List Env
  ex : List Addr
  fn : Str → Bool
  calm : Bool
  pn : List (Addr × Obj)
  xe : Value → Shared → Prop
/-- the callers' frames -/
noncomputable def frs (l : List Env) : List Addr := l.filterMap (·.frame)
noncomputable abbrev Cx.fs (X : Cx) : List Addr := frs X.outer

noncomputable def Vis (sc : Scope) (x : Str) : Prop := sc.names.lookup x = some .local ∨ sc.names.lookup x = some .cell ∨ sc.names.lookup x = some .free
noncomputable def Loc (sc : Scope) (x : Str) : Prop := sc.names.lookup x = some .local ∨ sc.names.lookup x = some .cell
noncomputable def Look (env : Env) (h : Heap) (m : Str → Option Value) (x : Str) (u : Value) : Prop :=
  (env.kindOf x = some .local ∧ m x = some u) ∨ ((env.kindOf x = some .cell ∨ env.kindOf x = some .free) ∧ ∃ c, env.cells.lookup x = some c ∧ h.IsCell c (some u))

structure Cx.Ok (X : Cx) : Prop where
  mod : Mod X.K X.mg X.base
  kind : X.env.scope.kind = .function
  glob : X.env.globals = mainGlobals
  blt : X.env.builtins = builtinsNs
  above : X.s₀.heap.objs.size ≤ X.env.locals
  inj : ∀ x y c, X.env.cells.lookup x = some c → X.env.cells.lookup y = some c → x = y
  has : ∀ x, (X.env.kindOf x = some .cell ∨ X.env.kindOf x = some .free) → ∃ c, X.env.cells.lookup x = some c
  cab : ∀ x c, X.fn x = true → X.env.cells.lookup x = some c → X.s₀.heap.objs.size ≤ c
  hd : X.calm = true → X.A.handled = none
  frames : X.A.frames = some X.stack
  stk : X.stack = X.outer ∨ (X.stack = X.env :: X.outer ∧ X.env.frame = some X.env.locals)
  exf : ∀ b ∈ X.ex, b ≠ X.env.locals ∧ ∀ x c, X.env.cells.lookup x = some c → c ≠ b
  bs : ∀ b o, X.base.get? b = some o → X.s₀.heap.get? b = some o ∧ X.H₀ b = none
  bsz : X.base.objs.size ≤ X.s₀.heap.objs.size
  noex : ∀ b o, X.base.get? b = some o → b ∉ X.ex
  exfs : ∀ b ∈ X.ex, b ∉ X.fs
  funs : X.s₀.heap.FunFrames X.base X.outer
  frf : ∀ b ∈ X.fs, X.H₀ b = none

structure Inv (X : Cx) (pins : List (Addr × Obj)) (σ : List (Option V)) (H : Hp) (s : Shared) : Prop where
  ok : X.Ok
  os : s.os = X.s₀.os
  bare : AllBare s.gens
  base : Un X.fs X.ex X.H₀ H X.s₀.heap s.heap
  loc : ∃ m, s.heap.Ns X.env.locals m ∧ ∀ (i : Nat) (x : Str) (v : V), X.N[i]? = some x → σ[i]? = some (some v) → Vis X.env.scope x → ∃ u, RelV v u ∧ Look X.env s.heap m x u
  cell : ∀ x c, X.env.cells.lookup x = some c → ∃ v, s.heap.IsCell c v
  free : H X.env.locals = none
  freeC : ∀ x c, X.env.cells.lookup x = some c → H c = none
  pin : ∀ p ∈ X.pn ++ pins, s.heap.get? p.1 = some p.2 ∧ H p.1 = none ∧ p.1 ≠ X.env.locals ∧ p.1 ∉ X.fs ∧ ∀ v, p.2.data ≠ .cell v
  hok : HOk X.prog X.w H s.heap
  len : σ.length = X.N.length

section
variable {X : Cx} {pins : List (Addr × Obj)} {σ : List (Option V)} {H H' : Hp} {s : Shared} {h' : Heap}

theorem Cx.Ok.nofr (ok : X.Ok) {b : Addr} {o : Obj} (e : X.base.get? b = some o) : b ∉ X.fs := fun hb => by
  have := (ok.funs.mem hb).1
  rw [e] at this; cases this
theorem Inv.bs (I : Inv X pins σ H s) : ∀ b o, X.base.get? b = some o → s.heap.get? b = some o ∧ H b = none := fun b o e =>
  ⟨I.base.keep b o (I.ok.bs b o e).1 (I.ok.bs b o e).2 (I.ok.nofr e) (I.ok.noex b o e), I.base.free b o (I.ok.bs b o e).1 (I.ok.bs b o e).2 (I.ok.noex b o e)⟩
theorem Inv.bk (I : Inv X pins σ H s) : ∀ b o, X.base.get? b = some o → s.heap.get? b = some o := fun b o e => (I.bs b o e).1
theorem Inv.mod (I : Inv X pins σ H s) : Mod X.K X.mg X.base := I.ok.mod
theorem Inv.kIn (I : Inv X pins σ H s) : X.K.In s.heap := I.ok.mod.kin.keeps I.bk
theorem Inv.lt (I : Inv X pins σ H s) : X.env.locals < s.heap.objs.size := let ⟨_, hn, _⟩ := I.loc; hn.lt
theorem Inv.sz (I : Inv X pins σ H s) : X.s₀.heap.objs.size ≤ s.heap.objs.size := Nat.le_trans I.ok.above (Nat.le_of_lt I.lt)
theorem Inv.nofs (I : Inv X pins σ H s) {a : Addr} (h : s.heap.objs.size ≤ a) : a ∉ X.fs := fun hb => by
  obtain ⟨_, o, ho, _⟩ := I.ok.funs.mem hb
  exact absurd (Nat.lt_of_lt_of_le (Heap.lt_size ho) (Nat.le_trans I.sz h)) (Nat.lt_irrefl _)
theorem Inv.cne (I : Inv X pins σ H s) : ∀ x c, X.env.cells.lookup x = some c → c ≠ X.env.locals := fun x c e z => by
  obtain ⟨v, o, ho, hd⟩ := I.cell x c e
  obtain ⟨m, ⟨o', es, ep, ho', hd', _⟩, _⟩ := I.loc
  rw [z, ho'] at ho; cases ho; rw [hd'] at hd; cases hd
theorem Inv.funs (I : Inv X pins σ H s) : s.heap.FunFrames X.base X.outer := by
  have all : ∀ (l : List Env), (∀ b ∈ frs l, b ∈ X.fs) → X.s₀.heap.FunFrames X.base l → s.heap.FunFrames X.base l := by
    intro l
    induction l with
    | nil => intro _ _; trivial
    | cons env r ih =>
      intro hs hl
      obtain ⟨hk, ⟨L, o, hf, hn, ho, hd⟩, hr⟩ := hl
      have hL : L ∈ X.fs := hs L (by unfold frs; rw [List.filterMap_cons, hf]; exact List.mem_cons_self)
      obtain ⟨sl, e⟩ := I.base.slot L o ho (I.ok.frf L hL) hL fun z => I.ok.exfs L z hL
      exact ⟨hk, ⟨L, _, hf, hn, e, hd⟩, ih (fun b hb => hs b (by unfold frs; rw [List.filterMap_cons, hf]; exact List.mem_cons_of_mem _ hb)) hr⟩
  exact all X.outer (fun _ hb => hb) I.ok.funs

/-- the frames that run, for a call -/
theorem Inv.stack (I : Inv X pins σ H s) : s.heap.FunFrames X.base X.stack := by
  rcases I.ok.stk with e | ⟨e, hf⟩
  · rw [e]; exact I.funs
  · rw [e]
    obtain ⟨m, hn, _⟩ := I.loc
    refine .cons (by rw [I.ok.kind]; decide) hf hn ?_ I.funs
    exact Heap.get?_none_of_le (Nat.le_trans I.ok.bsz I.ok.above)
theorem Inv.stkSub (I : Inv X pins σ H s) : ∀ b ∈ frs X.stack, b ∈ X.env.locals :: X.fs := fun b hb => by
  rcases I.ok.stk with e | ⟨e, hf⟩
  · rw [e] at hb; exact List.mem_cons_of_mem _ hb
  · rw [e] at hb
    unfold frs at hb
    rw [List.filterMap_cons, hf] at hb
    exact hb
theorem Inv.stkFree (I : Inv X pins σ H s) : ∀ b ∈ frs X.stack, H b = none := fun b hb => by
  rcases List.mem_cons.mp (I.stkSub b hb) with e | hb
  · rw [e]; exact I.free
  · obtain ⟨_, o, ho, _⟩ := I.ok.funs.mem hb
    exact I.base.free b o ho (I.ok.frf b hb) fun z => I.ok.exfs b z hb

/-- THE STEP: the untracked objects but the frame and the records at ch are kept (the callers' frames up to slots), the frame's map is kept, the new abstract heap is held -/
theorem Inv.step {g' : Array GenState} {t' : Nat} {d' : Drawn} {ch : List Addr} (I : Inv X pins σ H s)
    (hch : ∀ b ∈ ch, (b ∈ X.ex ∨ X.s₀.heap.objs.size ≤ b) ∧ b ≠ X.env.locals ∧ (∀ x c, X.env.cells.lookup x = some c → c ≠ b) ∧ ∀ p ∈ X.pn ++ pins, p.1 ≠ b)
    (keep : ∀ b o, b ≠ X.env.locals → b ∉ X.fs → b ∉ ch → s.heap.get? b = some o → H b = none → h'.get? b = some o)
    (slot : ∀ b o, b ≠ X.env.locals → b ∈ X.fs → b ∉ ch → s.heap.get? b = some o → H b = none → ∃ sl, h'.get? b = some { o with slots := sl }) (free : ∀ b o, b ∉ ch → s.heap.get? b = some o → H b = none → H' b = none)
    (there : ∀ b o, b ∉ ch → s.heap.get? b = some o → ∃ o', h'.get? b = some o')
    (tups : ∀ b xs, H b = some (.tup xs) → H' b = some (.tup xs)) (frzs : ∀ b o u, H b = some (.frz o u) → H' b = some (.frz o u)) (tbls : ∀ b ps, H b = some (.tbl ps) → ∃ more, H' b = some (.tbl (ps ++ more)))
    (ns : ∀ m, s.heap.Ns X.env.locals m → h'.Ns X.env.locals m) (hok : HOk X.prog X.w H' h') (hg : AllBare g') :
    Inv X pins σ H' { s with heap := h', gens := g', drawn := d', toks := t' } := by
  have neL : ∀ b o, X.s₀.heap.get? b = some o → b ≠ X.env.locals := fun b o e => Nat.ne_of_lt (Nat.lt_of_lt_of_le (Heap.lt_size e) I.ok.above)
  have neC : ∀ b o, X.s₀.heap.get? b = some o → b ∉ X.ex → b ∉ ch := fun b o e hx hb => by
    rcases (hch b hb).1 with z | z
    · exact hx z
    · exact absurd (Nat.lt_of_lt_of_le (Heap.lt_size e) z) (Nat.lt_irrefl _)
  have cellK : ∀ x c, X.env.cells.lookup x = some c → ∀ v, s.heap.IsCell c v → h'.IsCell c v := fun x c e v ⟨o, ho, hd⟩ => by
    have nch : c ∉ ch := fun z => (hch c z).2.2.1 x c e rfl
    by_cases hc : c ∈ X.fs
    · obtain ⟨sl, q⟩ := slot c o (I.cne x c e) hc nch ho (I.freeC x c e)
      exact ⟨_, q, hd⟩
    · exact ⟨o, keep c o (I.cne x c e) hc nch ho (I.freeC x c e), hd⟩
  refine ⟨I.ok, I.os, hg, ⟨fun b o e n hb hx => ?_, fun b o e n hb hx => ?_, fun b o e n hx => ?_, fun b o e hx => ?_, fun b xs e => tups b xs (I.base.tups b xs e), fun b o xs e => frzs b o xs (I.base.frzs b o xs e), fun b ps e => ?_⟩, ?_, fun x c e => ?_, ?_, fun x c e => ?_, fun p hp => ?_, hok, I.len⟩
  · exact keep b o (neL b o e) hb (neC b o e hx) (I.base.keep b o e n hb hx) (I.base.free b o e n hx)
  · obtain ⟨sl, e1⟩ := I.base.slot b o e n hb hx
    obtain ⟨sl', e2⟩ := slot b _ (neL b o e) hb (neC b o e hx) e1 (I.base.free b o e n hx)
    exact ⟨sl', e2⟩
  · obtain ⟨o', e1⟩ := I.base.there b o e hx
    exact free b o' (neC b o e hx) e1 (I.base.free b o e n hx)
  · obtain ⟨o', e1⟩ := I.base.there b o e hx
    exact there b o' (neC b o e hx) e1
  · obtain ⟨m1, e1⟩ := I.base.tbls b ps e
    obtain ⟨m2, e2⟩ := tbls b _ e1
    exact ⟨m1 ++ m2, by rw [e2, Array.append_assoc]⟩
  · obtain ⟨m, hn, hl⟩ := I.loc
    refine ⟨m, ns m hn, fun i x v e1 e2 e3 => ?_⟩
    obtain ⟨u, r, l⟩ := hl i x v e1 e2 e3
    refine ⟨u, r, ?_⟩
    rcases l with l | ⟨k, c, e, z⟩
    · exact .inl l
    · exact .inr ⟨k, c, e, cellK x c e _ z⟩
  · obtain ⟨v, z⟩ := I.cell x c e
    exact ⟨v, cellK x c e v z⟩
  · obtain ⟨m, ⟨o, _, _, ho, _⟩, _⟩ := I.loc
    exact free _ o (fun z => (hch _ z).2.1 rfl) ho I.free
  · obtain ⟨v, o, ho, hd⟩ := I.cell x c e
    exact free c o (fun z => (hch c z).2.2.1 x c e rfl) ho (I.freeC x c e)
  · obtain ⟨e, n, ne, nf, d⟩ := I.pin p hp
    have nch : p.1 ∉ ch := fun z => (hch p.1 z).2.2.2 p hp rfl
    exact ⟨keep p.1 p.2 ne nf nch e n, free p.1 p.2 nch e n, ne, nf, d⟩
/-- .. where the frame's own object is kept too -/
theorem Inv.un {t' : Nat} (I : Inv X pins σ H s) (u : Un X.fs [] H H' s.heap h') (hok : HOk X.prog X.w H' h') : Inv X pins σ H' { s with heap := h', toks := t' } := by
  obtain ⟨m, ⟨o, es, ep, ho, r⟩, _⟩ := id I.loc
  obtain ⟨sl, hL⟩ := u.any ho I.free (by simp)
  exact I.step (g' := s.gens) (d' := s.drawn) (ch := []) (fun _ z => nomatch z) (fun b o _ hb _ e n => u.keep b o e n hb (by simp)) (fun b o _ hb _ e n => u.slot b o e n hb (by simp)) (fun b o _ e n => u.free b o e n (by simp)) (fun b o _ e => u.there b o e (by simp)) u.tups u.frzs u.tbls (fun m' hm => by
    obtain ⟨o', es', ep', ho', r'⟩ := hm
    rw [ho] at ho'; cases ho'
    exact ⟨_, es', ep', hL, r'⟩) hok I.bare
/-- behind a call (or a comprehension's block): the slots of this frame may have changed too, the records at ch may have turned -/
theorem Inv.call {g' : Array GenState} {t' : Nat} {d' : Drawn} {ch : List Addr} (I : Inv X pins σ H s) (u : Un (frs X.stack) ch H H' s.heap h') (hok : HOk X.prog X.w H' h') (hg : AllBare g')
    (hch : ∀ b ∈ ch, (b ∈ X.ex ∨ X.s₀.heap.objs.size ≤ b) ∧ b ≠ X.env.locals ∧ (∀ x c, X.env.cells.lookup x = some c → c ≠ b) ∧ ∀ p ∈ X.pn ++ pins, p.1 ≠ b) :
    Inv X pins σ H' { s with heap := h', gens := g', drawn := d', toks := t' } := by
  obtain ⟨m, ⟨o, es, ep, ho, r⟩, _⟩ := id I.loc
  obtain ⟨sl, hL⟩ := u.any ho I.free fun z => (hch _ z).2.1 rfl
  exact I.step (ch := ch) hch (fun b o hL hb hc e n => u.keep b o e n (fun z => (List.mem_cons.mp (I.stkSub b z)).elim hL hb) hc) (fun b o _ _ hc e n => u.any e n hc) (fun b o hc e n => u.free b o e n hc) (fun b o hc e => u.there b o e hc) u.tups u.frzs u.tbls (fun m' hm => by
    obtain ⟨o', es', ep', ho', r'⟩ := hm
    rw [ho] at ho'; cases ho'
    exact ⟨_, es', ep', hL, r'⟩) hok hg
/-- an untracked record of ours (an iterator) has turned -/
theorem Inv.turned {t' : Nat} {it : Addr} (I : Inv X pins σ H s) (k : ∀ b o, b ≠ it → s.heap.get? b = some o → h'.get? b = some o) (hn : H it = none) (hL : it ≠ X.env.locals)
    (h1 : it ∈ X.ex ∨ X.s₀.heap.objs.size ≤ it) (h2 : ∀ x c, X.env.cells.lookup x = some c → c ≠ it) (h3 : ∀ p ∈ X.pn ++ pins, p.1 ≠ it) : Inv X pins σ H { s with heap := h', toks := t' } := by
  have nit : ∀ b u, H b = some u → b ≠ it := fun b u e z => by rw [z, hn] at e; cases e
  refine I.step (g' := s.gens) (d' := s.drawn) (ch := [it]) (fun b hb => ?_) (fun b o _ _ hc e _ => k b o (fun z => hc (by simp [z])) e) (fun b o _ _ hc e _ => ⟨o.slots, k b o (fun z => hc (by simp [z])) e⟩) (fun _ _ _ _ n => n)
    (fun b o hc e => ⟨o, k b o (fun z => hc (by simp [z])) e⟩) (fun _ _ e => e) (fun _ _ _ e => e) (fun b ps e => ⟨#[], by rw [e]; simp⟩) (fun m hm => ?_) (fun b u e => ?_) I.bare
  · have e : b = it := by simpa using hb
    subst e
    exact ⟨h1, hL, h2, h3⟩
  · obtain ⟨o, es, ep, ho, r⟩ := hm
    exact ⟨o, es, ep, k _ o (Ne.symm hL) ho, r⟩
  · refine (I.hok b u e).stay (fun c v hc q => k c v ?_ q) (fun _ q => q) fun _ _ q => q
    rcases hc with z | z
    · rw [z]; exact nit b u e
    · exact nit c _ z
theorem Inv.tok (I : Inv X pins σ H s) (t : Nat) : Inv X pins σ H { s with toks := t } := I.un (h' := s.heap) (t' := t) Un.refl I.hok
/-- all objects kept -/
theorem Inv.kept {t' : Nat} (I : Inv X pins σ H s) (k : ∀ b u, s.heap.get? b = some u → h'.get? b = some u) : Inv X pins σ H { s with heap := h', toks := t' } := I.un (Un.kept k) (I.hok.kept k)
/-- a new object laid and tracked -/
theorem Inv.laid {a : Addr} {o : HO} {t' : Nat} (I : Inv X pins σ H s) (k : ∀ b u, s.heap.get? b = some u → h'.get? b = some u) (hp : s.heap.objs.size ≤ a) (new : ObjOk X.prog X.w (upd H a o) h' a o) :
    Inv X pins σ (upd H a o) { s with heap := h', toks := t' } := I.un (Un.laid k hp (I.hok.fresh hp)) (I.hok.laid k hp new)
/-- an object written -/
theorem Inv.write {x e : Addr} {o : HO} {t' : Nat} (I : Inv X pins σ H s) (mu : Mut (H x)) (he : e = x ∨ H e = some (.own x)) (k : ∀ b u, b ≠ e → s.heap.get? b = some u → h'.get? b = some u) (heo : ∃ u, h'.get? e = some u)
    (new : ObjOk X.prog X.w (upd H x o) h' x o) : Inv X pins σ (upd H x o) { s with heap := h', toks := t' } := I.un (Un.write mu he k heo) (I.hok.write mu he k heo new)
theorem Inv.pins_of {pins' : List (Addr × Obj)} (I : Inv X pins σ H s) (h : ∀ p ∈ pins', s.heap.get? p.1 = some p.2 ∧ H p.1 = none ∧ p.1 ≠ X.env.locals ∧ p.1 ∉ X.fs ∧ ∀ v, p.2.data ≠ .cell v) : Inv X pins' σ H s :=
  ⟨I.ok, I.os, I.bare, I.base, I.loc, I.cell, I.free, I.freeC, fun p hp => (List.mem_append.mp hp).elim (fun z => I.pin p (List.mem_append_left _ z)) (h p), I.hok, I.len⟩

theorem nodup_ix {N : List Str} (hN : N.Nodup) {i j : Nat} {x : Str} (a : N[i]? = some x) (b : N[j]? = some x) : i = j := by
  obtain ⟨h1, e1⟩ := List.getElem?_eq_some_iff.mp a
  obtain ⟨h2, e2⟩ := List.getElem?_eq_some_iff.mp b
  exact (List.getElem_inj hN).mp (e1.trans e2.symm)

/-- a name is stored; what changed -/
theorem store_ok2 {M : Model} {A : Around} {E : Value → Shared → Prop} {i : Nat} {x : Str} {v : V} {u : Value} {Q : Unit → Shared → Prop} (I : Inv X pins σ H s) (hN : X.N.Nodup) (hi : X.N[i]? = some x) (hx : Loc X.env.scope x) (r : RelV v u)
    (h : ∀ s', Inv X pins (σ.set i (some v)) H s' → (∃ a, Heap.SameBut a s.heap s'.heap ∧ (a = X.env.locals ∨ X.env.cells.lookup x = some a)) → Q () s') (hf : X.fn x = true ∨ X.env.scope.names.lookup x = some .local := by first | exact .inl rfl | exact .inr rfl | assumption) : wpAny M A (storeName X.env x u) Q E s := by
  obtain ⟨m, hn, hl⟩ := id I.loc
  have hcls : (X.env.scope.kind == .class || (X.env.scope.kind == .module && X.env.locals != X.env.globals)) = false := by rw [I.ok.kind]; rfl
  have hiσ : i < σ.length := by rw [I.len]; exact (List.getElem?_eq_some_iff.mp hi).1
  have cne := I.cne
  have tracked : ∀ {a : Addr} {h' : Heap}, (∃ o, s.heap.get? a = some o ∧ H a = none) → Heap.SameBut a s.heap h' → HOk X.prog X.w H h' := fun {a h'} ha hs b ob e => by
    obtain ⟨_, _, hfree⟩ := ha
    refine (I.hok b ob e).stay (fun c w' hc q => (hs.2 c ?_).trans q) (fun _ q => q) fun _ _ q => q
    rintro rfl
    rcases hc with rfl | hc
    · rw [hfree] at e; cases e
    · rw [hfree] at hc; cases hc
  rcases hx with hk | hk
  · refine wpAny_storeName_local hk hn (fun h' hn' hs => ?_) hcls
    obtain ⟨oL, _, _, hoL, _⟩ := id hn
    refine h _ ⟨I.ok, I.os, I.bare, ⟨fun b o e n hb hx => ?_, fun b o e n hb hx => ?_, I.base.free, fun b o e hx => ?_, I.base.tups, I.base.frzs, I.base.tbls⟩, ⟨_, hn', fun j y v' e1 e2 e3 => ?_⟩, fun y c e => ?_, I.free, I.freeC, fun p hp => ?_, tracked ⟨oL, hoL, I.free⟩ hs, by simpa using I.len⟩ ⟨_, hs, .inl rfl⟩
    · exact (hs.2 b (Nat.ne_of_lt (Nat.lt_of_lt_of_le (Heap.lt_size e) I.ok.above))).trans (I.base.keep b o e n hb hx)
    · obtain ⟨sl, e1⟩ := I.base.slot b o e n hb hx
      exact ⟨sl, (hs.2 b (Nat.ne_of_lt (Nat.lt_of_lt_of_le (Heap.lt_size e) I.ok.above))).trans e1⟩
    · obtain ⟨o', e1⟩ := I.base.there b o e hx
      exact ⟨o', (hs.2 b (Nat.ne_of_lt (Nat.lt_of_lt_of_le (Heap.lt_size e) I.ok.above))).trans e1⟩
    · by_cases hj : j = i
      · subst hj
        rw [hi] at e1; cases e1
        rw [List.getElem?_set_self hiσ] at e2
        cases e2
        exact ⟨u, r, .inl ⟨hk, by simp⟩⟩
      · rw [List.getElem?_set_ne (Ne.symm hj)] at e2
        obtain ⟨u', r', q⟩ := hl j y v' e1 e2 e3
        refine ⟨u', r', ?_⟩
        rcases q with ⟨k, e⟩ | ⟨k, c, e, z⟩
        · refine .inl ⟨k, ?_⟩
          have : y ≠ x := fun e => hj (nodup_ix hN e1 (e ▸ hi))
          simp [this, e]
        · exact .inr ⟨k, c, e, z.sameBut hs (cne y c e)⟩
    · obtain ⟨w', z⟩ := I.cell y c e
      exact ⟨w', z.sameBut hs (cne y c e)⟩
    · obtain ⟨e, n, ne, nf, d⟩ := I.pin p hp
      exact ⟨(hs.2 p.1 ne).trans e, n, ne, nf, d⟩
  · have hfn : X.fn x = true := by
      rcases hf with z | z
      · exact z
      · rw [z] at hk; cases hk
    obtain ⟨c, hc⟩ := I.ok.has x (.inl hk)
    obtain ⟨w', z⟩ := I.cell x c hc
    refine wpAny_storeName_cell I.ok.kind hk hc z (fun h' hc' hs => ?_)
    obtain ⟨oc, hoc, hocd⟩ := id z
    refine h { s with heap := h' } ⟨I.ok, I.os, I.bare, ⟨fun b o e n hb hx => ?_, fun b o e n hb hx => ?_, I.base.free, fun b o e hx => ?_, I.base.tups, I.base.frzs, I.base.tbls⟩, ⟨m, hn.sameBut hs (Ne.symm (cne x c hc)), fun j y v' e1 e2 e3 => ?_⟩, fun y c' e => ?_, I.free, I.freeC, fun p hp => ?_, tracked ⟨oc, hoc, I.freeC x c hc⟩ hs, by simpa using I.len⟩ ⟨c, hs, .inr hc⟩
    · exact (hs.2 b (Nat.ne_of_lt (Nat.lt_of_lt_of_le (Heap.lt_size e) (I.ok.cab x c hfn hc)))).trans (I.base.keep b o e n hb hx)
    · obtain ⟨sl, e1⟩ := I.base.slot b o e n hb hx
      exact ⟨sl, (hs.2 b (Nat.ne_of_lt (Nat.lt_of_lt_of_le (Heap.lt_size e) (I.ok.cab x c hfn hc)))).trans e1⟩
    · obtain ⟨o', e1⟩ := I.base.there b o e hx
      exact ⟨o', (hs.2 b (Nat.ne_of_lt (Nat.lt_of_lt_of_le (Heap.lt_size e) (I.ok.cab x c hfn hc)))).trans e1⟩
    · by_cases hj : j = i
      · subst hj
        rw [hi] at e1; cases e1
        rw [List.getElem?_set_self hiσ] at e2
        cases e2
        exact ⟨u, r, .inr ⟨.inl hk, c, hc, hc'⟩⟩
      · rw [List.getElem?_set_ne (Ne.symm hj)] at e2
        obtain ⟨u', r', q⟩ := hl j y v' e1 e2 e3
        refine ⟨u', r', ?_⟩
        rcases q with q | ⟨k, c', e, z'⟩
        · exact .inl q
        · refine .inr ⟨k, c', e, z'.sameBut hs ?_⟩
          rintro rfl
          exact hj (nodup_ix hN e1 (I.ok.inj _ _ _ e hc ▸ hi))
    · by_cases hcc : c' = c
      · subst hcc; exact ⟨_, hc'⟩
      · obtain ⟨w2, z2⟩ := I.cell y c' e
        exact ⟨w2, z2.sameBut hs hcc⟩
    · obtain ⟨e, n, ne, nf, d⟩ := I.pin p hp
      refine ⟨(hs.2 p.1 ?_).trans e, n, ne, nf, d⟩
      intro q
      rw [q, hoc] at e
      have q' : oc = p.2 := Option.some.inj e
      exact d w' (by rw [← q']; exact hocd)
theorem store_ok {M : Model} {A : Around} {E : Value → Shared → Prop} {i : Nat} {x : Str} {v : V} {u : Value} {Q : Unit → Shared → Prop} (I : Inv X pins σ H s) (hN : X.N.Nodup) (hi : X.N[i]? = some x) (hx : Loc X.env.scope x) (r : RelV v u)
    (h : ∀ s', Inv X pins (σ.set i (some v)) H s' → Q () s') (hf : X.fn x = true ∨ X.env.scope.names.lookup x = some .local := by first | exact .inl rfl | exact .inr rfl | assumption) : wpAny M A (storeName X.env x u) Q E s :=
  store_ok2 I hN hi hx r (fun s' I' _ => h s' I') hf
/-- behind a call or a block, the state as it is -/
theorem Inv.call' {s' : Shared} {ch : List Addr} (I : Inv X pins σ H s) (ho : s'.os = s.os) (u : Un (frs X.stack) ch H H' s.heap s'.heap) (hok : HOk X.prog X.w H' s'.heap) (hg : AllBare s'.gens)
    (hch : ∀ b ∈ ch, (b ∈ X.ex ∨ X.s₀.heap.objs.size ≤ b) ∧ b ≠ X.env.locals ∧ (∀ x c, X.env.cells.lookup x = some c → c ≠ b) ∧ ∀ p ∈ X.pn ++ pins, p.1 ≠ b) : Inv X pins σ H' s' := by
  obtain ⟨h', g', d', t', o'⟩ := s'
  have e : o' = s.os := ho
  subst e
  exact I.call (g' := g') (t' := t') (d' := d') u hok hg hch
end

/-! ### the judgements -/
/-- an exception: its class, its own dict's address (where it has one), the abstract heap behind it -/
noncomputable abbrev XK := Value → Option Addr → Hp → Prop
noncomputable abbrev St := List (Option V)
noncomputable abbrev VK := V → Hp → Prop
/-- an expression's reading; a test's; an argument list's -/
noncomputable abbrev TE := St → Hp → VK → Prop
noncomputable abbrev TT := St → Hp → (Bool → Hp → Prop) → Prop
noncomputable abbrev TA := St → Hp → (List V → Hp → Prop) → Prop
/-- what is wanted behind a statement -/
structure Ends where
  nx : St → Hp → Prop
  rt : VK
  bk : St → Hp → Prop := fun _ _ => False
  ct : St → Hp → Prop := fun _ _ => False
noncomputable abbrev TS := Ends → St → Hp → Prop

noncomputable def EP (X : Cx) (pins : List (Addr × Obj)) (σ : St) (Q : VK) (u : Value) (s' : Shared) : Prop := ∃ v H', Inv X pins σ H' s' ∧ RelV v u ∧ Q v H'
noncomputable def TP (X : Cx) (pins : List (Addr × Obj)) (σ : St) (Q : Bool → Hp → Prop) (b : Bool) (s' : Shared) : Prop := ∃ H', Inv X pins σ H' s' ∧ Q b H'
noncomputable def AP (X : Cx) (pins : List (Addr × Obj)) (σ : St) (Q : List V → Hp → Prop) (us : List Value) (s' : Shared) : Prop := ∃ vs H', Inv X pins σ H' s' ∧ Vals vs us ∧ Q vs H'
noncomputable def SP (X : Cx) (pins : List (Addr × Obj)) (D : Ends) (f : Flow) (s' : Shared) : Prop :=
  match f with
  | .next => ∃ σ' H', Inv X pins σ' H' s' ∧ D.nx σ' H'
  | .brk => ∃ σ' H', Inv X pins σ' H' s' ∧ D.bk σ' H'
  | .cont => ∃ σ' H', Inv X pins σ' H' s' ∧ D.ct σ' H'
  | .ret u => ∃ v σ' H', Inv X pins σ' H' s' ∧ RelV v u ∧ D.rt v H'

noncomputable def PE (X : Cx) (e : Expr) (t : TE) : Prop :=
  ∀ (pins : List (Addr × Obj)) (s : Shared) (σ : St) (H : Hp) (Q : VK), Inv X pins σ H s → t σ H Q → wpAny (model X.prog X.w) X.A (eval e X.env) (EP X pins σ Q) X.xe s
noncomputable def PT (X : Cx) (e : Expr) (t : TT) : Prop :=
  ∀ (pins : List (Addr × Obj)) (s : Shared) (σ : St) (H : Hp) (Q : Bool → Hp → Prop), Inv X pins σ H s → t σ H Q → wpAny (model X.prog X.w) X.A (isTrue e X.env (eval e X.env)) (TP X pins σ Q) X.xe s
/-- a test whatever its 'whole' is (and, or) -/
noncomputable def PW (X : Cx) (e : Expr) (t : TT) : Prop :=
  ∀ (whole : Sem Value) (pins : List (Addr × Obj)) (s : Shared) (σ : St) (H : Hp) (Q : Bool → Hp → Prop), Inv X pins σ H s → t σ H Q → wpAny (model X.prog X.w) X.A (isTrue e X.env whole) (TP X pins σ Q) X.xe s
theorem PW.pt {X : Cx} {e : Expr} {t : TT} (h : PW X e t) : PT X e t := h _
/-- an argument list (no star), from the left -/
noncomputable def PA (X : Cx) (es : List Expr) (t : TA) : Prop :=
  ∀ (pos : Pos) (pins : List (Addr × Obj)) (s : Shared) (σ : St) (H : Hp) (Q : List V → Hp → Prop), Inv X pins σ H s → t σ H Q → wpAny (model X.prog X.w) X.A (spliced (backTo pos (starEach es X.env))) (AP X pins σ Q) X.xe s
noncomputable def PS (X : Cx) (st : Stmt) (t : TS) : Prop :=
  ∀ (pins : List (Addr × Obj)) (s : Shared) (σ : St) (H : Hp) (D : Ends), Inv X pins σ H s → t D σ H → wpAny (model X.prog X.w) X.A (exec st X.env) (SP X pins D) X.xe s
noncomputable def PSs (X : Cx) (st : List Stmt) (t : TS) : Prop :=
  ∀ (pins : List (Addr × Obj)) (s : Shared) (σ : St) (H : Hp) (D : Ends), Inv X pins σ H s → t D σ H → wpAny (model X.prog X.w) X.A (execs st X.env) (SP X pins D) X.xe s
/-- weaken the end -/
theorem thn {α : Type} {t : Sem α} {Q Q' : α → Shared → Prop} {M : Model} {A : Around} {E : Value → Shared → Prop} {s : Shared} (h : wpAny M A t Q E s) (hQ : ∀ a s, Q a s → Q' a s) : wpAny M A t Q' E s := wpAny_mono h hQ fun _ _ x => x
end L2

namespace L2
open PySem PySem.Spec PyProof.Rows
section
variable {X : Cx}

/-- two expressions in a row -/
theorem bin {a b : Expr} {ta tb : TE} (ha : PE X a ta) (hb : PE X b tb) {pins : List (Addr × Obj)} {s : Shared} {σ : St} {H : Hp} {R : V → V → Hp → Prop} (I : Inv X pins σ H s) (h : ta σ H fun x H1 => tb σ H1 fun y H2 => R x y H2)
    {α : Type} {Q : α → Shared → Prop} {f : Value → Value → Sem α}
    (hf : ∀ v u s2 x y H2, Inv X pins σ H2 s2 → RelV x v → RelV y u → R x y H2 → wpAny (model X.prog X.w) X.A (f v u) Q X.xe s2) :
    wpAny (model X.prog X.w) X.A (eval a X.env) (fun v s₁ => wpAny (model X.prog X.w) X.A (eval b X.env) (fun u s₂ => wpAny (model X.prog X.w) X.A (f v u) Q X.xe s₂) X.xe s₁) X.xe s := by
  refine thn (ha pins s σ H _ I h) fun v s1 ⟨x, H1, I1, r1, q1⟩ => ?_
  refine thn (hb pins s1 σ H1 _ I1 q1) fun u s2 ⟨y, H2, I2, r2, q2⟩ => ?_
  exact hf v u s2 x y H2 I2 r1 r2 q2

/-! ### names and constants -/
noncomputable def tVar (i : Nat) : TE := fun σ H Q => ∃ v, σ[i]? = some (some v) ∧ Q v H
noncomputable def tC (v : V) : TE := fun _ H Q => Q v H
theorem pe_var {i : Nat} {x : Str} {pos : Pos} (hN : X.N[i]? = some x) (hv : Vis X.env.scope x) (hd : (x == ("__debug__" : Str)) = false := by decide) (hcd : (x == ("__classdict__" : Str)) = false := by decide) : PE X (.Name x pos) (tVar i) := by
  intro pins s σ H Q I h
  obtain ⟨v, e, h⟩ := h
  obtain ⟨m, hn, hl⟩ := I.loc
  obtain ⟨u, r, l⟩ := hl i x v hN e hv
  have fin : EP X pins σ Q u s := ⟨v, H, I, r, h⟩
  rcases l with ⟨hk, hm⟩ | ⟨hk, c, hc, hcell⟩
  · exact wpAny_Name (wpAny_loadName_local I.ok.kind hk hn hm fin) hd
  · rcases hk with hk | hk
    · exact wpAny_Name (wpAny_loadName_cell I.ok.kind hk hc hcell fin) hd
    · exact wpAny_Name (wpAny_loadName_free I.ok.kind hk hc hcell fin hcd) hd
theorem pe_int {i j pos} : PE X (.Constant (.int i) j pos) (tC (.int i)) := fun _ _ _ H _ I h => wpAny_Constant_int ⟨.int i, H, I.tok _, ⟨_, rfl⟩, h⟩
theorem pe_bl {b j pos} : PE X (.Constant (.bool b) j pos) (tC (.bl b)) := fun _ _ _ H _ I h => Constant_bool ⟨.bl b, H, I, rfl, h⟩
theorem pe_str {x j pos} : PE X (.Constant (.str x) j pos) (tC (.str x)) := fun _ _ _ H _ I h => Calls.Constant_str ⟨.str x, H, I.tok _, ⟨_, rfl⟩, h⟩

/-- a global name of the def -/
noncomputable def Gl (X : Cx) (x : Str) : Prop := X.env.kindOf x = some .globalImplicit
theorem ld_glob {E : Value → Shared → Prop} {pins : List (Addr × Obj)} {s : Shared} {σ : St} {H : Hp} {x : Str} {u : Value} {pos : Pos} {Q : Value → Shared → Prop} (I : Inv X pins σ H s) (hg : Gl X x) (hm : X.mg x = some u) (h : Q u s)
    (hd : (x == ("__debug__" : Str)) = false := by decide) : wpAny (model X.prog X.w) X.A (eval (.Name x pos) X.env) Q E s :=
  Calls.Name_function_global I.ok.kind hg (Calls.loadGlobal_global (by rw [I.ok.glob]; exact I.mod.glob.keeps I.bk) hm h) hd
theorem ld_blt {E : Value → Shared → Prop} {pins : List (Addr × Obj)} {s : Shared} {σ : St} {H : Hp} {x : Str} {u : Value} {pos : Pos} {Q : Value → Shared → Prop} (I : Inv X pins σ H s) (hg : Gl X x) (hm : X.mg x = none) (hv : bootBuiltins x = some u) (h : Q u s)
    (hn : x ≠ "__name__" := by decide) (hd : (x == ("__debug__" : Str)) = false := by decide) : wpAny (model X.prog X.w) X.A (eval (.Name x pos) X.env) Q E s := by
  obtain ⟨mb, h1, h2⟩ := I.mod.blt
  exact Calls.Name_function_global I.ok.kind hg (Calls.loadGlobal_builtin (by rw [I.ok.glob]; exact I.mod.glob.keeps I.bk) hm (by rw [I.ok.blt]; exact h1.keeps I.bk) ((h2 x hn).trans hv) h) hd
/-- a module's constant, a class, a function, as a value -/
theorem pe_glob {x : Str} {v : V} {u : Value} {pos : Pos} (hg : Gl X x) (hm : X.mg x = some u) (r : RelV v u) (hd : (x == ("__debug__" : Str)) = false := by decide) : PE X (.Name x pos) (tC v) :=
  fun _ _ _ H _ I h => ld_glob I hg hm ⟨v, H, I, r, h⟩ hd
theorem pe_bltn {x : Str} {v : V} {u : Value} {pos : Pos} (hg : Gl X x) (hm : X.mg x = none) (hv : bootBuiltins x = some u) (r : RelV v u) (hn : x ≠ "__name__" := by decide) (hd : (x == ("__debug__" : Str)) = false := by decide) : PE X (.Name x pos) (tC v) :=
  fun _ _ _ H _ I h => ld_blt I hg hm hv ⟨v, H, I, r, h⟩ hn hd

/-! ### arithmetic -/
variable {a b : Expr} {ta tb : TE} {pos : Pos}
/-! ### comparisons -/
/-! ### and, or, not -/
variable {tA tB' : TT} {rest : List Expr}
noncomputable def tAnd (t u : TT) : TT := fun σ H Q => t σ H fun c H1 => if c = true then u σ H1 Q else Q false H1
noncomputable def tOr (t u : TT) : TT := fun σ H Q => t σ H fun c H1 => if c = true then Q true H1 else u σ H1 Q
noncomputable def tNot (t : TT) : TT := fun σ H Q => t σ H fun c H1 => Q (!c) H1
theorem pw_and1 (ha : PT X a tA) : PW X (.BoolOp .And [a] pos) tA := by
  intro wh pins s σ H Q I h
  refine isTrue_and (thn (ha pins s σ H Q I h) fun c s1 e => ?_)
  cases c with
  | true => exact isTrue_and_nil e
  | false => exact e
theorem pw_or1 (ha : PT X a tA) : PW X (.BoolOp .Or [a] pos) tA := by
  intro wh pins s σ H Q I h
  refine isTrue_or (thn (ha pins s σ H Q I h) fun c s1 e => ?_)
  cases c with
  | false => exact isTrue_or_nil e
  | true => exact e
theorem pw_and (ha : PT X a tA) (hb : PW X (.BoolOp .And (b :: rest) pos) tB') : PW X (.BoolOp .And (a :: b :: rest) pos) (tAnd tA tB') := by
  intro wh pins s σ H Q I h
  refine isTrue_and (thn (ha pins s σ H _ I h) fun c s1 ⟨H1, I1, q1⟩ => ?_)
  cases c with
  | true => exact hb wh pins s1 σ H1 Q I1 q1
  | false => exact ⟨H1, I1, q1⟩
theorem pw_or (ha : PT X a tA) (hb : PW X (.BoolOp .Or (b :: rest) pos) tB') : PW X (.BoolOp .Or (a :: b :: rest) pos) (tOr tA tB') := by
  intro wh pins s σ H Q I h
  refine isTrue_or (thn (ha pins s σ H _ I h) fun c s1 ⟨H1, I1, q1⟩ => ?_)
  cases c with
  | true => exact ⟨H1, I1, q1⟩
  | false => exact hb wh pins s1 σ H1 Q I1 q1
theorem pt_not (ha : PT X a tA) : PT X (.UnaryOp .Not a pos) (tNot tA) := by
  intro pins s σ H Q I h
  exact isTrue_not (ha pins s σ H (fun c H1 => Q (!c) H1) I h)
/-- .. as values (bools) -/
noncomputable def tAndV (ta tb : TE) : TE := fun σ H Q => ta σ H fun x H1 => ∃ c, x = .bl c ∧ if c = true then tb σ H1 Q else Q (.bl false) H1
noncomputable def tNotV (ta : TE) : TE := fun σ H Q => ta σ H fun x H1 => ∃ c, x = .bl c ∧ Q (.bl (!c)) H1
theorem pe_one {op} {t : TE} (h : PE X a t) : PE X (.BoolOp op [a] pos) t := fun pins s σ H Q I hw => BoolOp_one (h pins s σ H Q I hw)
theorem pe_and (ha : PE X a ta) (hb : PE X (.BoolOp .And (b :: rest) pos) tb) : PE X (.BoolOp .And (a :: b :: rest) pos) (tAndV ta tb) := by
  intro pins s σ H Q I h
  refine BoolOp_and (thn (ha pins s σ H _ I h) fun v s1 ⟨x, H1, I1, r1, q1⟩ => ?_)
  obtain ⟨c, rfl, q1⟩ := q1
  cases r1
  refine wpAny_truthy_bool ?_
  cases c with
  | true => exact hb pins s1 σ H1 Q I1 q1
  | false => exact ⟨.bl false, H1, I1, rfl, q1⟩
theorem pe_not (ha : PE X a ta) : PE X (.UnaryOp .Not a pos) (tNotV ta) := by
  intro pins s σ H Q I h
  refine UnaryOp_ (thn (ha pins s σ H _ I h) fun v s1 ⟨x, H1, I1, r1, q1⟩ => ?_)
  obtain ⟨c, rfl, q1⟩ := q1
  cases r1
  exact not_of (wpAny_truthy_bool ⟨.bl (!c), H1, I1, rfl, q1⟩)
end
end L2

namespace L2
open PySem PySem.Spec PyProof.Rows

/-! ### a list, a tuple that is read: tracked, frozen, or an object of the module -/
noncomputable def SqL (K : PySem.W.Frag) (H : Hp) (a : Addr) (xs : List V) : Prop :=
  Rd H a (.lst xs) ∨
    ∃ (o : Obj) (its : Array Value) (n : Nat), K.lookup a = some o ∧ o.cls = .type "list" ∧ o.dict = none ∧ o.data = .seq its n ∧ its.size ≤ sizeLine ∧ Vals xs its.toList
noncomputable def SqT (K : PySem.W.Frag) (H : Hp) (a : Addr) (xs : List V) : Prop :=
  Rd H a (.tup xs) ∨
    ∃ (o : Obj) (its : Array Value) (n : Nat), K.lookup a = some o ∧ o.cls = .type "tuple" ∧ o.data = .seq its n ∧ its.size ≤ sizeLine ∧ Vals xs its.toList
noncomputable def absV : Value → Option V
  | .none => some .non
  | .bool b => some (.bl b)
  | .int i _ => some (.int i)
  | .str x _ => some (.str x)
  | .bytes b _ => some (.byt b)
  | .float b _ => some (.flt b)
  | .ref a => some (.ref a)
  | .type n => some (.ty n)
  | _ => none
theorem RelV.abs {x : V} {u : Value} (r : RelV x u) : absV u = some x := by
  cases x with
  | non => cases r; rfl
  | bl _ => cases r; rfl
  | int _ => obtain ⟨t, rfl⟩ := r; rfl
  | str _ => obtain ⟨t, rfl⟩ := r; rfl
  | byt _ => obtain ⟨t, rfl⟩ := r; rfl
  | flt _ => obtain ⟨t, rfl⟩ := r; rfl
  | ref _ => cases r; rfl
  | ty _ => cases r; rfl
theorem RelV.inj {x y : V} {u : Value} (r : RelV x u) (q : RelV y u) : x = y := Option.some.inj (r.abs.symm.trans q.abs)
theorem Vals.inj : ∀ {xs ys : List V} {us : List Value}, Vals xs us → Vals ys us → xs = ys
  | _, _, _, .nil, .nil => rfl
  | _, _, _, .cons r t, .cons r' t' => by rw [r.inj r', Vals.inj t t']
section
variable {X : Cx} {pins : List (Addr × Obj)} {σ : St} {H : Hp} {s : Shared} {a : Addr} {xs ys : List V}
theorem SqL.of {K : PySem.W.Frag} (h : H a = some (.lst xs)) : SqL K H a xs := .inl (.inl h)
theorem SqT.of {K : PySem.W.Frag} (h : H a = some (.tup xs)) : SqT K H a xs := .inl (.inl h)
theorem Inv.list (I : Inv X pins σ H s) (h : SqL X.K H a xs) : ∃ its : List Value, Vals xs its ∧ PlainL s.heap a its.toArray ∧ xs.length ≤ sizeLine := by
  rcases h with h | ⟨o, its, n, hk, hc, hd, hs, hz, r⟩
  · obtain ⟨z, its, n, r, e⟩ := h.ok I.hok
    exact ⟨its, r, ⟨_, n, e, rfl, rfl, rfl⟩, z⟩
  · refine ⟨its.toList, r, ⟨o, n, I.kIn a o hk, hc, hd, by simpa using hs⟩, ?_⟩
    have e := r.length
    simp only [Array.length_toList] at e
    omega
theorem Inv.tuple (I : Inv X pins σ H s) (h : SqT X.K H a xs) : ∃ its : List Value, Vals xs its ∧ IsTup s.heap a its.toArray ∧ xs.length ≤ sizeLine := by
  rcases h with h | ⟨o, its, n, hk, hc, hs, hz, r⟩
  · obtain ⟨z, its, r, p⟩ := h.ok I.hok
    exact ⟨its, r, p, z⟩
  · refine ⟨its.toList, r, ⟨o, I.kIn a o hk, hc, n, by simpa using hs⟩, ?_⟩
    have e := r.length
    simp only [Array.length_toList] at e
    omega
theorem Inv.list_inj (I : Inv X pins σ H s) (h : SqL X.K H a xs) (h' : SqL X.K H a ys) : xs = ys := by
  obtain ⟨its, r, ⟨o, n, e, _, _, d⟩, _⟩ := I.list h
  obtain ⟨its', r', ⟨o', n', e', _, _, d'⟩, _⟩ := I.list h'
  rw [e] at e'; cases e'
  rw [d] at d'
  injection d' with d1 _
  have : its = its' := by simpa using congrArg Array.toList d1
  subst this
  exact r.inj r'
end

/-! ### another wish about exceptions -/
noncomputable abbrev Cx.wish (X : Cx) (E : Value → Shared → Prop) : Cx := { X with xe := E }
/-- no exception leaves -/
noncomputable abbrev Cx.nox (X : Cx) : Cx := X.wish fun _ _ => False
theorem Cx.Ok.wish {X : Cx} (ok : X.Ok) (E : Value → Shared → Prop) : (X.wish E).Ok :=
  ⟨ok.mod, ok.kind, ok.glob, ok.blt, ok.above, ok.inj, ok.has, ok.cab, ok.hd, ok.frames, ok.stk, ok.exf, ok.bs, ok.bsz, ok.noex, ok.exfs, ok.funs, ok.frf⟩
theorem Cx.Ok.unwish {X : Cx} {E : Value → Shared → Prop} (ok : (X.wish E).Ok) : X.Ok :=
  ⟨ok.mod, ok.kind, ok.glob, ok.blt, ok.above, ok.inj, ok.has, ok.cab, ok.hd, ok.frames, ok.stk, ok.exf, ok.bs, ok.bsz, ok.noex, ok.exfs, ok.funs, ok.frf⟩
section
variable {X : Cx} {pins : List (Addr × Obj)} {σ : St} {H : Hp} {s : Shared} {E : Value → Shared → Prop}
theorem Inv.wish (I : Inv X pins σ H s) (E : Value → Shared → Prop) : Inv (X.wish E) pins σ H s := ⟨I.ok.wish E, I.os, I.bare, I.base, I.loc, I.cell, I.free, I.freeC, I.pin, I.hok, I.len⟩
theorem Inv.unwish (I : Inv (X.wish E) pins σ H s) : Inv X pins σ H s := ⟨I.ok.unwish, I.os, I.bare, I.base, I.loc, I.cell, I.free, I.freeC, I.pin, I.hok, I.len⟩
theorem SP.unwish {D : Ends} {f : Flow} {s' : Shared} (h : SP (X.wish E) pins D f s') : SP X pins D f s' := by
  cases f with
  | next => obtain ⟨σ', H', I, q⟩ := h; exact ⟨σ', H', I.unwish, q⟩
  | brk => obtain ⟨σ', H', I, q⟩ := h; exact ⟨σ', H', I.unwish, q⟩
  | cont => obtain ⟨σ', H', I, q⟩ := h; exact ⟨σ', H', I.unwish, q⟩
  | ret u => obtain ⟨v, σ', H', I, r, q⟩ := h; exact ⟨v, σ', H', I.unwish, r, q⟩
theorem PSs.nox {st : List Stmt} {t : TS} (h : PSs X.nox st t) : PSs X st t := fun pins s σ H D I hw =>
  wpAny_mono (h pins s σ H D (I.wish _) hw) (fun _ _ q => q.unwish) fun _ _ z => False.elim z
end

/-! ### blocks and small statements -/
section
variable {X : Cx} {st : Stmt} {rest : List Stmt} {t u : TS} {e : Expr} {te : TE} {pos : Pos}
noncomputable def tNext : TS := fun D σ H => D.nx σ H
noncomputable def tSeq (t u : TS) : TS := fun D σ H => t { D with nx := u D } σ H
theorem pss_nil : PSs X [] tNext := fun _ _ σ H _ I h => wpAny_execs_nil ⟨σ, H, I, h⟩
theorem pss_cons (h1 : PS X st t) (h2 : PSs X rest u) : PSs X (st :: rest) (tSeq t u) := by
  intro pins s σ H D I h
  refine wpAny_execs_cons (thn (h1 pins s σ H { D with nx := u D } I h) fun f s1 q => ?_)
  cases f with
  | next =>
    obtain ⟨σ', H', I', q⟩ := q
    exact h2 pins s1 σ' H' D I' q
  | ret v => exact q
  | brk => exact q
  | cont => exact q
theorem pss_one (h1 : PS X st t) : PSs X [st] t := by
  intro pins s σ H D I h
  refine wpAny_execs_cons (thn (h1 pins s σ H D I h) fun f s1 q => ?_)
  cases f with
  | next => exact wpAny_execs_nil q
  | ret v => exact q
  | brk => exact q
  | cont => exact q
/-- in a def's body nothing is shown -/
theorem Inv.quiet {pins : List (Addr × Obj)} {σ : St} {H : Hp} {s : Shared} (I : Inv X pins σ H s) : interactive X.env = false := by simp [interactive, I.ok.kind]
/-- an expression whose value is dropped -/
noncomputable def tDrop (te : TE) : TS := fun D σ H => te σ H fun _ H1 => D.nx σ H1
theorem ps_expr (he : PE X e te) (hs : swapsWith e none pos.line X.env = pure false := by rfl) : PS X (.Expr e pos) (tDrop te) := by
  intro pins s σ H D I h
  exact wpAny_Expr_any (thn (he pins s σ H _ I h) fun v s1 ⟨x, H1, I1, r1, q1⟩ => ⟨σ, H1, I1, q1⟩) I.quiet hs
noncomputable def tRet (te : TE) : TS := fun D σ H => te σ H D.rt
theorem ps_ret (he : PE X e te) : PS X (.Return (some e) pos) (tRet te) := by
  intro pins s σ H D I h
  exact wpAny_Return_some (thn (he pins s σ H _ I h) fun v s1 ⟨x, H1, I1, r1, q1⟩ => ⟨x, σ, H1, I1, r1, q1⟩)
noncomputable def tIfS (c : TT) (t u : TS) : TS := fun D σ H => c σ H fun b H1 => if b = true then t D σ H1 else u D σ H1
theorem ps_if {c : Expr} {a b : List Stmt} {tc : TT} (hc : PT X c tc) (ha : PSs X a t) (hb : PSs X b u) : PS X (.If c a b pos) (tIfS tc t u) := by
  intro pins s σ H D I h
  refine wpAny_If (thn (hc pins s σ H _ I h) fun d s1 ⟨H1, I1, q1⟩ => ?_)
  cases d with
  | true => exact ha pins s1 σ H1 D I1 q1
  | false => exact hb pins s1 σ H1 D I1 q1
end

/-! ### targets -/
noncomputable abbrev TG := V → St → Hp → (St → Hp → Prop) → Prop
noncomputable abbrev TGs := List V → St → Hp → (St → Hp → Prop) → Prop
noncomputable def PG (X : Cx) (target : Expr) (t : TG) : Prop :=
  ∀ (pins : List (Addr × Obj)) (s : Shared) (σ : St) (H : Hp) (v : V) (u : Value) (Q : St → Hp → Prop), Inv X pins σ H s → RelV v u → t v σ H Q →
    wpAny (model X.prog X.w) X.A (assign target X.env u) (fun _ s' => ∃ σ' H', Inv X pins σ' H' s' ∧ Q σ' H') X.xe s
/-- several targets, one after another -/
noncomputable def PGs (X : Cx) (ts : List Expr) (t : TGs) : Prop :=
  ∀ (pins : List (Addr × Obj)) (s : Shared) (σ : St) (H : Hp) (vs : List V) (us : List Value) (Q : St → Hp → Prop), Inv X pins σ H s → Vals vs us → t vs σ H Q →
    wpAny (model X.prog X.w) X.A (assignInOrder ((assignEach ts X.env).map (·.2)) us) (fun _ s' => ∃ σ' H', Inv X pins σ' H' s' ∧ Q σ' H') X.xe s
section
variable {X : Cx} {pos : Pos}
noncomputable def gName (i : Nat) : TG := fun v σ H Q => Q (σ.set i (some v)) H
theorem pg_name {i : Nat} {x : Str} (hN : X.N.Nodup) (hi : X.N[i]? = some x) (hx : Loc X.env.scope x) (hf : X.fn x = true ∨ X.env.scope.names.lookup x = some .local := by first | exact .inl rfl | exact .inr rfl | assumption) : PG X (.Name x pos) (gName i) := by
  intro pins s σ H v u Q I r h
  exact wpAny_assign_Name (store_ok I hN hi hx r (fun s' I' => ⟨_, H, I', h⟩) hf)
noncomputable def gNil : TGs := fun vs σ H Q => vs = [] ∧ Q σ H
noncomputable def gCons (t : TG) (u : TGs) : TGs := fun vs σ H Q => ∃ v r, vs = v :: r ∧ t v σ H fun σ' H' => u r σ' H' Q
theorem pgs_nil : PGs X [] gNil := by
  intro pins s σ H vs us Q I r h
  obtain ⟨e, h⟩ := h
  subst e
  cases r
  exact assignInOrder_nil ⟨σ, H, I, h⟩
theorem pgs_cons {e : Expr} {es : List Expr} {t : TG} {u : TGs} (h1 : PG X e t) (h2 : PGs X es u)
    (hs : (assignEach (e :: es) X.env).map (·.2) = assign e X.env :: (assignEach es X.env).map (·.2) := by rfl) : PGs X (e :: es) (gCons t u) := by
  intro pins s σ H vs us Q I r h
  obtain ⟨v, vr, e1, h⟩ := h
  subst e1
  cases r with
  | cons r rr =>
    rw [hs]
    refine assignInOrder_cons (thn (h1 pins s σ H _ _ _ I r h) fun _ s1 ⟨σ1, H1, I1, q1⟩ => ?_)
    exact h2 pins s1 σ1 H1 _ _ Q I1 rr q1
/-- (a, b, ..) = a tuple of that length -/
noncomputable def gTup (K : PySem.W.Frag) (n : Nat) (t : TGs) : TG := fun v σ H Q => ∃ a xs, v = .ref a ∧ SqT K H a xs ∧ xs.length = n ∧ t xs σ H Q
theorem pg_tup {es : List Expr} {k : Nat} {t : TGs} {n : Nat} (hc : X.calm = true) (h : PGs X es t)
    (hn : (assignEach es X.env).length = n := by rfl) (hst : (assignEach es X.env).findIdx? (·.1) = none := by rfl) : PG X (.Tuple es k pos) (gTup X.K n t) := by
  intro pins s σ H v u Q I r hw
  obtain ⟨a, xs, e1, hq, hl, hw⟩ := hw
  subst e1
  cases r
  obtain ⟨its, rv, ht, hz⟩ := I.tuple hq
  refine assign_Tuple_tuple (I.ok.hd hc) ht (by simp [hn, ← hl, rv.length]) hst fun h' hx => ?_
  have I1 : Inv X pins σ H { s with heap := h' } := I.kept (t' := s.toks) fun b o e => hx b o (Nat.ne_of_lt (Heap.lt_size e)) e
  exact h pins _ σ H xs _ Q I1 (by simpa using rv) hw
/-- target = value -/
noncomputable def tAsg (te : TE) (g : TG) : TS := fun D σ H => te σ H fun x H1 => g x σ H1 D.nx
theorem ps_asg {tg e : Expr} {te : TE} {g : TG} (he : PE X e te) (hg : PG X tg g) (hs : swapsWithSole [tg] e pos.line X.env = pure false := by rfl) (hw : swappedStores [tg] e X.env = pure none := by rfl)
    (h1 : (assignEach [tg] X.env).map (·.2) = [assign tg X.env] := by rfl) : PS X (.Assign [tg] e pos) (tAsg te g) := by
  intro pins s σ H D I h
  refine wpAny_Assign_stores (thn (he pins s σ H _ I h) fun v s1 ⟨x, H1, I1, r1, q1⟩ => ?_) hs hw
  rw [h1]
  exact thn (hg pins s1 σ H1 x v _ I1 r1 q1) fun _ s2 q => q
/-- name = value -/
theorem ps_set {i : Nat} {x : Str} {e : Expr} {te : TE} {pos' : Pos} (hN : X.N.Nodup) (hi : X.N[i]? = some x) (hx : Loc X.env.scope x) (he : PE X e te) (hs : swapsWith e (some (.Name x pos')) pos.line X.env = pure false := by rfl) (hf : X.fn x = true ∨ X.env.scope.names.lookup x = some .local := by first | exact .inl rfl | exact .inr rfl | assumption) :
    PS X (.Assign [.Name x pos'] e pos) (tAsg te (gName i)) := by
  intro pins s σ H D I h
  refine wpAny_Assign_Name (thn (he pins s σ H _ I h) fun v s1 ⟨y, H1, I1, r1, q1⟩ => ?_) hs
  exact store_ok I1 hN hi hx r1 (fun s2 I2 => ⟨_, H1, I2, q1⟩) hf
end

/-! ### while -/
section
variable {X : Cx} {pos : Pos}
end

/-! ### what a loop or a comprehension walks -/
/-- at turn i: it yields x (the heap may grow), or it stops -/
structure It where
  go : Nat → Hp → Prop
  yld : Nat → Hp → V → Hp → Prop
  stop : Nat → Hp → Prop
/-- the iterator's own objects may turn: they are not the frame's, not pinned, younger than the entry (or a comprehension's own) -/
noncomputable def FpOk (X : Cx) (pins : List (Addr × Obj)) (H : Hp) (b : Addr) : Prop :=
  H b = none ∧ b ≠ X.env.locals ∧ b ∉ X.fs ∧ (b ∈ X.ex ∨ X.s₀.heap.objs.size ≤ b) ∧ (∀ x c, X.env.cells.lookup x = some c → c ≠ b) ∧ ∀ p ∈ X.pn ++ pins, p.1 ≠ b
theorem Inv.fpOk {X : Cx} {pins : List (Addr × Obj)} {σ : St} {H H' : Hp} {s : Shared} {b : Addr} (I : Inv X pins σ H s) (hb : s.heap.objs.size ≤ b) (hn : H' b = none) : FpOk X pins H' b := by
  refine ⟨hn, Nat.ne_of_gt (Nat.lt_of_lt_of_le I.lt hb), I.nofs hb, .inr (Nat.le_trans I.sz hb), fun x c e z => ?_, fun p hp z => ?_⟩
  · obtain ⟨v, q⟩ := I.cell x c e
    exact absurd (Nat.lt_of_lt_of_le q.lt (by rw [z]; exact hb)) (Nat.lt_irrefl _)
  · exact absurd (Nat.lt_of_lt_of_le (Heap.lt_size (I.pin p hp).1) (by rw [z]; exact hb)) (Nat.lt_irrefl _)
structure Turn (P : Program) (w : World) (K : PySem.W.Frag) (tg : Expr) (J : It) (fp : List Addr) (it : Addr) (tn : Nat → Heap → Prop) : Prop where
  mem : it ∈ fp
  obj : ∀ i h, tn i h → ∀ b ∈ fp, ∃ o, h.get? b = some o ∧ ∀ v, o.data ≠ .cell v
  keep : ∀ i h h', tn i h → (∀ b ∈ fp, ∀ o, h.get? b = some o → h'.get? b = some o) → tn i h'
  item : ∀ (X : Cx), X.prog = P → X.w = w → X.K = K → X.calm = true → ∀ (i : Nat) (pins : List (Addr × Obj)) (s : Shared) (σ : St) (H : Hp) (E : Value → Shared → Prop), Inv X pins σ H s → (∀ b ∈ fp, FpOk X pins H b) → tn i s.heap → J.go i H →
    wpAny (model P w) X.A (pyNext (.ref it)) (fun r s1 => ∃ u, r = some u ∧
      wpAny (model P w) X.A (letOwnedTupleGo tg (.ref it) u) (fun _ s2 => ∃ x H', Inv X pins σ H' s2 ∧ RelV x u ∧ J.yld i H x H' ∧ tn (i + 1) s2.heap ∧ ∀ b ∈ fp, H' b = none) E s1) E s
  done : ∀ (X : Cx), X.prog = P → X.w = w → X.K = K → X.calm = true → ∀ (i : Nat) (pins : List (Addr × Obj)) (s : Shared) (σ : St) (H : Hp) (E : Value → Shared → Prop), Inv X pins σ H s → (∀ b ∈ fp, FpOk X pins H b) → tn i s.heap → J.stop i H →
    wpAny (model P w) X.A (pyNext (.ref it)) (fun r s1 => r = none ∧ Inv X pins σ H s1) E s
  self : ∀ (A : Around) (i : Nat) (s : Shared) (Q : Value → Shared → Prop) (E : Value → Shared → Prop), tn i s.heap → Q (.ref it) s → wpAny (model P w) A (pyIter (.ref it)) Q E s
noncomputable abbrev TI := St → Hp → (It → Hp → Prop) → Prop
/-- an iterator has come -/
noncomputable def PIE (X : Cx) (pins : List (Addr × Obj)) (σ : St) (tg : Expr) (R : It → Hp → Prop) (itv : Value) (s2 : Shared) : Prop :=
  ∃ (it : Addr) (fp : List Addr) (tn : Nat → Heap → Prop) (J : It) (H' : Hp), itv = .ref it ∧ Inv X pins σ H' s2 ∧ Turn X.prog X.w X.K tg J fp it tn ∧ tn 0 s2.heap ∧ (∀ b ∈ fp, FpOk X pins H' b) ∧ R J H'
noncomputable def PI (X : Cx) (tg iter : Expr) (wi : TI) : Prop :=
  ∀ (pins : List (Addr × Obj)) (s : Shared) (σ : St) (H : Hp) (R : It → Hp → Prop), Inv X pins σ H s → wi σ H R →
    wpAny (model X.prog X.w) X.A (eval iter X.env) (fun v s1 => wpAny (model X.prog X.w) X.A (pyIter v) (PIE X pins σ tg R) X.xe s1) X.xe s

/-- the step ahead of the store is nothing for an iterator that keeps no tuple -/
theorem go_of {M : Model} {A : Around} {E : Value → Shared → Prop} {s : Shared} {tg : Expr} {it : Addr} {u : Value} {o : Obj} {n : String} {vs : Array Value} {Q : Unit → Shared → Prop} (ho : s.heap.get? it = some o) (hc : o.cls = .type n) (hd : o.data = .fields vs)
    (hn : ["enumerate", "zip", "dict_itemiterator", "dict_reverseitemiterator", "odict_iterator", "itertools.zip_longest", "itertools.pairwise"].contains n = false) (hQ : Q () s) : wpAny M A (letOwnedTupleGo tg (.ref it) u) Q E s := by
  unfold letOwnedTupleGo
  cases tg <;> first
    | exact wpAny_pure hQ
    | (cases u <;> first
        | exact wpAny_pure hQ
        | (refine wpAny_bind (wpAny_load ho ?_)
           rw [hc, hd]
           show wpAny M A (if (["enumerate", "zip", "dict_itemiterator", "dict_reverseitemiterator", "odict_iterator", "itertools.zip_longest", "itertools.pairwise"].contains n && vs[0]? == some (rawInt _)) = true then _ else _) Q E s
           rw [if_neg (by intro h; rw [hn, Bool.false_and] at h; cases h)]
           exact wpAny_pure hQ))

/-- the list at a, as it stands at each turn (a loop may append to it) -/
noncomputable def Itl (K : PySem.W.Frag) (a : Addr) : It :=
  ⟨fun i H => ∃ xs x, SqL K H a xs ∧ xs[i]? = some x, fun i H x H' => H' = H ∧ ∀ xs, SqL K H a xs → xs[i]? = some x, fun i H => ∃ xs, SqL K H a xs ∧ xs.length ≤ i⟩
/-- lo, lo + 1, .. (n of them) -/
noncomputable def Itr (lo : Int) (n : Nat) : It := ⟨fun i _ => i < n, fun i H x H' => H' = H ∧ x = .int (lo + i), fun i _ => n ≤ i⟩
theorem turn_list {P : Program} {w : World} {K : PySem.W.Frag} {tg : Expr} (a it : Addr) : Turn P w K tg (Itl K a) [it] it (fun i h => h.IsListIter it a i) where
  mem := by simp
  obj := fun i h st b hb => by
    have e : b = it := by simpa using hb
    subst e
    obtain ⟨o, e, c, d⟩ := st
    exact ⟨o, e, fun v z => by rw [d] at z; cases z⟩
  keep := fun i h h' st k => st.at fun o e => k it (by simp) o e
  item := by
    intro X hP hw hK hc i pins s σ H E I hf st hg
    subst hP hw hK
    obtain ⟨xs, x, hq, hx⟩ := hg
    obtain ⟨its, rv, p, hz⟩ := I.list hq
    obtain ⟨u, hu, ru⟩ := rv.get hx
    obtain ⟨f0, f1, f2, f3, f4, f5⟩ := hf it (by simp)
    refine wpAny_pyNext_list_item st p.isList (x := u) (by simpa using hu) fun h' st' sb => ?_
    have I1 : Inv X pins σ H { s with heap := h' } := I.turned (t' := s.toks) (fun b o hb e => (sb.2 b hb).trans e) f0 f1 f3 f4 f5
    obtain ⟨o, e, c, d⟩ := id st'
    exact ⟨u, rfl, go_of (s := { s with heap := h' }) e c d (by decide) ⟨x, H, I1, ru, ⟨rfl, fun ys hy => by rw [I.list_inj hy hq]; exact hx⟩, st', fun b hb => (hf b hb).1⟩⟩
  done := by
    intro X hP hw hK hc i pins s σ H E I hf st hg
    subst hP hw hK
    obtain ⟨xs, hq, hx⟩ := hg
    obtain ⟨its, rv, p, hz⟩ := I.list hq
    obtain ⟨f0, f1, f2, f3, f4, f5⟩ := hf it (by simp)
    have hl := rv.length
    exact wpAny_pyNext_list_end (I.ok.hd hc) st p.isList (by simp; omega) fun h' eb => ⟨rfl, I.turned (t' := s.toks) (fun b o hb e => eb b o hb e) f0 f1 f3 f4 f5⟩
  self := fun _ _ _ _ _ st h => wpAny_pyIter_listiter st h
theorem turn_range {P : Program} {w : World} {K : PySem.W.Frag} {tg : Expr} (it : Addr) (lo : Int) (n : Nat) : Turn P w K tg (Itr lo n) [it] it (fun i h => IsRangeIter h it (lo + (i : Nat) * 1) ((n : Int) - (i : Nat)) 1) where
  mem := by simp
  obj := fun i h st b hb => by
    have e : b = it := by simpa using hb
    subst e
    exact ⟨_, st, fun v z => by
      have z' : Data.fields _ = Data.cell v := z
      cases z'⟩
  keep := fun i h h' st k => k it (by simp) _ st
  item := by
    intro X hP hw hK hc i pins s σ H E I hf st hg
    subst hP hw hK
    obtain ⟨f0, f1, f2, f3, f4, f5⟩ := hf it (by simp)
    have W := Walks.range (prog := X.prog) (w := X.w) (I.ok.hd hc) it lo 1 n
    refine W.item i s _ _ hg st fun v h' tk hv st' kk => ?_
    obtain ⟨t, rfl⟩ := hv
    have I1 : Inv X pins σ H { s with heap := h', toks := tk } := I.turned (fun b o hb e => kk b o (by simpa using hb) e) f0 f1 f3 f4 f5
    refine ⟨_, rfl, go_of (s := { s with heap := h', toks := tk }) (n := "range_iterator") st' rfl rfl (by decide) ⟨.int (lo + i), H, I1, ⟨t, ?_⟩, ⟨rfl, rfl⟩, st', fun b hb => (hf b hb).1⟩⟩
    rw [Int.mul_one]
  done := by
    intro X hP hw hK hc i pins s σ H E I hf st hg
    subst hP hw hK
    obtain ⟨f0, f1, f2, f3, f4, f5⟩ := hf it (by simp)
    exact wpAny_pyNext_range_end (I.ok.hd hc) st (by have : n ≤ i := hg; omega) fun h' eb => ⟨rfl, I.turned (t' := s.toks) (fun b o hb e => eb b o hb e) f0 f1 f3 f4 f5⟩
  self := fun _ _ _ _ _ st h => wpAny_pyIter_rangeiter st h
end L2

namespace L2
open PySem PySem.Spec PyProof.Rows
section
variable {X : Cx} {tg : Expr}
noncomputable def iList (K : PySem.W.Frag) (tl : TE) : TI := fun σ H R => tl σ H fun x H1 => ∃ a, x = .ref a ∧ (∃ xs, SqL K H1 a xs) ∧ R (Itl K a) H1
theorem pi_list {l : Expr} {tl : TE} (hl : PE X l tl) : PI X tg l (iList X.K tl) := by
  intro pins s σ H R I h
  refine thn (hl pins s σ H _ I h) fun v s1 ⟨x, H1, I1, r1, q1⟩ => ?_
  obtain ⟨a, e, ⟨xs, hq⟩, q⟩ := q1
  subst e
  cases r1
  obtain ⟨its, rv, p, hz⟩ := I1.list hq
  refine wpAny_pyIter_list p.isList ?_
  refine ⟨s1.heap.objs.size, [s1.heap.objs.size], _, _, H1, rfl, I1.kept (t' := s1.toks) fun b o e => Heap.get?_push_of_some _ e, turn_list a _, ⟨_, Heap.get?_push_size _ rfl, rfl, rfl⟩, fun b hb => ?_, q⟩
  have e : b = s1.heap.objs.size := by simpa using hb
  subst e
  exact I1.fpOk (Nat.le_refl _) (I1.hok.fresh (Nat.le_refl _))
/-- a range object just made, walked -/
theorem range_it {pins : List (Addr × Obj)} {σ : St} {H : Hp} {s : Shared} {R : It → Hp → Prop} {E : Value → Shared → Prop} {lo hi : Int} {t u v : Tok} {tk : Nat} (I : Inv X pins σ H s) (h1 : -(2 ^ 62) ≤ lo) (h2 : lo < 2 ^ 62) (h3 : -(2 ^ 62) ≤ hi) (h4 : hi < 2 ^ 62)
    (q : R (Itr lo (hi - lo).toNat) H) : wpAny (model X.prog X.w) X.A (pyIter (.ref s.heap.objs.size)) (PIE X pins σ tg R) E { s with heap := s.heap.push { cls := .type "range", data := .fields #[.int lo t, .int hi u, .int 1 v] }, toks := tk } := by
  refine wpAny_pyIter_range (IsRange.new ..) (small_one h1 h2 h3 h4) ?_
  have I1 : Inv X pins σ H { s with heap := s.heap.push { cls := .type "range", data := .fields #[.int lo t, .int hi u, .int 1 v] }, toks := tk } := I.kept fun b o e => Heap.get?_push_of_some _ e
  refine ⟨(s.heap.push { cls := .type "range", data := .fields #[.int lo t, .int hi u, .int 1 v] }).objs.size, [(s.heap.push { cls := .type "range", data := .fields #[.int lo t, .int hi u, .int 1 v] }).objs.size], _, _, H, rfl,
    I1.kept (t' := tk) fun b o e => Heap.get?_push_of_some _ e, turn_range _ lo (hi - lo).toNat, ?_, fun b hb => ?_, q⟩
  · have e1 : lo + ((0 : Nat) : Int) * 1 = lo := by simp
    have e2 : (((hi - lo).toNat : Nat) : Int) - ((0 : Nat) : Int) = Builtin.Range.rangeSize lo hi 1 := by rw [rangeSize_one]; split <;> omega
    show IsRangeIter _ _ (lo + ((0 : Nat) : Int) * 1) ((((hi - lo).toNat : Nat) : Int) - ((0 : Nat) : Int)) 1
    rw [e1, e2]
    exact Heap.get?_push_size _ rfl
  · have e : b = (s.heap.push { cls := .type "range", data := .fields #[.int lo t, .int hi u, .int 1 v] }).objs.size := by simpa using hb
    subst e
    exact I1.fpOk (Nat.le_refl _) (I1.hok.fresh (Nat.le_refl _))
noncomputable def iRng1 (ta : TA) : TI := fun σ H R => ta σ H fun vs H1 => ∃ j : Int, vs = [.int j] ∧ -(2 ^ 62) ≤ j ∧ j < 2 ^ 62 ∧ R (Itr 0 j.toNat) H1
noncomputable def iRng2 (ta : TA) : TI := fun σ H R => ta σ H fun vs H1 => ∃ i j : Int, vs = [.int i, .int j] ∧ (-(2 ^ 62) ≤ i ∧ i < 2 ^ 62 ∧ -(2 ^ 62) ≤ j ∧ j < 2 ^ 62) ∧ R (Itr i (j - i).toNat) H1
theorem pi_range1 {a : Expr} {ta : TA} {p pos : Pos} (hg : Gl X "range") (hm : X.mg "range" = none) (ha : PA X [a] ta) (hs : starEach [a] X.env = [(false, eval a X.env)] := by rfl) : PI X tg (.Call (.Name "range" p) [a] [] pos) (iRng1 ta) := by
  intro pins s σ H R I h
  refine Call_ (ld_blt I hg hm boot_range (PyProof.Rows.callWith_type1 (thn (ha pos pins s σ H _ I h) fun us s1 ⟨vs, H1, I1, r1, q1⟩ => ?_) hs rfl))
  obtain ⟨j, e, q1, q2, q⟩ := q1
  subst e
  cases r1 with
  | cons r rr =>
    cases rr
    obtain ⟨t, rfl⟩ := r
    exact call_range_1 (range_it I1 (by omega) (by omega) q1 q2 (by simpa using q))
theorem pi_range2 {a b : Expr} {ta : TA} {p pos : Pos} (hg : Gl X "range") (hm : X.mg "range" = none) (ha : PA X [a, b] ta) (hs : starEach [a, b] X.env = [(false, eval a X.env), (false, eval b X.env)] := by rfl) (hs2 : starEach [b] X.env = [(false, eval b X.env)] := by rfl) :
    PI X tg (.Call (.Name "range" p) [a, b] [] pos) (iRng2 ta) := by
  intro pins s σ H R I h
  refine Call_ (ld_blt I hg hm boot_range (PyProof.Rows.callWith_type1 (thn (ha pos pins s σ H _ I h) fun us s1 ⟨vs, H1, I1, r1, q1⟩ => ?_) (by rw [hs, hs2]) (by rw [hs2]; rfl)))
  obtain ⟨i, j, e, ⟨q1, q2, q3, q4⟩, q⟩ := q1
  subst e
  cases r1 with
  | cons r rr =>
    cases rr with
    | cons r' rr =>
      cases rr
      obtain ⟨t, rfl⟩ := r
      obtain ⟨t', rfl⟩ := r'
      exact call_range_2 (range_it I1 q1 q2 q3 q4 q)

/-! ### for -/
/-- W: the invariant by the turn and a measure; N: what the body is to reach -/
noncomputable def tFor (wi : TI) (g : TG) (tb : TS) : TS := fun D σ H => wi σ H fun J H1 => ∃ W : Nat → Nat → St → Hp → Prop, (∃ m, W 0 m σ H1) ∧ ∀ i m σ H, W i m σ H →
  (J.stop i H ∧ D.nx σ H) ∨ (J.go i H ∧ ∃ N : St → Hp → Prop, (∀ σ' H', N σ' H' → ∃ m', m' < m ∧ W (i + 1) m' σ' H') ∧ ∀ x H', J.yld i H x H' → g x σ H' fun σ2 H2 => tb { D with nx := N, ct := N, bk := D.nx } σ2 H2)
/-- the records at fp as they stand -/
noncomputable def pinsAt (fp : List Addr) (h : Heap) : List (Addr × Obj) := fp.filterMap fun b => (h.get? b).map fun o => (b, o)
theorem mem_pinsAt {fp : List Addr} {h : Heap} {b : Addr} {o : Obj} (hb : b ∈ fp) (e : h.get? b = some o) : (b, o) ∈ pinsAt fp h := List.mem_filterMap.mpr ⟨b, hb, by rw [e]; rfl⟩
theorem of_pinsAt {fp : List Addr} {h : Heap} {p : Addr × Obj} (hp : p ∈ pinsAt fp h) : p.1 ∈ fp ∧ h.get? p.1 = some p.2 := by
  obtain ⟨b, hb, e⟩ := List.mem_filterMap.mp hp
  cases q : h.get? b with
  | none => rw [q] at e; cases e
  | some o =>
    rw [q] at e
    have e' : (b, o) = p := Option.some.inj e
    subst e'
    exact ⟨hb, q⟩
theorem Inv.pinned {pins : List (Addr × Obj)} {σ : St} {H : Hp} {s : Shared} {fp : List Addr} (I : Inv X pins σ H s) (hf : ∀ b ∈ fp, FpOk X pins H b) (ho : ∀ b ∈ fp, ∃ o, s.heap.get? b = some o ∧ ∀ v, o.data ≠ .cell v) : Inv X (pins ++ pinsAt fp s.heap) σ H s :=
  I.pins_of fun p hp => (List.mem_append.mp hp).elim (fun z => I.pin p (List.mem_append_right _ z)) fun z => by
    obtain ⟨hb, e⟩ := of_pinsAt z
    obtain ⟨f0, f1, f2, _⟩ := hf p.1 hb
    obtain ⟨o, e', d⟩ := ho p.1 hb
    rw [e] at e'; cases e'
    exact ⟨e, f0, f1, f2, d⟩
theorem Inv.unpinned {pins pl : List (Addr × Obj)} {σ : St} {H : Hp} {s : Shared} (I : Inv X (pins ++ pl) σ H s) : Inv X pins σ H s := I.pins_of fun p hp => I.pin p (List.mem_append_right _ (List.mem_append_left _ hp))
theorem ps_for {iter : Expr} {body : List Stmt} {wi : TI} {g : TG} {tb : TS} {pos : Pos} (hp : PassesOwn (model X.prog X.w) X.A X.env X.xe) (hc : X.calm = true) (hi : PI X tg iter wi) (hg : PG X tg g) (hb : PSs X body tb)
    (hs : ∀ x, foldedSetIterable iter X.env x = pure x := by intro _; rfl) : PS X (.For tg iter body [] pos) (tFor wi g tb) := by
  intro pins s σ H D I h
  refine wpAny_For (thn (hi pins s σ H _ I h) fun v s1 h1 => thn h1 fun itv s2 h2 => ?_) hs
  obtain ⟨it, fp, tn, J, H2, e, I2, T, st2, f2, W, ⟨m0, w0⟩, turn⟩ := h2
  subst e
  -- what stays true of the iterator's objects through the loop
  have stat : ∀ {H' : Hp}, (∀ b ∈ fp, H' b = none) → ∀ b ∈ fp, FpOk X pins H' b := fun hn b hb => ⟨hn b hb, (f2 b hb).2⟩
  refine codeAny_forLoop_any (fun n s' => ∃ i σ' H', Inv X pins σ' H' s' ∧ tn i s'.heap ∧ (∀ b ∈ fp, H' b = none) ∧ W i n σ' H') ?_ m0 ⟨0, σ, H2, I2, st2, fun b hb => (f2 b hb).1, w0⟩
  rintro n s3 ⟨i, σ3, H3, I3, st3, fr3, w3⟩
  rcases turn i n σ3 H3 w3 with ⟨stop, qn⟩ | ⟨go, N, hN, step⟩
  · refine wpAny_passesOwn hp (thn (T.done X rfl rfl rfl hc i pins s3 σ3 H3 X.xe I3 (stat fr3) st3 stop) fun r s4 ⟨hr, I4⟩ => ?_)
    subst hr
    exact wpAny_execs_nil ⟨σ3, H3, I4, qn⟩
  · refine wpAny_passesOwn hp (thn (T.item X rfl rfl rfl hc i pins s3 σ3 H3 X.xe I3 (stat fr3) st3 go) fun r s4 ⟨u, hr, h4⟩ => ?_)
    subst hr
    refine wpAny_passesOwn hp (thn h4 fun _ s5 ⟨x, H5, I5, r5, y5, st5, fr5⟩ => ?_)
    have I5' := I5.pinned (stat fr5) (T.obj _ _ st5)
    refine wpAny_passesOwn hp (thn (hg _ s5 σ3 H5 x u _ I5' r5 (step x H5 y5)) fun _ s6 ⟨σ6, H6, I6, q6⟩ => ?_)
    refine wpAny_passesOwn hp (thn (hb _ s6 σ6 H6 _ I6 q6) fun f s7 q7 => ?_)
    have again : ∀ {σ7 : St} {H7 : Hp}, Inv X (pins ++ pinsAt fp s5.heap) σ7 H7 s7 → N σ7 H7 → ∃ m, m < n ∧ ∃ i σ' H', Inv X pins σ' H' s7 ∧ tn i s7.heap ∧ (∀ b ∈ fp, H' b = none) ∧ W i m σ' H' := fun {σ7 H7} I7 n7 => by
      obtain ⟨m', hm, w7⟩ := hN σ7 H7 n7
      refine ⟨m', hm, i + 1, σ7, H7, I7.unpinned, T.keep _ _ _ st5 fun b hb o e => (I7.pin (b, o) (List.mem_append_right _ (List.mem_append_right _ (mem_pinsAt hb e)))).1, fun b hb => ?_, w7⟩
      obtain ⟨o, e, d⟩ := T.obj _ _ st5 b hb
      exact (I7.pin (b, o) (List.mem_append_right _ (List.mem_append_right _ (mem_pinsAt hb e)))).2.1
    cases f with
    | next => obtain ⟨σ7, H7, I7, n7⟩ := q7; exact again I7 n7
    | cont => obtain ⟨σ7, H7, I7, n7⟩ := q7; exact again I7 n7
    | brk => obtain ⟨σ7, H7, I7, q7⟩ := q7; exact ⟨σ7, H7, I7.unpinned, q7⟩
    | ret v => obtain ⟨x7, σ7, H7, I7, r7, q7⟩ := q7; exact ⟨x7, σ7, H7, I7.unpinned, r7, q7⟩
end

/-! ### the forms one uses -/
end L2

namespace L2
open PySem PySem.Spec PyProof.Rows

noncomputable abbrev R2 := V → V → Hp → VK → Prop
/-- a two-place operation on values: f is binaryOp op, inplaceOp op or compareOp op -/
noncomputable def OpR (X : Cx) (f : Value → Value → Sem Value) (r : R2) : Prop :=
  ∀ (pins : List (Addr × Obj)) (s : Shared) (σ : St) (H : Hp) (x y : V) (v u : Value) (Q : VK), Inv X pins σ H s → RelV x v → RelV y u → r x y H Q →
    wpAny (model X.prog X.w) X.A (f v u) (EP X pins σ Q) X.xe s
/-- a one-place operation -/
noncomputable def UnR (X : Cx) (f : Value → Sem Value) (r : V → Hp → VK → Prop) : Prop :=
  ∀ (pins : List (Addr × Obj)) (s : Shared) (σ : St) (H : Hp) (x : V) (v : Value) (Q : VK), Inv X pins σ H s → RelV x v → r x H Q →
    wpAny (model X.prog X.w) X.A (f v) (EP X pins σ Q) X.xe s
/-- a call of a value that is known (a builtin, a type) with values -/
noncomputable def CallR (X : Cx) (f : Value) (r : List V → Hp → VK → Prop) : Prop :=
  ∀ (pins : List (Addr × Obj)) (s : Shared) (σ : St) (H : Hp) (xs : List V) (us : List Value) (Q : VK), Inv X pins σ H s → Vals xs us → r xs H Q →
    wpAny (model X.prog X.w) X.A (call f us) (EP X pins σ Q) X.xe s
/-- a value's truth -/
noncomputable def TruR (X : Cx) (r : V → Hp → (Bool → Hp → Prop) → Prop) : Prop :=
  ∀ (pins : List (Addr × Obj)) (s : Shared) (σ : St) (H : Hp) (x : V) (v : Value) (Q : Bool → Hp → Prop), Inv X pins σ H s → RelV x v → r x H Q →
    wpAny (model X.prog X.w) X.A (truthy v) (TP X pins σ Q) X.xe s

noncomputable def tOp (r : R2) (ta tb : TE) : TE := fun σ H Q => ta σ H fun x H1 => tb σ H1 fun y H2 => r x y H2 Q
noncomputable def tUn (r : V → Hp → VK → Prop) (ta : TE) : TE := fun σ H Q => ta σ H fun x H1 => r x H1 Q
/-- ints in, under C, and a value out -/
noncomputable def rI (C : Int → Int → Prop) (g : Int → Int → V) : R2 := fun x y H Q => ∃ i j, x = .int i ∧ y = .int j ∧ C i j ∧ Q (g i j) H
noncomputable def rI0 (g : Int → Int → V) : R2 := fun x y H Q => ∃ i j, x = .int i ∧ y = .int j ∧ Q (g i j) H
noncomputable def rU (g : Int → V) : V → Hp → VK → Prop := fun x H Q => ∃ i, x = .int i ∧ Q (g i) H

section
variable {X : Cx} {a b c : Expr} {ta tb tc : TE} {pos : Pos}

theorem binT (ha : PE X a ta) (hb : PE X b tb) {pins : List (Addr × Obj)} {s : Shared} {σ : St} {H : Hp} {R : V → V → Hp → Prop} (I : Inv X pins σ H s)
    (h : ta σ H fun x H1 => tb σ H1 fun y H2 => R x y H2) {Q : Value → Shared → Prop} {f : Value → Value → Sem Value}
    (hf : ∀ v u s2 x y H2, Inv X pins σ H2 s2 → RelV x v → RelV y u → R x y H2 → wpAny (model X.prog X.w) X.A (f v u) Q X.xe s2) :
    wpAny (model X.prog X.w) X.A (eval a X.env) (fun v s₁ => wpAny (model X.prog X.w) X.A (eval b X.env) (fun u s₂ => wpAny (model X.prog X.w) X.A (f v u) Q X.xe s₂) X.xe s₁) X.xe s := by
  refine thn (ha pins s σ H _ I h) fun v s1 ⟨x, H1, I1, r1, q1⟩ => ?_
  refine thn (hb pins s1 σ H1 _ I1 q1) fun u s2 ⟨y, H2, I2, r2, q2⟩ => ?_
  exact hf v u s2 x y H2 I2 r1 r2 q2

theorem pe_op {op : Operator} {r : R2} (ho : OpR X (binaryOp op) r) (ha : PE X a ta) (hb : PE X b tb) : PE X (.BinOp a op b pos) (tOp r ta tb) := by
  intro pins s σ H Q I h
  exact wpAny_BinOp (binT ha hb I h fun v u s2 x y H2 I2 rx ry q => ho pins s2 σ H2 x y v u Q I2 rx ry q)
theorem pe_un {op : UnaryOp} {r : V → Hp → VK → Prop} (ho : UnR X (unaryOp op) r) (ha : PE X a ta) : PE X (.UnaryOp op a pos) (tUn r ta) := by
  intro pins s σ H Q I h
  exact UnaryOp_ (thn (ha pins s σ H _ I h) fun v s1 ⟨x, H1, I1, r1, q1⟩ => ho pins s1 σ H1 x v Q I1 r1 q1)
/-! ### ints -/
theorem opI {f : Value → Value → Sem Value} {C : Int → Int → Prop} {g : Int → Int → Int}
    (rule : ∀ (i j : Int) (t u : Tok) (s : Shared) (Q : Value → Shared → Prop) (E : Value → Shared → Prop), C i j → Q (.int (g i j) s.toks) { s with toks := s.toks + 1 } → wpAny (model X.prog X.w) X.A (f (.int i t) (.int j u)) Q E s) :
    OpR X f (rI C fun i j => .int (g i j)) := by
  intro pins s σ H x y v u Q I rx ry h
  obtain ⟨i, j, rfl, rfl, hc, q⟩ := h
  obtain ⟨t, rfl⟩ := rx
  obtain ⟨t', rfl⟩ := ry
  exact rule i j t t' s _ _ hc ⟨.int (g i j), H, I.tok _, ⟨_, rfl⟩, q⟩
theorem opI0 {f : Value → Value → Sem Value} {g : Int → Int → Int}
    (rule : ∀ (i j : Int) (t u : Tok) (s : Shared) (Q : Value → Shared → Prop) (E : Value → Shared → Prop), Q (.int (g i j) s.toks) { s with toks := s.toks + 1 } → wpAny (model X.prog X.w) X.A (f (.int i t) (.int j u)) Q E s) :
    OpR X f (rI0 fun i j => .int (g i j)) := by
  intro pins s σ H x y v u Q I rx ry h
  obtain ⟨i, j, rfl, rfl, q⟩ := h
  obtain ⟨t, rfl⟩ := rx
  obtain ⟨t', rfl⟩ := ry
  exact rule i j t t' s _ _ ⟨.int (g i j), H, I.tok _, ⟨_, rfl⟩, q⟩
theorem opB0 {f : Value → Value → Sem Value} {g : Int → Int → Bool}
    (rule : ∀ (i j : Int) (t u : Tok) (s : Shared) (Q : Value → Shared → Prop) (E : Value → Shared → Prop), Q (.bool (g i j)) s → wpAny (model X.prog X.w) X.A (f (.int i t) (.int j u)) Q E s) :
    OpR X f (rI0 fun i j => .bl (g i j)) := by
  intro pins s σ H x y v u Q I rx ry h
  obtain ⟨i, j, rfl, rfl, q⟩ := h
  obtain ⟨t, rfl⟩ := rx
  obtain ⟨t', rfl⟩ := ry
  exact rule i j t t' s _ _ ⟨.bl (g i j), H, I, rfl, q⟩

noncomputable def CDiv (i j : Int) : Prop := 0 < j ∧ j < 1073741824
noncomputable def CPow (i j : Int) : Prop := 0 ≤ j ∧ j ≤ 1000000 ∧ i.natAbs < 2 ^ 64
noncomputable def CMul (i j : Int) : Prop := (-(2 ^ 64) < i ∧ i < 2 ^ 64) ∨ (-(2 ^ 64) < j ∧ j < 2 ^ 64)
theorem CMul.ok {i j : Int} (h : CMul i j) : IntMulOk i j := by
  rcases h with ⟨h1, h2⟩ | ⟨h1, h2⟩
  · exact .of_left (intBits_le_64 h1 h2)
  · exact .of_right (intBits_le_64 h1 h2)
theorem op_add : OpR X (binaryOp .Add) (rI0 fun i j => .int (i + j)) := opI0 fun _ _ _ _ _ _ _ q => add_int q
theorem op_sub : OpR X (binaryOp .Sub) (rI0 fun i j => .int (i - j)) := opI0 fun _ _ _ _ _ _ _ q => sub_int q
theorem op_mul : OpR X (binaryOp .Mult) (rI CMul fun i j => .int (i * j)) := opI fun _ _ _ _ _ _ _ hc q => mul_int q hc.ok
/-- // by a positive divisor -/
theorem op_fdiv : OpR X (binaryOp .FloorDiv) (rI CDiv fun i j => .int (i / j)) := opI fun i j _ _ _ _ _ hc q => by
  have h1 : (0 : Int) < j := hc.1
  have h2 : j < 1073741824 := hc.2
  exact floordiv_int (by omega) (by rw [Int.fdiv_eq_ediv_of_nonneg i (by omega)]; exact q) (.inl (PyProof.noPylong_small (by omega)))
/-- % by a positive divisor of any size -/
theorem op_mod : OpR X (binaryOp .Mod) (rI (fun _ j => 0 < j) fun i j => .int (i % j)) := opI fun i j _ _ _ _ _ hc q => by
  have h1 : (0 : Int) < j := hc
  exact mod_int' (by omega) (by rw [Int.fmod_eq_emod_of_nonneg i (by omega)]; exact q)
theorem op_pow : OpR X (binaryOp .Pow) (rI CPow fun i j => .int (i ^ j.toNat)) := opI fun _ _ _ _ _ _ _ hc q => pow_int_small hc.1 hc.2.1 hc.2.2 q
theorem unI {f : Value → Sem Value} {g : Int → Int}
    (rule : ∀ (i : Int) (t : Tok) (s : Shared) (Q : Value → Shared → Prop) (E : Value → Shared → Prop), Q (.int (g i) s.toks) { s with toks := s.toks + 1 } → wpAny (model X.prog X.w) X.A (f (.int i t)) Q E s) :
    UnR X f (rU fun i => .int (g i)) := by
  intro pins s σ H x v Q I rx h
  obtain ⟨i, rfl, q⟩ := h
  obtain ⟨t, rfl⟩ := rx
  exact rule i t s _ _ ⟨.int (g i), H, I.tok _, ⟨_, rfl⟩, q⟩
theorem un_neg : UnR X (unaryOp .USub) (rU fun i => .int (-i)) := unI fun _ _ _ _ _ q => neg_int q
/-! ### bools among ints: n += (a < b) -/
end

/-! ### comparisons -/
/-- the scalars that == tells apart as data does -/
noncomputable def scal : V → V → Bool
  | .non, .non => true | .non, .int _ => true | .int _, .non => true | .non, .bl _ => true | .bl _, .non => true | .non, .str _ => true | .str _, .non => true
  | .int _, .int _ => true | .bl _, .bl _ => true | .str _, .str _ => true | .byt _, .byt _ => true
  | .int _, .str _ => true | .str _, .int _ => true | .bl _, .str _ => true | .str _, .bl _ => true
  | _, _ => false
noncomputable def rEq : R2 := fun x y H Q => scal x y = true ∧ Q (.bl (decide (x = y))) H
noncomputable def rNe : R2 := fun x y H Q => scal x y = true ∧ Q (.bl (!decide (x = y))) H

theorem dec_int {i j : Int} : decide (V.int i = V.int j) = (i == j) := by
  rw [Bool.eq_iff_iff]
  simp
theorem dec_bl {i j : Bool} : decide (V.bl i = V.bl j) = (i == j) := by
  rw [Bool.eq_iff_iff]
  simp
theorem dec_str {i j : Str} : decide (V.str i = V.str j) = (i == j) := by
  rw [Bool.eq_iff_iff]
  simp
theorem dec_byt {i j : Array UInt8} : decide (V.byt i = V.byt j) = (i.toList == j.toList) := by
  rw [Bool.eq_iff_iff]
  cases i
  cases j
  simp

section
variable {X : Cx} {a b c : Expr} {ta tb tc : TE} {pos : Pos}
theorem fin_bl {pins : List (Addr × Obj)} {σ : St} {H : Hp} {s : Shared} {Q : VK} {k k' : Bool} (I : Inv X pins σ H s) (q : Q (.bl k) H) (e : k = k') : EP X pins σ Q (.bool k') s := by
  subst e
  exact ⟨.bl k, H, I, rfl, q⟩
theorem op_eq : OpR X (compareOp .Eq) rEq := by
  intro pins s σ H x y v u Q I rx ry h
  obtain ⟨hs, q⟩ := h
  cases x with
  | non =>
    cases rx
    cases y with
    | non => cases ry; exact PySem.EqNone.eq_none_none (fin_bl I q (by simp))
    | bl j => cases ry; exact PySem.EqNone.eq_none_bool (fin_bl I q (by simp))
    | int j => obtain ⟨t', rfl⟩ := ry; exact PySem.EqNone.eq_none_int (fin_bl I q (by simp))
    | str j => obtain ⟨t', rfl⟩ := ry; exact PySem.EqNone.eq_none_str (fin_bl I q (by simp))
    | _ => exact absurd (show false = true from hs) Bool.false_ne_true
  | bl i =>
    cases rx
    cases y with
    | non => cases ry; exact PySem.EqNone.eq_bool_none (fin_bl I q (by simp))
    | bl j => cases ry; exact eq_bool (fin_bl I q dec_bl)
    | str j => obtain ⟨t', rfl⟩ := ry; exact PySem.EqMixed.eq_bool_str (fin_bl I q (by simp))
    | _ => exact absurd (show false = true from hs) Bool.false_ne_true
  | int i =>
    obtain ⟨t, rfl⟩ := rx
    cases y with
    | non => cases ry; exact PySem.EqNone.eq_int_none (fin_bl I q (by simp))
    | int j => obtain ⟨t', rfl⟩ := ry; exact eq_int (fin_bl I q dec_int)
    | str j => obtain ⟨t', rfl⟩ := ry; exact PySem.EqMixed.eq_int_str (fin_bl I q (by simp))
    | _ => exact absurd (show false = true from hs) Bool.false_ne_true
  | str i =>
    obtain ⟨t, rfl⟩ := rx
    cases y with
    | non => cases ry; exact PySem.EqNone.eq_str_none (fin_bl I q (by simp))
    | bl j => cases ry; exact PySem.EqMixed.eq_str_bool (fin_bl I q (by simp))
    | int j => obtain ⟨t', rfl⟩ := ry; exact PySem.EqMixed.eq_str_int (fin_bl I q (by simp))
    | str j => obtain ⟨t', rfl⟩ := ry; exact eq_str (fin_bl I q dec_str)
    | _ => exact absurd (show false = true from hs) Bool.false_ne_true
  | byt i =>
    obtain ⟨t, rfl⟩ := rx
    cases y with
    | byt j => obtain ⟨t', rfl⟩ := ry; exact PySem.W.eq_bytes (fin_bl I q dec_byt)
    | _ => exact absurd (show false = true from hs) Bool.false_ne_true
  | _ => cases y <;> exact absurd (show false = true from hs) Bool.false_ne_true
theorem op_ne : OpR X (compareOp .NotEq) rNe := by
  intro pins s σ H x y v u Q I rx ry h
  obtain ⟨hs, q⟩ := h
  cases x with
  | non =>
    cases rx
    cases y with
    | non => cases ry; exact PySem.EqNone.ne_none_none (fin_bl I q (by simp))
    | bl j => cases ry; exact PySem.EqNone.ne_none_bool (fin_bl I q (by simp))
    | int j => obtain ⟨t', rfl⟩ := ry; exact PySem.EqNone.ne_none_int (fin_bl I q (by simp))
    | str j => obtain ⟨t', rfl⟩ := ry; exact PySem.EqNone.ne_none_str (fin_bl I q (by simp))
    | _ => exact absurd (show false = true from hs) Bool.false_ne_true
  | bl i =>
    cases rx
    cases y with
    | non => cases ry; exact PySem.EqNone.ne_bool_none (fin_bl I q (by simp))
    | bl j => cases ry; exact ne_bool (fin_bl I q (congrArg not dec_bl))
    | str j => obtain ⟨t', rfl⟩ := ry; exact PySem.EqMixed.ne_bool_str (fin_bl I q (by simp))
    | _ => exact absurd (show false = true from hs) Bool.false_ne_true
  | int i =>
    obtain ⟨t, rfl⟩ := rx
    cases y with
    | non => cases ry; exact PySem.EqNone.ne_int_none (fin_bl I q (by simp))
    | int j => obtain ⟨t', rfl⟩ := ry; exact ne_int (fin_bl I q (congrArg not dec_int))
    | str j => obtain ⟨t', rfl⟩ := ry; exact PySem.EqMixed.ne_int_str (fin_bl I q (by simp))
    | _ => exact absurd (show false = true from hs) Bool.false_ne_true
  | str i =>
    obtain ⟨t, rfl⟩ := rx
    cases y with
    | non => cases ry; exact PySem.EqNone.ne_str_none (fin_bl I q (by simp))
    | bl j => cases ry; exact PySem.EqMixed.ne_str_bool (fin_bl I q (by simp))
    | int j => obtain ⟨t', rfl⟩ := ry; exact PySem.EqMixed.ne_str_int (fin_bl I q (by simp))
    | str j => obtain ⟨t', rfl⟩ := ry; exact ne_str (fin_bl I q (congrArg not dec_str))
    | _ => exact absurd (show false = true from hs) Bool.false_ne_true
  | byt i =>
    obtain ⟨t, rfl⟩ := rx
    cases y with
    | byt j => obtain ⟨t', rfl⟩ := ry; exact PySem.W.ne_bytes (fin_bl I q (congrArg not dec_byt))
    | _ => exact absurd (show false = true from hs) Bool.false_ne_true
  | _ => cases y <;> exact absurd (show false = true from hs) Bool.false_ne_true

theorem op_lt : OpR X (compareOp .Lt) (rI0 fun i j => .bl (decide (i < j))) := opB0 fun _ _ _ _ _ _ _ q => lt_int q
theorem op_le : OpR X (compareOp .LtE) (rI0 fun i j => .bl (decide (i ≤ j))) := opB0 fun _ _ _ _ _ _ _ q => le_int q
theorem op_gt : OpR X (compareOp .Gt) (rI0 fun i j => .bl (decide (j < i))) := opB0 fun _ _ _ _ _ _ _ q => gt_int q
theorem op_ge : OpR X (compareOp .GtE) (rI0 fun i j => .bl (decide (j ≤ i))) := opB0 fun _ _ _ _ _ _ _ q => ge_int q
/-- two rules for one operation: by cases -/
theorem OpR.or {f : Value → Value → Sem Value} {r r' : R2} (h : OpR X f r) (h' : OpR X f r') : OpR X f (fun x y H Q => r x y H Q ∨ r' x y H Q) := by
  intro pins s σ H x y v u Q I rx ry q
  rcases q with q | q
  · exact h pins s σ H x y v u Q I rx ry q
  · exact h' pins s σ H x y v u Q I rx ry q

theorem nomark (b : Expr) {op : CmpOp} (h : op ≠ .In := by decide) (h2 : op ≠ .NotIn := by decide) : behindInMarks op b = false := by
  have e1 : (op == CmpOp.In) = false := by cases op <;> first | rfl | exact absurd rfl h
  have e2 : (op == CmpOp.NotIn) = false := by cases op <;> first | rfl | exact absurd rfl h2
  cases b <;> simp [behindInMarks, e1, e2]
/-- a reading of a value as a test -/
noncomputable def tTest (t : TE) : TT := fun σ H Q => t σ H fun x H' => ∃ k, x = .bl k ∧ Q k H'
theorem pt_cmpR {op : CmpOp} {r : R2} (ho : OpR X (compareOp op) r) (ha : PE X a ta) (hb : PE X b tb) (hm : behindInMarks op b = false) : PT X (.Compare a [op] [b] pos) (tTest (tOp r ta tb)) := by
  intro pins s σ H Q I h
  refine wpAny_isTrue_Compare1 (thn (ha pins s σ H _ I h) fun v s1 ⟨x, H1, I1, r1, q1⟩ => thn (hb pins s1 σ H1 _ I1 q1) fun u s2 ⟨y, H2, I2, r2, q2⟩ =>
    thn (ho pins s2 σ H2 x y v u _ I2 r1 r2 q2) fun c s3 ⟨z, H3, I3, r3, k, e, q3⟩ => ?_) hm
  subst e
  cases r3
  exact wpAny_truthy_bool ⟨H3, I3, q3⟩
/-! ### truth -/
/-- a value's truth by the abstract heap -/
noncomputable def TruV (K : PySem.W.Frag) (x : V) (H : Hp) (k : Bool) : Prop :=
  match x with
  | .non => k = false
  | .bl b => k = b
  | .int i => k = (i != 0)
  | .str y => y.length ≤ sizeLine ∧ k = ((y.length : Int) != 0)
  | .byt y => y.size ≤ sizeLine ∧ k = ((y.size : Int) != 0)
  | .ref p => (∃ xs, SqL K H p xs ∧ k = !xs.isEmpty) ∨ (∃ xs, SqT K H p xs ∧ k = !xs.isEmpty) ∨ ∃ kvs, H p = some (.dK kvs) ∧ k = !kvs.isEmpty
  | _ => False
theorem isEmpty_kv {κ : Type} {kvs : List (κ × V)} {vs : List (κ × Value)} (r : KV kvs vs) : (!vs.isEmpty) = !kvs.isEmpty := by
  cases r <;> rfl
theorem isEmpty_of {xs : List V} {its : List Value} (r : Vals xs its) : (!its.toArray.isEmpty) = !xs.isEmpty := by
  cases r <;> simp
theorem line63 : (sizeLine : Nat) < 2 ^ 63 := by rw [sizeLine_eq]; decide
theorem tru_ok : TruR X (fun x H Q => ∃ k, TruV X.K x H k ∧ Q k H) := by
  intro pins s σ H x v Q I rx h
  obtain ⟨k, e, q⟩ := h
  have hl := line63
  have hs : sizeLine = 16777216 := sizeLine_eq
  cases x with
  | non =>
    cases rx
    have e' : k = false := e
    subst e'
    exact truthy_none ⟨H, I, q⟩
  | bl b =>
    cases rx
    have e' : k = b := e
    subst e'
    exact wpAny_truthy_bool ⟨H, I, q⟩
  | int i =>
    obtain ⟨t, rfl⟩ := rx
    have e' : k = (i != 0) := e
    subst e'
    exact PySem.P.truthy_int ⟨H, I, q⟩
  | str y =>
    obtain ⟨t, rfl⟩ := rx
    obtain ⟨hy, e'⟩ : y.length ≤ sizeLine ∧ k = ((y.length : Int) != 0) := e
    subst e'
    exact PySem.P.truthy_str (by omega) ⟨H, I.tok _, q⟩
  | byt y =>
    obtain ⟨t, rfl⟩ := rx
    obtain ⟨hy, e'⟩ : y.size ≤ sizeLine ∧ k = ((y.size : Int) != 0) := e
    subst e'
    exact PySem.W.truthy_bytes (by omega) ⟨H, I.tok _, q⟩
  | ref p =>
    cases rx
    have e' : (∃ xs, SqL X.K H p xs ∧ k = !xs.isEmpty) ∨ (∃ xs, SqT X.K H p xs ∧ k = !xs.isEmpty) ∨ ∃ kvs, H p = some (.dK kvs) ∧ k = !kvs.isEmpty := e
    rcases e' with ⟨xs, hx, e'⟩ | ⟨xs, hx, e'⟩ | ⟨kvs, hx, e'⟩
    · subst e'
      obtain ⟨its, r, pl, hz⟩ := I.list hx
      have hlen := r.length
      exact wpAny_truthy_list pl.isList (by simp only [List.size_toArray]; omega) ⟨H, I.tok _, by rw [isEmpty_of r]; exact q⟩
    · subst e'
      obtain ⟨its, r, pl, hz⟩ := I.tuple hx
      have hlen := r.length
      exact truthy_tuple pl (by simp only [List.size_toArray]; omega) ⟨H, I.tok _, by rw [isEmpty_of r]; exact q⟩
    · subst e'
      obtain ⟨hz, hS, vs, r, m⟩ : kvs.length ≤ sizeLine ∧ (p == sysModules) = false ∧ ∃ vs, KV kvs vs ∧ s.heap.DictOf (mixKind X.prog X.w) p vs := I.hok p _ hx
      have hlen : kvs.length = vs.length := Paired.length r
      exact wpAny_truthy_dict hS m (by omega) ⟨H, I.tok _, by rw [isEmpty_kv r]; exact q⟩
  | _ => exact (show False from e).elim
/-- any expression whose test is its value's truth (a name, a call, a subscript, a field ..: he by fun _ => rfl) -/
theorem pt_truth (ha : PE X a ta) (he : ∀ whole, isTrue a X.env whole = (do let v ← whole; standAt a.pos; holding [v] (truthy v))) :
    PT X a (fun σ H Q => ta σ H fun x H' => ∃ k, TruV X.K x H' k ∧ Q k H') := by
  intro pins s σ H Q I h
  exact isTrue_plain (thn (ha pins s σ H _ I h) fun v s1 ⟨x, H1, I1, r1, q1⟩ => tru_ok pins s1 σ H1 x v Q I1 r1 q1) (he _)

/-! ### strs and bytes -/
/-! ### scalar builtins, by CallR -/
theorem vals1 {x : V} {us : List Value} (r : Vals [x] us) : ∃ u, us = [u] ∧ RelV x u := by
  cases r with
  | cons r1 r2 => cases r2; exact ⟨_, rfl, r1⟩
theorem vals2 {x y : V} {us : List Value} (r : Vals [x, y] us) : ∃ u w', us = [u, w'] ∧ RelV x u ∧ RelV y w' := by
  cases r with
  | cons r1 r2 =>
    cases r2 with
    | cons r3 r4 => cases r4; exact ⟨_, _, rfl, r1, r3⟩
theorem call_max2 (hc : X.calm = true) : CallR X (.builtin "max") (fun xs H Q => ∃ i j, xs = [.int i, .int j] ∧ Q (.int (if j > i then j else i)) H) := by
  intro pins s σ H xs us Q I r h
  obtain ⟨i, j, rfl, q⟩ := h
  obtain ⟨u, w', rfl, ⟨t, rfl⟩, ⟨t', rfl⟩⟩ := vals2 r
  refine max_two_ints (I.ok.hd hc) fun h' tk k => ⟨_, H, I.kept k, ?_, q⟩
  by_cases hj : j > i
  · rw [if_pos hj, if_pos hj]; exact ⟨_, rfl⟩
  · rw [if_neg hj, if_neg hj]; exact ⟨_, rfl⟩
/-- len of a str, a bytes, a list, a tuple -/
noncomputable def LenV (K : PySem.W.Frag) (x : V) (H : Hp) (n : Nat) : Prop :=
  match x with
  | .str y => y.length ≤ sizeLine ∧ n = y.length
  | .byt y => y.size ≤ sizeLine ∧ n = y.size
  | .ref p => (∃ xs, SqL K H p xs ∧ n = xs.length) ∨ ∃ xs, SqT K H p xs ∧ n = xs.length
  | _ => False
theorem call_len : CallR X (.builtin "len") (fun xs H Q => ∃ x n, xs = [x] ∧ LenV X.K x H n ∧ Q (.int n) H) := by
  intro pins s σ H xs us Q I r h
  obtain ⟨x, n, rfl, e, q⟩ := h
  obtain ⟨u, rfl, rx⟩ := vals1 r
  have hl := line63
  have hs : sizeLine = 16777216 := sizeLine_eq
  cases x with
  | str y =>
    obtain ⟨t, rfl⟩ := rx
    obtain ⟨hy, e'⟩ : y.length ≤ sizeLine ∧ n = y.length := e
    subst e'
    exact len_str (by omega) ⟨.int _, H, I.tok _, ⟨_, rfl⟩, q⟩
  | byt y =>
    obtain ⟨t, rfl⟩ := rx
    obtain ⟨hy, e'⟩ : y.size ≤ sizeLine ∧ n = y.size := e
    subst e'
    exact PySem.W.len_bytes (by omega) ⟨.int _, H, I.tok _, ⟨_, rfl⟩, q⟩
  | ref p =>
    cases rx
    have e' : (∃ xs, SqL X.K H p xs ∧ n = xs.length) ∨ ∃ xs, SqT X.K H p xs ∧ n = xs.length := e
    rcases e' with ⟨xs, hx, e'⟩ | ⟨xs, hx, e'⟩
    · subst e'
      obtain ⟨its, r', pl, hz⟩ := I.list hx
      have hlen := r'.length
      exact Calls.call_len_list pl.isList (by simp only [List.size_toArray]; omega) ⟨.int xs.length, H, I.tok _, ⟨_, by simp only [List.size_toArray]; rw [hlen]⟩, q⟩
    · subst e'
      obtain ⟨its, r', pl, hz⟩ := I.tuple hx
      have hlen := r'.length
      exact len_tuple pl (by simp only [List.size_toArray]; omega) ⟨.int xs.length, H, I.tok _, ⟨_, by simp only [List.size_toArray]; rw [hlen]⟩, q⟩
  | _ => exact (show False from e).elim
end
end L2

namespace L2
open PySem PySem.Spec PyProof.Rows

/-! ### an instance, its attributes a map -/
structure ObjM (h : Heap) (x dx C : Addr) (mA : Str → Option Value) : Prop where
  obj : h.get? x = some (PySem.W.instObj C dx)
  ns : h.Ns1 dx mA
  ne : dx ≠ x

theorem lookIn_ns {h : Heap} {dx : Addr} {mA : Str → Option Value} (n : h.Ns1 dx mA) : ∃ od, h.get? dx = some od ∧ ∀ name, PySem.W.lookIn name od = some (mA name) := by
  obtain ⟨o, es, ep, ho, hd, hk, _, hm⟩ := n
  refine ⟨o, ho, fun name => ?_⟩
  have e := hm name
  unfold nsFind findBy at e
  rw [← Array.find?_toList] at e
  unfold PySem.W.lookIn
  rw [hd]
  dsimp only
  split
  · rename_i y q
    rw [q] at e
    exact congrArg some e
  · rename_i q
    rw [q] at e
    have a : es.toList.any (·.refKey) = false := by
      rw [List.any_eq_false]
      intro y hy
      obtain ⟨z, t, hkey⟩ := hk y (Array.mem_toList_iff.mp hy)
      simp [DictEntry.refKey, hkey]
    have a' : ¬ es.toList.any (·.refKey) = true := by rw [a]; exact Bool.false_ne_true
    rw [if_neg a']
    exact congrArg some e

theorem ObjM.look {h : Heap} {x dx C : Addr} {mA : Str → Option Value} (I : ObjM h x dx C mA) : ∃ od, PySem.W.InstAt h x (PySem.W.instObj C dx) C (some od) ∧ ∀ name, PySem.W.lookIn name od = some (mA name) :=
  let ⟨od, ho, hl⟩ := lookIn_ns I.ns
  ⟨od, ⟨I.obj, rfl, rfl, ho⟩, hl⟩

section
variable {prog : Program} {w : World} {A : Around} {E : Value → Shared → Prop} {s : Shared} {K : PySem.W.Frag} {x dx C f : Addr} {mA : Str → Option Value} {name : Str} {v : Value}

theorem get_map {expr : Bool} {Q : Value → Shared → Prop} (X : K.In s.heap) (I : ObjM s.heap x dx C mA) (hg : PySem.W.plainGet K C name = true) (hh : PySem.W.hasDictIn K C = true)
    (ha : PySem.W.findIn K (.ref C) name = some none) (hv : mA name = some v) (hv' : PySem.W.handedIn v = true) (h : Q v { s with toks := s.toks + 1 }) :
    wpAny (model prog w) A (getAttr (.ref x) name expr) Q E s := by
  obtain ⟨od, J, hl⟩ := I.look
  exact PySem.W.get_value X J (PySem.W.plainGet_of hg).1 (PySem.W.findObj_own hh ha rfl (by rw [hl, hv])) hv' h

theorem get_meth {pl : Sem Bool} {Q : Value × List Value → Shared → Prop} (X : K.In s.heap) (I : ObjM s.heap x dx C mA) (hg : PySem.W.plainGet K C name = true)
    (hf : PySem.W.findIn K (.ref C) name = some (some (.ref f))) (ht : PySem.W.isFn K (.ref f) = true) (hv : mA name = none) (h : Q (.ref f, [.ref x]) s) :
    wpAny (model prog w) A (getMethod (.ref x) name pl) Q E s := by
  obtain ⟨od, J, hl⟩ := I.look
  exact PySem.W.method_fn X J (PySem.W.plainGet_of hg).1 (PySem.W.plainGet_of hg).2 hf (beq_iff_eq.mp ht) (by show (PySem.W.lookIn name od).map (·.isSome) = some false; rw [hl, hv]; rfl) h

theorem set_map {ns : List Str} {Q : Unit → Shared → Prop} (X : K.In s.heap) (I : ObjM s.heap x dx C mA)
    (hs : PySem.W.findIn K (.ref C) "__setattr__" = some (some (.builtin "object.__setattr__"))) (hp : PySem.W.plainOver K C = true) (ht : PySem.W.takerIn K C name = some none) (hh : PySem.W.hasDictIn K C = true)
    (hw : PySem.Within mA ns) (hsz : ns.length ≤ sizeLine)
    (h : ∀ h', ObjM h' x dx C (fun y => if y = name then some v else mA y) → Heap.SameBut dx s.heap h' → Q () { s with heap := h', toks := s.toks + 2 }) :
    wpAny (model prog w) A (setAttr (.ref x) name v) Q E s := by
  obtain ⟨od, J, hl⟩ := I.look
  refine PySem.W.set_plain X J hs (PySem.W.osa_open (s := { s with toks := s.toks + 1 }) (r := none) X J hp ht fun b => ?_)
  obtain ⟨cd, hc, hd'⟩ := PySem.W.any_some hh
  have hx : s.heap.get? x = some ⟨.ref C, some dx, .plain, #[]⟩ := I.obj
  refine wpAny_bind (wpAny_pure (wpAny_bind (wpAny_bind (wpAny_loadPart hx (wpAny_bind (PySem.W.Looks.here (s := { s with toks := s.toks + 1 }) (PySem.W.looks_clsIn X hc) ?_))))))
  rw [hd']
  refine wpAny_pure (a := some dx) (wpAny_bind (wpAny_pure (wpAny_bind ?_)))
  refine wpAny_nsSet1 (s := { s with toks := s.toks + 1 }) I.ns fun h' hn2 hs2 => ?_
  obtain ⟨oD, esD, epD, hoD, hdD, hcD⟩ := hn2.count (PySem.Within.cons name v hw)
  refine wpAny_bind (wpAny_lookBehind hoD (by rw [hdD]; exact pastItsLine_dict (Nat.le_trans hcD (by rw [List.length_cons]; omega))) ?_)
  exact wpAny_pure (h _ ⟨(hs2.2 _ (Ne.symm I.ne)).trans I.obj, hn2, I.ne⟩ hs2)

/-- C(..): the dict at the heap's end, the instance behind it; then its __init__ -/
theorem make_map {R : Result → Shared → Prop} {vs : List Value} {kw : List (Str × Value)} (X : K.In s.heap) (hm : PySem.W.makesIn K C = true)
    (hi : PySem.W.findIn K (.ref C) "__init__" = some (some (.ref f))) (hf : PySem.W.typeIn K (.ref f) = some (.type "function"))
    (h : codeAny (model prog w) (A.under (.builtin "type.__call__" ⟨.ref C :: vs, kw⟩)) (.call (.ref f) ⟨.ref (s.heap.objs.size + 1) :: vs, kw⟩) (PySem.W.InitBack (s.heap.objs.size + 1) R)
      { s with heap := (s.heap.push PySem.W.emptyDict).push (PySem.W.instObj C s.heap.objs.size) }) :
    codeAny (model prog w) A (.call (.ref C) ⟨vs, kw⟩) R s := by
  obtain ⟨hh, g, d, t, os⟩ := s
  exact PySem.W.make_core (PySem.W.makes_of X hm) (PySem.W.looks_findIn X hi) (fun self => PySem.W.bind_fn X self hf) (.inl rfl) h
end

/-! ### the attributes as a list of pairs -/
noncomputable def putF (f : Str) (v : V) : List (Str × V) → List (Str × V)
  | [] => [(f, v)]
  | (g, x) :: r => if g = f then (g, v) :: r else (g, x) :: putF f v r
theorem lookup_putF (f g : Str) (v : V) : ∀ fs : List (Str × V), (putF f v fs).lookup g = if g = f then some v else fs.lookup g
  | [] => by
    show List.lookup g [(f, v)] = _
    by_cases h : g = f
    · have hb : (g == f) = true := beq_iff_eq.mpr h
      simp only [List.lookup, hb, if_pos h]
    · have hb : (g == f) = false := beq_eq_false_iff_ne.mpr h
      simp only [List.lookup, hb, if_neg h]
  | (k, x) :: r => by
    have ih := lookup_putF f g v r
    rw [show putF f v ((k, x) :: r) = (if k = f then (k, v) :: r else (k, x) :: putF f v r) from rfl]
    by_cases hk : k = f
    · rw [if_pos hk]
      by_cases h : g = k
      · have hb : (g == k) = true := beq_iff_eq.mpr h
        simp only [List.lookup, hb, if_pos (h.trans hk)]
      · have hb : (g == k) = false := beq_eq_false_iff_ne.mpr h
        simp only [List.lookup, hb, if_neg (fun e : g = f => h (e.trans hk.symm))]
    · rw [if_neg hk]
      by_cases h : g = k
      · have hb : (g == k) = true := beq_iff_eq.mpr h
        simp only [List.lookup, hb, if_neg (fun e : g = f => hk (h.symm.trans e))]
      · have hb : (g == k) = false := beq_eq_false_iff_ne.mpr h
        simp only [List.lookup, hb]
        exact ih
theorem keys_putF (f : Str) (v : V) : ∀ fs : List (Str × V), f ∈ (putF f v fs).map (·.1) ∧ ∀ g, g ∈ fs.map (·.1) → g ∈ (putF f v fs).map (·.1)
  | [] => ⟨by simp [putF], fun g h => by simp at h⟩
  | (k, x) :: r => by
    obtain ⟨i1, i2⟩ := keys_putF f v r
    rw [show putF f v ((k, x) :: r) = (if k = f then (k, v) :: r else (k, x) :: putF f v r) from rfl]
    by_cases hk : k = f
    · rw [if_pos hk]
      subst hk
      exact ⟨by simp, fun g h => by simpa using h⟩
    · rw [if_neg hk]
      refine ⟨?_, fun g h => ?_⟩
      · rw [List.map_cons]
        exact List.mem_cons_of_mem _ i1
      · rw [List.map_cons] at h ⊢
        rcases List.mem_cons.mp h with e | e
        · exact List.mem_cons.mpr (.inl e)
        · exact List.mem_cons_of_mem _ (i2 g e)
theorem length_putF (f : Str) (v : V) : ∀ fs : List (Str × V), (putF f v fs).length ≤ fs.length + 1
  | [] => by simp [putF]
  | (k, x) :: r => by
    have ih := length_putF f v r
    rw [show putF f v ((k, x) :: r) = (if k = f then (k, v) :: r else (k, x) :: putF f v r) from rfl]
    by_cases hk : k = f
    · rw [if_pos hk, List.length_cons, List.length_cons]; omega
    · rw [if_neg hk, List.length_cons, List.length_cons]; omega

theorem RelO.some_of {v : V} {o : Option Value} (r : RelO (some v) o) : ∃ u, o = some u ∧ RelV v u := by
  cases o with
  | none => exact (show False from r).elim
  | some u => exact ⟨u, rfl, r⟩
theorem RelO.none_of {o : Option Value} (r : RelO none o) : o = none := by
  cases o with
  | none => rfl
  | some u => exact (show False from r).elim
theorem handed_of {v : V} {u : Value} (r : RelV v u) : PySem.W.handedIn u = true := by
  cases v with
  | non => cases (show u = Value.none from r); rfl
  | bl b => cases (show u = Value.bool b from r); rfl
  | int i => obtain ⟨t, e⟩ := (show ∃ t, u = Value.int i t from r); cases e; rfl
  | str x => obtain ⟨t, e⟩ := (show ∃ t, u = Value.str x t from r); cases e; rfl
  | byt b => obtain ⟨t, e⟩ := (show ∃ t, u = Value.bytes b t from r); cases e; rfl
  | flt b => obtain ⟨t, e⟩ := (show ∃ t, u = Value.float b t from r); cases e; rfl
  | ref a => cases (show u = Value.ref a from r); rfl
  | ty n => cases (show u = Value.type n from r); rfl

section
variable {P : Program} {w : World} {H H' : Hp} {h h' : Heap} {a C dx : Addr} {fs fs' : List (Str × V)}
theorem ins_get (hok : HOk P w H h) (e : H a = some (.ins C dx fs)) : ∃ mA, ObjM h a dx C mA ∧ (∀ f, RelO (fs.lookup f) (mA f)) ∧ PySem.Within mA (fs.map (·.1)) ∧ fs.length ≤ 1000 ∧ H dx = some (.own a) := by
  obtain ⟨d, z, ne, ob, mA, n, r, q⟩ := (show ObjOk P w H h a (.ins C dx fs) from hok a _ e)
  exact ⟨mA, ⟨ob, n, ne⟩, r, q, z, d⟩
end

/-! ### what of the text a class must have -/
structure Cls (K : PySem.W.Frag) (C : Addr) : Prop where
  pg : PySem.W.plainGet K C Str.empty = true
  hd : PySem.W.hasDictIn K C = true
  po : PySem.W.plainOver K C = true
  sa : PySem.W.findIn K (.ref C) "__setattr__" = some (some (.builtin "object.__setattr__"))
theorem Cls.get {K : PySem.W.Frag} {C : Addr} (c : Cls K C) (f : Str) : PySem.W.plainGet K C f = true := c.pg
/-- no class of it has the name -/
noncomputable def NoAttr (K : PySem.W.Frag) (C : Addr) (f : Str) : Prop := PySem.W.findIn K (.ref C) f = some none
theorem NoAttr.taker {K : PySem.W.Frag} {C : Addr} {f : Str} (n : NoAttr K C f) : PySem.W.takerIn K C f = some none := by
  unfold PySem.W.takerIn
  rw [show PySem.W.findIn K (.ref C) f = some none from n]
  rfl
/-- a method: a plain def of the class or of one above it -/
structure Meth (K : PySem.W.Frag) (C : Addr) (m : Str) (f : Addr) : Prop where
  at_ : PySem.W.findIn K (.ref C) m = some (some (.ref f))
  fn : PySem.W.isFn K (.ref f) = true
  kp : PySem.W.keepIn K (.ref f) = true

section
variable {X : Cx} {pins : List (Addr × Obj)} {σ : St} {H : Hp} {s : Shared} {a C dx : Addr} {fs : List (Str × V)} {f : Str} {v : V} {A : Around} {E : Value → Shared → Prop}

theorem getattr_ok {b : Bool} {Q : Value → Shared → Prop} (I : Inv X pins σ H s) (e : H a = some (.ins C dx fs)) (c : Cls X.K C) (n : NoAttr X.K C f) (l : fs.lookup f = some v)
    (h : ∀ u s', Inv X pins σ H s' → RelV v u → Q u s') : wpAny (model X.prog X.w) A (getAttr (.ref a) f b) Q E s := by
  obtain ⟨mA, O, r, _, _, _⟩ := ins_get I.hok e
  obtain ⟨u, hu, ru⟩ := RelO.some_of (v := v) (o := mA f) (by rw [← l]; exact r f)
  exact get_map I.kIn O (c.get f) c.hd n hu (handed_of ru) (h u _ (I.tok _) ru)

theorem getmeth_ok {m : Str} {g : Addr} {pl : Sem Bool} {Q : Value × List Value → Shared → Prop} (I : Inv X pins σ H s) (e : H a = some (.ins C dx fs)) (c : Cls X.K C) (k : Meth X.K C m g) (l : fs.lookup m = none)
    (h : Q (.ref g, [.ref a]) s) : wpAny (model X.prog X.w) A (getMethod (.ref a) m pl) Q E s := by
  obtain ⟨mA, O, r, _, _, _⟩ := ins_get I.hok e
  have hn : mA m = none := RelO.none_of (by rw [← l]; exact r m)
  exact get_meth I.kIn O (c.get m) k.at_ k.fn hn h

theorem setattr_ok {y : V} {u : Value} {Q : Unit → Shared → Prop} (I : Inv X pins σ H s) (e : H a = some (.ins C dx fs)) (c : Cls X.K C) (n : NoAttr X.K C f) (hl : fs.length < 1000) (ry : RelV y u)
    (h : ∀ s', Inv X pins σ (upd H a (.ins C dx (putF f y fs))) s' → Q () s') : wpAny (model X.prog X.w) A (setAttr (.ref a) f u) Q E s := by
  obtain ⟨mA, O, r, wi, _, ho⟩ := ins_get I.hok e
  have hz : (fs.map (·.1)).length ≤ sizeLine := by rw [List.length_map, sizeLine_eq]; omega
  refine set_map I.kIn O c.sa c.po n.taker c.hd wi hz fun h' O' sb => h _ ?_
  have hd : ∃ o, h'.get? dx = some o := let ⟨o, _, _, e', _⟩ := O'.ns; ⟨o, e'⟩
  refine I.write (x := a) (e := dx) (by rw [e]; exact True.intro) (.inr ho) (fun b q hb z => (sb.2 b hb).trans z) hd ?_
  refine ⟨by rw [upd_ne O.ne]; exact ho, ?_, O.ne, O'.obj, _, O'.ns, fun g => ?_, fun g hg => ?_⟩
  · have := length_putF f y fs; omega
  · show RelO ((putF f y fs).lookup g) (if g = f then some u else mA g)
    rw [lookup_putF]
    by_cases q : g = f
    · rw [if_pos q, if_pos q]; exact ry
    · rw [if_neg q, if_neg q]; exact r g
  · by_cases q : g = f
    · rw [q]; exact (keys_putF f y fs).1
    · refine (keys_putF f y fs).2 g (wi g fun z => hg ?_)
      show (if g = f then some u else mA g) = none
      rw [if_neg q]; exact z

/-- a new instance, tracked, without attributes -/
theorem Inv.made (I : Inv X pins σ H s) : Inv X pins σ (upd (upd H s.heap.objs.size (.own (s.heap.objs.size + 1))) (s.heap.objs.size + 1) (.ins C s.heap.objs.size []))
    { s with heap := (s.heap.push PySem.W.emptyDict).push (PySem.W.instObj C s.heap.objs.size) } := by
  have e1 : (s.heap.push PySem.W.emptyDict).get? s.heap.objs.size = some PySem.W.emptyDict := Heap.get?_push_size s.heap rfl
  have e2 : ((s.heap.push PySem.W.emptyDict).push (PySem.W.instObj C s.heap.objs.size)).get? (s.heap.objs.size + 1) = some (PySem.W.instObj C s.heap.objs.size) := by
    have := Heap.get?_push_size (s.heap.push PySem.W.emptyDict) (o := PySem.W.instObj C s.heap.objs.size) rfl
    rwa [Heap.size_push] at this
  have e3 : (s.heap.push PySem.W.emptyDict).Ns s.heap.objs.size (fun _ => none) := ⟨PySem.W.emptyDict, #[], _, e1, rfl, (fun e he => absurd he (by simp)), fun _ => rfl⟩
  have I1 := I.laid (a := s.heap.objs.size) (o := .own (s.heap.objs.size + 1)) (h' := s.heap.push PySem.W.emptyDict) (t' := s.toks) (fun b u q => Heap.get?_push_of_some _ q) (Nat.le_refl _) ⟨_, e1⟩
  refine I1.laid (a := s.heap.objs.size + 1) (o := .ins C s.heap.objs.size []) (t' := s.toks) (fun b u q => Heap.get?_push_of_some _ q) (Nat.le_of_eq (Heap.size_push _ _)) ?_
  have ne : s.heap.objs.size ≠ s.heap.objs.size + 1 := Nat.ne_of_lt (Nat.lt_succ_self _)
  refine ⟨by rw [upd_ne ne, upd_same], Nat.zero_le _, ne, e2, fun _ => none, (Heap.Ns1.of_empty e3).at fun o q => Heap.get?_push_of_some _ q, fun _ => True.intro, fun y hy => absurd rfl hy⟩

/-- e.f where nothing but the object is asked: through attributeBase (super) and the last hold -/
theorem attr_of {prog : Program} {w : World} {env : Env} {e : Expr} {f : Str} {pos : Pos} {s : Shared} {Q : Value → Shared → Prop} (hb : attributeBase e f env (eval e env) = eval e env)
    (h : wpAny (model prog w) A (eval e env) (fun o s₁ => wpAny (model prog w) A (getAttr o f true) Q E s₁) E s) : wpAny (model prog w) A (eval (.Attribute e f pos) env) Q E s :=
  Attribute_any_ h (by rw [arm_eval_Attribute, hb])
end

/-! ### readings and rules -/
/-- e.f, an attribute of the instance -/
noncomputable def tFld (K : PySem.W.Frag) (ta : TE) (f : Str) : TE := fun σ H Q => ta σ H fun x H1 => ∃ a C dx fs v, x = .ref a ∧ H1 a = some (.ins C dx fs) ∧ Cls K C ∧ NoAttr K C f ∧ fs.lookup f = some v ∧ Q v H1
/-- e.f = value -/
noncomputable def sFld (K : PySem.W.Frag) (ta tv : TE) (f : Str) : TS := fun D σ H => tv σ H fun y H1 => ta σ H1 fun x H2 => ∃ a C dx fs, x = .ref a ∧ H2 a = some (.ins C dx fs) ∧ Cls K C ∧ NoAttr K C f ∧ fs.length < 1000 ∧
  D.nx σ (upd H2 a (.ins C dx (putF f y fs)))
section
variable {X : Cx} {o e value : Expr} {f : Str} {pos pos' tpos : Pos} {ta tv : TE}
theorem pe_fld (he : PE X e ta) (hb : attributeBase e f X.env (eval e X.env) = eval e X.env) : PE X (.Attribute e f pos) (tFld X.K ta f) := by
  intro pins s σ H Q I h
  refine attr_of hb (thn (he pins s σ H _ I h) fun u s1 ⟨x, H1, I1, rx, a, C, dx, fs, v, ex, ea, c, n, l, q⟩ => ?_)
  subst ex
  obtain rfl : u = Value.ref a := rx
  exact getattr_ok I1 ea c n l fun u' s2 I2 ru => ⟨v, H1, I2, ru, q⟩
theorem ps_fld (ha : PE X o ta) (hv : PE X value tv) (hs : swapsWith value (some (.Attribute o f pos')) pos.line X.env = pure false) : PS X (.Assign [.Attribute o f pos'] value pos) (sFld X.K ta tv f) := by
  intro pins s σ H D I h
  refine plainObj_wpAny_Assign_Attribute (thn (hv pins s σ H _ I h) fun u s1 ⟨y, H1, I1, ry, q⟩ => thn (ha pins s1 σ H1 _ I1 q) fun ov s2 ⟨x, H2, I2, rx, a, C, dx, fs, ex, ea, c, n, l, q2⟩ => ?_) hs
  subst ex
  obtain rfl : ov = Value.ref a := rx
  exact setattr_ok I2 ea c n l ry fun s3 I3 => ⟨σ, _, I3, q2⟩
/-- what is between an instance and its method: the tree of a method call -/
theorem methcall_of {pl : Sem Bool} {m : Str} {apos : Pos} {args : List Expr} {pins : List (Addr × Obj)} {s : Shared} {σ : St} {H : Hp} {Q : Value → Shared → Prop} {te : TE} (he : PE X e te) (I : Inv X pins σ H s)
    (h : te σ H fun x H1 => ∃ a C dx fs g, x = .ref a ∧ H1 a = some (.ins C dx fs) ∧ Cls X.K C ∧ Meth X.K C m g ∧ fs.lookup m = none ∧
      ∀ s1, Inv X pins σ H1 s1 → wpAny (model X.prog X.w) X.A (callWith pos (.ref g) [.ref a] (backTo pos (starEach args X.env)) (backToKw pos (keywordEach [] X.env))) Q X.xe s1)
    (ht : eval (.Call (.Attribute e m apos) args [] pos) X.env = (do
      let ov ← eval e X.env
      standAt apos.atName
      let (f, first) ← holding [ov] (getMethod ov m pl)
      callWith pos f first (backTo pos (starEach args X.env)) (backToKw pos (keywordEach [] X.env)))) :
    wpAny (model X.prog X.w) X.A (eval (.Call (.Attribute e m apos) args [] pos) X.env) Q X.xe s := by
  refine PySem.W.methodCall_KW (pl := pl) (thn (he pins s σ H _ I h) fun u s1 ⟨x, H1, I1, rx, a, C, dx, fs, g, ex, ea, c, k, l, q⟩ => ?_) ht
  subst ex
  obtain rfl : u = Value.ref a := rx
  exact getmeth_ok I1 ea c k l (q s1 I1)
end

/-! ### isinstance -/
section
variable {X : Cx} {pins : List (Addr × Obj)} {σ : St} {H : Hp} {s : Shared} {A : Around} {E : Value → Shared → Prop} {Q : Value → Shared → Prop} {c : Value} {b : Bool}
/-- the type of a value, as the fragment's deciders take it; for an instance its class -/
inductive TyOf (K : PySem.W.Frag) (H : Hp) : V → Value → Prop where
  | non : TyOf K H .non (.type "NoneType")
  | bl (x : Bool) : TyOf K H (.bl x) (.type "bool")
  | int (i : Int) : TyOf K H (.int i) (.type "int")
  | str (x : Str) : TyOf K H (.str x) (.type "str")
  | flt (x : UInt64) : TyOf K H (.flt x) (.type "float")
  | lst {a : Addr} {xs : List V} (e : H a = some (.lst xs)) : TyOf K H (.ref a) (.type "list")
  | frz {a : Addr} {o : Obj} {xs : List V} (e : H a = some (.frz o (.lst xs))) : TyOf K H (.ref a) (.type "list")
  | tup {a : Addr} {xs : List V} (e : H a = some (.tup xs)) : TyOf K H (.ref a) (.type "tuple")
  | dK {a : Addr} {kvs : List (Key × V)} (e : H a = some (.dK kvs)) : TyOf K H (.ref a) (.type "dict")
  | dT {a : Addr} {kvs : List (List Key × V)} (e : H a = some (.dT kvs)) : TyOf K H (.ref a) (.type "dict")
  | ins {a C dx : Addr} {fs : List (Str × V)} (e : H a = some (.ins C dx fs)) (cl : Cls K C) (ha : PySem.W.findIn K (.ref C) "__class__" = some (some (.builtin "object.__class__")))
      (hn : PySem.W.specialIn K (.builtin "object.__class__") "__get__" = some (some (.builtin "getset_descriptor.__get__"))) (htk : PySem.W.takesIn K (.builtin "object.__class__") = some true)
      (hm : PySem.W.mroIn K C (.type "object") = some true) : TyOf K H (.ref a) (.ref C)
/-- isinstance(x, c) for one class c, a built-in or an own one: kitOne's answer -/
theorem isinst_ok {x : V} {u t : Value} (I : Inv X pins σ H s) (rx : RelV x u) (ty : TyOf X.K H x t) (e : PySem.W.kitOne X.K t c = some b) (h : ∀ tk, Q (.bool b) { s with toks := tk }) :
    wpAny (model X.prog X.w) A (call (.builtin "isinstance") [u, c]) Q E s := by
  cases ty with
  | non => cases (show u = Value.none from rx); exact PySem.W.kia_one PySem.W.kitx_none I.kIn True.intro e (fun z => nomatch z) h
  | bl y => cases (show u = Value.bool y from rx); exact PySem.W.kia_one PySem.W.kitx_bool I.kIn True.intro e (fun z => nomatch z) h
  | int i => obtain ⟨t, q⟩ := (show ∃ t, u = Value.int i t from rx); cases q; exact PySem.W.kia_one PySem.W.kitx_int I.kIn True.intro e (fun z => nomatch z) h
  | str y => obtain ⟨t, q⟩ := (show ∃ t, u = Value.str y t from rx); cases q; exact PySem.W.kia_one PySem.W.kitx_str I.kIn True.intro e (fun z => nomatch z) h
  | flt y => obtain ⟨t, q⟩ := (show ∃ t, u = Value.float y t from rx); cases q; exact PySem.W.kia_one PySem.W.kitx_float I.kIn True.intro e (fun z => nomatch z) h
  | @lst a xs ea =>
    cases (show u = Value.ref a from rx)
    obtain ⟨_, _, n, _, h1⟩ := (show ObjOk X.prog X.w H s.heap a (.lst xs) from I.hok a _ ea)
    exact PySem.W.kia_one PySem.W.kitx_list I.kIn ⟨_, h1, rfl⟩ e (fun z => nomatch z) h
  | @frz a ob xs ea =>
    cases (show u = Value.ref a from rx)
    obtain ⟨_, _, _, n, _, h1⟩ := (show ObjOk X.prog X.w H s.heap a (.frz ob (.lst xs)) from I.hok a _ ea)
    exact PySem.W.kia_one PySem.W.kitx_list I.kIn ⟨_, h1, rfl⟩ e (fun z => nomatch z) h
  | @tup a xs ea =>
    cases (show u = Value.ref a from rx)
    obtain ⟨_, _, _, p⟩ := (show ObjOk X.prog X.w H s.heap a (.tup xs) from I.hok a _ ea)
    obtain ⟨o, h1, h2, _⟩ := p
    exact PySem.W.kia_one PySem.W.kitx_tuple I.kIn ⟨o, h1, h2⟩ e (fun z => nomatch z) h
  | @dK a kvs ea =>
    cases (show u = Value.ref a from rx)
    obtain ⟨_, _, vs, _, p⟩ := (show ObjOk X.prog X.w H s.heap a (.dK kvs) from I.hok a _ ea)
    obtain ⟨o, es, ep, h1, h2, _⟩ := p
    exact PySem.W.kia_one PySem.W.kitx_dict I.kIn ⟨o, h1, h2.1⟩ e (fun z => nomatch z) h
  | @dT a kvs ea =>
    cases (show u = Value.ref a from rx)
    obtain ⟨_, _, xs, _, o, es, ep, h1, h2, _⟩ := (show ObjOk X.prog X.w H s.heap a (.dT kvs) from I.hok a _ ea)
    exact PySem.W.kia_one PySem.W.kitx_dict I.kIn ⟨o, h1, h2.1⟩ e (fun z => nomatch z) h
  | @ins a C dx fs ea cl ha hn htk hm =>
    cases (show u = Value.ref a from rx)
    obtain ⟨mA, O, _⟩ := ins_get I.hok ea
    obtain ⟨od, J, _⟩ := O.look
    exact PySem.W.kia_one (PySem.W.kitx_own (cl.get _) cl.hd ha hn htk hm) I.kIn J e (fun z => nomatch z) h
end
end L2

namespace L2
open PySem PySem.Spec PyProof.Rows

/-! ### room -/
structure Room (k : Nat) (A : Around) : Prop where
  hd : A.handled = none
  dp : A.depth + 3 * k + 5 < recursionLimit
  un : A.units + 16 * k + 200 < cLine
theorem Room.mono {j k : Nat} {A : Around} (r : Room k A) (h : j ≤ k) : Room j A := ⟨r.hd, by have := r.dp; omega, by have := r.un; omega⟩
theorem Room.deeper {k : Nat} {A : Around} (r : Room (k + 1) A) (env : Env) : Room k (A.deeper env) :=
  ⟨r.hd, by have := r.dp; show A.depth + 1 + 3 * k + 5 < _; omega, by have := r.un; show A.units + 3 + 16 * k + 200 < _; omega⟩
theorem make_depth {A : Around} {C : Addr} {us : List Value} {kw : List (Str × Value)} : (A.under (.builtin "type.__call__" ⟨.ref C :: us, kw⟩)).depth = A.depth + 1 := by
  first | rfl | simp [Around.under, Code.weight, Code.isCreation, Code.isGuard, Code.isCaller, Code.frames, Code.isFrame, guardIds]
theorem make_units {A : Around} {C : Addr} {us : List Value} {kw : List (Str × Value)} : (A.under (.builtin "type.__call__" ⟨.ref C :: us, kw⟩)).units = A.units + 1 := by
  first | rfl | simp [Around.under, Code.cUnits, Code.frames, Code.isFrame]
theorem Room.make {k : Nat} {A : Around} (r : Room (k + 1) A) (C : Addr) (us : List Value) (kw : List (Str × Value)) : Room k (A.under (.builtin "type.__call__" ⟨.ref C :: us, kw⟩)) :=
  ⟨r.hd, by have := r.dp; rw [make_depth]; omega, by have := r.un; rw [make_units]; omega⟩
theorem Room.depth {k : Nat} {A : Around} (r : Room k A) : A.depth < recursionLimit := by have := r.dp; omega
theorem Room.units0 {k : Nat} {A : Around} (r : Room k A) : A.units < cLine := by have := r.un; omega

/-! ### argument lists and displays -/
noncomputable def tNil : TA := fun _ H Q => Q [] H
noncomputable def tCons (ta : TE) (tr : TA) : TA := fun σ H Q => ta σ H fun x H1 => tr σ H1 fun xs H2 => Q (x :: xs) H2
section
variable {X : Cx} {e : Expr} {es : List Expr} {te : TE} {t : TA} {pos : Pos}
theorem pa_nil : PA X [] tNil := fun _ _ _ _ H Q I h => Calls.spliced_nil ⟨[], H, I, .nil, h⟩
theorem pa_cons (ha : PE X e te) (hr : PA X es t) (hs : starEach (e :: es) X.env = (false, eval e X.env) :: starEach es X.env := by rfl) : PA X (e :: es) (tCons te t) := by
  intro pos pins s σ H Q I h
  rw [hs]
  show wpAny _ _ (spliced ((false, eval e X.env) :: backTo pos (starEach es X.env))) _ _ s
  refine Calls.spliced_cons (thn (ha pins s σ H _ I h) fun u s1 ⟨x, H1, I1, r1, q1⟩ => ?_)
  exact thn (hr pos pins s1 σ H1 _ I1 q1) fun us s2 ⟨xs, H2, I2, r2, q2⟩ => ⟨x :: xs, H2, I2, .cons r1 r2, q2⟩

/-- a tuple, a list of written items -/
noncomputable def tTup (t : TA) : TE := fun σ H Q => t σ H fun xs H1 => xs.length ≤ sizeLine ∧ ∀ p, H1 p = none → Q (.ref p) (upd H1 p (.tup xs))
noncomputable def tLst (t : TA) : TE := fun σ H Q => t σ H fun xs H1 => xs.length ≤ sizeLine ∧ ∀ p, H1 p = none → Q (.ref p) (upd H1 p (.lst xs))
theorem pe_tup {x1} (h : PA X es t) : PE X (.Tuple es x1 pos) (tTup t) := by
  intro pins s σ H Q I hq
  refine wpAny_Tuple_spliced (thn (h pos pins s σ H _ I hq) fun us s1 ⟨xs, H1, I1, r, z, q⟩ => ⟨by rw [← r.length]; exact z, ?_⟩)
  have hf : H1 s1.heap.objs.size = none := I1.hok.fresh (Nat.le_refl _)
  refine ⟨.ref s1.heap.objs.size, upd H1 s1.heap.objs.size (.tup xs), I1.laid (t' := s1.toks) (fun b u e => Heap.get?_push_of_some _ e) (Nat.le_refl _) ?_, rfl, q _ hf⟩
  exact ⟨z, us, r, ⟨_, Heap.get?_push_size _ rfl, rfl, _, rfl⟩⟩
theorem pe_lst (h : PA X es t) : PE X (.List es pos) (tLst t) := by
  intro pins s σ H Q I hq
  refine wpAny_List_spliced (thn (h pos pins s σ H _ I hq) fun us s1 ⟨xs, H1, I1, r, z, q⟩ => ⟨by rw [← r.length]; exact z, ?_⟩)
  have hf : H1 s1.heap.objs.size = none := I1.hok.fresh (Nat.le_refl _)
  refine ⟨.ref s1.heap.objs.size, upd H1 s1.heap.objs.size (.lst xs), I1.laid (t' := s1.toks) (fun b u e => Heap.get?_push_of_some _ e) (Nat.le_refl _) ?_, rfl, q _ hf⟩
  exact ⟨z, us, 0, r, Heap.get?_push_size _ rfl⟩
end

/-! ### what a def promises -/
/-- a def's promise: the bound arguments in the parameters' order, the heap, the wanted end, the wanted exception -/
noncomputable abbrev Sp := List V → Hp → VK → XK → Prop
/-- how an exception lies behind a call (file 08 gives it): the callers' frames, abstract heap and state ahead of the call, the wish, the exception, the state -/
noncomputable abbrev CXT := List Env → Hp → Shared → XK → Value → Shared → Prop

/-- the state at a call -/
structure Env0 (P : Program) (w : World) (K : PySem.W.Frag) (mg : Str → Option Value) (base : Heap) (A : Around) (outer : List Env) (s : Shared) (H : Hp) : Prop where
  frames : A.frames = some outer
  mod : Mod K mg base
  bs : ∀ b o, base.get? b = some o → s.heap.get? b = some o ∧ H b = none
  bsz : base.objs.size ≤ s.heap.objs.size
  funs : s.heap.FunFrames base outer
  frf : ∀ b ∈ frs outer, H b = none
  hok : HOk P w H s.heap
  bare : AllBare s.gens
/-- a call's end -/
noncomputable def CE (outer : List Env) (P : Program) (w : World) (H : Hp) (s : Shared) (Q : VK) (u : Value) (s' : Shared) : Prop :=
  ∃ v H', s'.os = s.os ∧ AllBare s'.gens ∧ Un (frs outer) [] H H' s.heap s'.heap ∧ HOk P w H' s'.heap ∧ RelV v u ∧ Q v H'
noncomputable def CR (CX : CXT) (outer : List Env) (P : Program) (w : World) (H : Hp) (s : Shared) (Q : VK) (E : XK) (r : Result) (s' : Shared) : Prop :=
  match r with
  | .ok (.ret u) => CE outer P w H s Q u s'
  | .ok _ => False
  | .error e => CX outer H s E e s'
structure FnOk (P : Program) (w : World) (K : PySem.W.Frag) (mg : Str → Option Value) (base : Heap) (CX : CXT) (k : Nat) (f : Addr) (fd : FuncData) (ps : List Str) (sp : Sp) : Prop where
  len : ∀ vs H Q E, sp vs H Q E → vs.length = ps.length
  run : ∀ (A : Around) (outer : List Env) (s : Shared) (H : Hp) (args : Args) (us : List Value) (vs : List V) (Q : VK) (E : XK), Room k A → Env0 P w K mg base A outer s H → BindsTo s fd args (ps.zip us) → Vals vs us → sp vs H Q E →
    codeAny (model P w) A (.call (.ref f) args) (CR CX outer P w H s Q E) s
/-- a weaker promise -/
theorem FnOk.imp {P : Program} {w : World} {K : PySem.W.Frag} {mg : Str → Option Value} {base : Heap} {CX : CXT} {k : Nat} {f : Addr} {fd : FuncData} {ps : List Str} {sp sp' : Sp} (F : FnOk P w K mg base CX k f fd ps sp)
    (h : ∀ vs H Q E, sp' vs H Q E → sp vs H Q E) : FnOk P w K mg base CX k f fd ps sp' :=
  ⟨fun vs H Q E q => F.len vs H Q E (h _ _ _ _ q), fun A outer s H args us vs Q E hr he hb hv hs => F.run A outer s H args us vs Q E hr he hb hv (h _ _ _ _ hs)⟩

theorem Env0.make {P : Program} {w : World} {K : PySem.W.Frag} {mg : Str → Option Value} {base : Heap} {A : Around} {outer : List Env} {s : Shared} {H : Hp} (e : Env0 P w K mg base A outer s H) (C : Addr) (us : List Value) (kw : List (Str × Value)) :
    Env0 P w K mg base (A.under (.builtin "type.__call__" ⟨.ref C :: us, kw⟩)) outer s H := ⟨by first | exact e.frames | (simpa [Around.under, Code.envs, Code.isFrame, pushEnvs] using e.frames), e.mod, e.bs, e.bsz, e.funs, e.frf, e.hok, e.bare⟩
section
variable {X : Cx} {pins : List (Addr × Obj)} {σ : St} {H : Hp} {s s' : Shared}
/-- from a body: what a callee wants -/
theorem Inv.env0 (I : Inv X pins σ H s) : Env0 X.prog X.w X.K X.mg X.base X.A X.stack s H :=
  ⟨I.ok.frames, I.ok.mod, I.bs, Nat.le_trans I.ok.bsz I.sz, I.stack, I.stkFree, I.hok, I.bare⟩
/-- behind a call -/
theorem Inv.after {Q : VK} {u : Value} (I : Inv X pins σ H s) (h : CE X.stack X.prog X.w H s Q u s') : EP X pins σ Q u s' := by
  obtain ⟨v, H', os, bare, un, hok, r, q⟩ := h
  obtain ⟨hh, g, d, t, os'⟩ := s'
  obtain rfl : os' = s.os := os
  exact ⟨v, H', I.call (h' := hh) (g' := g) (d' := d) (t' := t) (ch := []) un hok bare (fun b z => absurd z (by simp)), r, q⟩
end

/-! ### calls -/
/-- f(..): the written arguments, then the defaults dvs; E: what is wanted of an exception -/
noncomputable def tCall (sp : Sp) (dvs : List V) (E : XK) (t : TA) : TE := fun σ H Q => t σ H fun vs H1 => sp (vs ++ dvs) H1 Q E
/-- o.m(..) of an instance of the class at C -/
noncomputable def tMeth (C : Addr) (m : Str) (sp : Sp) (dvs : List V) (E : XK) (ta : TE) (t : TA) : TE := fun σ H Q => ta σ H fun x H1 => ∃ a dx fs, x = .ref a ∧ H1 a = some (.ins C dx fs) ∧ fs.lookup m = none ∧
  t σ H1 fun vs H2 => sp (x :: (vs ++ dvs)) H2 Q E
/-- C(..): a new instance and its dict, then __init__ -/
noncomputable def tMake (C : Addr) (sp : Sp) (dvs : List V) (E : XK) (t : TA) : TE := fun σ H Q => t σ H fun vs H1 => ∀ x dx, H1 x = none → H1 dx = none → dx ≠ x →
  sp (.ref x :: (vs ++ dvs)) (upd (upd H1 dx (.own x)) x (.ins C dx [])) (fun v H2 => v = .non ∧ Q (.ref x) H2) E

/-- how the parameters are bound: us the positional arguments, kw the keywords' values by name, ds the defaults that fill up -/
noncomputable def Binds (K : PySem.W.Frag) (fd : FuncData) (ps : List Str) (ds : List Value) : Prop :=
  ∀ (s : Shared) (us : List Value), K.In s.heap → (us ++ ds).length = ps.length → BindsTo s fd ⟨us, []⟩ (ps.zip (us ++ ds))
/-- every parameter is given -/
theorem Binds.all {K : PySem.W.Frag} {fd : FuncData} {ps : List Str} (h : ∀ us : List Value, us.length = ps.length → bindArgs fd ⟨us, []⟩ = pure (ps.zip us)) : Binds K fd ps [] := fun s us _ hl => by
  rw [List.append_nil] at hl ⊢
  exact .of_eq (h us hl)

/-- an exception of a callee reaches what this body wants of exceptions -/
noncomputable def Passes (CX : CXT) (X : Cx) (E : XK) : Prop := ∀ (pins : List (Addr × Obj)) (σ : St) (H : Hp) (s : Shared) (e : Value) (s' : Shared), Inv X pins σ H s → CX X.stack H s E e s' → X.xe e s'

section
variable {X : Cx} {CX : CXT} {k : Nat} {f C : Addr} {fd : FuncData} {ps : List Str} {sp : Sp} {dvs : List V} {ds : List Value} {E : XK} {x m : Str} {p pos apos : Pos} {e o : Expr} {es : List Expr} {ta : TE} {t : TA}

/-- the callee runs -/
theorem run_fn {pins : List (Addr × Obj)} {σ : St} {H : Hp} {s : Shared} {Q : VK} {us : List Value} {vs : List V} (F : FnOk X.prog X.w X.K X.mg X.base CX k f fd ps sp) (hr : Room k X.A) (hb : Binds X.K fd ps ds) (hd : Vals dvs ds) (hx : Passes CX X E)
    (I : Inv X pins σ H s) (r : Vals vs us) (h : sp (vs ++ dvs) H Q E) : wpAny (model X.prog X.w) X.A (call (.ref f) us) (EP X pins σ Q) X.xe s := by
  have r2 : Vals (vs ++ dvs) (us ++ ds) := r.append hd
  have hl : (us ++ ds).length = ps.length := by rw [← r2.length]; exact F.len _ _ _ _ h
  refine wpAny_call (codeAny_mono (F.run X.A X.stack s H ⟨us, []⟩ (us ++ ds) (vs ++ dvs) Q E hr I.env0 (hb s us I.kIn hl) r2 h) fun r s' hq => ?_)
  cases r with
  | error e => exact hx pins σ H s e s' I hq
  | ok fl =>
    cases fl with
    | ret u => exact I.after hq
    | next => exact False.elim hq
    | brk => exact False.elim hq
    | cont => exact False.elim hq

theorem pe_call (F : FnOk X.prog X.w X.K X.mg X.base CX k f fd ps sp) (hr : Room k X.A) (hg : Gl X x) (hm : X.mg x = some (.ref f)) (hk : PySem.W.keepIn X.K (.ref f) = true) (hb : Binds X.K fd ps ds) (hd : Vals dvs ds) (hx : Passes CX X E)
    (ha : PA X (e :: es) t) (hdb : (x == ("__debug__" : Str)) = false := by decide) (he : starEach (e :: es) X.env = (false, eval e X.env) :: starEach es X.env := by rfl) (hpl : (backTo pos (starEach es X.env)).any (·.1) = false := by rfl) :
    PE X (.Call (.Name x p) (e :: es) [] pos) (tCall sp dvs E t) := by
  intro pins s σ H Q I h
  refine wpAny_Call_Name_kw (ld_glob I hg hm ?_ hdb)
  refine PySem.W.callWith_K (h₀ := X.base) I.ok.mod.kin hk (thn (ha pos pins s σ H _ I h) fun us s1 ⟨vs, H1, I1, r, q⟩ => ⟨I1.kIn, ?_⟩) he hpl
  exact run_fn F hr hb hd hx I1 r q
/-- o.m(e, ..) -/
theorem pe_meth {pl : Sem Bool} (he : PE X o ta) (c : Cls X.K C) (hm : Meth X.K C m f) (F : FnOk X.prog X.w X.K X.mg X.base CX k f fd ps sp) (hr : Room k X.A) (hb : Binds X.K fd ps ds) (hd : Vals dvs ds) (hx : Passes CX X E) (ha : PA X (e :: es) t)
    (hst : starEach (e :: es) X.env = (false, eval e X.env) :: starEach es X.env := by rfl) (hpl : (backTo pos (starEach es X.env)).any (·.1) = false := by rfl)
    (ht : eval (.Call (.Attribute o m apos) (e :: es) [] pos) X.env = (do
      let ov ← eval o X.env
      standAt apos.atName
      let (f, first) ← holding [ov] (getMethod ov m pl)
      callWith pos f first (backTo pos (starEach (e :: es) X.env)) (backToKw pos (keywordEach [] X.env))) := by rfl) :
    PE X (.Call (.Attribute o m apos) (e :: es) [] pos) (tMeth C m sp dvs E ta t) := by
  intro pins s σ H Q I h
  refine PySem.W.methodCall_KW (pl := pl) (thn (he pins s σ H _ I h) fun u s1 ⟨x, H1, I1, rx, a, dx, fs, ex, ea, l, q⟩ => ?_) ht
  subst ex
  obtain rfl : u = Value.ref a := rx
  refine getmeth_ok I1 ea c hm l ?_
  refine PySem.W.callWith_K (first := [.ref a]) (h₀ := X.base) I.ok.mod.kin hm.kp (thn (ha pos pins s1 σ H1 _ I1 q) fun us s2 ⟨vs, H2, I2, r, q2⟩ => ⟨I2.kIn, ?_⟩) hst hpl
  exact run_fn (us := .ref a :: us) (vs := .ref a :: vs) F hr hb hd hx I2 (.cons rfl r) q2
/-- o.m() -/
theorem pe_meth0 {pl : Sem Bool} (he : PE X o ta) (c : Cls X.K C) (hm : Meth X.K C m f) (F : FnOk X.prog X.w X.K X.mg X.base CX k f fd ps sp) (hr : Room k X.A) (hb : Binds X.K fd ps ds) (hd : Vals dvs ds) (hx : Passes CX X E)
    (ht : eval (.Call (.Attribute o m apos) [] [] pos) X.env = (do
      let ov ← eval o X.env
      standAt apos.atName
      let (f, first) ← holding [ov] (getMethod ov m pl)
      callWith pos f first (backTo pos (starEach [] X.env)) (backToKw pos (keywordEach [] X.env))) := by rfl) :
    PE X (.Call (.Attribute o m apos) [] [] pos) (tMeth C m sp dvs E ta tNil) := by
  intro pins s σ H Q I h
  refine PySem.W.methodCall_KW (pl := pl) (thn (he pins s σ H _ I h) fun u s1 ⟨x, H1, I1, rx, a, dx, fs, ex, ea, l, q⟩ => ?_) ht
  subst ex
  obtain rfl : u = Value.ref a := rx
  refine getmeth_ok I1 ea c hm l ?_
  exact PySem.W.callWith_K0 (first := [.ref a]) I1.kIn hm.kp (run_fn (us := [.ref a]) (vs := [.ref a]) F hr hb hd hx I1 (.cons rfl .nil) q)

/-- what a class must have to be made -/
structure Mk (K : PySem.W.Frag) (C f : Addr) : Prop where
  makes : PySem.W.makesIn K C = true
  init : PySem.W.findIn K (.ref C) "__init__" = some (some (.ref f))
  fn : PySem.W.isFn K (.ref f) = true
  kp : PySem.W.keepIn K (.ref C) = true

theorem run_make {pins : List (Addr × Obj)} {σ : St} {H : Hp} {s : Shared} {Q : VK} {us : List Value} {vs : List V} (M : Mk X.K C f) (F : FnOk X.prog X.w X.K X.mg X.base CX k f fd ps sp) (hr : Room (k + 1) X.A) (hb : Binds X.K fd ps ds) (hd : Vals dvs ds)
    (hx : Passes CX X E) (I : Inv X pins σ H s) (r : Vals vs us)
    (h : ∀ x dx, H x = none → H dx = none → dx ≠ x → sp (.ref x :: (vs ++ dvs)) (upd (upd H dx (.own x)) x (.ins C dx [])) (fun v H2 => v = .non ∧ Q (.ref x) H2) E) :
    wpAny (model X.prog X.w) X.A (call (.ref C) us) (EP X pins σ Q) X.xe s := by
  have hq := h (s.heap.objs.size + 1) s.heap.objs.size (I.hok.fresh (Nat.le_succ _)) (I.hok.fresh (Nat.le_refl _)) (Nat.ne_of_lt (Nat.lt_succ_self _))
  have I2 := Inv.made (C := C) I
  have r2 : Vals (V.ref (s.heap.objs.size + 1) :: (vs ++ dvs)) (Value.ref (s.heap.objs.size + 1) :: (us ++ ds)) := .cons rfl (r.append hd)
  have hl : (Value.ref (s.heap.objs.size + 1) :: us ++ ds).length = ps.length := by
    have e := r2.length
    rw [F.len _ _ _ _ hq] at e
    exact e.symm
  refine wpAny_call (make_map (f := f) I.kIn M.makes M.init (beq_iff_eq.mp M.fn) (codeAny_mono (F.run _ X.stack _ _ ⟨Value.ref (s.heap.objs.size + 1) :: us, []⟩ (Value.ref (s.heap.objs.size + 1) :: (us ++ ds)) _ _ E (hr.make C us [])
    (I2.env0.make C us []) (hb _ (Value.ref (s.heap.objs.size + 1) :: us) I2.kIn hl) r2 hq) fun r s' hq' => ?_))
  cases r with
  | error e => exact hx pins σ _ _ e s' I2 hq'
  | ok fl =>
    cases fl with
    | ret u =>
      obtain ⟨v, H', I3, rv, ev, q3⟩ := I2.after hq'
      subst ev
      exact ⟨rv, ⟨V.ref (s.heap.objs.size + 1), H', I3, rfl, q3⟩⟩
    | next => exact False.elim hq'
    | brk => exact False.elim hq'
    | cont => exact False.elim hq'
theorem pe_make (M : Mk X.K C f) (F : FnOk X.prog X.w X.K X.mg X.base CX k f fd ps sp) (hr : Room (k + 1) X.A) (hg : Gl X x) (hm : X.mg x = some (.ref C)) (hb : Binds X.K fd ps ds) (hd : Vals dvs ds) (hx : Passes CX X E)
    (ha : PA X (e :: es) t) (hdb : (x == ("__debug__" : Str)) = false := by decide) (he : starEach (e :: es) X.env = (false, eval e X.env) :: starEach es X.env := by rfl) (hpl : (backTo pos (starEach es X.env)).any (·.1) = false := by rfl) :
    PE X (.Call (.Name x p) (e :: es) [] pos) (tMake C sp dvs E t) := by
  intro pins s σ H Q I h
  refine wpAny_Call_Name_kw (ld_glob I hg hm ?_ hdb)
  refine PySem.W.callWith_K (h₀ := X.base) I.ok.mod.kin M.kp (thn (ha pos pins s σ H _ I h) fun us s1 ⟨vs, H1, I1, r, q⟩ => ⟨I1.kIn, ?_⟩) he hpl
  exact run_make M F hr hb hd hx I1 r q
end

/-! ### keywords -/
section
variable {X : Cx} {CX : CXT} {k : Nat} {f C : Addr} {fd : FuncData} {ps ks : List Str} {sp : Sp} {E : XK} {x m : Str} {p pos apos kpos : Pos} {e o : Expr} {es : List Expr} {kws : List Keyword} {te ta : TE} {t tk : TA} {nm : Option Str}
variable {g : List Value → List Value → List Value} {gV : List V → List V → List V}
end

/-! ### a def's body keeps its promise -/
/-- names: the parameters first -/
structure FnScope (N P : List Str) (sc : Scope) : Prop where
  kind : sc.kind = .function
  co : sc.isCoroutine = false
  gen : sc.isGenerator = false
  nd : N.Nodup
  pre : N.take P.length = P
  par : ∀ x ∈ P, sc.names.lookup x = some .local ∨ sc.names.lookup x = some .cell
  nofree : ∀ y ∈ sc.names, y.2 ≠ .free

theorem bindL_out {kindOf : Str → Option NameKind} {x : Str} : ∀ {binds : List (Str × Value)} {m : Str → Option Value}, (∀ v, (x, v) ∉ binds) → bindL kindOf binds m x = m x
  | [], _, _ => rfl
  | (n, v) :: r, m, h => by
    unfold bindL
    rw [bindL_out fun w hw => h w (List.mem_cons_of_mem _ hw)]
    split
    · have : x ≠ n := by rintro rfl; exact h v List.mem_cons_self
      simp [this]
    · rfl
theorem bindC_out {kindOf : Str → Option NameKind} {x : Str} : ∀ {binds : List (Str × Value)} {m : Str → Option Value}, (∀ v, (x, v) ∉ binds) → bindC kindOf binds m x = m x
  | [], _, _ => rfl
  | (n, v) :: r, m, h => by
    unfold bindC
    rw [bindC_out fun w hw => h w (List.mem_cons_of_mem _ hw)]
    split
    · rfl
    · have : x ≠ n := by rintro rfl; exact h v List.mem_cons_self
      simp [this]
theorem bindL_get {kindOf : Str → Option NameKind} {x : Str} {v : Value} : ∀ {P : List Str} {vs : List Value} {i : Nat} {m : Str → Option Value}, P.Nodup → P[i]? = some x → vs[i]? = some v → kindOf x = some .local →
    bindL kindOf (P.zip vs) m x = some v
  | [], _, _, _, _, h, _, _ => by simp at h
  | _ :: _, [], _, _, _, _, h, _ => by simp at h
  | p :: P, w :: vs, 0, m, nd, h1, h2, hk => by
    simp at h1 h2; subst h1; subst h2
    show bindL kindOf ((p, w) :: P.zip vs) m p = _
    unfold bindL
    rw [bindL_out fun v hv => (List.nodup_cons.mp nd).1 (List.of_mem_zip hv).1, if_pos hk]
    simp
  | p :: P, w :: vs, i + 1, m, nd, h1, h2, hk => by
    show bindL kindOf ((p, w) :: P.zip vs) m x = _
    unfold bindL
    exact bindL_get (i := i) (List.nodup_cons.mp nd).2 (by simpa using h1) (by simpa using h2) hk
theorem bindC_get {kindOf : Str → Option NameKind} {x : Str} {v : Value} : ∀ {P : List Str} {vs : List Value} {i : Nat} {m : Str → Option Value}, P.Nodup → P[i]? = some x → vs[i]? = some v → kindOf x ≠ some .local →
    bindC kindOf (P.zip vs) m x = some v
  | [], _, _, _, _, h, _, _ => by simp at h
  | _ :: _, [], _, _, _, _, h, _ => by simp at h
  | p :: P, w :: vs, 0, m, nd, h1, h2, hk => by
    simp at h1 h2; subst h1; subst h2
    show bindC kindOf ((p, w) :: P.zip vs) m p = _
    unfold bindC
    rw [bindC_out fun v hv => (List.nodup_cons.mp nd).1 (List.of_mem_zip hv).1, if_neg hk]
    simp
  | p :: P, w :: vs, i + 1, m, nd, h1, h2, hk => by
    show bindC kindOf ((p, w) :: P.zip vs) m x = _
    unfold bindC
    exact bindC_get (i := i) (List.nodup_cons.mp nd).2 (by simpa using h1) (by simpa using h2) hk

/-- the names' values at the entry -/
noncomputable def start (N : List Str) (vs : List V) : St := vs.map some ++ List.replicate (N.length - vs.length) none

/-- the context of a def's body, at its entry; an exception leaves the frame, then lies as CX says -/
noncomputable def cxOf (CX : CXT) (P : Program) (w : World) (K : PySem.W.Frag) (mg : Str → Option Value) (base : Heap) (N : List Str) (qual : Str) (scope : Scope) (f : Addr) (cd : Value) (A : Around) (outer : List Env) (s : Shared) (H : Hp) (E : XK) : Cx where
  prog := P
  w := w
  K := K
  mg := mg
  base := base
  A := A.deeper (envOfC qual scope s.heap.objs.size f cd)
  N := N
  s₀ := s
  H₀ := H
  env := envOfC qual scope s.heap.objs.size f cd
  outer := outer
  stack := envOfC qual scope s.heap.objs.size f cd :: outer
  ex := []
  calm := true
  fn := fun _ => true
  pn := []
  xe := fun e s' => wpAny (model P w) (A.deeper (envOfC qual scope s.heap.objs.size f cd)) (leaving (envOfC qual scope s.heap.objs.size f cd) e) (fun _ s'' => CX outer H s E e s'') (fun e' s'' => CX outer H s E e' s'') s'

theorem cell_has {sc : Scope} {n : Nat} {x : Str} (h : sc.names.lookup x = some .cell) : ∃ c, (cellsFrom n sc.names []).lookup x = some c := by
  have q := PySem.W.cellsFrom_some sc.names n [] (.inl h)
  exact Option.isSome_iff_exists.mp q

theorem inv_start {CX : CXT} {P : Program} {w : World} {K : PySem.W.Frag} {mg : Str → Option Value} {base : Heap} {N ps : List Str} {qual : Str} {scope : Scope} {f : Addr} {cd : Value} {A : Around} {outer : List Env} {s s1 : Shared} {H : Hp} {E : XK} {us : List Value} {vs : List V}
    (S : FnScope N ps scope) (hd : A.handled = none) (e0 : Env0 P w K mg base A outer s H) (hl : vs.length = ps.length) (r : Vals vs us)
    (x : InCallC s s.heap.objs.size (bindL (envOfC qual scope s.heap.objs.size f cd).kindOf (ps.zip us) fun _ => none) (cellsFrom (s.heap.objs.size + 1) scope.names []) (bindC (envOfC qual scope s.heap.objs.size f cd).kindOf (ps.zip us) fun _ => none) s1) :
    Inv (cxOf CX P w K mg base N qual scope f cd A outer s H E) [] (start N vs) H s1 := by
  have hpl : ps.length ≤ N.length := by have := congrArg List.length S.pre; rw [List.length_take] at this; omega
  obtain ⟨h1, tk, rfl, hk⟩ := x.done
  have noA : ∀ b : Addr, b ∉ (cxOf CX P w K mg base N qual scope f cd A outer s H E).ex := fun b z => absurd (show b ∈ ([] : List Addr) from z) (by simp)
  refine ⟨⟨e0.mod, S.kind, rfl, rfl, Nat.le_refl _, fun y z c h1 h2 => ?_, fun y hy => ?_, fun y c _ h => ?_, fun _ => hd, Around.frames_deeper e0.frames, .inr ⟨rfl, rfl⟩, fun b z => absurd z (noA b), e0.bs, e0.bsz, fun b _ _ => noA b, fun b z => absurd z (noA b), e0.funs, e0.frf⟩,
    rfl, e0.bare, Un.kept hk, ⟨_, x.toInCall.ns, fun i y v h1 h2 h3 => ?_⟩, fun y c h => ⟨_, x.cell y c h⟩, e0.hok.fresh (Nat.le_refl _), fun y c h => ?_, fun p hp => absurd (show p ∈ ([] : List (Addr × Obj)) from hp) (by simp), e0.hok.kept hk, ?_⟩
  · exact name_of_addr x.apart (PySem.mem_of_lookup h1) (PySem.mem_of_lookup h2)
  · have hy : scope.names.lookup y = some .cell ∨ scope.names.lookup y = some .free := hy
    rcases hy with hy | hy
    · exact cell_has hy
    · exact absurd rfl (S.nofree _ (PySem.mem_of_lookup hy))
  · exact Nat.le_of_lt (x.above y c (PySem.mem_of_lookup h))
  · have hi : i < vs.length := by
      unfold start at h2
      by_cases hi : i < vs.length
      · exact hi
      · rw [List.getElem?_append_right (by simpa using hi)] at h2
        rw [List.getElem?_replicate] at h2
        split at h2 <;> cases h2
    have ha : vs[i]? = some v := by
      unfold start at h2
      rw [List.getElem?_append_left (by simpa using hi), List.getElem?_map] at h2
      cases e : vs[i]? with
      | none => rw [e] at h2; cases h2
      | some a => rw [e] at h2; cases h2; rfl
    obtain ⟨u, hu, rv⟩ := r.get ha
    have hp : ps[i]? = some y := by
      rw [← S.pre, List.getElem?_take_of_lt (by omega)]; exact h1
    have ndP : ps.Nodup := by rw [← S.pre]; exact S.nd.sublist (List.take_sublist _ _)
    refine ⟨u, rv, ?_⟩
    rcases S.par y (List.mem_of_getElem? hp) with k | k
    · exact .inl ⟨k, bindL_get ndP hp hu k⟩
    · obtain ⟨c, e⟩ := cell_has (n := s.heap.objs.size + 1) k
      refine .inr ⟨.inl k, c, e, ?_⟩
      have q := x.cell y c e
      rw [bindC_get ndP hp hu (by show scope.names.lookup y ≠ _; rw [k]; decide)] at q
      exact q
  · exact e0.hok.fresh (Nat.le_of_lt (x.above y c (PySem.mem_of_lookup h)))
  · unfold start
    show _ = N.length
    rw [List.length_append, List.length_map, List.length_replicate]
    omega

/-- THE RULE: a def (or a method) of the text, by its body. The body's reading t is chosen for each entry; it is run at the parameters' values -/
theorem fn_of {CX : CXT} {P : Program} {w : World} {K : PySem.W.Frag} {mg : Str → Option Value} {base : Heap} {k : Nat} {f : Addr} {name qual : Str} {params : Arguments} {body : List Stmt} {scope : Scope} {dV kV doc pm cdv ct oc : Value} {an od : Option Addr}
    {osl : Array (Option Value)} {N ps : List Str} {sp : Sp} (lk : K.lookup f = some ⟨oc, od, .func (PySem.W.fnOf name qual params body scope dV kV doc pm an cdv ct), osl⟩) (hcd : PySem.W.codeIn K cdv qual = true) (S : FnScope N ps scope)
    (len : ∀ vs H Q E, sp vs H Q E → vs.length = ps.length)
    (hbody : ∀ (A : Around) (outer : List Env) (s : Shared) (H : Hp) (vs : List V) (Q : VK) (E : XK), Room k (A.deeper (envOfC qual scope s.heap.objs.size f cdv)) → sp vs H Q E →
      ∃ t, PSs (cxOf CX P w K mg base N qual scope f cdv A outer s H E) body t ∧ t { nx := fun _ H' => Q .non H', rt := Q } (start N vs) H) :
    FnOk P w K mg base CX (k + 1) f (PySem.W.fnOf name qual params body scope dV kV doc pm an cdv ct) ps sp := by
  refine ⟨len, fun A outer s H args us vs Q E hr e0 hb r hsp => ?_⟩
  have hl := len _ _ _ _ hsp
  have KX : K.In s.heap := e0.mod.kin.keeps fun b o e => (e0.bs b o e).1
  have lim : s.heap.NoLimit := e0.mod.nolimit.keeps fun b o e => (e0.bs b o e).1
  have hkind : ∀ y ∈ ps.zip us, scope.names.lookup y.1 = some .local ∨ (scope.names.lookup y.1 = some .cell ∧ ((cellsFrom (s.heap.objs.size + 1) scope.names []).lookup y.1).isSome = true) := fun ⟨n, v⟩ hy => by
    rcases S.par n (List.of_mem_zip hy).1 with q | q
    · exact .inl q
    · exact .inr ⟨q, PySem.W.cellsFrom_some _ _ _ (.inl q)⟩
  refine codeAny_call_function hr.depth (KX _ _ lk) rfl S.co S.gen rfl (PySem.W.codeRec_of KX hcd) (hb _ _ _ _ ?_)
  refine wpAny_newFunctionEnv_cells S.kind hkind fun env he s1 x => ?_
  subst he
  refine ⟨lim.keeps x.toInCall.keep, codeAny_func ?_⟩
  obtain ⟨t, ht, hq⟩ := hbody A outer s H vs Q E (hr.deeper _) hsp
  have I : Inv (cxOf CX P w K mg base N qual scope f cdv A outer s H E) [] (start N vs) H s1 := inv_start S hr.hd e0 hl r x
  refine wpAny_mono (ht [] s1 (start N vs) H _ I hq) (fun fl s' hs => ?_) fun e s' hs => hs
  have fin : ∀ {σ' : St} {H' : Hp} {v : V} {u : Value}, Inv (cxOf CX P w K mg base N qual scope f cdv A outer s H E) [] σ' H' s' → RelV v u → Q v H' → CE outer P w H s Q u s' :=
    fun {σ' H' v u} J rv q => ⟨v, H', J.os, J.bare, J.base, J.hok, rv, q⟩
  cases fl with
  | ret u =>
    obtain ⟨v, σ', H', J, rv, q⟩ := hs
    exact fin J rv q
  | next =>
    obtain ⟨σ', H', J, q⟩ := hs
    exact fin (v := V.non) (u := Value.none) J rfl q
  | brk =>
    obtain ⟨_, _, _, q⟩ := hs
    exact False.elim q
  | cont =>
    obtain ⟨_, _, _, q⟩ := hs
    exact False.elim q
end L2

namespace L2
open PySem PySem.Spec PyProof.Rows
section
variable {X : Cx} {x : Str} {p pos : Pos} {e : Expr} {es : List Expr} {t : TA} {id T : String} {r : List V → Hp → VK → Prop}

noncomputable def tCB (r : List V → Hp → VK → Prop) (t : TA) : TE := fun σ H Q => t σ H fun vs H1 => r vs H1 Q
/-- f(e, ..), f a built-in function -/
theorem pe_callB (hc : CallR X (.builtin id) r) (hg : Gl X x) (hm : X.mg x = none) (hv : bootBuiltins x = some (.builtin id)) (ha : PA X (e :: es) t) (hn : x ≠ "__name__" := by decide) (hdb : (x == ("__debug__" : Str)) = false := by decide)
    (he : starEach (e :: es) X.env = (false, eval e X.env) :: starEach es X.env := by rfl) (hpl : (backTo pos (starEach es X.env)).any (·.1) = false := by rfl) : PE X (.Call (.Name x p) (e :: es) [] pos) (tCB r t) := by
  intro pins s σ H Q I h
  refine wpAny_Call_Name_kw (ld_blt I hg hm hv ?_ hn hdb)
  exact PyProof.Rows.callWith_builtin1 (thn (ha pos pins s σ H _ I h) fun us s1 ⟨vs, H1, I1, r1, q1⟩ => hc pins s1 σ H1 vs us Q I1 r1 q1) he hpl
/-- T(e, ..), T a built-in type -/
theorem pe_callTy (hc : CallR X (.type T) r) (hg : Gl X x) (hm : X.mg x = none) (hv : bootBuiltins x = some (.type T)) (ha : PA X (e :: es) t) (hn : x ≠ "__name__" := by decide) (hdb : (x == ("__debug__" : Str)) = false := by decide)
    (he : starEach (e :: es) X.env = (false, eval e X.env) :: starEach es X.env := by rfl) (hpl : (backTo pos (starEach es X.env)).any (·.1) = false := by rfl) : PE X (.Call (.Name x p) (e :: es) [] pos) (tCB r t) := by
  intro pins s σ H Q I h
  refine wpAny_Call_Name_kw (ld_blt I hg hm hv ?_ hn hdb)
  exact PyProof.Rows.callWith_type1 (thn (ha pos pins s σ H _ I h) fun us s1 ⟨vs, H1, I1, r1, q1⟩ => hc pins s1 σ H1 vs us Q I1 r1 q1) he hpl
end
end L2

namespace HT
open PySem PyProof.Rows

section
open PySem.SeqAt
open PySem.AutoSeq1 (wpAny_loadPart')
open PySem.MeetsSeq PySem.MeetsSeq2 PySem.MeetsSeq3

end

section
variable {prog : Program} {w : World} {A : Around} {E : Value → Shared → Prop} {s : Shared}

/-! ### t[a:b], not the whole -/
/-- a slice's bound as a place among n (d where it is left out) -/
noncomputable def sIx (n d : Nat) : Option Int → Nat
  | none => d
  | some v => if v < 0 then (v + (n : Int)).toNat else min v.toNat n
theorem sIx_none (n d : Nat) : sIx n d none = d := rfl
theorem sIx_nat (n d k : Nat) : sIx n d (some (k : Int)) = min k n := by
  show (if (k : Int) < 0 then ((k : Int) + (n : Int)).toNat else min (k : Int).toNat n) = min k n
  rw [if_neg (by omega), Int.toNat_natCast]
end
end HT

namespace L2
open PySem PySem.Spec PyProof.Rows

/-! ### the parts of a slice -/
noncomputable abbrev TO := St → Hp → (Option Int → Hp → Prop) → Prop
/-- a slice's part (left out, or an int) -/
noncomputable def PO (X : Cx) (e : Option Expr) (t : TO) : Prop :=
  ∀ (pins : List (Addr × Obj)) (s : Shared) (σ : St) (H : Hp) (Q : Option Int → Hp → Prop), Inv X pins σ H s → t σ H Q →
    wpAny (model X.prog X.w) X.A (evalPart e X.env) (fun u s' => ∃ o H', Inv X pins σ H' s' ∧ IsPart u o ∧ Q o H') X.xe s
noncomputable def tNoPart : TO := fun _ H Q => Q none H
noncomputable def tPart (t : TE) : TO := fun σ H Q => t σ H fun x H1 => ∃ i, x = .int i ∧ Q (some i) H1

section
variable {X : Cx} {e : Expr} {te : TE} {lo hi : Option Expr} {tl th : TO} {pos p2 : Pos}

theorem po_none : PO X none tNoPart := by
  intro pins s σ H Q I h
  rw [evalPart_none]
  exact wpAny_pure ⟨none, H, I, .none, h⟩
theorem po_some (h : PE X e te) : PO X (some e) (tPart te) := by
  intro pins s σ H Q I hw
  rw [evalPart_some]
  refine thn (h pins s σ H _ I hw) fun u s1 ⟨x, H1, I1, r1, q1⟩ => ?_
  obtain ⟨i, rfl, q⟩ := q1
  obtain ⟨t, rfl⟩ := r1
  exact ⟨some i, H1, I1, .int i t, q⟩

/-- what a slice of a value is, by values: the slice object stands at sl -/
noncomputable def SlR (X : Cx) (r : V → Option Int → Option Int → Hp → VK → Prop) : Prop :=
  ∀ (pins : List (Addr × Obj)) (s : Shared) (σ : St) (H : Hp) (x : V) (v vl vu : Value) (lo hi : Option Int) (sl : Addr) (Q : VK), Inv X pins σ H s → RelV x v → s.heap.IsSliceOf sl vl vu .none → IsPart vl lo → IsPart vu hi → r x lo hi H Q →
    ∃ T id, typeLookup (.type T) "__getitem__" = pure (some (.builtin id)) ∧ s.TypeIs v T ∧ wpAny (model X.prog X.w) X.A (getItem v (.ref sl)) (EP X pins σ Q) X.xe s
noncomputable def tSl (r : V → Option Int → Option Int → Hp → VK → Prop) (te : TE) (tl th : TO) : TE := fun σ H Q => te σ H fun x H1 => tl σ H1 fun l H2 => th σ H2 fun u H3 => r x l u H3 Q
/-- a[lo:hi], any a -/
theorem pe_slice {r : V → Option Int → Option Int → Hp → VK → Prop} (hr : SlR X r) (he : PE X e te) (hl : PO X lo tl) (hu : PO X hi th) : PE X (.Subscript e (.Slice lo hi none p2) pos) (tSl r te tl th) := by
  intro pins s σ H Q I h
  refine Subscript_ (thn (he pins s σ H _ I h) fun v s1 ⟨x, H1, I1, r1, q1⟩ => ?_)
  refine wpAny_Slice (thn (hl pins s1 σ H1 _ I1 q1) fun vl s2 ⟨l, H2, I2, pl, q2⟩ => thn (hu pins s2 σ H2 _ I2 q2) fun vu s3 ⟨u, H3, I3, pu, q3⟩ => ?_)
  rw [evalPart_none]
  refine wpAny_pure ?_
  have I4 : Inv X pins σ H3 { s3 with heap := s3.heap.push { cls := .type "slice", data := .fields #[vl, vu, .none] } } := I3.kept (t' := s3.toks) fun b ob q => Heap.get?_push_of_some _ q
  obtain ⟨T, id, hT, ht, hg⟩ := hr pins { s3 with heap := s3.heap.push { cls := .type "slice", data := .fields #[vl, vu, .none] } } σ H3 x v vl vu l u s3.heap.objs.size Q I4 r1 (Heap.IsSliceOf.new ..) pl pu q3
  show wpAny (model X.prog X.w) X.A (subscriptTail e (.Slice lo hi none p2) v (.ref s3.heap.objs.size)) (EP X pins σ Q) X.xe { s3 with heap := s3.heap.push { cls := .type "slice", data := .fields #[vl, vu, .none] } }
  exact tail_any (ops := [.ref s3.heap.objs.size, v]) ht hT hg (by with_unfolding_all rfl)

/-- the items of xs[lo:hi] -/
noncomputable def cutV (xs : List V) (lo hi : Option Int) : List V := (xs.drop (HT.sIx xs.length 0 lo)).take (HT.sIx xs.length xs.length hi - HT.sIx xs.length 0 lo)
theorem cutV_length (xs : List V) (lo hi : Option Int) : (cutV xs lo hi).length ≤ xs.length := by
  unfold cutV
  rw [List.length_take, List.length_drop]
  omega
/-! ### t < u, t + u -/
end
end L2

namespace L2
open PySem PySem.Spec PyProof.Rows

/-! ### places -/
/-- the place that an index of any sign means -/
noncomputable def ixN (n : Nat) (i : Int) : Option Nat := if 0 ≤ i then (if i < n then some i.toNat else none) else if -(n : Int) ≤ i then some (i + n).toNat else none
noncomputable def atI {α : Type} (xs : List α) (i : Int) : Option α := (ixN xs.length i).bind fun j => xs[j]?
theorem ixN_seq {n : Nat} {i : Int} {j : Nat} (h : ixN n i = some j) : seqIndex? i n = some j ∧ j < n ∧ -(n : Int) ≤ i ∧ i < n := by
  unfold ixN at h
  by_cases h0 : 0 ≤ i
  · rw [if_pos h0] at h
    by_cases h1 : i < n
    · rw [if_pos h1] at h
      have e : i.toNat = j := Option.some.inj h
      exact ⟨by rw [seqIndex_of h0 h1, e], by omega, by omega, h1⟩
    · rw [if_neg h1] at h; cases h
  · rw [if_neg h0] at h
    by_cases h1 : -(n : Int) ≤ i
    · rw [if_pos h1] at h
      have e : (i + n).toNat = j := Option.some.inj h
      exact ⟨by rw [seqIndex_neg (by omega) h1, e], by omega, h1, by omega⟩
    · rw [if_neg h1] at h; cases h
theorem atI_get {α : Type} {xs : List α} {i : Int} {v : α} (h : atI xs i = some v) : ∃ j, seqIndex? i xs.length = some j ∧ xs[j]? = some v ∧ j < xs.length ∧ -(xs.length : Int) ≤ i ∧ i < xs.length := by
  unfold atI at h
  cases e : ixN xs.length i with
  | none => rw [e] at h; cases h
  | some j =>
    rw [e] at h
    obtain ⟨h1, h2, h3, h4⟩ := ixN_seq e
    exact ⟨j, h1, h, h2, h3, h4⟩
theorem atI_nat {α : Type} {xs : List α} {j : Nat} {v : α} (h : xs[j]? = some v) : atI xs (j : Int) = some v := by
  have hj : j < xs.length := (List.getElem?_eq_some_iff.mp h).1
  have e : ixN xs.length (j : Int) = some j := by
    unfold ixN
    rw [if_pos (by omega), if_pos (by omega)]; simp
  unfold atI; rw [e]; exact h
/-! ### what may be subscripted -/
/-- what stands as an index of a plain subscript -/
noncomputable def PlainIx (b : Expr) : Prop := ∀ o i, subscripted b false o i = operate [o, i] (getItem o i)
/-- a subscript by values -/
noncomputable def IxR (X : Cx) (r : R2) : Prop :=
  ∀ (value slice : Expr) (pins : List (Addr × Obj)) (s : Shared) (σ : St) (H : Hp) (x y : V) (v u : Value) (Q : VK), Inv X pins σ H s → RelV x v → RelV y u → r x y H Q →
    subscripted slice false v u = operate [v, u] (getItem v u) → wpAny (model X.prog X.w) X.A (subscriptTail value slice v u) (EP X pins σ Q) X.xe s
/-- a call of a builtin's method by values: the receiver, the arguments -/
noncomputable def MtR (X : Cx) (id : String) (r : V → List V → Hp → VK → Prop) : Prop :=
  ∀ (pins : List (Addr × Obj)) (s : Shared) (σ : St) (H : Hp) (x : V) (xs : List V) (v : Value) (us : List Value) (Q : VK), Inv X pins σ H s → RelV x v → Vals xs us → r x xs H Q →
    wpAny (model X.prog X.w) X.A (call (.builtin id) (v :: us)) (EP X pins σ Q) X.xe s
section
variable {X : Cx} {a b : Expr} {ta tb : TE} {pos : Pos}
theorem IxR.or {r r' : R2} (h : IxR X r) (h' : IxR X r') : IxR X (fun x y H Q => r x y H Q ∨ r' x y H Q) := by
  intro value slice pins s σ H x y v u Q I rx ry q hs
  rcases q with q | q
  · exact h value slice pins s σ H x y v u Q I rx ry q hs
  · exact h' value slice pins s σ H x y v u Q I rx ry q hs
/-- a[b] -/
theorem pe_ix {r : R2} (hr : IxR X r) (ha : PE X a ta) (hb : PE X b tb) (hs : PlainIx b) : PE X (.Subscript a b pos) (tOp r ta tb) := by
  intro pins s σ H Q I h
  exact Subscript_ (binT ha hb I h fun v u s2 x y H2 I2 rx ry q => hr a b pins s2 σ H2 x y v u Q I2 rx ry q (hs _ _))

noncomputable def rIxL (K : PySem.W.Frag) : R2 := fun x y H Q => ∃ p xs i v, x = .ref p ∧ y = .int i ∧ SqL K H p xs ∧ atI xs i = some v ∧ Q v H
noncomputable def rIxT (K : PySem.W.Frag) : R2 := fun x y H Q => ∃ p xs i v, x = .ref p ∧ y = .int i ∧ SqT K H p xs ∧ atI xs i = some v ∧ Q v H
theorem ix_list : IxR X (rIxL X.K) := by
  intro value slice pins s σ H x y v u Q I rx ry h hs
  obtain ⟨p, xs, i, z, rfl, rfl, hq, he, q⟩ := h
  cases rx
  obtain ⟨t, rfl⟩ := ry
  obtain ⟨its, r, pl, hz⟩ := I.list hq
  obtain ⟨j, h1, h2, h3, h4, h5⟩ := atI_get he
  obtain ⟨w, ew, rw'⟩ := r.get h2
  have hl := r.length
  have hn := line63
  have fin : EP X pins σ Q w s := ⟨z, H, I, rw', q⟩
  by_cases h0 : 0 ≤ i
  · have hj : i.toNat = j := by
      rw [seqIndex_of h0 h5] at h1
      exact Option.some.inj h1
    exact item_listR pl.isList h0 (by omega) (by rw [hj]; simpa using ew) fin hs
  · have hj : (i + (its.toArray.size : Int)).toNat = j := by
      rw [seqIndex_neg (by omega) h4] at h1
      rw [List.size_toArray, ← hl]
      exact Option.some.inj h1
    exact subscriptTail_builtinR (x := w) pl.isList.typeIs slot_list_getitem.lookup
      (wpAny_getItem_list_neg (Q := fun r s' => r = w ∧ EP X pins σ Q r s') pl.isList (by omega) (by rw [List.size_toArray] <;> omega) (by omega) (by rw [hj]; simpa using ew) ⟨rfl, fin⟩) hs
theorem ix_tup : IxR X (rIxT X.K) := by
  intro value slice pins s σ H x y v u Q I rx ry h hs
  obtain ⟨p, xs, i, z, rfl, rfl, hq, he, q⟩ := h
  cases rx
  obtain ⟨t, rfl⟩ := ry
  obtain ⟨its, r, pl, hz⟩ := I.tuple hq
  obtain ⟨j, h1, h2, h3, h4, h5⟩ := atI_get he
  obtain ⟨w, ew, rw'⟩ := r.get h2
  have hl := r.length
  have hn := line63
  have fin : EP X pins σ Q w s := ⟨z, H, I, rw', q⟩
  exact subscriptTail_builtinR (x := w) pl.typeIs slot_tuple_getitem.lookup
    (getItem_tuple (j := j) (Q := fun r s' => r = w ∧ EP X pins σ Q r s') pl (by omega) (by omega) (by rw [List.size_toArray, ← hl]; exact h1) (by simpa using ew) ⟨rfl, fin⟩) hs
/-! ### xs[i] = v, any sign -/
theorem Inv.lst {pins : List (Addr × Obj)} {σ : St} {H : Hp} {s : Shared} {p : Addr} {xs : List V} (I : Inv X pins σ H s) (h : H p = some (.lst xs)) :
    ∃ (its : List Value) (n : Nat), Vals xs its ∧ s.heap.get? p = some { cls := .type "list", data := .seq its.toArray n } ∧ xs.length ≤ sizeLine := by
  obtain ⟨z, its, n, r, e⟩ := I.hok p _ h
  exact ⟨its, n, r, e, z⟩
/-! ### slices -/
theorem slice_bounds (lo hi : Option Int) (n : Nat) : (sliceBounds lo hi none n).1 = ((HT.sIx n 0 lo : Nat) : Int) ∧ (sliceBounds lo hi none n).2.1 = ((HT.sIx n n hi : Nat) : Int) ∧ (sliceBounds lo hi none n).2.2 = 1 := by
  refine ⟨?_, ?_, rfl⟩
  · cases lo with
    | none => simp [sliceBounds, HT.sIx]
    | some i =>
      simp only [sliceBounds, HT.sIx, Option.getD_none, show (1 : Int) > 0 by decide, if_true]
      by_cases h : i < 0
      · simp only [h, if_true] <;> omega
      · simp only [h, if_false] <;> omega
  · cases hi with
    | none => simp [sliceBounds, HT.sIx]
    | some i =>
      simp only [sliceBounds, HT.sIx, Option.getD_none, show (1 : Int) > 0 by decide, if_true]
      by_cases h : i < 0
      · simp only [h, if_true] <;> omega
      · simp only [h, if_false] <;> omega
theorem slicePick_cut (its : List Value) (lo hi : Option Int) : slicePick its.toArray lo hi none = ((its.drop (HT.sIx its.length 0 lo)).take (HT.sIx its.length its.length hi - HT.sIx its.length 0 lo)).toArray := by
  obtain ⟨h1, h2, h3⟩ := slice_bounds lo hi its.toArray.size
  unfold slicePick
  rw [h1, h2, h3]
  simp only [sliceRange_one, pick_run, List.size_toArray] <;> rfl
/-- xs[lo:hi] of a list: a new list -/
noncomputable def rSlL (K : PySem.W.Frag) : V → Option Int → Option Int → Hp → VK → Prop := fun x lo hi H Q => ∃ a xs, x = .ref a ∧ SqL K H a xs ∧ ∀ p, H p = none → Q (.ref p) (upd H p (.lst (cutV xs lo hi)))
theorem sl_list : SlR X (rSlL X.K) := by
  intro pins s σ H x v vl vu lo hi sl Q I rx hs pl pu h
  obtain ⟨a, xs, rfl, hx, q⟩ := h
  cases rx
  obtain ⟨its, r, ht, hz⟩ := I.list hx
  have hlen := r.length
  refine ⟨"list", _, slot_list_getitem.lookup, ht.isList.typeIs, ?_⟩
  refine wpAny_getItem_list_slice ht.isList hs pl pu .none (by simp) ?_ (by rw [List.size_toArray] <;> omega)
  rw [slicePick_cut, ← hlen]
  refine ⟨.ref s.heap.objs.size, _, I.laid (t' := s.toks) (o := .lst (cutV xs lo hi)) (fun b ob q => Heap.get?_push_of_some _ q) (Nat.le_refl _) ?_, rfl, q _ (I.hok.fresh (Nat.le_refl _))⟩
  exact ⟨Nat.le_trans (cutV_length xs lo hi) hz, _, 0, (r.drop (HT.sIx xs.length 0 lo)).take (HT.sIx xs.length xs.length hi - HT.sIx xs.length 0 lo), Heap.get?_push_size _ rfl⟩

/-! ### in, not in: flat items -/
noncomputable def flatV : V → Bool
  | .non => true
  | .bl _ => true
  | .int _ => true
  | .str _ => true
  | _ => false
/-- == of flat values -/
noncomputable def eqV : V → V → Bool
  | .non, .non => true
  | .bl a, .bl b => a == b
  | .bl a, .int b => (if a then 1 else 0) == b
  | .int a, .bl b => a == (if b then 1 else 0)
  | .int a, .int b => a == b
  | .str a, .str b => a == b
  | _, _ => false
theorem eqAt_V {A : Around} {s : Shared} {y x : V} {u v : Value} (ry : RelV y u) (rx : RelV x v) (fy : flatV y = true) (fx : flatV x = true) : SeqAt.EqAt A s u v (eqV y x) := by
  cases y with
  | non =>
    cases ry
    cases x with
    | non => cases rx; exact SeqAt.EqAt.same _
    | bl b => cases rx; exact SeqAt.EqAt.none_bool b
    | int b => obtain ⟨t, rfl⟩ := rx; exact SeqAt.EqAt.none_int b t
    | str b => obtain ⟨t, rfl⟩ := rx; exact SeqAt.EqAt.none_str b t
    | _ => exact absurd (show false = true from fx) Bool.false_ne_true
  | bl a =>
    cases ry
    cases x with
    | non => cases rx; exact SeqAt.EqAt.bool_none a
    | bl b => cases rx; exact SeqAt.EqAt.bool_bool a b
    | int b => obtain ⟨t, rfl⟩ := rx; exact SeqAt.EqAt.bool_int a b t
    | str b => obtain ⟨t, rfl⟩ := rx; exact SeqAt.EqAt.bool_str a b t
    | _ => exact absurd (show false = true from fx) Bool.false_ne_true
  | int a =>
    obtain ⟨t', rfl⟩ := ry
    cases x with
    | non => cases rx; exact SeqAt.EqAt.int_none a t'
    | bl b => cases rx; exact SeqAt.EqAt.int_bool a t' b
    | int b => obtain ⟨t, rfl⟩ := rx; exact SeqAt.EqAt.int_int a t' b t
    | str b => obtain ⟨t, rfl⟩ := rx; exact SeqAt.EqAt.int_str a t' b t
    | _ => exact absurd (show false = true from fx) Bool.false_ne_true
  | str a =>
    obtain ⟨t', rfl⟩ := ry
    cases x with
    | non => cases rx; exact SeqAt.EqAt.str_none a t'
    | bl b => cases rx; exact SeqAt.EqAt.str_bool a t' b
    | int b => obtain ⟨t, rfl⟩ := rx; exact SeqAt.EqAt.str_int a t' b t
    | str b => obtain ⟨t, rfl⟩ := rx; exact SeqAt.EqAt.str_str a t' b t
    | _ => exact absurd (show false = true from fx) Bool.false_ne_true
  | _ => exact absurd (show false = true from fy) Bool.false_ne_true
/-! ### len, list(x), tuple(x) of any list or tuple that is read -/
theorem call_list_of : CallR X (.type "list") (fun xs H Q => ∃ p ys, xs = [.ref p] ∧ (SqL X.K H p ys ∨ SqT X.K H p ys) ∧ ∀ l, H l = none → Q (.ref l) (upd H l (.lst ys))) := by
  intro pins s σ H xs us Q I r h
  obtain ⟨p, ys, rfl, hq, q⟩ := h
  obtain ⟨u, rfl, rx⟩ := vals1 r
  cases rx
  have fin : ∀ (its : List Value), Vals ys its → ys.length ≤ sizeLine → ∀ (h' : Heap) (c' : Nat), (∀ b o', s.heap.get? b = some o' → h'.get? b = some o') →
      h'.get? s.heap.objs.size = some { cls := .type "list", dict := none, data := .seq its.toArray c', slots := #[] } → EP X pins σ Q (.ref s.heap.objs.size) { s with heap := h' } := fun its r' hz h' c' kp e =>
    ⟨.ref s.heap.objs.size, _, I.laid (t' := s.toks) kp (Nat.le_refl _) (show ObjOk X.prog X.w _ h' _ (.lst ys) from ⟨hz, its, c', r', e⟩), rfl, q _ (I.hok.fresh (Nat.le_refl _))⟩
  rcases hq with hq | hq
  · obtain ⟨its, r', pl, hz⟩ := I.list hq
    have hlen := r'.length
    obtain ⟨o, ho, hc, n, hd⟩ := pl.isList
    exact call_list_seq p (.inl rfl) ho hc hd (fun h' c' kp e => fin its r' hz h' c' kp e) (by simp only [List.size_toArray] <;> omega)
  · obtain ⟨its, r', pl, hz⟩ := I.tuple hq
    have hlen := r'.length
    obtain ⟨o, ho, hc, n, hd⟩ := pl
    exact call_list_seq p (.inr rfl) ho hc hd (fun h' c' kp e => fin its r' hz h' c' kp e) (by simp only [List.size_toArray] <;> omega)
/-! ### the call of a builtin's method: o.m(..) -/
/-- the value is of that builtin type -/
noncomputable def tyV (K : PySem.W.Frag) (T : String) (x : V) (H : Hp) : Prop := match x with
  | .str _ => T = "str"
  | .int _ => T = "int"
  | .ref p => (T = "list" ∧ ∃ xs, SqL K H p xs) ∨ (T = "tuple" ∧ ∃ o, K.lookup p = some o ∧ o.cls = .type "tuple" ∧ o.dict = none) ∨
      (T = "dict" ∧ ((∃ kvs, H p = some (.dK kvs)) ∨ ∃ kvs, H p = some (.dT kvs))) ∨ (T = "set" ∧ ∃ S n, H p = some (.set S n))
  | _ => False
theorem tyV_is {pins : List (Addr × Obj)} {σ : St} {H : Hp} {s : Shared} {T : String} {x : V} {v : Value} (I : Inv X pins σ H s) (r : RelV x v) (ty : tyV X.K T x H) :
    s.TypeIs v T ∧ ∀ a, v = .ref a → ∃ ob, s.heap.get? a = some ob ∧ ob.dict = none := by
  cases x with
  | str z =>
    obtain ⟨t, rfl⟩ := r
    cases (show T = "str" from ty)
    exact ⟨typeIs_str s z t, fun _ e => nomatch e⟩
  | int i =>
    obtain ⟨t, rfl⟩ := r
    cases (show T = "int" from ty)
    exact ⟨typeIs_int s i t, fun _ e => nomatch e⟩
  | ref p =>
    cases r
    rcases ty with ⟨rfl, xs, hq⟩ | ⟨rfl, o, hk, hc, hd⟩ | ⟨rfl, hk⟩ | ⟨rfl, S, n, hk⟩
    · obtain ⟨its, _, pl, _⟩ := I.list hq
      refine ⟨pl.isList.typeIs, fun a e => ?_⟩
      cases e
      obtain ⟨o, n, e, c, hd, _⟩ := pl
      exact ⟨o, e, hd⟩
    · refine ⟨⟨o, I.kIn p o hk, hc⟩, fun a e => ?_⟩
      cases e
      exact ⟨o, I.kIn _ o hk, hd⟩
    · have z : ∃ o, s.heap.get? p = some o ∧ o.ExactDict := by
        rcases hk with ⟨kvs, hk⟩ | ⟨kvs, hk⟩
        · obtain ⟨_, _, _, _, o, _, _, e, ex, _⟩ := I.hok p _ hk
          exact ⟨o, e, ex⟩
        · obtain ⟨_, _, _, _, o, _, _, e, ex, _⟩ := I.hok p _ hk
          exact ⟨o, e, ex⟩
      obtain ⟨o, e, ex⟩ := z
      refine ⟨⟨o, e, ex.1⟩, fun a e2 => ?_⟩
      cases e2
      exact ⟨o, e, ex.2.1⟩
    · obtain ⟨o, _, _, _, e, ex, _⟩ := I.hok p _ hk
      refine ⟨⟨o, e, ex.1⟩, fun a e2 => ?_⟩
      cases e2
      exact ⟨o, e, ex.2.1⟩
  | _ => exact False.elim ty
noncomputable def tBM (K : PySem.W.Frag) (T : String) (r : V → List V → Hp → VK → Prop) (to : TE) (t : TA) : TE := fun σ H Q => to σ H fun x H1 => tyV K T x H1 ∧ t σ H1 fun xs H2 => r x xs H2 Q
variable {o e : Expr} {es : List Expr} {to : TE} {t : TA} {name : Str} {apos cpos : Pos} {T id : String} {r : V → List V → Hp → VK → Prop}
theorem pe_bm (pa : PlainAttrs T) (slot : Slot T name id) (hty : typeOf (.builtin id) = pure (.type "method_descriptor")) (hm : MtR X id r) (ho : PE X o to) (ha : PA X (e :: es) t)
    (hbase : attributeBase o name X.env (eval o X.env) = eval o X.env := by rfl)
    (hfew : ((backTo cpos (starEach (e :: es) X.env)).all (fun x => !x.1) && (backToKw cpos (keywordEach [] X.env)).all (fun x => x.1.isSome)
      && decide ((e :: es).length + ([] : List Keyword).length + (if ([] : List Keyword).isEmpty then 0 else 1) < 30)) = true := by rfl)
    (hline : (apos.endLine == cpos.line) = true := by rfl) (hs : starEach (e :: es) X.env = (false, eval e X.env) :: starEach es X.env := by rfl) (hplain : (backTo cpos (starEach es X.env)).any (·.1) = false := by rfl) :
    PE X (.Call (.Attribute o name apos) (e :: es) [] cpos) (tBM X.K T r to t) := by
  intro pins s σ H Q I h
  refine wpAny_Call_method_late hbase hfew hline rfl (thn (ho pins s σ H _ I h) fun v s1 ⟨x, H1, I1, r1, ty, q1⟩ => ?_)
  obtain ⟨h1, h2⟩ := tyV_is I1 r1 ty
  refine ⟨T, id, pa, slot, hty, h1, h2, ?_⟩
  have hA := ha cpos pins s1 σ H1 _ I1 q1
  rw [hs] at hA ⊢
  refine Calls.callWith_builtin (by show (false || (backTo cpos (starEach es X.env)).any (·.1)) = false; rw [hplain] <;> rfl) (Calls.evalArgs_plain ?_)
  exact thn hA fun us s2 ⟨vs, H2, I2, r2, q2⟩ => hm pins s2 σ H2 x vs v us Q I2 r1 r2 q2
/- xs.append(e), list.index on a module's tuple .. are MtR facts of 06m -/
end
end L2

namespace L2
open PySem PySem.Spec PyProof.Rows

noncomputable def MtM (X : Cx) (id : String) (r : V → List V → Hp → VK → Prop) : Prop :=
  ∀ (pins : List (Addr × Obj)) (s : Shared) (σ : St) (H : Hp) (x : V) (xs : List V) (v : Value) (us : List Value) (Q : VK), Inv X pins σ H s → RelV x v → Vals xs us → r x xs H Q →
    wpAny (model X.prog X.w) X.A (call (.builtin id) (v :: us)) (EP X pins σ Q) X.xe s

/-! ### lists of values -/
theorem Vals.one : ∀ {x : V} {us : List Value}, Vals [x] us → ∃ u, us = [u] ∧ RelV x u
  | _, _, .cons r .nil => ⟨_, rfl, r⟩
section
variable {X : Cx} {pins : List (Addr × Obj)} {σ : St} {H : Hp} {s : Shared} {l b : Addr} {xs ys zs : List V}

/-! ### the two steps: a tracked list is rewritten, a new list is laid -/
theorem Inv.lset {its its' : List Value} {n : Nat} {f : Array Value → Array Value} {t' : Nat} (I : Inv X pins σ H s) (hH : H l = some (.lst xs))
    (e : s.heap.get? l = some { cls := .type "list", data := .seq its.toArray n }) (hf : f its.toArray = its'.toArray) (hv : Vals ys its') (hz : ys.length ≤ sizeLine) :
    Inv X pins σ (upd H l (.lst ys)) { s with heap := s.heap.update l (Obj.mapSeq f), toks := t' } := by
  have q := PySem.IsL.update e f
  rw [hf] at q
  refine I.write (x := l) (e := l) (by rw [hH]; exact trivial) (.inl rfl) (fun b' u hb hu => (Heap.get?_update_other s.heap (Obj.mapSeq f) (Ne.symm hb)).trans hu) ⟨_, q⟩ ?_
  exact ⟨hz, its', _, hv, q⟩
theorem Inv.lnew {its : List Value} {t' : Nat} (I : Inv X pins σ H s) (hv : Vals ys its) (hz : ys.length ≤ sizeLine) :
    Inv X pins σ (upd H s.heap.objs.size (.lst ys)) { s with heap := s.heap.push { cls := .type "list", data := .seq its.toArray }, toks := t' } :=
  I.laid (fun _ _ q => Heap.get?_push_of_some _ q) (Nat.le_refl _) ⟨hz, its, 0, hv, Heap.get?_push_size _ rfl⟩
theorem Inv.fresh (I : Inv X pins σ H s) : H s.heap.objs.size = none := I.hok.fresh (Nat.le_refl _)
theorem Inv.lstM (I : Inv X pins σ H s) (hH : H l = some (.lst xs)) : xs.length ≤ sizeLine ∧ ∃ (its : List Value) (n : Nat), Vals xs its ∧ xs.length = its.length ∧ s.heap.get? l = some { cls := .type "list", data := .seq its.toArray n } := by
  obtain ⟨z, its, n, r, e⟩ := I.hok l _ hH
  exact ⟨z, its, n, r, r.length, e⟩

theorem notLongL {n : Nat} (h : n ≤ sizeLine) : Builtin.List.listTooLong n = false := by
  unfold Builtin.List.listTooLong
  exact decide_eq_false (by omega)
end

section
variable {X : Cx}

/-! ### methods -/
noncomputable def rAppend : V → List V → Hp → VK → Prop := fun x vs H Q => ∃ l xs y, x = .ref l ∧ vs = [y] ∧ H l = some (.lst xs) ∧ xs.length < sizeLine ∧ Q .non (upd H l (.lst (xs ++ [y])))
theorem mt_append : MtM X "list.append" rAppend := by
  intro pins s σ H x vs v us Q I rx rv h
  obtain ⟨l, xs, y, rfl, rfl, hH, hz, q⟩ := h
  cases rx
  obtain ⟨u, rfl, ru⟩ := rv.one
  obtain ⟨z, its, n, r, hl, e⟩ := I.lstM hH
  refine call_meets F.slot_list_append ⟨_, e, rfl⟩ F.entry_list_append (F.args_list_append_2 _ _) (PySem.list_append l its.toArray n u (by rw [List.size_toArray]; omega)) ⟨e, ?_⟩
  refine ⟨.non, _, I.lset (its' := its ++ [u]) hH e (by simp) (r.append (.cons ru .nil)) ?_, rfl, q⟩
  rw [List.length_append, List.length_singleton]
  omega

noncomputable def rExtend : V → List V → Hp → VK → Prop := fun x vs H Q => ∃ l b xs zs, x = .ref l ∧ vs = [.ref b] ∧ H l = some (.lst xs) ∧ H b = some (.lst zs) ∧ xs.length + zs.length ≤ sizeLine ∧ Q .non (upd H l (.lst (xs ++ zs)))
theorem mt_extend : MtM X "list.extend" rExtend := by
  intro pins s σ H x vs v us Q I rx rv h
  obtain ⟨l, b, xs, zs, rfl, rfl, hH, hB, hz, q⟩ := h
  cases rx
  obtain ⟨u, rfl, ru⟩ := rv.one
  cases ru
  obtain ⟨z, its, n, r, hl, e⟩ := I.lstM hH
  obtain ⟨z2, its2, n2, r2, hl2, e2⟩ := I.lstM hB
  have hsz : its.toArray.size + its2.toArray.size ≤ sizeLine := by rw [List.size_toArray, List.size_toArray]; omega
  have hlong : ¬ (!its.toArray.isEmpty && Builtin.List.listTooLong (its.toArray.size + its2.toArray.size)) = true := by
    rw [notLongL hsz, Bool.and_false]
    exact Bool.false_ne_true
  refine call_meets F.slot_list_extend ⟨_, e, rfl⟩ F.entry_list_extend (F.args_list_extend_2 _ _)
    (AutoSeq1.list_extend_list_list_0 l its.toArray n b its2.toArray n2 hlong (by rw [List.size_toArray]; omega) (by omega)) ⟨e, e2, ?_⟩
  refine ⟨.non, _, I.lset (its' := its ++ its2) hH e (by simp) (r.append r2) ?_, rfl, q⟩
  rw [List.length_append]
  omega

/-! ### list + list, list += list, list * int -/
noncomputable def rCat : R2 := fun x y H Q => ∃ l b xs zs, x = .ref l ∧ y = .ref b ∧ H l = some (.lst xs) ∧ H b = some (.lst zs) ∧ xs.length + zs.length ≤ sizeLine ∧ ∀ p, H p = none → Q (.ref p) (upd H p (.lst (xs ++ zs)))
theorem op_cat : OpR X (binaryOp .Add) rCat := by
  intro pins s σ H x y v u Q I rx ry h
  obtain ⟨l, b, xs, zs, rfl, rfl, hH, hB, hz, q⟩ := h
  cases rx
  cases ry
  obtain ⟨z, its, n, r, hl, e⟩ := I.lstM hH
  obtain ⟨z2, its2, n2, r2, hl2, e2⟩ := I.lstM hB
  refine PySem.P.add_list e e2 ?_ (by rw [List.size_toArray, List.size_toArray]; omega)
  have ea : its.toArray ++ its2.toArray = (its ++ its2).toArray := by simp
  rw [ea]
  exact ⟨.ref _, _, I.lnew (t' := s.toks) (r.append r2) (by rw [List.length_append]; omega), rfl, q _ I.fresh⟩
/-! ### del xs[i] -/
end

/-! ### xs[a:b] = ys -/
section
variable {prog : Program} {w : World} {A : Around} {E : Value → Shared → Prop} {s : Shared}
end

section
variable {X : Cx}
end
end L2

namespace Att
open PySem PySem.W PySem.Calls PyProof.Rows

/-! ### the script -/
theorem ints_of_wellAll {P : Params} {h : Heap} : ∀ (ns : List Int) (vs : List Value), WellAll P h vs (ns.map WData.int) → IntsAre vs ns := by
  intro ns
  induction ns with
  | nil =>
    intro vs w
    rw [List.map_nil] at w
    cases w
    exact .nil
  | cons n ns ih =>
    intro vs w
    rw [List.map_cons] at w
    cases w with
    | cons a b =>
      cases a
      exact .cons _ _ (ih _ b)

theorem script_of {l : OpenLaw} {n : Nat} (hn : l.most = some n) {P : Params} {h : Heap} {args : List WData} {vals : List Value}
    (hpre : l.row.toRowW.claim.pre args = true) (hwl : WellAll P h vals args) :
    ∃ a vs ns, vals = [Value.ref a] ∧ args = [WData.list (ns.map WData.int)] ∧ h.get? a = some { cls := .type "list", data := .seq vs.toArray } ∧ IntsAre vs ns ∧ ns.length ≤ n := by
  have hsh : WShape.hasAll [] args [.list .int] = true := (pre_splitW hpre).1
  have hc : l.pre.holds [] { args := args } = true := (pre_splitW hpre).2
  obtain ⟨d, r, rfl, h1, h2⟩ := hasAllW_cons hsh
  obtain rfl := hasAllW_nil h2
  obtain ⟨xs, rfl, h3⟩ := hasW_list h1
  obtain ⟨ns, rfl⟩ := items_int h3
  have hlen : ns.length ≤ n := by
    unfold OpenLaw.pre at hc
    have h4 : (WTm.not (.lt (.lit (.int (n : Int))) (.len (.arg 0)))).holds [] { args := [.list (ns.map .int)] } = true := by
      have h4 := (holds_andW hc).1
      rw [hn] at h4
      exact h4
    have h5 := condW_of h4 (w_not (w_lt w_lit (w_len_list (w_arg rfl))))
    rw [List.length_map] at h5
    refine Nat.le_of_not_lt fun q => ?_
    have q' : (n : Int) < ((ns.length : Nat) : Int) := by omega
    first
      | (rw [decide_eq_true q'] at h5; exact absurd h5 (by decide))
      | (simp at h5; omega)
  cases hwl with
  | cons w1 w2 =>
    cases w2
    cases w1 with
    | list ho hall => exact ⟨_, _, ns, rfl, rfl, ho, ints_of_wellAll ns _ hall, hlen⟩

theorem post_true (l : OpenLaw) (args : List WData) : l.row.toRowW.claim.post args (.bool true) args = true :=
  postW_of (r := l.row.toRowW) (X := (true == true))
    (show WShape.has [] (.bool true) .bool = true by first | rfl | decide | simp [WShape.has, WShape.arms, WShape.armsAll])
    (show (WTm.eq .res (.lit (.bool true))).value [] { args := args, res := some (.bool true), after := args } = some (.bool (true == true)) from w_eq_bool (w_res rfl) w_lit) rfl

/-! ### the attachment: holds_open's last premise (the goal 'hc' behind k_head) from a wpAny of the law's body -/
/-- the same from a codeAny of the CALL (for a layer whose function contracts speak of calls) -/
theorem attach_call {l : OpenLaw} {n : Nat} {q : Program} {loose : List Str} {XP : (Str → Option Value) → Heap → Prop} {YP : World → Heap → Prop} {d : DefRec}
    (hn : l.most = some n) (hdf : d.params.defaults = [])
    (call : ∀ (w : World) (s₀ s₁ : Shared) (mg mb : Str → Option Value) (fa : Addr) (o : Obj) (pm cd doc : Value) (a : Addr) (vs : List Value) (ns : List Int),
      Ground q loose [] XP w s₀ mg mb s₁.heap → YP w s₁.heap →
      s₁.heap.get? fa = some o → o.data = .func (docDef d.name d.params d.body d.scope pm cd doc) → s₁.heap.CodeRec cd d.name → mg d.name = some (.ref fa) →
      s₁.heap.get? a = some { cls := .type "list", data := .seq vs.toArray } → IntsAre vs ns → ns.length ≤ n → s₁.gens = #[] →
      codeAny (model l.prog w) callerA (.call (.ref fa) ⟨[.ref a], []⟩) (fun r s' => r = .ok (.ret (.bool true)) ∧ OldK s₁.heap s'.heap ∧ s'.os = s₁.os ∧ AllBare s'.gens) s₁) :
    WalkO q loose XP YP l.row.toRowW d [] (fun f vs => PySem.call f vs) := by
  intro w s₀ s₁ mg mb G Y fa o pm cd doc dV kV ho hd hcd hD hmg hg args vals as hpre hlay hrd hwl hlo
  obtain rfl : dV = .none := Dflts.none hD hdf
  obtain rfl : kV = .none := Dflts.noKw hD
  obtain ⟨a, vs, ns, rfl, rfl, hobj, hints, hlen⟩ := script_of hn hpre hwl
  refine enter_call (codeAny_mono (call w s₀ s₁ mg mb fa o pm cd doc a vs ns G Y ho (fd_plain hd) hcd hmg hobj hints hlen hg) fun r s' hq => ?_)
  obtain ⟨rfl, h2, h3, h4⟩ := hq
  exact ⟨.inl ⟨.bool true, .bool true, [], rfl, fun _ => rfl, .bool true, post_true l _, fun _ => ⟨List.Pairwise.nil, fun _ hm => (nomatch hm)⟩⟩, h2, h3, h4⟩

/-! ### rules over ANY heap (no ledger) from facts about the written part K: the library's own take a ledger (News) for what they write -/
section
variable {prog : Program} {w : World} {A : Around} {E : Value → Shared → Prop} {s : Shared} {K : Frag}

/-! the whole heap as the ledger: makes every rule that writes through a ledger a rule over any heap -/
end
end Att

namespace L2
open PySem PySem.Spec PyProof.Rows

theorem vals_ints : ∀ {vs : List Value} {ns : List Int}, IntsAre vs ns → Vals (ns.map V.int) vs
  | _, _, .nil => .nil
  | _, _, .cons n t h => .cons ⟨t, rfl⟩ (vals_ints h)

/-- nothing is tracked but the script, known to the object (or it is an object of the module) -/
noncomputable def Only (H : Hp) : Prop := ∀ b, H b = none ∨ ∃ o xs, H b = some (.frz o (.lst xs))

/-- THE HEAD: the law's promise, at the heap behind the top. F, the promise of the law's def, may use that base is part of the heap (so K.In base, base.Ns mainGlobals mg stand in Mod) -/
theorem law_call {P : Program} {w : World} {K : PySem.W.Frag} {mg mb : Str → Option Value} {CX : CXT} {k : Nat} {fa a : Addr} {fd : FuncData} {x : Str} {sp : Sp} {s₁ : Shared} {vs : List Value} {ns : List Int}
    (KX : K.In s₁.heap) (hns : s₁.heap.Ns mainGlobals mg) (hb : s₁.heap.Ns builtinsNs mb) (hbb : ∀ x : Str, x ≠ "__name__" → mb x = bootBuiltins x) (hlim : s₁.heap.NoLimit) (hg : s₁.gens = #[])
    (ha : s₁.heap.get? a = some { cls := .type "list", data := .seq vs.toArray }) (hi : IntsAre vs ns) (hl : ns.length ≤ sizeLine) (hr : Room k callerA)
    (F : ∀ base : Heap, K.In base → base.Ns mainGlobals mg → FnOk P w K mg base CX k fa fd [x] sp) (hbind : ∀ (s : Shared) (u : Value), BindsTo s fd ⟨[u], []⟩ [(x, u)])
    (hsp : ∀ H : Hp, Only H → SqL K H a (ns.map V.int) → sp [.ref a] H (fun v _ => v = .bl true) fun _ _ _ => False)
    (hCX : ∀ H e s', CX [] H s₁ (fun _ _ _ => False) e s' → False) :
    codeAny (model P w) callerA (.call (.ref fa) ⟨[.ref a], []⟩) (fun r s' => r = .ok (.ret (.bool true)) ∧ OldK s₁.heap s'.heap ∧ s'.os = s₁.os ∧ AllBare s'.gens) s₁ := by
  have rv := vals_ints hi
  have lenV := hi.length
  -- from an abstract heap in which nothing but the script may be tracked
  have core : ∀ H : Hp, Only H → SqL K H a (ns.map V.int) → HOk P w H s₁.heap → (∀ b, H b ≠ none → b = a) → (H a ≠ none → K.lookup a = none) →
      codeAny (model P w) callerA (.call (.ref fa) ⟨[.ref a], []⟩) (fun r s' => r = .ok (.ret (.bool true)) ∧ OldK s₁.heap s'.heap ∧ s'.os = s₁.os ∧ AllBare s'.gens) s₁ := by
    intro H hO hS hok hA hK
    have base_of : ∀ {b : Addr} {o : Obj}, s₁.heap.get? b = some o → H b = none → (hidT s₁.heap H).get? b = some o := fun e n => hidT_get e n
    have noA : ∀ {b : Addr} {o : Obj} {es : Array DictEntry} {ep : Nat}, s₁.heap.get? b = some o → o.data = .dict es ep → H b = none := fun {b o es ep} e d => by
      cases q : H b with
      | none => rfl
      | some u =>
        have e' : b = a := hA b (by rw [q]; simp)
        subst e'
        rw [ha] at e; cases e
        have d' : Data.seq vs.toArray _ = Data.dict es ep := d
        cases d'
    have nsK : ∀ {b : Addr} {m : Str → Option Value}, s₁.heap.Ns b m → (hidT s₁.heap H).Ns b m := fun {b m} ⟨o, es, ep, e, d, r⟩ => ⟨o, es, ep, base_of e (noA e d), d, r⟩
    have hKb : K.In (hidT s₁.heap H) := fun b o e => base_of (KX b o e) (by
      cases q : H b with
      | none => rfl
      | some u =>
        have e' : b = a := hA b (by rw [q]; simp)
        subst e'
        rw [hK (by rw [q]; simp)] at e; cases e)
    have hM : Mod K mg (hidT s₁.heap H) := ⟨hKb, nsK hns, ⟨mb, nsK hb, hbb⟩, let ⟨mc, h1, h2⟩ := hlim; ⟨mc, nsK h1, h2⟩⟩
    have e0 : Env0 P w K mg (hidT s₁.heap H) callerA [] s₁ H := ⟨rfl, hM, fun b o e => of_hidT e, Nat.le_of_eq (hidT_size _ _), trivial, fun b hb => absurd (show b ∈ ([] : List Addr) from hb) (by simp), hok, .of_eq hg⟩
    refine codeAny_mono ((F _ hKb (nsK hns)).run callerA [] s₁ H ⟨[.ref a], []⟩ [.ref a] [.ref a] _ _ hr e0 (hbind s₁ (.ref a)) (.cons rfl .nil) (hsp H hO hS)) fun r s' h => ?_
    cases r with
    | error e => exact (hCX H e s' h).elim
    | ok fl =>
      cases fl with
      | next => exact False.elim h
      | brk => exact False.elim h
      | cont => exact False.elim h
      | ret u =>
        obtain ⟨v, H', os, bare, un, hok', r', q⟩ := h
        have q' : v = .bl true := q
        subst q'
        obtain rfl : u = Value.bool true := r'
        refine ⟨rfl, OldK.of_keep fun b o e => ?_, os, bare⟩
        cases q : H b with
        | none => exact un.keep b o e q (by intro z; exact absurd (show b ∈ ([] : List Addr) from z) (by simp)) (by simp)
        | some u =>
          rcases hO b with z | ⟨ob, xs, z⟩
          · rw [q] at z; cases z
          · have z2 := un.frzs b ob _ z
            obtain ⟨e1, _⟩ := hok b _ z
            obtain ⟨e2, _⟩ := hok' b _ z2
            rw [e] at e1; cases e1
            exact e2
  cases hk : K.lookup a with
  | some o =>
    -- the script is one of the module's own objects
    have e := KX a o hk
    rw [ha] at e
    cases e
    refine core (fun _ => none) (fun _ => .inl rfl) (.inr ⟨_, vs.toArray, _, hk, rfl, rfl, rfl, by rw [List.size_toArray, lenV]; exact hl, by simpa using rv⟩) (fun b u z => by have z' : (none : Option HO) = some u := z; cases z') (fun b z => absurd rfl z) fun z => absurd rfl z
  | none =>
    refine core (fun b => if b = a then some (.frz { cls := .type "list", data := .seq vs.toArray } (.lst (ns.map V.int))) else none) (fun b => ?_) (.inl (.inr ⟨{ cls := .type "list", data := .seq vs.toArray }, if_pos rfl⟩)) (fun b u z => ?_) (fun b z => ?_) fun _ => hk
    · by_cases hb : b = a
      · exact .inr ⟨_, _, if_pos hb⟩
      · exact .inl (if_neg hb)
    · by_cases hb : b = a
      · have z' := (if_pos hb).symm.trans z
        cases z'
        subst hb
        exact ⟨ha, by rw [List.length_map]; exact hl, vs, _, rv, ha⟩
      · have z' := (if_neg hb).symm.trans z
        cases z'
    · by_cases hb : b = a
      · exact hb
      · exact absurd (if_neg hb) z
end L2

namespace L2
open PySem PySem.Spec PyProof.Rows

/-- the goal that k_head leaves (case hc), from the law's promise. F gives the function object fd (K's own) once, then the promise over every base -/
theorem walk_of {l : PySem.W.OpenLaw} {n k : Nat} {q : Program} {loose : List Str} {XP : (Str → Option Value) → Heap → Prop} {YP : World → Heap → Prop} {d : DefRec} {K : Params → PySem.W.Frag} {CX : World → CXT} {sp : World → Sp} {x : Str}
    (hn : l.most = some n) (hn2 : n ≤ sizeLine) (hdf : d.params.defaults = []) (hr : Room k callerA)
    (hY : ∀ (w : World) (h : Heap), YP w h → (K w.params).In h)
    (F : ∀ (w : World) (mg : Str → Option Value) (fa : Addr) (h : Heap), (K w.params).In h → h.Ns mainGlobals mg → mg d.name = some (.ref fa) →
      ∃ fd : FuncData, (∀ (s : Shared) (u : Value), BindsTo s fd ⟨[u], []⟩ [(x, u)]) ∧
        ∀ base : Heap, (K w.params).In base → base.Ns mainGlobals mg → FnOk l.prog w (K w.params) mg base (CX w) k fa fd [x] (sp w))
    (hsp : ∀ (w : World) (H : Hp) (a : Addr) (ns : List Int), ns.length ≤ n → Only H → SqL (K w.params) H a (ns.map V.int) → sp w [.ref a] H (fun v _ => v = .bl true) fun _ _ _ => False)
    (hCX : ∀ (w : World) (H : Hp) (s : Shared) (e : Value) (s' : Shared), CX w [] H s (fun _ _ _ => False) e s' → False) :
    PySem.W.WalkO q loose XP YP l.row.toRowW d [] (fun f vs => PySem.call f vs) := by
  refine Att.attach_call hn hdf fun w s₀ s₁ mg mb fa o pm cd doc a vs ns G Y ho hd hcd hmg hobj hints hlen hg => ?_
  have KX := hY w _ Y
  obtain ⟨fd, hb, hF⟩ := F w mg fa _ KX G.T.g hmg
  exact law_call KX G.T.g G.T.b G.T.builtins G.T.nolimit hg hobj hints (Nat.le_trans hlen hn2) hr hF hb (fun H hO hS => hsp w H a ns hlen hO hS) fun H e s' => hCX w H s₁ e s'
/-- the same where the promise hangs on the written part alone: (sp := My.sp_law), no hole under a binder -/
theorem walk_ofK {l : PySem.W.OpenLaw} {n k : Nat} {q : Program} {loose : List Str} {XP : (Str → Option Value) → Heap → Prop} {YP : World → Heap → Prop} {d : DefRec} {K : Params → PySem.W.Frag} {CX : CXT} {sp : PySem.W.Frag → Sp} {x : Str}
    (hn : l.most = some n) (hn2 : n ≤ sizeLine) (hdf : d.params.defaults = []) (hr : Room k callerA)
    (hY : ∀ (w : World) (h : Heap), YP w h → (K w.params).In h)
    (F : ∀ (w : World) (mg : Str → Option Value) (fa : Addr) (h : Heap), (K w.params).In h → h.Ns mainGlobals mg → mg d.name = some (.ref fa) →
      ∃ fd : FuncData, (∀ (s : Shared) (u : Value), BindsTo s fd ⟨[u], []⟩ [(x, u)]) ∧
        ∀ base : Heap, (K w.params).In base → base.Ns mainGlobals mg → FnOk l.prog w (K w.params) mg base CX k fa fd [x] (sp (K w.params)))
    (hsp : ∀ (K : PySem.W.Frag) (H : Hp) (a : Addr) (ns : List Int), ns.length ≤ n → Only H → SqL K H a (ns.map V.int) → sp K [.ref a] H (fun v _ => v = .bl true) fun _ _ _ => False)
    (hCX : ∀ (H : Hp) (s : Shared) (e : Value) (s' : Shared), CX [] H s (fun _ _ _ => False) e s' → False) :
    PySem.W.WalkO q loose XP YP l.row.toRowW d [] (fun f vs => PySem.call f vs) :=
  walk_of (K := K) (CX := fun _ => CX) (sp := fun w => sp (K w.params)) hn hn2 hdf hr hY F (fun w H a ns h1 h2 h3 => hsp (K w.params) H a ns h1 h2 h3) fun _ H s e s' => hCX H s e s'
end L2

/- THE LAST THEOREM (shape; LID, My.* are yours):
   My.Adr: a structure of the addresses that your layer names (classes, functions); My.Txt K t: a structure (Prop) of the equations over K;
   My.txt_mk : {K} {implicit addresses ..} (e1 : nsIn K mainGlobals "law" = some (some (.ref f))) (e2 : K.lookup f = some ⟨oc, od, .func (fnOf "law" "law" params body scope dV kV doc pm an cdv ct), sl⟩) (e3 : codeIn K cdv "law" = true) .. : ∃ t, My.Txt K t

(the tactic k_is has no namespace: write k_is) -/

/-! SHORT WORDS over the layer: a def of the text, its body, what a loop and a test want. -/
namespace L2
open PySem PySem.Spec PyProof.Rows

/-! ### the text by places -/
/-- the j-th statement of a class's body -/
noncomputable def inClass (s : Stmt) (j : Nat) : Stmt := match s with
  | .ClassDef _ _ _ body _ _ _ _ _ _ _ => body.getD j (.Pass ⟨0, 0, 0, 0⟩)
  | _ => .Pass ⟨0, 0, 0, 0⟩
noncomputable def defArgs (s : Stmt) : Arguments := match s with
  | .FunctionDef _ a _ _ _ _ _ _ _ _ => a
  | _ => { posonlyargs := [], args := [], vararg := none, kwonlyargs := [], kw_defaults := [], kwarg := none, defaults := [] }
noncomputable def defBody (s : Stmt) : List Stmt := match s with
  | .FunctionDef _ _ b _ _ _ _ _ _ _ => b
  | _ => []
noncomputable def defScope (s : Stmt) : Scope := match s with
  | .FunctionDef _ _ _ _ _ _ sc _ _ _ => sc
  | _ => { kind := .function, names := [], isGenerator := false, isCoroutine := false }

/-! ### no exception leaves a def -/
noncomputable abbrev CX0 : CXT := fun _ _ _ _ _ _ => False
noncomputable abbrev E0 : XK := fun _ _ _ => False
theorem pass0 {X : Cx} : Passes CX0 X E0 := fun _ _ _ _ _ _ _ h => h.elim

/-! ### a def (or method) of the text as it stands behind the top -/
structure Fun (K : PySem.W.Frag) (x qual : Str) (st : Stmt) (f : Addr) (fd : FuncData) : Prop where
  ex : ∃ (oc : Value) (od : Option Addr) (kV doc pm : Value) (an : Option Addr) (cdv ct : Value) (osl : Array (Option Value)),
    fd = PySem.W.fnOf x qual (defArgs st) (defBody st) (defScope st) .none kV doc pm an cdv ct ∧ K.lookup f = some ⟨oc, od, .func fd, osl⟩ ∧ PySem.W.codeIn K cdv qual = true
  kp : PySem.W.keepIn K (.ref f) = true
section
variable {P : Program} {w : World} {K : PySem.W.Frag} {mg : Str → Option Value} {base : Heap}
/-- THE RULE for a def: its body as a term of rules, and the reading of that term -/
theorem Fun.ok {x qual : Str} {st : Stmt} {f : Addr} {fd : FuncData} {N ps : List Str} {k : Nat} {sp : Sp} (F : Fun K x qual st f fd) (S : FnScope N ps (defScope st)) (len : ∀ vs H Q E, sp vs H Q E → vs.length = ps.length)
    (hbody : ∀ (cdv : Value) (A : Around) (outer : List Env) (s : Shared) (H : Hp) (vs : List V) (Q : VK) (E : XK), Room k (A.deeper (envOfC qual (defScope st) s.heap.objs.size f cdv)) → sp vs H Q E →
      ∃ t, PSs (cxOf CX0 P w K mg base N qual (defScope st) f cdv A outer s H E).nox (defBody st) t ∧ t { nx := fun _ H' => Q .non H', rt := Q } (start N vs) H) : FnOk P w K mg base CX0 (k + 1) f fd ps sp := by
  obtain ⟨oc, od, kV, doc, pm, an, cdv, ct, osl, rfl, lk, hcd⟩ := F.ex
  refine fn_of lk hcd S len fun A outer s H vs Q E hr hsp => ?_
  obtain ⟨t, h, q⟩ := hbody cdv A outer s H vs Q E hr hsp
  exact ⟨t, h.nox, q⟩
/-- how its arguments bind (no defaults): h is «fun _ _ _ _ _ _ us hl => match us, hl with | [_, _], _ => rfl», one _ a parameter -/
theorem Fun.binds {x qual : Str} {st : Stmt} {f : Addr} {fd : FuncData} {ps : List Str} (F : Fun K x qual st f fd)
    (h : ∀ (kV doc pm : Value) (an : Option Addr) (cdv ct : Value) (us : List Value), us.length = ps.length → bindArgs (PySem.W.fnOf x qual (defArgs st) (defBody st) (defScope st) .none kV doc pm an cdv ct) ⟨us, []⟩ = pure (ps.zip us)) : Binds K fd ps [] := by
  obtain ⟨oc, od, kV, doc, pm, an, cdv, ct, osl, rfl, lk, hcd⟩ := F.ex
  exact .all (h kV doc pm an cdv ct)
theorem fun_mk {x qual : Str} {st : Stmt} {f : Addr} {oc : Value} {od an : Option Addr} {osl : Array (Option Value)} {kV doc pm cdv ct : Value} (l : K.lookup f = some ⟨oc, od, .func (PySem.W.fnOf x qual (defArgs st) (defBody st) (defScope st) .none kV doc pm an cdv ct), osl⟩)
    (c : PySem.W.codeIn K cdv qual = true) (k : PySem.W.keepIn K (.ref f) = true) : Fun K x qual st f (PySem.W.fnOf x qual (defArgs st) (defBody st) (defScope st) .none kV doc pm an cdv ct) := ⟨⟨oc, od, kV, doc, pm, an, cdv, ct, osl, rfl, l, c⟩, k⟩
end
theorem small1000 {n : Nat} (h : n ≤ 1000) : n < sizeLine := Nat.lt_of_le_of_lt h (by decide)

/-! ### expressions in short: the name that stands in the i-th slot -/
section
variable {X : Cx}
theorem pv (i : Nat) {x : Str} {pos : Pos} (hN : X.N[i]? = some x := by rfl) (hv : Vis X.env.scope x := by first | exact Or.inl rfl | exact Or.inr (Or.inl rfl) | exact Or.inr (Or.inr rfl)) (hd : (x == ("__debug__" : Str)) = false := by decide)
    (hcd : (x == ("__classdict__" : Str)) = false := by decide) : PE X (.Name x pos) (tVar i) := pe_var hN hv hd hcd
end

/-! ### tests -/
theorem iteF {A B : Prop} (h : B) : if false = true then A else B := by
  rw [if_neg Bool.false_ne_true]
  exact h
theorem iteT {A B : Prop} (h : A) : if true = true then A else B := by
  rw [if_pos rfl]
  exact h
theorem ite2 {c A B : Prop} [Decidable c] (h1 : c → A) (h2 : ¬ c → B) : if c then A else B := by
  by_cases h : c
  · rw [if_pos h]
    exact h1 h
  · rw [if_neg h]
    exact h2 h
theorem iteNS {c A B : Prop} [Decidable c] (hc : c) (h : B) : if (!decide c) = true then A else B := by
  rw [decide_eq_true hc]
  exact iteF h

/-! ### heaps -/
/-- all that was tracked is as it was -/
noncomputable def Same (H H' : Hp) : Prop := ∀ b o, H b = some o → H' b = some o
theorem Same.refl (H : Hp) : Same H H := fun _ _ h => h
theorem Same.trans {H H1 H2 : Hp} (a : Same H H1) (b : Same H1 H2) : Same H H2 := fun c o h => b c o (a c o h)
theorem Same.free {H H' : Hp} (e : Same H H') {l : Addr} (h : H' l = Option.none) : H l = Option.none := by
  cases q : H l with
  | none => rfl
  | some o =>
    rw [e l o q] at h
    cases h
theorem Same.seq {K : PySem.W.Frag} {H H' : Hp} {a : Addr} {xs : List V} (e : Same H H') (h : SqL K H a xs) : SqL K H' a xs := by
  rcases h with (h | ⟨o, h⟩) | h
  · exact .inl (.inl (e _ _ h))
  · exact .inl (.inr ⟨o, e _ _ h⟩)
  · exact .inr h

end L2

set_option maxHeartbeats 4000000

namespace L2
open PySem PySem.Spec PyProof.Rows

/-! ### lists of pairs as tables -/
section
variable {κ : Type} [DecidableEq κ]
theorem KV.length {kvs : List (κ × V)} {vs : List (κ × Value)} (r : KV kvs vs) : kvs.length = vs.length := Paired.length r
end


/-! ### a tracked dict, its keys ints and texts or tuples of these -/
section
variable {P : Program} {w : World} {H : Hp} {h : Heap} {a : Addr}
end

section
variable {X : Cx} {pins : List (Addr × Obj)} {σ : St} {H : Hp} {s : Shared} {a : Addr} {y v : V} {u r : Value} {o : Option V} {A : Around} {E : Value → Shared → Prop}

end

section
variable {X : Cx} {pins : List (Addr × Obj)} {σ : St} {H : Hp} {s : Shared} {a : Addr} {kvs : List (Key × V)} {k : Key} {u : Value} {A : Around} {E : Value → Shared → Prop}
end


/-! ### readings and rules -/
section
variable {X : Cx} {o i e value : Expr} {pos pos' tpos : Pos} {td ty tv : TE}
end


/-! ### displays -/
section
variable {X : Cx} {pos : Pos}
end

end L2

set_option genInjectivity false
set_option genSizeOfSpec false
namespace Own
open PySem PySem.Spec PyProof.Rows L2

/-! ### a def of the text by its name; a def that keeps a promise -/
structure Def (K : PySem.W.Frag) (mg : Str → Option Value) (x : Str) (st : Stmt) (ps : List Str) : Prop where
  ex : ∃ f fd, Fun K x x st f fd ∧ mg x = some (.ref f) ∧ Binds K fd ps []
structure Callee (P : Program) (w : World) (K : PySem.W.Frag) (mg : Str → Option Value) (base : Heap) (CX : CXT) (k : Nat) (x : Str) (ps : List Str) (sp : Sp) : Prop where
  ex : ∃ f fd, FnOk P w K mg base CX k f fd ps sp ∧ mg x = some (.ref f) ∧ PySem.W.keepIn K (.ref f) = true ∧ (∃ o : Obj, K.lookup f = some o ∧ o.data = .func fd) ∧ Binds K fd ps []
section
variable {P : Program} {w : World} {K : PySem.W.Frag} {mg : Str → Option Value} {base : Heap}
/-- the promise of the very def that stands under the name -/
theorem Callee.at {CX : CXT} {x : Str} {st : Stmt} {f : Addr} {fd : FuncData} {k : Nat} {ps : List Str} {sp : Sp} (C : Callee P w K mg base CX k x ps sp) (hm : mg x = some (.ref f)) (F : Fun K x x st f fd) (_ : Def K mg x st ps) : FnOk P w K mg base CX k f fd ps sp := by
  obtain ⟨f', fd', Fo, hm', _, hl, _⟩ := C.ex
  rw [hm] at hm'
  cases hm'
  obtain ⟨oc, od, kV, doc, pm, an, cdv, ct, osl, _, lk, _⟩ := F.ex
  obtain ⟨o', lk', hd'⟩ := hl
  rw [lk] at lk'
  cases lk'
  cases hd'
  exact Fo
theorem Def.ok {x : Str} {st : Stmt} {N ps : List Str} {k : Nat} {sp : Sp} (D : Def K mg x st ps) (S : FnScope N ps (defScope st)) (len : ∀ vs H Q E, sp vs H Q E → vs.length = ps.length)
    (hbody : ∀ (f : Addr) (cdv : Value) (A : Around) (outer : List Env) (s : Shared) (H : Hp) (vs : List V) (Q : VK) (E : XK), Room k (A.deeper (envOfC x (defScope st) s.heap.objs.size f cdv)) → sp vs H Q E →
      ∃ t, PSs (cxOf CX0 P w K mg base N x (defScope st) f cdv A outer s H E).nox (defBody st) t ∧ t { nx := fun _ H' => Q .non H', rt := Q } (start N vs) H) : Callee P w K mg base CX0 (k + 1) x ps sp := by
  obtain ⟨f, fd, F, hm, hb⟩ := D.ex
  refine ⟨f, fd, F.ok S len fun cdv A outer s H vs Q E hr h => hbody f cdv A outer s H vs Q E hr h, hm, F.kp, ?_, hb⟩
  obtain ⟨oc, od, kV, doc, pm, an, cdv, ct, osl, _, lk, _⟩ := F.ex
  exact ⟨_, lk, rfl⟩
end
section
variable {X : Cx} {CX : CXT} {k : Nat} {ps : List Str} {sp : Sp} {E : XK} {x : Str} {p pos : Pos} {e : Expr} {es : List Expr} {t : TA}
/-- f(e, ..), f a def of the text -/
theorem pe_fn (C : Callee X.prog X.w X.K X.mg X.base CX k x ps sp) (hr : Room k X.A) (hx : Passes CX X E) (ha : PA X (e :: es) t) (hg : Gl X x := by rfl)
    (hdb : (x == ("__debug__" : Str)) = false := by decide) (he : starEach (e :: es) X.env = (false, eval e X.env) :: starEach es X.env := by rfl) (hpl : (backTo pos (starEach es X.env)).any (·.1) = false := by rfl) :
    PE X (.Call (.Name x p) (e :: es) [] pos) (tCall sp [] E t) := by
  obtain ⟨f, fd, F, hm, hk, _, hb⟩ := C.ex
  exact pe_call F hr hg hm hk hb .nil hx ha hdb he hpl
/-- isinstance(x, T), T a type of Python's own -/
theorem call_isi : CallR X (.builtin "isinstance") (fun xs H Q => ∃ x n t b, xs = [x, .ty n] ∧ TyOf X.K H x t ∧ PySem.W.kitOne X.K t (.type n) = some b ∧ Q (.bl b) H) := by
  intro pins s σ H xs us Q I rv h
  obtain ⟨x, n, t, b, rfl, ty, e, q⟩ := h
  cases rv with
  | cons r rr =>
    cases rr with
    | cons r' rr' =>
      cases rr'
      obtain rfl : _ = Value.type n := r'
      exact isinst_ok I r ty e fun tk => ⟨.bl b, H, I.tok tk, rfl, q⟩
/-- a list or a tuple by its place -/
theorem ix_lt : IxR X (fun x y H Q => rIxL X.K x y H Q ∨ rIxT X.K x y H Q) := ix_list.or ix_tup
end
/-- two ways that meet: J is what holds where they do -/
noncomputable def tJoin (t u : TS) : TS := fun D σ H => ∃ J : L2.St → Hp → Prop, t { D with nx := J } σ H ∧ ∀ σ' H', J σ' H' → u D σ' H'
theorem pss_join {X : Cx} {st : Stmt} {rest : List Stmt} {t u : TS} (h1 : PS X st t) (h2 : PSs X rest u) : PSs X (st :: rest) (tJoin t u) := by
  intro pins s σ H D I h
  obtain ⟨J, h, k⟩ := h
  refine wpAny_execs_cons (thn (h1 pins s σ H { D with nx := J } I h) fun f s1 q => ?_)
  cases f with
  | next =>
    obtain ⟨σ', H', I', q⟩ := q
    exact h2 pins s1 σ' H' D I' (k σ' H' q)
  | ret v => exact q
  | brk => exact q
  | cont => exact q
theorem kit_same (K : PySem.W.Frag) (n : String) : PySem.W.kitOne K (.type n) (.type n) = some true := by
  unfold PySem.W.kitOne
  rw [if_pos (by simp)]
/-! ### small words over lists -/
theorem atI_map {α β : Type} {f : α → β} {xs : List α} {i : Int} {v : α} (h : atI xs i = some v) : atI (xs.map f) i = some (f v) := by
  unfold atI at h ⊢
  rw [List.length_map]
  cases e : ixN xs.length i with
  | none => rw [e] at h; cases h
  | some j =>
    rw [e] at h
    have h' : xs[j]? = some v := h
    show (xs.map f)[j]? = some (f v)
    rw [List.getElem?_map, h']
    rfl
theorem atI_pos {α : Type} {xs : List α} {i : Int} {v : α} (h0 : 0 ≤ i) (h : xs[i.toNat]? = some v) : atI xs i = some v := by
  have e : ((i.toNat : Nat) : Int) = i := by omega
  have := atI_nat h
  rwa [e] at this
/-- new objects stand apart from the old -/
theorem same_upd {H : Hp} {a : Addr} {o : HO} (h : H a = none) : Same H (upd H a o) := fun b u e => by rw [upd_ne (ne_of_none e h)]; exact e
end Own

namespace Own
open PySem PySem.Spec PyProof.Rows L2
/-! ### a comprehension's block -/
/-- what was known stays known -/
noncomputable def Sub (σ σ' : L2.St) : Prop := σ'.length = σ.length ∧ ∀ (i : Nat) (v : V), σ[i]? = some (some v) → σ'[i]? = some (some v)
/-! ### the loop of a comprehension -/
end Own

namespace SetR
open PySem PySem.Spec PyProof.Rows L2
/-! ### rising places -/
/-! ### what stays true of a set's table -/
/-! ### a set of ints whose table is known -/
section
variable (prog : Program) (w : World)
end
section
variable {prog : Program} {w : World} {A : Around} {E : Value → Shared → Prop} {s : Shared}
/-! ### the loop of set(xs) -/
end
end SetR

namespace SetR
open PySem PySem.Spec PyProof.Rows L2
section
variable {prog : Program} {w : World} {A : Around} {E : Value → Shared → Prop} {s : Shared} {I a : Addr} {first : Value} {i n ep : Nat} {js : List Int} {es : Array (Int × Value)} {t : SetTable}
end
end SetR

namespace Own
open PySem PySem.Spec PyProof.Rows L2
section
variable {X : Cx}
end
/-! ### rules for a block within a block: the written part by its name -/
section
variable {X : Cx} {K : PySem.W.Frag}
theorem ix_ltK (hK : X.K = K := by rfl) : IxR X (fun x y H Q => rIxL K x y H Q ∨ rIxT K x y H Q) := by subst hK; exact ix_lt
theorem call_lenK (hK : X.K = K := by rfl) : CallR X (.builtin "len") (fun xs H Q => ∃ x n, xs = [x] ∧ LenV K x H n ∧ Q (.int n) H) := by subst hK; exact call_len
theorem pg_tupK {pos : Pos} {es : List Expr} {k : Nat} {t : TGs} {n : Nat} (hc : X.calm = true) (h : PGs X es t) (hK : X.K = K := by rfl)
    (hn : (assignEach es X.env).length = n := by rfl) (hst : (assignEach es X.env).findIdx? (·.1) = none := by rfl) : PG X (.Tuple es k pos) (gTup K n t) := by subst hK; exact pg_tup hc h hn hst
end
/-! ### the comprehensions one uses -/
section
variable {α : Type} {R : Hp → V → α → Prop} {φ : List (Option Nat)} {g : TG} {tc : TT} {te : TE} {σ : L2.St} {H1 : Hp} {F : Hp → Prop} {D : Addr}
end
end Own

namespace Own
open PySem PySem.Spec PyProof.Rows L2
/-! ### == and != of lists of flat values -/
noncomputable def eqL (xs ys : List V) : Bool := decide (xs.length = ys.length) && (List.range xs.length).all fun j => eqV (xs.getD j .non) (ys.getD j .non)
noncomputable def rEqL (K : PySem.W.Frag) (neg : Bool) : R2 := fun x y H Q => ∃ (p q : Addr) (xs ys : List V), x = .ref p ∧ y = .ref q ∧ SqL K H p xs ∧ SqL K H q ys ∧ xs.all flatV = true ∧ ys.all flatV = true ∧ Q (.bl (if neg then !eqL xs ys else eqL xs ys)) H
section
variable {X : Cx}
theorem eqs_at {A : Around} {s : Shared} {xs ys : List V} {us ws : List Value} (r1 : Vals xs us) (r2 : Vals ys ws) (f1 : xs.all flatV = true) (f2 : ys.all flatV = true) (j : Nat) (h1 : j < us.toArray.size) (h2 : j < ws.toArray.size) :
    SeqAt.EqAt A s us.toArray[j] ws.toArray[j] (eqV (xs.getD j .non) (ys.getD j .non)) := by
  have l1 := r1.length
  have l2 := r2.length
  have g1 : j < us.length := by simpa using h1
  have g2 : j < ws.length := by simpa using h2
  have k1 : xs[j]? = some (xs[j]'(by omega)) := List.getElem?_eq_getElem _
  have k2 : ys[j]? = some (ys[j]'(by omega)) := List.getElem?_eq_getElem _
  obtain ⟨u, eu, ru⟩ := r1.get k1
  obtain ⟨w, ew, rw'⟩ := r2.get k2
  have e1 : us.toArray[j] = u := by
    have : us[j]? = some us[j] := List.getElem?_eq_getElem g1
    rw [this] at eu
    simpa using Option.some.inj eu
  have e2 : ws.toArray[j] = w := by
    have : ws[j]? = some ws[j] := List.getElem?_eq_getElem g2
    rw [this] at ew
    simpa using Option.some.inj ew
  have d1 : xs.getD j .non = xs[j]'(by omega) := by rw [List.getD_eq_getElem?_getD, k1]; rfl
  have d2 : ys.getD j .non = ys[j]'(by omega) := by rw [List.getD_eq_getElem?_getD, k2]; rfl
  rw [e1, e2, d1, d2]
  exact eqAt_V ru rw' (List.all_eq_true.mp f1 _ (List.getElem_mem _)) (List.all_eq_true.mp f2 _ (List.getElem_mem _))
theorem op_eqL (hu : X.A.units < cLine) : OpR X (compareOp .Eq) (rEqL X.K false) := by
  intro pins s σ H x y v u Q I rx ry h
  obtain ⟨p, q, xs, ys, rfl, rfl, hp, hq, f1, f2, k⟩ := h
  obtain rfl : v = Value.ref p := rx
  obtain rfl : u = Value.ref q := ry
  obtain ⟨us, r1, p1, _⟩ := I.list hp
  obtain ⟨ws, r2, p2, _⟩ := I.list hq
  have l1 := r1.length
  have l2 := r2.length
  have k' : Q (.bl (eqL xs ys)) H := k
  by_cases e : xs.length = ys.length
  · refine SeqAt.eq_listAt p1.isList p2.isList (by simp; omega) hu (fun j h1 h2 => eqs_at r1 r2 f1 f2 j h1 h2) ⟨.bl (eqL xs ys), H, I, ?_, k'⟩
    show _ = Value.bool (eqL xs ys)
    unfold eqL
    rw [decide_eq_true e, Bool.true_and, List.size_toArray, ← l1]
  · refine SeqAt.eq_list_lengthsAt p1.isList p2.isList (by simp; omega) hu ⟨.bl (eqL xs ys), H, I, ?_, k'⟩
    show _ = Value.bool (eqL xs ys)
    unfold eqL
    rw [decide_eq_false e]
    rfl
theorem op_neL (hu : X.A.units < cLine) : OpR X (compareOp .NotEq) (rEqL X.K true) := by
  intro pins s σ H x y v u Q I rx ry h
  obtain ⟨p, q, xs, ys, rfl, rfl, hp, hq, f1, f2, k⟩ := h
  obtain rfl : v = Value.ref p := rx
  obtain rfl : u = Value.ref q := ry
  obtain ⟨us, r1, p1, _⟩ := I.list hp
  obtain ⟨ws, r2, p2, _⟩ := I.list hq
  have l1 := r1.length
  have l2 := r2.length
  have k' : Q (.bl (!eqL xs ys)) H := k
  by_cases e : xs.length = ys.length
  · refine SeqAt.RcNeAt.lists p1.isList p2.isList (by simp; omega) hu (fun j h1 h2 => eqs_at r1 r2 f1 f2 j h1 h2) _ _ _ _ ⟨.bl (!eqL xs ys), H, I, ?_, k'⟩
    show _ = Value.bool (!eqL xs ys)
    unfold eqL
    rw [decide_eq_true e, Bool.true_and, List.size_toArray, ← l1]
  · refine SeqAt.RcNeAt.lists_lengths p1.isList p2.isList (by simp; omega) hu _ _ _ _ ⟨.bl (!eqL xs ys), H, I, ?_, k'⟩
    show _ = Value.bool (!eqL xs ys)
    unfold eqL
    rw [decide_eq_false e]
    rfl
/-! ### xs.index(z), xs.remove(z), z an int -/
end
/-! ### enumerate of a list, its pairs unpacked -/
/-! ### methods within a block -/
section
variable {X : Cx} {K : PySem.W.Frag}
end
theorem eqL_ints (xs ys : List Int) : eqL (xs.map V.int) (ys.map V.int) = decide (xs = ys) := by
  unfold eqL
  rw [List.length_map, List.length_map]
  by_cases e : xs = ys
  · subst e
    rw [decide_eq_true rfl, decide_eq_true rfl, Bool.true_and, List.all_eq_true]
    intro j hj
    have hj' : j < xs.length := by simpa using hj
    rw [List.getD_eq_getElem?_getD, List.getElem?_map, List.getElem?_eq_getElem hj']
    show (xs[j] == xs[j]) = true
    simp
  · rw [decide_eq_false e]
    by_cases hl : xs.length = ys.length
    · rw [decide_eq_true hl, Bool.true_and, Bool.eq_false_iff]
      intro hall
      apply e
      apply List.ext_getElem hl
      intro j h1 h2
      have := List.all_eq_true.mp hall j (by simpa using h1)
      rw [List.getD_eq_getElem?_getD, List.getElem?_map, List.getElem?_eq_getElem h1, List.getD_eq_getElem?_getD, List.getElem?_map, List.getElem?_eq_getElem h2] at this
      have h3 : (xs[j] == ys[j]) = true := this
      simpa using h3
    · rw [decide_eq_false hl]
      rfl
theorem flat_ints (xs : List Int) : (xs.map V.int).all flatV = true := by
  rw [List.all_map]
  exact List.all_eq_true.mpr fun _ _ => rfl
end Own

namespace M
open PySem PySem.Spec PyProof.Rows L2 Own

/-! ### lists of data on the abstract heap -/
/-- the values vs stand for the data xs, item by item -/
noncomputable def LV {α : Type} (R : Hp → V → α → Prop) (H : Hp) (vs : List V) (xs : List α) : Prop :=
  vs.length = xs.length ∧ ∀ (i : Nat) (x : α), xs[i]? = some x → ∃ v, vs[i]? = some v ∧ R H v x
section
variable {α : Type} {R : Hp → V → α → Prop} {H H' : Hp} {vs : List V} {xs : List α} {l : Addr}
theorem LV.get {i : Nat} {v : V} (h : LV R H vs xs) (e : vs[i]? = some v) : ∃ x, xs[i]? = some x ∧ R H v x := by
  have hi : i < xs.length := by rw [← h.1]; exact (List.getElem?_eq_some_iff.mp e).1
  obtain ⟨v', e', r⟩ := h.2 i xs[i] (by simp [hi])
  rw [e] at e'; cases e'
  exact ⟨_, by simp [hi], r⟩
end
/-- the menu's five numbers -/
noncomputable def Menu (m : List Int) : Prop := ∃ a b c d e : Int, m = [a, b, c, d, e] ∧ (1 ≤ a ∧ a ≤ 10) ∧ (1 ≤ b ∧ b ≤ 9 ∧ (b = 1 ∨ b = 3 ∨ b = 7 ∨ b = 9)) ∧ (0 ≤ c ∧ c ≤ 9) ∧ (1 ≤ d ∧ d ≤ 1000) ∧ (1 ≤ e ∧ e + d ≤ 1001)
/-- a field: holders 1 to 10, widths 1 to 1000 -/
noncomputable def Field (ps : List (Int × Int)) : Prop := ∀ q ∈ ps, 1 ≤ q.1 ∧ q.1 ≤ 10 ∧ 1 ≤ q.2 ∧ q.2 ≤ 1000
/-! ### members, in the order in which they came; sorted -/
/-! ### orders -/
/-! ### what an order costs, strip by strip and holder by holder -/
section
variable (ps : List (Int × Int))
end
section
variable {ps : List (Int × Int)}
end
end M

namespace ExcR
open PySem PySem.Spec PyProof.Rows L2
/-! ### an exception's record and its newest traceback entry -/
/-- what passes leaves: the callers' frames may get slots; the records at ex may turn -/
structure KeepX (fs ex : List Addr) (h h' : Heap) : Prop where
  keep : ∀ b o, h.get? b = some o → b ∉ fs → b ∉ ex → h'.get? b = some o
  slot : ∀ b o, h.get? b = some o → b ∉ ex → ∃ sl, h'.get? b = some { o with slots := sl }
  size : h.objs.size ≤ h'.objs.size
theorem KeepX.trans {fs ex : List Addr} {h1 h2 h3 : Heap} (a : KeepX fs ex h1 h2) (b : KeepX fs ex h2 h3) : KeepX fs ex h1 h3 :=
  ⟨fun c o e n m => b.keep c o (a.keep c o e n m) n m, fun c o e m => by
    obtain ⟨s1, e1⟩ := a.slot c o e m
    obtain ⟨s2, e2⟩ := b.slot c _ e1 m
    exact ⟨s2, e2⟩, Nat.le_trans a.size b.size⟩
theorem KeepX.mono {fs fs' ex ex' : List Addr} {h1 h2 : Heap} (a : KeepX fs ex h1 h2) (hf : ∀ b ∈ fs, b ∈ fs') (hx : ∀ b ∈ ex, b ∈ ex') : KeepX fs' ex' h1 h2 :=
  ⟨fun c o e n m => a.keep c o e (fun z => n (hf c z)) (fun z => m (hx c z)), fun c o e m => a.slot c o e fun z => m (hx c z), a.size⟩
/-- the exception at e of that class, its entry at T, whose mark is fl -/
structure Trc (h : Heap) (e T : Addr) (cls fl : Value) : Prop where
  ne : T ≠ e
  exc : ∃ oe vs, h.get? e = some oe ∧ oe.cls = cls ∧ oe.data = .fields vs ∧ vs[1]? = some (.ref T)
  ent : ∃ oT ts, h.get? T = some oT ∧ oT.data = .fields ts ∧ ts[3]? = some fl
section
variable {M : Model} {A : Around} {E : Value → Shared → Prop} {s : Shared} {base : Heap} {env : Env} {outer : List Env} {L e : Addr}
theorem new_entry {oe : Obj} {vs : Array Value} {head : Value} {hadNext : Bool} {Q : Unit → Shared → Prop} (hfr : A.frames = some (env :: outer)) (hl : s.heap.FunFrames base (env :: outer)) (hf : env.frame = some L)
    (he : s.heap.get? e = some oe) (hd : oe.data = .fields vs) (hsz : 1 < vs.size)
    (h : ∀ h' T, s.heap.objs.size ≤ T → Trc h' e T oe.cls (rawInt L) → KeepX (frs (env :: outer)) [e] s.heap h' → Q () { s with heap := h' }) :
    wpAny M A (do let a ← frameOf env; let pl ← entryPlaceOf L hadNext; let b ← EntryCells.newEntry head a .none (rawInt L) .none pl; setField (.ref e) 1 b) Q E s := by
  have hene : e ∉ frs (env :: outer) := fun hm => by
    obtain ⟨_, o, ho, hnf⟩ := hl.mem hm
    rw [he] at ho
    cases ho
    exact hnf vs hd
  refine wpAny_bind (wpAny_frameOf_fun hfr hl hf fun h1 s1 => wpAny_bind (wpAny_entryPlaceOf fun pl hpl => ?_))
  unfold EntryCells.newEntry newFields
  refine wpAny_bind (wpAny_newObj_type ?_ (hpl.sizeOk5 _ _ _ _ _))
  have he1 : h1.get? e = some oe := (s1.2.1 e hene).trans he
  generalize eo : ({ cls := .type "traceback", dict := none, data := .fields ([head, .ref L, .none, rawInt L, .none] ++ (if pl.isEmpty then List.replicate 6 Value.none else pl)).toArray } : Obj) = ot
  have he2 := Heap.get?_push_of_some (h := h1) ot he1
  refine wpAny_setField he2 hd hsz (h _ h1.objs.size (Nat.le_of_eq s1.1.symm) ?_ ?_)
  · have ne1 : h1.objs.size ≠ e := Nat.ne_of_gt (Heap.lt_size he1)
    have d3 := Obj.data_mapFields hd (·.setIfInBounds 1 (Value.ref h1.objs.size))
    refine ⟨ne1, ⟨_, _, Heap.get?_update_self _ he2 (Obj.isFreed_of_fields d3), Obj.cls_mapFields _ _, d3, by simp [hsz]⟩, ot, _, ?_, by rw [← eo], ?_⟩
    · exact (Heap.get?_update_other _ _ (Ne.symm ne1)).trans (Heap.get?_push_size h1 (by rw [← eo]; rfl))
    · first
        | (simp; done)
        | (rcases hpl with rfl | ⟨_, _, _, _, _, _, _, rfl⟩ <;> simp)
  · refine ⟨fun b o q nb nx => ?_, fun b o q nx => ?_, ?_⟩
    · have hbe : b ≠ e := fun z => nx (by simp [z])
      rw [Heap.get?_update_other _ _ (Ne.symm hbe)]
      exact Heap.get?_push_of_some _ ((s1.2.1 b nb).trans q)
    · have hbe : b ≠ e := fun z => nx (by simp [z])
      obtain ⟨sl, q1⟩ := s1.2.2 b o q
      exact ⟨sl, by rw [Heap.get?_update_other _ _ (Ne.symm hbe)]; exact Heap.get?_push_of_some _ q1⟩
    · rw [Heap.size_update, Heap.size_push, s1.1]
      exact Nat.le_succ _
/-- the first note of a new exception -/
theorem note_first {oe : Obj} {vs : Array Value} {Q : Unit → Shared → Prop} (hfr : A.frames = some (env :: outer)) (hl : s.heap.FunFrames base (env :: outer)) (hf : env.frame = some L)
    (he : s.heap.get? e = some oe) (hd : oe.data = .fields vs) (h1 : vs[1]? = some .none)
    (h : ∀ h' T, s.heap.objs.size ≤ T → Trc h' e T oe.cls (rawInt L) → KeepX (frs (env :: outer)) [e] s.heap h' → Q () { s with heap := h' }) : wpAny M A (noteFrame (.ref e) env) Q E s := by
  unfold noteFrame
  simp only [hf]
  refine wpAny_bind (wpAny_field he hd h1 ?_)
  rw [if_neg (by decide)]
  exact new_entry hfr hl hf he hd (Array.getElem?_eq_some_iff.mp h1).1 h
theorem off_entry {T : Addr} {cls fl : Value} {Q : Unit → Shared → Prop} (x : Trc s.heap e T cls fl) (h : ∀ h', Trc h' e T cls .none → KeepX [] [T] s.heap h' → Q () { s with heap := h' }) :
    wpAny M A (setField (.ref T) 3 .none) Q E s := by
  obtain ⟨ne, ⟨oe, vs, g1, g2, g3, g4⟩, oT, ts, k1, k2, k3⟩ := x
  have hz := (Array.getElem?_eq_some_iff.mp k3).1
  refine wpAny_setField k1 k2 hz (h _ ?_ ?_)
  · have d3 := Obj.data_mapFields k2 (·.setIfInBounds 3 Value.none)
    exact ⟨ne, ⟨oe, vs, (Heap.get?_update_other _ _ ne).trans g1, g2, g3, g4⟩, _, _, Heap.get?_update_self _ k1 (Obj.isFreed_of_fields d3), d3, by simp [hz]⟩
  · have ot : ∀ b, b ≠ T → (s.heap.update T (Obj.mapFields (·.setIfInBounds 3 Value.none))).get? b = s.heap.get? b := fun b hb => Heap.get?_update_other _ _ (Ne.symm hb)
    exact ⟨fun b o q _ nx => (ot b fun z => nx (by simp [z])).trans q, fun b o q nx => ⟨o.slots, (ot b fun z => nx (by simp [z])).trans q⟩, Nat.le_of_eq (Heap.size_update ..).symm⟩
/-- .. of one that comes from a callee -/
theorem note_next {T : Addr} {cls : Value} {Q : Unit → Shared → Prop} (hfr : A.frames = some (env :: outer)) (hl : s.heap.FunFrames base (env :: outer)) (hf : env.frame = some L) (x : Trc s.heap e T cls .none)
    (h : ∀ h' T', s.heap.objs.size ≤ T' → Trc h' e T' cls (rawInt L) → KeepX (frs (env :: outer)) [e, T] s.heap h' → Q () { s with heap := h' }) : wpAny M A (noteFrame (.ref e) env) Q E s := by
  obtain ⟨ne, ⟨oe, vs, g1, g2, g3, g4⟩, oT, ts, k1, k2, k3⟩ := id x
  unfold noteFrame
  simp only [hf]
  refine wpAny_bind (wpAny_field g1 g3 g4 ?_)
  rw [if_pos (show (Value.ref T != Value.none) = true from by simp)]
  refine wpAny_bind (wpAny_field k1 k2 k3 ?_)
  rw [if_neg (show ¬ ((Value.none == rawInt L) = true) from by simp [rawInt])]
  refine wpAny_bind (off_entry x fun h1 x1 K1 => ?_)
  have hTf : T ∉ frs (env :: outer) := fun hm => by
    obtain ⟨_, o, ho, hnf⟩ := hl.mem hm
    rw [k1] at ho
    cases ho
    exact hnf ts k2
  have hl1 : h1.FunFrames base (env :: outer) := hl.of_keeps fun b o q hnf => ⟨o, K1.keep b o q (by simp) (fun z => by
    rw [List.mem_singleton.mp z, k1] at q
    cases q
    exact hnf ts k2), rfl⟩
  obtain ⟨_, ⟨oe1, vs1, p1, p2, p3, p4⟩, _⟩ := id x1
  refine new_entry (s := { s with heap := h1 }) hfr hl1 hf p1 p3 (Array.getElem?_eq_some_iff.mp p4).1 fun h2 T' hT' x2 K2 => h h2 T' (Nat.le_trans K1.size hT') (by rw [← p2]; exact x2) ?_
  exact (K1.mono (by simp) (by simp)).trans (K2.mono (fun _ z => z) (by simp))
theorem flight_off {T : Addr} {cls fl : Value} {Q : Unit → Shared → Prop} (x : Trc s.heap e T cls fl) (h : ∀ h', Trc h' e T cls .none → KeepX [] [T] s.heap h' → Q () { s with heap := h' }) :
    wpAny M A (setFlight (.ref e) none) Q E s := by
  obtain ⟨ne, ⟨oe, vs, g1, g2, g3, g4⟩, _⟩ := id x
  unfold setFlight
  refine wpAny_bind (wpAny_field g1 g3 g4 ?_)
  rw [if_pos (show (Value.ref T != Value.none) = true from by simp)]
  exact off_entry x h
theorem leave_first {oe : Obj} {vs : Array Value} {Q : Unit → Shared → Prop} (hfr : A.frames = some (env :: outer)) (hl : s.heap.FunFrames base (env :: outer)) (hf : env.frame = some L)
    (he : s.heap.get? e = some oe) (hd : oe.data = .fields vs) (h1 : vs[1]? = some .none)
    (h : ∀ h' T, s.heap.objs.size ≤ T → Trc h' e T oe.cls .none → KeepX (frs (env :: outer)) [e] s.heap h' → Q () { s with heap := h' }) : wpAny M A (leaving env (.ref e)) Q E s := by
  unfold leaving
  refine wpAny_bind (note_first hfr hl hf he hd h1 fun h2 T hT x K => flight_off x fun h3 x3 K3 => h h3 T hT x3 ?_)
  refine ⟨fun b o q nb nx => K3.keep b o (K.keep b o q nb nx) (by simp) (fun z => ?_), fun b o q nx => ?_, Nat.le_trans K.size K3.size⟩
  · rw [List.mem_singleton.mp z] at q
    exact absurd (Heap.lt_size q) (Nat.not_lt.mpr hT)
  · obtain ⟨sl, q2⟩ := K.slot b o q nx
    exact ⟨sl, K3.keep b _ q2 (by simp) (fun z => by rw [List.mem_singleton.mp z] at q; exact absurd (Heap.lt_size q) (Nat.not_lt.mpr hT))⟩
theorem leave_next {T : Addr} {cls : Value} {Q : Unit → Shared → Prop} (hfr : A.frames = some (env :: outer)) (hl : s.heap.FunFrames base (env :: outer)) (hf : env.frame = some L) (x : Trc s.heap e T cls .none)
    (h : ∀ h' T', s.heap.objs.size ≤ T' → Trc h' e T' cls .none → KeepX (frs (env :: outer)) [e, T] s.heap h' → Q () { s with heap := h' }) : wpAny M A (leaving env (.ref e)) Q E s := by
  unfold leaving
  refine wpAny_bind (note_next hfr hl hf x fun h2 T' hT x2 K => flight_off x2 fun h3 x3 K3 => h h3 T' hT x3 ?_)
  refine ⟨fun b o q nb nx => K3.keep b o (K.keep b o q nb nx) (by simp) (fun z => ?_), fun b o q nx => ?_, Nat.le_trans K.size K3.size⟩
  · rw [List.mem_singleton.mp z] at q
    exact absurd (Heap.lt_size q) (Nat.not_lt.mpr hT)
  · obtain ⟨sl, q2⟩ := K.slot b o q nx
    exact ⟨sl, K3.keep b _ q2 (by simp) (fun z => by rw [List.mem_singleton.mp z] at q; exact absurd (Heap.lt_size q) (Nat.not_lt.mpr hT))⟩
end
end ExcR

namespace ExcR
open PySem PySem.Spec PyProof.Rows L2
section
variable {P : Program} {w : World} {H H' : Hp} {h h' : Heap} {a : Addr} {o : HO} {fs ex : List Addr}
/-- what is tracked is there -/
theorem has (x : ObjOk P w H h a o) : ∃ u, h.get? a = some u := by
  cases o with
  | lst xs => exact let ⟨_, _, _, _, e⟩ := x; ⟨_, e⟩
  | tup xs => exact let ⟨_, _, _, u, e, _⟩ := x; ⟨u, e⟩
  | dK kvs => exact let ⟨_, _, _, _, u, _, _, e, _⟩ := x; ⟨u, e⟩
  | dT kvs => exact let ⟨_, _, _, _, u, _, _, e, _⟩ := x; ⟨u, e⟩
  | set S n => exact let ⟨u, _, _, _, e, _⟩ := x; ⟨u, e⟩
  | ins C dx fs => exact let ⟨_, _, _, e, _⟩ := x; ⟨_, e⟩
  | own y => exact x
  | xd fs => exact let ⟨_, ⟨u, _, _, e, _⟩, _⟩ := x; ⟨u, e⟩
  | rng lo hi => exact let ⟨_, _, _, e⟩ := x; ⟨_, e⟩
  | frz ob u => exact ⟨_, x.1⟩
  | tbl ps => exact ⟨_, x⟩
  | met f y => exact ⟨_, x⟩
  | ext φ => exact x.2.1
theorem free_of (ok : HOk P w H h) (e : h.get? a = none) : H a = none := by
  cases q : H a with
  | none => rfl
  | some o =>
    obtain ⟨u, z⟩ := has (ok a o q)
    rw [e] at z
    cases z
theorem hok_keep (ok : HOk P w H h) (k : KeepX fs ex h h') (hf : ∀ b ∈ fs, H b = none) (hx : ∀ b ∈ ex, H b = none) : HOk P w H h' := fun a o e => by
  refine (ok a o e).stay (fun b u hb q => ?_) (fun _ q => q) (fun _ _ q => q)
  have hn : H b ≠ none := by
    rcases hb with rfl | hb
    · rw [e]; simp
    · rw [hb]; simp
  exact k.keep b u q (fun z => hn (hf b z)) fun z => hn (hx b z)
end
/-- an exception that has come out of a def: the record at a of the class at C, its newest entry at T; both were made since s -/
structure XAt (P : Program) (w : World) (outer : List Env) (H H' : Hp) (s s' : Shared) (a T C : Addr) : Prop where
  os : s'.os = s.os
  bare : AllBare s'.gens
  un : Un (frs outer) [] H H' s.heap s'.heap
  hok : HOk P w H' s'.heap
  na : s.heap.get? a = none
  nT : s.heap.get? T = none
  fa : H' a = none
  fT : H' T = none
  tr : Trc s'.heap a T (.ref C) .none
noncomputable def CXe (P : Program) (w : World) : CXT := fun outer H s E e s' => ∃ a T C H', e = .ref a ∧ XAt P w outer H H' s s' a T C ∧ E (.ref C) none H'
section
variable {X : Cx} {pins : List (Addr × Obj)} {σ : L2.St} {H H' : Hp} {s s' : Shared} {a T C : Addr}
/-- from the frame's entry on, past a step that turns only the callers' slots and records made since -/
theorem un_keep {ex : List Addr} {h' : Heap} (I : Inv X pins σ H s) (hex : X.ex = []) (k : KeepX (frs X.stack) ex s.heap h') (hx : ∀ b ∈ ex, X.s₀.heap.get? b = none) : Un X.fs [] X.H₀ H X.s₀.heap h' := by
  have B := I.base
  rw [hex] at B
  have out : ∀ b o, X.s₀.heap.get? b = some o → b ∉ ex := fun b o q z => by rw [hx b z] at q; cases q
  have nl : ∀ b o, X.s₀.heap.get? b = some o → b ∉ X.fs → b ∉ frs X.stack := fun b o q nf z => by
    rcases List.mem_cons.mp (I.stkSub b z) with e | e
    · have h1 := Heap.lt_size q
      have h2 := I.ok.above
      rw [e] at h1
      exact absurd h1 (Nat.not_lt.mpr h2)
    · exact nf e
  refine ⟨fun b o q n nf ne => k.keep b o (B.keep b o q n nf ne) (nl b o q nf) (out b o q), fun b o q n hf ne => ?_, fun b o q n ne => B.free b o q n ne, fun b o q ne => ?_, B.tups, B.frzs, B.tbls⟩
  · obtain ⟨sl, q1⟩ := B.slot b o q n hf ne
    obtain ⟨sl2, q2⟩ := k.slot b _ q1 (out b o q)
    exact ⟨sl2, q2⟩
  · obtain ⟨o1, q1⟩ := B.there b o q ne
    obtain ⟨sl2, q2⟩ := k.slot b _ q1 (out b o q)
    exact ⟨_, q2⟩
theorem old_none {b : Addr} (I : Inv X pins σ H s) (hex : X.ex = []) (e : s.heap.get? b = none) : X.s₀.heap.get? b = none := by
  cases q : X.s₀.heap.get? b with
  | none => rfl
  | some o =>
    obtain ⟨u, z⟩ := I.base.there b o q (by rw [hex]; simp)
    rw [e] at z
    cases z
variable {E : Value → Shared → Prop}
/-- a callee's exception leaves this frame -/
theorem leave_pass (I : Inv X pins σ H s) (hex : X.ex = []) (hst : X.stack = X.env :: X.outer) (hfr : X.env.frame = some X.env.locals) (x : XAt X.prog X.w X.stack H H' s s' a T C) :
    wpAny (model X.prog X.w) X.A (leaving X.env (.ref a)) (fun _ s2 => ∃ T2, XAt X.prog X.w X.outer X.H₀ H' X.s₀ s2 a T2 C) E s' := by
  have J : Inv X pins σ H' s' := I.call' (ch := []) x.os x.un x.hok x.bare fun b z => absurd z (by simp)
  have hF := J.stack
  have hA := J.ok.frames
  rw [hst] at hF hA
  refine leave_next hA hF hfr x.tr fun h2 T2 hT2 tr k => ⟨T2, J.os, J.bare, ?_, ?_, old_none I hex x.na, ?_, x.fa, x.hok.fresh hT2, tr⟩
  · exact un_keep J hex (by rw [hst]; exact k) fun b hb => by
      rcases List.mem_cons.mp hb with rfl | hb
      · exact old_none I hex x.na
      · rw [List.mem_singleton.mp hb]; exact old_none I hex x.nT
  · refine hok_keep x.hok k (fun b hb => J.stkFree b (by rw [hst]; exact hb)) fun b hb => ?_
    rcases List.mem_cons.mp hb with rfl | hb
    · exact x.fa
    · rw [List.mem_singleton.mp hb]; exact x.fT
  · exact Heap.get?_none_of_le (Nat.le_trans J.sz hT2)
/-- a new exception leaves the frame that raised it -/
theorem leave_new {h' : Heap} {oe : Obj} {vs : Array Value} (I : Inv X pins σ H s) (hex : X.ex = []) (hst : X.stack = X.env :: X.outer) (hfr : X.env.frame = some X.env.locals) (keeps : ∀ b o, s.heap.get? b = some o → h'.get? b = some o)
    (new : s.heap.get? a = none) (he : h'.get? a = some oe) (hc : oe.cls = .ref C) (hd : oe.data = .fields vs) (h1 : vs[1]? = some .none) :
    wpAny (model X.prog X.w) X.A (leaving X.env (.ref a)) (fun _ s2 => ∃ T2, XAt X.prog X.w X.outer X.H₀ H X.s₀ s2 a T2 C) E { s with heap := h' } := by
  have J : Inv X pins σ H { s with heap := h' } := I.call' (s' := { s with heap := h' }) (ch := []) rfl (Un.kept keeps) (I.hok.kept keeps) I.bare fun b z => absurd z (by simp)
  have hF := J.stack
  have hA := J.ok.frames
  rw [hst] at hF hA
  have fa := free_of I.hok new
  refine leave_first (s := { s with heap := h' }) hA hF hfr he hd h1 fun h2 T2 hT2 tr k => ⟨T2, J.os, J.bare, ?_, ?_, old_none I hex new, ?_, fa, J.hok.fresh hT2, by rw [← hc]; exact tr⟩
  · exact un_keep J hex (by rw [hst]; exact k) fun b hb => by rw [List.mem_singleton.mp hb]; exact old_none I hex new
  · exact hok_keep J.hok k (fun b hb => J.stkFree b (by rw [hst]; exact hb)) fun b hb => by rw [List.mem_singleton.mp hb]; exact fa
  · exact Heap.get?_none_of_le (Nat.le_trans J.sz hT2)
end
/-! ### a class of errors of the text -/
/-- what the object of the class is -/
structure ErrCls (K : PySem.W.Frag) (C : Addr) : Prop where
  q : PySem.W.excIn K C [.type "ValueError", .type "Exception", .type "BaseException", .type "object"] "ValueError.__new__" = true
theorem ErrCls.obj {K : PySem.W.Frag} {C : Addr} {h : Heap} (c : ErrCls K C) (k : K.In h) : ∃ bm N nm q bs hdct sn sub ab col dd k0 k1 k2 k3 k5 mN, h.get? C = some (excClassObj nm q C N bs bm hdct sn sub ab col dd k0 k1 k2 k3 k5 "ValueError.__new__") ∧ h.Ns N mN ∧ mN "__init__" = none ∧
    OwnTail h [.type "ValueError", .type "Exception", .type "BaseException", .type "object"] bm := by
  have e := c.q
  unfold PySem.W.excIn at e
  split at e
  next dd cd sl ho =>
    split at e
    next C1 bm k0 k1 k2 k3 n k5 hm hs =>
      simp only [Bool.and_eq_true, beq_iff_eq, Bool.not_eq_true'] at e
      obtain ⟨⟨⟨⟨⟨e1, e2⟩, e3⟩, e4⟩, e5⟩, e6⟩ := e
      subst e1 e2
      have hg := k _ _ ho
      cases cd with
      | mk nm bs mro ns qn hd sn sub ab col del =>
        simp only at hm e3 e5 e6
        have hsl : sl = #[k0, k1, k2, k3, some (.builtin "ValueError.__new__"), k5] := by
          cases sl with
          | mk l => simp only at hs; rw [hs]
        rw [hm, e3, hsl] at hg
        exact ⟨bm, ns, nm, qn, bs, hd, sn, sub, ab, col, dd, k0, k1, k2, k3, k5, _, hg, .of_isNs (PySem.W.isNs_of_in k e5), PySem.W.nsMap_none_of_in k e5 e6, PySem.W.tail_of_in k e4⟩
    next => cases e
  next => cases e
end ExcR

namespace ExcR
open PySem PySem.Spec PyProof.Rows L2
/-! ### texts with braces -/
noncomputable abbrev TF := L2.St → Hp → Str → (Str → Hp → Prop) → Prop
noncomputable def PF (X : Cx) (es : List Expr) (t : TF) : Prop :=
  ∀ (pins : List (Addr × Obj)) (s : Shared) (σ : L2.St) (H : Hp) (out : Str) (Q : Str → Hp → Prop), Inv X pins σ H s → t σ H out Q →
    wpAny (model X.prog X.w) X.A (joinParts out (evalEach es X.env)) (fun u s' => ∃ x H', Inv X pins σ H' s' ∧ RelV (.str x) u ∧ Q x H') X.xe s
section
variable {X : Cx} {e e1 e2 : Expr} {es : List Expr} {t : TF} {tv : TE} {pos : Pos}
noncomputable def fNil : TF := fun _ H out Q => out.length ≤ sizeLine ∧ Q out H
noncomputable def fStr (x : Str) (t : TF) : TF := fun σ H out Q => (out ++ x).length ≤ sizeLine ∧ t σ H (out ++ x) Q
noncomputable def fVal (tv : TE) (t : TF) : TF := fun σ H out Q => tv σ H fun v H1 => (∃ i : Int, v = .int i ∧ i.natAbs.log2 < 1920 ∧ (out ++ (Str.ofString (toString i))).length ≤ sizeLine ∧ t σ H1 (out ++ Str.ofString (toString i)) Q) ∨
  ∃ x : Str, v = .str x ∧ x.length ≤ sizeLine ∧ (out ++ x).length ≤ sizeLine ∧ t σ H1 (out ++ x) Q
theorem pf_nil : PF X [] fNil := fun pins s σ H out Q I h => joinParts_nilE (joinParts_nil ⟨out, H, I.tok _, ⟨_, rfl⟩, h.2⟩ h.1)
theorem pf_str {x : Str} {j} (h : PF X es t) : PF X (.Constant (.str x) j pos :: es) (fStr x t) := fun pins s σ H out Q I q =>
  joinParts_consE (joinParts_cons (Calls.Constant_str ⟨q.1, h pins _ σ H _ Q (I.tok _) q.2⟩))
theorem pf_val (hv : PE X e tv) (h : PF X es t) : PF X (.FormattedValue e (-1) none pos :: es) (fVal tv t) := fun pins s σ H out Q I q => by
  refine joinParts_consE (joinParts_cons (FormattedValue_plain (thn (hv pins s σ H _ I q) fun u s1 ⟨v, H1, I1, r, q1⟩ => ?_)))
  rcases q1 with ⟨i, rfl, hs, hz, q2⟩ | ⟨x, rfl, hx, hz, q2⟩
  · obtain ⟨tk, rfl⟩ := r
    exact formatField_int_small hs ⟨hz, h pins _ σ H1 _ Q (I1.tok _) q2⟩
  · obtain ⟨tk, rfl⟩ := r
    exact formatField_str (fun t' tk' => ⟨hz, h pins _ σ H1 _ Q (I1.tok _) q2⟩) hx
/-- f'..' of two parts or more -/
noncomputable def tF (t : TF) : TE := fun σ H Q => t σ H Str.empty fun x H' => Q (.str x) H'
theorem pe_f (h : PF X (e1 :: e2 :: es) t) : PE X (.JoinedStr (e1 :: e2 :: es) pos) (tF t) := fun pins s σ H Q I q =>
  JoinedStr_many (thn (h pins s σ H _ _ I q) fun u s1 ⟨x, H1, I1, r, q1⟩ => ⟨.str x, H1, I1, r, q1⟩)
end
/-! ### raise C(..) -/
/-- a new exception of the class at C is what this body lets out -/
noncomputable def Raises (X : Cx) (E : XK) : Prop := ∀ (pins : List (Addr × Obj)) (σ : L2.St) (H : Hp) (s : Shared) (C a : Addr) (h' : Heap) (args : List Value), Inv X pins σ H s → Heap.MadeExcOf s.heap h' a (.ref C) args → E (.ref C) none H → X.xe (.ref a) { s with heap := h' }
noncomputable def tRaise (C : Addr) (E : XK) (t : TA) : TS := fun _ σ H => t σ H fun vs H1 => vs.length ≤ sizeLine ∧ E (.ref C) none H1
section
variable {X : Cx} {x : Str} {C : Addr} {E : XK} {e : Expr} {es : List Expr} {t : TA} {p cpos pos : Pos}
theorem ps_raise (c : ErrCls X.K C) (hm : X.mg x = some (.ref C)) (hR : Raises X E) (hc : X.calm = true) (ha : PA X (e :: es) t) (hg : Gl X x := by rfl) (hdb : (x == ("__debug__" : Str)) = false := by decide)
    (he : starEach (e :: es) X.env = (false, eval e X.env) :: starEach es X.env := by rfl) (hpl : (backTo cpos (starEach es X.env)).any (·.1) = false := by rfl) : PS X (.Raise (some (.Call (.Name x p) (e :: es) [] cpos)) none pos) (tRaise C E t) := by
  intro pins s σ H D I h
  obtain ⟨bm, N, nm, q, bs, hdct, sn, sub, ab, col, dd, k0, k1, k2, k3, k5, mN, hC, hN, hni, hT⟩ := c.obj I.ok.mod.kin
  have hpl' : (backTo cpos (starEach (e :: es) X.env)).any (·.1) = false := by
    rw [he]
    show (false || (backTo cpos (starEach es X.env)).any (·.1)) = false
    rw [hpl]
    rfl
  refine wpAny_Raise_call_subU (C := C) (nm := nm) (q := q) (N := N) (bs := bs) (bm := bm) (hdct := hdct) (sn := sn) (sub := sub) (ab := ab) (col := col) (dd := dd) (k0 := k0) (k1 := k1) (k2 := k2) (k3 := k3) (k5 := k5)
    PySem.F.excBase_ValueError (by decide +kernel) PySem.F.excBase_ValueError (hT.hasType (by decide +kernel)) (I.ok.hd hc) hpl' hni (ld_glob I hg hm ⟨rfl, ?_⟩ hdb)
  have hA := ha cpos pins s σ H _ I h
  rw [he] at hA ⊢
  refine Calls.evalArgs_plain (thn hA fun us s2 ⟨vs, H2, I2, r2, q1, q2⟩ => ⟨rfl, by rw [← r2.length]; exact q1, I2.bk _ _ hC, hN.keeps I2.bk, hT.keeps I2.bk, fun h' a hm' => ?_⟩)
  exact hR pins σ H2 s2 C a h' us I2 hm' q2
end
/-! ### the body of a def that lets exceptions out -/
section
variable {P : Program} {w : World} {K : PySem.W.Frag} {mg : Str → Option Value} {base : Heap} {N ps : List Str} {qual x : Str} {scope : Scope} {f : Addr} {cd : Value} {A : Around} {outer : List Env} {s : Shared} {H : Hp} {E : XK}
theorem raises_e : Raises (cxOf (CXe P w) P w K mg base N qual scope f cd A outer s H E) E := by
  intro pins σ H1 s1 C a h' args I m q
  obtain ⟨t, ht, _, _⟩ := m.there
  exact wpAny_mono (leave_new I rfl rfl rfl m.keeps m.new ht rfl rfl rfl) (fun _ s3 ⟨T2, y⟩ => ⟨a, T2, C, H1, rfl, y, q⟩) fun _ _ z => z
theorem passes_e : Passes (CXe P w) (cxOf (CXe P w) P w K mg base N qual scope f cd A outer s H E) E := by
  rintro pins σ H1 s1 e s2 I ⟨a, T, C, H', rfl, y, q⟩
  exact wpAny_mono (leave_pass I rfl rfl rfl y) (fun _ s3 ⟨T2, z⟩ => ⟨a, T2, C, H', rfl, z, q⟩) fun _ _ z => z
theorem loops_e : PassesOwn (model P w) (cxOf (CXe P w) P w K mg base N qual scope f cd A outer s H E).A (cxOf (CXe P w) P w K mg base N qual scope f cd A outer s H E).env (cxOf (CXe P w) P w K mg base N qual scope f cd A outer s H E).xe := PassesOwn.leaving
theorem Def.okX {st : Stmt} {k : Nat} {sp : Sp} (D : Own.Def K mg x st ps) (S : FnScope N ps (defScope st)) (len : ∀ vs H Q E, sp vs H Q E → vs.length = ps.length)
    (hbody : ∀ (f : Addr) (cdv : Value) (A : Around) (outer : List Env) (s : Shared) (H : Hp) (vs : List V) (Q : VK) (E : XK), Room k (A.deeper (envOfC x (defScope st) s.heap.objs.size f cdv)) → sp vs H Q E →
      ∃ t, PSs (cxOf (CXe P w) P w K mg base N x (defScope st) f cdv A outer s H E) (defBody st) t ∧ t { nx := fun _ H' => Q .non H', rt := Q } (start N vs) H) : Own.Callee P w K mg base (CXe P w) (k + 1) x ps sp := by
  obtain ⟨f, fd, F, hm, hb⟩ := D.ex
  have kp := F.kp
  obtain ⟨oc, od, kV, doc, pm, an, cdv, ct, osl, rfl, lk, hcd⟩ := F.ex
  exact ⟨f, _, fn_of lk hcd S len fun A outer s H vs Q E hr hsp => hbody f cdv A outer s H vs Q E hr hsp, hm, kp, ⟨_, lk, rfl⟩, hb⟩
end
end ExcR

namespace ExcR
open PySem PySem.Spec PyProof.Rows L2
open Sem (wp)
/-- what is read of a class of errors by isinstance -/
structure ErrGet (K : PySem.W.Frag) (C : Addr) : Prop where
  c : ErrCls K C
  ga : PySem.W.findIn K (.ref C) "__getattribute__" = some (some (.builtin "BaseException.__getattribute__"))
  gt : PySem.W.findIn K (.ref C) "__getattr__" = some none
  cl : PySem.W.findIn K (.ref C) "__class__" = some (some (.builtin "object.__class__"))
  is : (PySem.W.clsIn K C).isSome = true
section
variable {prog : Program} {w : World} {A : Around} {E : Value → Shared → Prop} {h : Heap} {g : Array GenState} {d : Drawn} {t : Nat} {os : OsState} {a C : Addr} {o : Obj} {K : PySem.W.Frag}
theorem xc_get {R : Result → Shared → Prop} (k : K.In h) (G : ErrGet K C) (hx : h.get? a = some o) (hc : o.cls = .ref C) (hq : R (.ok (.ret (.ref C))) ⟨h, g, d, t, os⟩) :
    codeAny (model prog w) A (.call (.builtin "getset_descriptor.__get__") ⟨[.builtin "object.__class__", .ref a, .ref C], []⟩) R ⟨h, g, d, t, os⟩ := by
  obtain ⟨bm, N, nm, q, bs, hdct, sn, sub, ab, col, dd, k0, k1, k2, k3, k5, mN, hC, hN, hni, hT⟩ := G.c.obj k
  have hty : (⟨h, g, d, t, os⟩ : Shared).TypeIs (.builtin "object.__class__") "getset_descriptor" := F.typeOf_object_class
  have hob : (Value.ref C :: bm).contains (.type (".".intercalate ("object.__class__".cutAt '.').dropLast)) = true := by
    rw [F.owner_object_class, List.contains_cons, hT.hasType (b := true) (by decide +kernel)]
    rfl
  refine codeAny_call_builtin F.slot_gs_get.plain F.entry_gs_get (F.slot_gs_get.check _ _ _ _ _ _ _ _ hty (F.args_gs_get _ _ _) ?_)
  repeat (any_goals (first | assumption | (with_reducible refine wpAny_loadPart_at hx ?_; rw [hc]) | (with_reducible refine wpAny_isSubtype_exc hC ?_; rw [hob]) | wp_step))
  refine ⟨Code.quiet_builtin _ (by decide +kernel), codeAny_builtin F.entry_object_class ?_⟩
  repeat (any_goals (first | assumption | (with_reducible refine wpAny_loadPart_at hx ?_; rw [hc]) | wp_step))
theorem xc_entry {tk : Tok} {Q : Fin → Shared → Prop} (k : K.In h) (G : ErrGet K C) (hx : h.get? a = some o) (hc : o.cls = .ref C) (hq : Q (.done (.ret (.ref C))) ⟨h, g, d, t, os⟩) :
    wpAny (model prog w) A (Builtin.«object.__getattribute__» ⟨[.ref a, .str "__class__" tk], []⟩) Q E ⟨h, g, d, t, os⟩ := by
  have hty : (⟨h, g, d, t, os⟩ : Shared).TypeIs (.builtin "object.__class__") "getset_descriptor" := F.typeOf_object_class
  have f1 := F.typeOf_object_class
  have f2 := F.slot_gs_get.lookup
  have f3 := F.slot_gs_set.lookup
  have L := PySem.W.looks_findIn (M := model prog w) k G.cl
  repeat (any_goals (first | assumption | (with_reducible refine wpAny_loadPart_at hx ?_; rw [hc]) | with_reducible refine L.at ?_ | wp_step))
  refine xc_get k G hx hc ?_
  repeat (any_goals (first | assumption | wp_step))
theorem xc_check {M : Model} {v : Value} {Q : Unit → Shared → Prop} (k : K.In h) (G : ErrGet K C) (hx : h.get? a = some o) (hc : o.cls = .ref C) (hq : Q () ⟨h, g, d, t, os⟩) :
    wpAny M A (checkBuiltinCall "BaseException.__getattribute__" ⟨[.ref a, v], []⟩) Q E ⟨h, g, d, t, os⟩ := by
  obtain ⟨bm, N, nm, q, bs, hdct, sn, sub, ab, col, dd, k0, k1, k2, k3, k5, mN, hC, hN, hni, hT⟩ := G.c.obj k
  have hbe : (Value.ref C :: bm).contains (.type "BaseException") = true := by rw [List.contains_cons, hT.hasType (b := true) (by decide +kernel)]; rfl
  have e1 : builtinKind "BaseException.__getattribute__" = some .slot := by decide +kernel
  have e2 : splitId "BaseException.__getattribute__" = some ("BaseException", "__getattribute__") := by decide +kernel
  have e3 := F.args_bexc_ga (.ref a) v
  simp only [checkBuiltinCall, e1, e2]
  refine wpAny_bind ?_
  unfold isInstance
  repeat (first | (with_reducible refine wpAny_loadPart_at hx ?_; rw [hc]) | (with_reducible refine wpAny_isSubtype_exc hC ?_; rw [hbe]) | wp_step)
  exact hq
theorem xc_by {tk : Tok} {Q : Value → Shared → Prop} (k : K.In h) (G : ErrGet K C) (hx : h.get? a = some o) (hc : o.cls = .ref C) (hq : Q (.ref C) ⟨h, g, d, t, os⟩) :
    wpAny (model prog w) A (getAttrBy (.ref a) (.str "__class__" tk) false) Q E ⟨h, g, d, t, os⟩ := by
  obtain ⟨bm, N, nm, q, bs, hdct, sn, sub, ab, col, dd, k0, k1, k2, k3, k5, mN, hC, hN, hni, hT⟩ := G.c.obj k
  have f0 := F.attrBase_ValueError.ga.bind (.ref a)
  have x2 : (Value.builtin "BaseException.__getattribute__" == Value.builtin "object.__getattribute__") = false := by decide +kernel
  have x1 : (onTheHeap (Value.ref C) && Value.builtin "BaseException.__getattribute__" == Value.builtin "object.__getattribute__") = false := by rw [x2]; rfl
  have L := PySem.W.looks_findIn (M := model prog w) k G.ga
  have L2 := PySem.W.looks_findIn (M := model prog w) k G.gt
  repeat (any_goals (first | assumption | (with_reducible refine wpAny_loadPart_at hx ?_; rw [hc]) | with_reducible refine L.at ?_ | with_reducible refine L2.at ?_ | wp_step))
  refine codeAny_call_builtin F.attrBase_ValueError.ga.plain F.entry_bexc_ga (xc_check k G hx hc (xc_entry k G hx hc ?_))
  repeat (any_goals (first | assumption | wp_step))
theorem xc_attr {Q : Option Value → Shared → Prop} (k : K.In h) (G : ErrGet K C) (hx : h.get? a = some o) (hc : o.cls = .ref C) (hq : Q (some (.ref C)) ⟨h, g, d, t + 1, os⟩) :
    wpAny (model prog w) A (getAttr? (.ref a) "__class__") Q E ⟨h, g, d, t, os⟩ := by
  unfold getAttr? getAttrBy?
  repeat (any_goals (first | assumption | with_reducible apply xc_by k G hx hc | wp_step))
end
end ExcR

namespace ExcR
open PySem PySem.Spec PyProof.Rows L2
/-! ### isinstance(e, C), e caught -/
/-- a caught error of the class at C -/
noncomputable def ErrH (a C : Addr) : HO := .ext fun h => ∃ o, h.get? a = some o ∧ o.cls = .ref C ∧ ∃ vs, o.data = .fields vs
theorem errH_ok {P : Program} {w : World} {H : Hp} {h : Heap} {a T C : Addr} {fl : Value} (x : Trc h a T (.ref C) fl) : ObjOk P w H h a (ErrH a C) := by
  obtain ⟨_, ⟨o, vs, e1, e2, e3, _⟩, _⟩ := x
  exact ⟨⟨o, e1, e2, vs, e3⟩, ⟨o, e1⟩, fun h1 h2 ⟨o1, q1, q2⟩ k => ⟨o1, k o1 q1, q2⟩⟩
theorem is_type {K : PySem.W.Frag} {M : Model} {h : Heap} {C : Addr} (k : K.In h) (e : (PySem.W.clsIn K C).isSome = true) : PySem.W.Looks M h (isType (.ref C)) true := by
  unfold PySem.W.clsIn at e
  split at e
  next ho =>
    intro A' Q' E' s' kk q
    unfold isType loadHead
    exact wpAny_bind (wpAny_loadPart (kk _ _ (k _ _ ho)) (wpAny_pure q))
  next => cases e
theorem kitx_err {K : PySem.W.Frag} {a C : Addr} (G : ErrGet K C) : PySem.W.KitX K (.ref a) (.ref C) (fun h => ∃ o, h.get? a = some o ∧ o.cls = .ref C) where
  ty := fun M h _ ⟨o, h1, h2⟩ => h2 ▸ (PySem.W.Looks.ld h1).andThen .now
  it := fun M h k _ => is_type k G.is
  ne := fun h tp dd its n sl k htp => by
    refine Bool.eq_false_iff.mpr fun q => ?_
    obtain rfl : C = tp := Value.ref.inj (beq_iff_eq.mp q)
    obtain ⟨bm, N, nm, q, bs, hdct, sn, sub, ab, col, dd, k0, k1, k2, k3, k5, mN, hC, _⟩ := G.c.obj k
    rw [htp] at hC
    have z : Value.type "tuple" = Value.type "type" := congrArg Obj.cls (Option.some.inj hC)
    injection z with z
    exact absurd z (by decide)
  ca := fun {prog w A E Q s} k ⟨o, h1, h2⟩ q => by
    obtain ⟨h, g, d, t, os⟩ := s
    exact xc_attr k G h1 h2 q
section
variable {X : Cx}
theorem call_isiE : CallR X (.builtin "isinstance") (fun xs H Q => ∃ (a C : Addr) (c : V) (b : Bool), xs = [.ref a, c] ∧ H a = some (ErrH a C) ∧ ErrGet X.K C ∧ (∃ cv : Value, (∀ u, RelV c u → u = cv) ∧ PySem.W.kitOne X.K (.ref C) cv = some b) ∧ Q (.bl b) H) := by
  intro pins s σ H xs us Q I rv h
  obtain ⟨a, C, c, b, rfl, ha, G, ⟨cv, hcv, e⟩, q⟩ := h
  cases rv with
  | cons r rr =>
    cases rr with
    | cons r' rr' =>
      cases rr'
      obtain rfl : _ = Value.ref a := r
      cases hcv _ r'
      obtain ⟨⟨o, h1, h2, _⟩, _⟩ := (show ObjOk X.prog X.w H s.heap a (ErrH a C) from I.hok a _ ha)
      exact PySem.W.kia_one (kitx_err G) I.kIn ⟨o, h1, h2⟩ e (fun z => nomatch z) fun tk => ⟨.bl b, H, I.tok tk, rfl, q⟩
theorem call_isiEK {K : PySem.W.Frag} (hK : X.K = K := by rfl) : CallR X (.builtin "isinstance") (fun xs H Q => ∃ (a C : Addr) (c : V) (b : Bool), xs = [.ref a, c] ∧ H a = some (ErrH a C) ∧ ErrGet K C ∧ (∃ cv : Value, (∀ u, RelV c u → u = cv) ∧ PySem.W.kitOne K (.ref C) cv = some b) ∧ Q (.bl b) H) := by
  subst hK
  exact call_isiE
end
/-! ### try -/
theorem un_after {fs ex : List Addr} {H H' : Hp} {h h1 h2 : Heap} (u : Un fs [] H H' h h1) (k : KeepX fs ex h1 h2) (hx : ∀ b ∈ ex, h.get? b = none) : Un fs [] H H' h h2 := by
  have out : ∀ b o, h.get? b = some o → b ∉ ex := fun b o q z => by rw [hx b z] at q; cases q
  refine ⟨fun b o q n nf ne => k.keep b o (u.keep b o q n nf ne) nf (out b o q), fun b o q n hf ne => ?_, u.free, fun b o q ne => ?_, u.tups, u.frzs, u.tbls⟩
  · obtain ⟨sl, q1⟩ := u.slot b o q n hf ne
    obtain ⟨sl2, q2⟩ := k.slot b _ q1 (out b o q)
    exact ⟨sl2, q2⟩
  · obtain ⟨o1, q1⟩ := u.there b o q ne
    obtain ⟨sl2, q2⟩ := k.slot b _ q1 (out b o q)
    exact ⟨_, q2⟩
/-- the suite's context -/
noncomputable def sufX (X : Cx) (a : Addr) : Cx := { X with A := X.A.mark (some (.ref a)), calm := false, xe := fun _ _ => False }
/-- the body's -/
noncomputable def tryX (X : Cx) (pins : List (Addr × Obj)) (D : Ends) (h0 : ExceptHandler) : Cx :=
  { X with pn := X.pn ++ pins, xe := fun e s1 => wpAny (model X.prog X.w) X.A (noteFrame e X.env) (fun _ s2 => wpAny (model X.prog X.w) X.A (setFlight e none) (fun _ s3 => wpAny (model X.prog X.w) X.A (handleBy e X.env [h0]) (SP X pins D) X.xe s3) X.xe s2) X.xe s1 }
section
variable {X : Cx} {pins pins1 : List (Addr × Obj)} {σ : L2.St} {H H' : Hp} {s s' : Shared} {a T C : Addr} {D : Ends} {h0 : ExceptHandler}
theorem ok_suf (o : X.Ok) : (sufX X a).Ok := ⟨o.mod, o.kind, o.glob, o.blt, o.above, o.inj, o.has, o.cab, (fun z => nomatch z), o.frames, o.stk, o.exf, o.bs, o.bsz, o.noex, o.exfs, o.funs, o.frf⟩
theorem inv_suf (I : Inv X pins σ H s) : Inv (sufX X a) pins σ H s := ⟨ok_suf I.ok, I.os, I.bare, I.base, I.loc, I.cell, I.free, I.freeC, I.pin, I.hok, I.len⟩
theorem inv_uns (o : X.Ok) (I : Inv (sufX X a) pins σ H s) : Inv X pins σ H s := ⟨o, I.os, I.bare, I.base, I.loc, I.cell, I.free, I.freeC, I.pin, I.hok, I.len⟩
theorem ok_try (o : X.Ok) : (tryX X pins D h0).Ok := ⟨o.mod, o.kind, o.glob, o.blt, o.above, o.inj, o.has, o.cab, o.hd, o.frames, o.stk, o.exf, o.bs, o.bsz, o.noex, o.exfs, o.funs, o.frf⟩
theorem ok_unt (o : (tryX X pins D h0).Ok) : X.Ok := ⟨o.mod, o.kind, o.glob, o.blt, o.above, o.inj, o.has, o.cab, o.hd, o.frames, o.stk, o.exf, o.bs, o.bsz, o.noex, o.exfs, o.funs, o.frf⟩
theorem inv_try (I : Inv X pins σ H s) : Inv (tryX X pins D h0) [] σ H s := ⟨ok_try I.ok, I.os, I.bare, I.base, I.loc, I.cell, I.free, I.freeC, fun p hp => I.pin p (by simpa [tryX] using hp), I.hok, I.len⟩
theorem inv_unt (I : Inv (tryX X pins D h0) pins1 σ H s) : Inv X pins σ H s := ⟨ok_unt I.ok, I.os, I.bare, I.base, I.loc, I.cell, I.free, I.freeC, fun p hp => I.pin p (List.mem_append_left _ hp), I.hok, I.len⟩
/-- a name of the frame's own goes -/
theorem inv_goes {i : Nat} {n : Str} {m : Str → Option Value} {v : Option Value} {h' : Heap} {tk : Nat} (I : Inv X pins σ H s) (hN : X.N.Nodup) (hi : X.N[i]? = some n) (hk : X.env.scope.names.lookup n = some .local)
    (hm : ∀ (i : Nat) (x : Str) (v : V), X.N[i]? = some x → σ[i]? = some (some v) → Vis X.env.scope x → ∃ u, RelV v u ∧ Look X.env s.heap m x u) (hn : s.heap.Ns X.env.locals m)
    (hn' : h'.Ns X.env.locals (fun x => if x = n then v else m x)) (hs : Heap.SameBut X.env.locals s.heap h') : Inv X pins (σ.set i none) H { s with heap := h', toks := tk } := by
  have cne := I.cne
  have nl : ∀ {b o}, X.s₀.heap.get? b = some o → b ≠ X.env.locals := fun e => Nat.ne_of_lt (Nat.lt_of_lt_of_le (Heap.lt_size e) I.ok.above)
  refine ⟨I.ok, I.os, I.bare, ⟨fun b o e n hb hx => (hs.2 b (nl e)).trans (I.base.keep b o e n hb hx), fun b o e n hb hx => ?_, I.base.free, fun b o e hx => ?_, I.base.tups, I.base.frzs, I.base.tbls⟩, ⟨_, hn', fun j y v' e1 e2 e3 => ?_⟩, fun y c e => ?_, I.free, I.freeC, fun p hp => ?_, fun b ob e => ?_, by simpa using I.len⟩
  · obtain ⟨sl, e1⟩ := I.base.slot b o e n hb hx
    exact ⟨sl, (hs.2 b (nl e)).trans e1⟩
  · obtain ⟨o', e1⟩ := I.base.there b o e hx
    exact ⟨o', (hs.2 b (nl e)).trans e1⟩
  · by_cases hj : j = i
    · subst hj
      have hz : j < σ.length := by rw [I.len]; exact (List.getElem?_eq_some_iff.mp hi).1
      rw [List.getElem?_set_self hz] at e2
      cases e2
    · rw [List.getElem?_set_ne (Ne.symm hj)] at e2
      obtain ⟨u', r', q⟩ := hm j y v' e1 e2 e3
      refine ⟨u', r', ?_⟩
      rcases q with ⟨k, e⟩ | ⟨k, c, e, z⟩
      · have hy : y ≠ n := fun z => hj (nodup_ix hN e1 (z ▸ hi))
        exact .inl ⟨k, by simp [hy, e]⟩
      · exact .inr ⟨k, c, e, z.sameBut hs (cne y c e)⟩
  · obtain ⟨w', z⟩ := I.cell y c e
    exact ⟨w', z.sameBut hs (cne y c e)⟩
  · obtain ⟨e, n, ne, nf, d⟩ := I.pin p hp
    exact ⟨(hs.2 p.1 ne).trans e, n, ne, nf, d⟩
  · refine (I.hok b ob e).stay (fun c u hc q => (hs.2 c ?_).trans q) (fun _ q => q) fun _ _ q => q
    rintro rfl
    have hf := I.free
    rcases hc with z | z
    · rw [← z, hf] at e; cases e
    · rw [hf] at z; cases z
end
/-- ends of an except suite, whose name goes -/
noncomputable def sufD (i : Nat) (D : Ends) : Ends := { nx := fun σ H => D.nx (σ.set i none) H, rt := D.rt, bk := fun σ H => D.bk (σ.set i none) H, ct := fun σ H => D.ct (σ.set i none) H }
/-- what a caught error must find: the clause's class at C0, its name in the i-th slot, the suite's reading -/
noncomputable def hx (K : PySem.W.Frag) (C0 : Addr) (i : Nat) (ts : TS) (D : Ends) : L2.St → XK := fun σ c _ H => ∃ C, c = .ref C ∧ ErrGet K C ∧ PySem.W.exmOne K (.ref C) (.ref C0) = some true ∧
  ∀ a, H a = none → ts (sufD i D) (σ.set i (some (.ref a))) (upd H a (ErrH a C))
/-- a callee's exception, by the names' values -/
noncomputable def PassesS (CX : CXT) (X : Cx) (E : L2.St → XK) : Prop := ∀ (pins : List (Addr × Obj)) (σ : L2.St) (H : Hp) (s : Shared) (e : Value) (s' : Shared), Inv X pins σ H s → CX X.stack H s (E σ) e s' → X.xe e s'
section
variable {X : Cx} {CX : CXT} {k : Nat} {ps : List Str} {sp : Sp} {E : L2.St → XK} {x : Str} {p pos : Pos} {e : Expr} {es : List Expr} {t : TA}
end
section
variable {X : Cx} {pins : List (Addr × Obj)} {D : Ends} {x n : Str} {np hpos pos : Pos} {b0 : Stmt} {suite body : List Stmt} {C0 : Addr} {i : Nat} {ts : TS}
theorem passes_try (hst : X.stack = X.env :: X.outer) (hfr : X.env.frame = some X.env.locals) (hN : X.N.Nodup) (hi : X.N[i]? = some n) (hk : X.env.scope.names.lookup n = some .local) (hg : Gl X x) (hm : X.mg x = some (.ref C0)) (hdb : (x == ("__debug__" : Str)) = false)
    (hs : ∀ a, PSs (sufX X a) (b0 :: suite) ts) : PassesS (CXe X.prog X.w) (tryX X pins D (.ExceptHandler (some (.Name x np)) (some n) (b0 :: suite) hpos)) (hx X.K C0 i ts D) := by
  rintro pins1 σ H s e s' I ⟨a, T, C, H', rfl, y, C', ec, G, em, q⟩
  obtain rfl : C = C' := Value.ref.inj ec
  have I := inv_unt I
  have J : Inv X pins σ H' s' := I.call' (ch := []) y.os y.un y.hok y.bare fun b z => absurd z (by simp)
  have hF := J.stack
  have hA := J.ok.frames
  rw [hst] at hF hA
  -- the frame is noted
  refine note_next hA hF hfr y.tr fun h2 T2 hT2 tr2 k2 => ?_
  have nT2 : s.heap.get? T2 = none := by
    cases z : s.heap.get? T2 with
    | none => rfl
    | some o =>
      obtain ⟨o1, z1⟩ := y.un.there T2 o z (by simp)
      exact absurd (Heap.lt_size z1) (Nat.not_lt.mpr hT2)
  have fT2 : H' T2 = none := y.hok.fresh hT2
  have u2 : Un (frs X.stack) [] H H' s.heap h2 := un_after y.un (by rw [hst]; exact k2) fun b hb => by
    rcases List.mem_cons.mp hb with rfl | hb
    · exact y.na
    · rw [List.mem_singleton.mp hb]; exact y.nT
  have ok2 : HOk X.prog X.w H' h2 := hok_keep y.hok k2 (fun b hb => J.stkFree b (by rw [hst]; exact hb)) fun b hb => by
    rcases List.mem_cons.mp hb with rfl | hb
    · exact y.fa
    · rw [List.mem_singleton.mp hb]; exact y.fT
  -- no longer in flight
  refine flight_off (s := { s' with heap := h2 }) tr2 fun h3 tr3 k3 => ?_
  have u3 : Un (frs X.stack) [] H H' s.heap h3 := un_after u2 (k3.mono (by simp) fun _ z => z) fun b hb => by rw [List.mem_singleton.mp hb]; exact nT2
  have ok3 : HOk X.prog X.w H' h3 := hok_keep ok2 k3 (by simp) fun b hb => by rw [List.mem_singleton.mp hb]; exact fT2
  have J3 : Inv X pins σ H' { s' with heap := h3 } := I.call' (s' := { s' with heap := h3 }) (ch := []) y.os u3 ok3 y.bare fun b z => absurd z (by simp)
  have S3 : Inv (sufX X a) pins σ H' { s' with heap := h3 } := inv_suf J3
  -- the clause
  refine wpAny_handleBy_cons (codeAny_handlers_test (ld_glob S3 hg hm ?_ hdb)) (by intro z; cases z)
  obtain ⟨_, ⟨oe, vs, g1, g2, g3, g4⟩, _⟩ := id tr3
  refine (PySem.W.exm_one (M := model X.prog X.w) (cls := .ref C) J3.kIn (g2 ▸ (PySem.W.Looks.ld g1).andThen .now) em).here ?_
  -- its suite
  refine codeAny_handlers_suite_as (flight_off (s := { s' with heap := h3 }) tr3 fun h4 tr4 k4 => ?_)
  have u4 : Un (frs X.stack) [] H H' s.heap h4 := un_after u3 (k4.mono (by simp) fun _ z => z) fun b hb => by rw [List.mem_singleton.mp hb]; exact nT2
  have ok4 : HOk X.prog X.w H' h4 := hok_keep ok3 k4 (by simp) fun b hb => by rw [List.mem_singleton.mp hb]; exact fT2
  have fr4 : ∀ b, b = a → H b = none := fun b z => by rw [z]; exact free_of I.hok y.na
  have u5 : Un (frs X.stack) [] H (upd H' a (ErrH a C)) s.heap h4 := by
    have ne : ∀ b o, s.heap.get? b = some o → b ≠ a := fun b o z w => by rw [w, y.na] at z; cases z
    have ne2 : ∀ b o, H' b = some o → b ≠ a := fun b o z w => by rw [w, y.fa] at z; cases z
    refine ⟨u4.keep, u4.slot, fun b o z n m => by rw [upd_ne (ne b o z)]; exact u4.free b o z n m, u4.there, fun b xs z => ?_, fun b o u z => ?_, fun b ps z => ?_⟩
    · rw [upd_ne (ne2 b _ (u4.tups b xs z))]; exact u4.tups b xs z
    · rw [upd_ne (ne2 b _ (u4.frzs b o u z))]; exact u4.frzs b o u z
    · obtain ⟨more, z1⟩ := u4.tbls b ps z
      exact ⟨more, by rw [upd_ne (ne2 b _ z1)]; exact z1⟩
  have ok5 : HOk X.prog X.w (upd H' a (ErrH a C)) h4 := fun b ob e => by
    by_cases hb : b = a
    · subst hb
      rw [upd_same] at e
      cases e
      exact errH_ok tr4
    · rw [upd_ne hb] at e
      refine (ok4 b ob e).stay (fun _ _ _ z => z) (fun c z => ?_) fun c xs z => ?_
      · rw [upd_ne fun w => by rw [w, y.fa] at z; cases z]; exact z
      · rw [upd_ne fun w => by rw [w, y.fa] at z; cases z]; exact z
  have J5 : Inv X pins σ (upd H' a (ErrH a C)) { s' with heap := h4 } := I.call' (s' := { s' with heap := h4 }) (ch := []) y.os u5 ok5 y.bare fun b z => absurd z (by simp)
  have S5 : Inv (sufX X a) pins σ (upd H' a (ErrH a C)) { s' with heap := h4 } := inv_suf J5
  refine store_ok (X := sufX X a) S5 hN hi (.inl hk) (v := .ref a) rfl (fun s6 S6 => ?_) (.inr hk)
  refine wpAny_mono (hs a pins s6 _ _ _ S6 (q a y.fa)) (fun f s7 h7 => ?_) fun _ _ z => z.elim
  -- the name goes
  have gone : ∀ {σ' : L2.St} {H7 : Hp} {R : Unit → Shared → Prop}, Inv (sufX X a) pins σ' H7 s7 → (∀ s8, Inv X pins (σ'.set i none) H7 s8 → R () s8) → wpAny (model X.prog X.w) X.A (do bindName X.env n .none; unbindBehindTheSuite X.env n hpos) R X.xe s7 := fun {σ' H7 R} S7 hR => by
    obtain ⟨m, hn, hl⟩ := id S7.loc
    exact wpAny_nameGoes_keeps hk hn (by rw [show X.env.scope.kind = .function from J5.ok.kind]; rfl) fun h8 v hn8 hs8 => hR _ (inv_goes (inv_uns J5.ok S7) hN hi hk hl hn hn8 hs8)
  cases f with
  | next => obtain ⟨σ', H7, S7, q7⟩ := h7; exact gone S7 fun s8 I8 => ⟨_, _, I8, q7⟩
  | brk => obtain ⟨σ', H7, S7, q7⟩ := h7; exact gone S7 fun s8 I8 => ⟨_, _, I8, q7⟩
  | cont => obtain ⟨σ', H7, S7, q7⟩ := h7; exact gone S7 fun s8 I8 => ⟨_, _, I8, q7⟩
  | ret u => obtain ⟨v, σ', H7, S7, rv, q7⟩ := h7; exact gone S7 fun s8 I8 => ⟨v, _, _, I8, rv, q7⟩
/-- try: body; except C0 as n: suite -/
theorem ps_try {tb : Ends → TS} (hb : ∀ pins D, PSs (tryX X pins D (.ExceptHandler (some (.Name x np)) (some n) (b0 :: suite) hpos)) body (tb D)) :
    PS X (.Try body [.ExceptHandler (some (.Name x np)) (some n) (b0 :: suite) hpos] [] [] pos) (fun D σ H => tb D D σ H) := by
  intro pins s σ H D I h
  refine wpAny_Try_except (wpAny_mono (hb pins D [] s σ H D (inv_try I) h) (fun f s1 h1 => ?_) fun _ _ z => z)
  cases f with
  | next =>
    obtain ⟨σ', H', J, q⟩ := h1
    exact wpAny_pure ⟨σ', H', inv_unt J, q⟩
  | brk => obtain ⟨σ', H', J, q⟩ := h1; exact ⟨σ', H', inv_unt J, q⟩
  | cont => obtain ⟨σ', H', J, q⟩ := h1; exact ⟨σ', H', inv_unt J, q⟩
  | ret u => obtain ⟨v, σ', H', J, r, q⟩ := h1; exact ⟨v, σ', H', inv_unt J, r, q⟩
end
/-! ### names of the module -/
/-- the class that stands under the name -/
noncomputable def clsOf (mg : Str → Option Value) (x : Str) : Addr := match mg x with
  | some (.ref C) => C
  | _ => 0
theorem clsOf_eq {mg : Str → Option Value} {x : Str} {C : Addr} (h : mg x = some (.ref C)) : clsOf mg x = C := by unfold clsOf; rw [h]
theorem pe_globE {X : Cx} {x : Str} {v : V} {pos : Pos} (h : ∃ u, X.mg x = some u ∧ RelV v u) (hg : Gl X x := by rfl) (hd : (x == ("__debug__" : Str)) = false := by decide) : PE X (.Name x pos) (tC v) := by
  obtain ⟨u, h1, h2⟩ := h
  exact pe_glob hg h1 h2 hd
theorem pe_cls {X : Cx} {x : Str} {C : Addr} {pos : Pos} (h : X.mg x = some (.ref C)) (hg : Gl X x := by rfl) (hd : (x == ("__debug__" : Str)) = false := by decide) : PE X (.Name x pos) (tC (.ref C)) := pe_glob hg h rfl hd
end ExcR

namespace Own
open PySem PySem.Spec PyProof.Rows L2 M
section
variable {X : Cx} {pins : List (Addr × Obj)} {σ : L2.St} {H : Hp} {s : Shared}
/-! ### pairs of ints: ==, in -/
/-! ### xs.count(z) -/
end
end Own
namespace M
open PySem PySem.Spec PyProof.Rows L2 Own
section
variable {α : Type} {R : Hp → V → α → Prop} {H : Hp}
end
end M


namespace Own
open PySem PySem.Spec PyProof.Rows L2 M
section
variable {X : Cx}
/-! ### range(i, j) as a thing, list of it -/
end
end Own
namespace M
open PySem PySem.Spec PyProof.Rows L2 Own
end M


namespace Own
open PySem PySem.Spec PyProof.Rows L2
section
variable {X : Cx} {K : PySem.W.Frag}
/-! ### sum, min, max, any of a list -/
/-! ### == [] and != [], whatever the list holds -/
noncomputable def rEqE (K : PySem.W.Frag) (neg : Bool) : R2 := fun x y H Q => ∃ (p q : Addr) (xs : List V), x = .ref p ∧ y = .ref q ∧ SqL K H p xs ∧ SqL K H q [] ∧ Q (.bl (if neg then !xs.isEmpty else xs.isEmpty)) H
theorem op_eqE (hu : X.A.units < cLine) (hK : X.K = K := by rfl) : OpR X (compareOp .Eq) (rEqE K false) := by
  subst hK
  intro pins s σ H x y v u Q I rx ry h
  obtain ⟨p, q, xs, rfl, rfl, hp, hq, k⟩ := h
  obtain rfl : v = Value.ref p := rx
  obtain rfl : u = Value.ref q := ry
  obtain ⟨us, r1, p1, _⟩ := I.list hp
  obtain ⟨ws, r2, p2, _⟩ := I.list hq
  have l1 := r1.length
  have l2 : 0 = ws.length := r2.length
  have k' : Q (.bl xs.isEmpty) H := k
  by_cases e : xs.length = 0
  · refine SeqAt.eq_listAt (e := fun _ => true) p1.isList p2.isList (by simp; omega) hu (fun j h1 h2 => by simp at h2; omega) ⟨.bl xs.isEmpty, H, I, ?_, k'⟩
    show _ = Value.bool xs.isEmpty
    have : xs = [] := List.length_eq_zero_iff.mp e
    subst this
    rw [List.size_toArray, ← l1]
    rfl
  · refine SeqAt.eq_list_lengthsAt p1.isList p2.isList (by simp; omega) hu ⟨.bl xs.isEmpty, H, I, ?_, k'⟩
    show _ = Value.bool xs.isEmpty
    cases xs with
    | nil => exact absurd rfl e
    | cons a r => rfl
end
end Own

namespace M
open PySem PySem.Spec PyProof.Rows L2 Own
/-! ### rings of wishes -/
end M

namespace M
/-! ### rows of wishes, step by step; the first of the shortest that come round -/
/-- strictly ahead by the numbers from the left, of as many -/
noncomputable def sl : List Int → List Int → Prop
  | x :: xs, y :: ys => x < y ∨ (x = y ∧ sl xs ys)
  | _, _ => False
section
variable {C : Int → Prop} {ws : List (Int × Int)}
end
section
variable {hs : List Int} {ws : List (Int × Int)} {l : Int} {k : Nat} {ps : List (List Int)} {ls : List Int}
end
end M
namespace M
end M

namespace M
open Own
/-! ### exchanges of neighbours -/
end M

namespace Pu
open PySem PySem.Spec PyProof.Rows L2 Own
/-! ### values without a heap -/
inductive D where
  | int (i : Int) | bl (b : Bool) | non | str (x : Str) | ty (n : String) | tup (ds : List D) | lst (ds : List D) | scr (ns : List Int) | dK (kvs : List (Key × V)) | dT (kvs : List (List Key × V)) | loc (a : Addr) (d : D) | err (C : Addr) | ref (a : Addr) | ins (C : Addr) (xs : List Str) (ds : List D)
mutual
inductive Rp (K : PySem.W.Frag) (H : Hp) : D → V → Prop
  | int (i : Int) : Rp K H (.int i) (.int i)
  | bl (b : Bool) : Rp K H (.bl b) (.bl b)
  | non : Rp K H .non .non
  | str (x : Str) : Rp K H (.str x) (.str x)
  | ty (n : String) : Rp K H (.ty n) (.ty n)
  | tup {ds : List D} {vs : List V} {a : Addr} : H a = some (.tup vs) → Rps K H ds vs → Rp K H (.tup ds) (.ref a)
  | lst {ds : List D} {vs : List V} {a : Addr} : H a = some (.lst vs) → Rps K H ds vs → Rp K H (.lst ds) (.ref a)
  | scr {ns : List Int} {a : Addr} : SqL K H a (ns.map V.int) → Rp K H (.scr ns) (.ref a)
  | dK {kvs : List (Key × V)} {a : Addr} : H a = some (.dK kvs) → Rp K H (.dK kvs) (.ref a)
  | dT {kvs : List (List Key × V)} {a : Addr} : H a = some (.dT kvs) → Rp K H (.dT kvs) (.ref a)
  | loc {d : D} {a : Addr} : Rp K H d (.ref a) → Rp K H (.loc a d) (.ref a)
  | err {C a : Addr} : H a = some (ExcR.ErrH a C) → Rp K H (.err C) (.ref a)
  | ref (a : Addr) : Rp K H (.ref a) (.ref a)
  | ins {C a dx : Addr} {xs : List Str} {ds : List D} {vs : List V} : H a = some (.ins C dx (xs.zip vs)) → xs.length = vs.length → Rps K H ds vs → Rp K H (.ins C xs ds) (.ref a)
inductive Rps (K : PySem.W.Frag) (H : Hp) : List D → List V → Prop
  | nil : Rps K H [] []
  | cons {d : D} {v : V} {ds : List D} {vs : List V} : Rp K H d v → Rps K H ds vs → Rps K H (d :: ds) (v :: vs)
end
section
variable {K : PySem.W.Frag} {H H' : Hp}
mutual
theorem Rp.mono (S : Same H H') : ∀ {d : D} {v : V}, Rp K H d v → Rp K H' d v
  | _, _, .int i => .int i
  | _, _, .bl b => .bl b
  | _, _, .non => .non
  | _, _, .str x => .str x
  | _, _, .ty n => .ty n
  | _, _, .tup h r => .tup (S _ _ h) (Rps.mono S r)
  | _, _, .lst h r => .lst (S _ _ h) (Rps.mono S r)
  | _, _, .scr h => .scr (S.seq h)
  | _, _, .dK h => .dK (S _ _ h)
  | _, _, .dT h => .dT (S _ _ h)
  | _, _, .loc h => .loc (Rp.mono S h)
  | _, _, .err h => .err (S _ _ h)
  | _, _, .ref a => .ref a
  | _, _, .ins h e r => .ins (S _ _ h) e (Rps.mono S r)
theorem Rps.mono (S : Same H H') : ∀ {ds : List D} {vs : List V}, Rps K H ds vs → Rps K H' ds vs
  | _, _, .nil => .nil
  | _, _, .cons h r => .cons (Rp.mono S h) (Rps.mono S r)
end
theorem Rps.len : ∀ {ds : List D} {vs : List V}, Rps K H ds vs → vs.length = ds.length
  | _, _, .nil => rfl
  | _, _, .cons _ r => congrArg (· + 1) (Rps.len r)
theorem Rps.get : ∀ {ds : List D} {vs : List V} {i : Nat} {d : D}, Rps K H ds vs → ds[i]? = some d → ∃ v, vs[i]? = some v ∧ Rp K H d v
  | _, _, _, _, .nil, e => by simp at e
  | _, _, 0, _, .cons h _, e => by simp at e; subst e; exact ⟨_, rfl, h⟩
  | _, _, i + 1, d, .cons _ r, e => by
    obtain ⟨v, h1, h2⟩ := Rps.get (i := i) (d := d) r (by simpa using e)
    exact ⟨v, by simpa using h1, h2⟩
theorem Rps.append : ∀ {ds es : List D} {vs us : List V}, Rps K H ds vs → Rps K H es us → Rps K H (ds ++ es) (vs ++ us)
  | _, _, _, _, .nil, s => s
  | _, _, _, _, .cons h r, s => .cons h (Rps.append r s)
theorem Rps.drop : ∀ {ds : List D} {vs : List V} (n : Nat), Rps K H ds vs → Rps K H (ds.drop n) (vs.drop n)
  | _, _, 0, r => r
  | _, _, _ + 1, .nil => .nil
  | _, _, n + 1, .cons _ r => Rps.drop n r
theorem Rps.take : ∀ {ds : List D} {vs : List V} (n : Nat), Rps K H ds vs → Rps K H (ds.take n) (vs.take n)
  | _, _, 0, _ => .nil
  | _, _, _ + 1, .nil => .nil
  | _, _, n + 1, .cons h r => .cons h (Rps.take n r)
end
mutual
/-- nothing in it can change -/
noncomputable def imm : D → Bool
  | .tup ds => imms ds
  | .lst _ => false
  | .scr _ => false
  | .dK _ => false
  | .dT _ => false
  | .loc _ _ => false
  | .err _ => false
  | .ins _ _ _ => false
  | _ => true
noncomputable def imms : List D → Bool
  | [] => true
  | d :: r => imm d && imms r
end

/-! ### a part of a heap -/
open Classical in
noncomputable def off (Z : Addr → Prop) (H : Hp) : Hp := fun b => if Z b then none else H b
section
variable {K : PySem.W.Frag} {H H' : Hp} {Z Z' : Addr → Prop}
theorem off_in {b : Addr} {o : HO} (h : off Z H b = some o) : H b = some o ∧ ¬ Z b := by
  unfold off at h
  by_cases z : Z b
  · rw [if_pos z] at h; cases h
  · rw [if_neg z] at h; exact ⟨h, z⟩
theorem off_of {b : Addr} {o : HO} (h : H b = some o) (z : ¬ Z b) : off Z H b = some o := by
  unfold off
  rw [if_neg z]
  exact h
theorem off_mono (S : Same H H') (hz : ∀ b o, H b = some o → ¬ Z b → ¬ Z' b) : Same (off Z H) (off Z' H') := fun b o h => by
  obtain ⟨h1, h2⟩ := off_in h
  exact off_of (S b o h1) (hz b o h1 h2)
theorem off_sub : Same (off Z H) H := fun _ _ h => (off_in h).1
mutual
theorem Rp.off (hm : ∀ b, Z b → Mut (H b)) : ∀ {d : D} {v : V}, Rp K H d v → imm d = true → Rp K (off Z H) d v
  | _, _, .int i, _ => .int i
  | _, _, .bl b, _ => .bl b
  | _, _, .non, _ => .non
  | _, _, .str x, _ => .str x
  | _, _, .ty n, _ => .ty n
  | _, _, .tup h r, e => .tup (off_of h fun z => by have := hm _ z; rw [h] at this; exact this) (Rps.off hm r (by unfold imm at e; exact e))
  | _, _, .lst _ _, e => by unfold imm at e; cases e
  | _, _, .scr _, e => by unfold imm at e; cases e
  | _, _, .dK _, e => by unfold imm at e; cases e
  | _, _, .dT _, e => by unfold imm at e; cases e
  | _, _, .loc _, e => by unfold imm at e; cases e
  | _, _, .err _, e => by unfold imm at e; cases e
  | _, _, .ref a, _ => .ref a
  | _, _, .ins _ _ _, e => by unfold imm at e; cases e
theorem Rps.off (hm : ∀ b, Z b → Mut (H b)) : ∀ {ds : List D} {vs : List V}, Rps K H ds vs → imms ds = true → Rps K (off Z H) ds vs
  | _, _, .nil, _ => .nil
  | _, _, .cons h r, e => by
    unfold imms at e
    rw [Bool.and_eq_true] at e
    exact .cons (Rp.off hm h e.1) (Rps.off hm r e.2)
end
end

/-! ### what a slot or an expression holds: lent by the caller, shared for good, one's own list, a look at one's own list, a passing look -/
inductive O where
  | lst (ds : List D) | dK (kvs : List (Key × V)) | dT (kvs : List (List Key × V)) | ins (a C : Addr) (xs : List Str) (cs : List (Addr × List D))
instance : Coe (List D) O := ⟨O.lst⟩
noncomputable def O.d : O → D
  | .lst ds => .lst ds | .dK kvs => .dK kvs | .dT kvs => .dT kvs | .ins _ C xs cs => .ins C xs (cs.map fun c => .lst c.2)
/-- the places that belong to it -/
noncomputable def O.adr (a : Addr) : O → Addr → Prop
  | .lst _ => fun b => b = a
  | .dK _ => fun b => b = a
  | .dT _ => fun b => b = a
  | .ins x _ _ cs => fun b => b = x ∨ ∃ c ∈ cs, b = c.1
/-- the thing at a, its parts in F -/
noncomputable def OR (K : PySem.W.Frag) (F H : Hp) (a : Addr) : O → Prop
  | .lst ds => ∃ vs, H a = some (.lst vs) ∧ Rps K F ds vs
  | .dK kvs => H a = some (.dK kvs)
  | .dT kvs => H a = some (.dT kvs)
  | .ins x C xs cs => a = x ∧ xs.length = cs.length ∧ (∃ dx, H a = some (.ins C dx (xs.zip (cs.map fun c => V.ref c.1)))) ∧ (∀ c ∈ cs, ∃ vs, H c.1 = some (.lst vs) ∧ Rps K F c.2 vs) ∧ (cs.map (·.1)).Nodup
theorem OR.mono {K : PySem.W.Frag} {F F' H H' : Hp} {a : Addr} {o : O} (S1 : Same F F') (S2 : ∀ b, o.adr a b → ∀ x, H b = some x → H' b = some x) (h : OR K F H a o) : OR K F' H' a o := by
  cases o with
  | lst ds => obtain ⟨vs, h1, h2⟩ := h; exact ⟨vs, S2 _ rfl _ h1, Rps.mono S1 h2⟩
  | dK kvs => exact S2 _ rfl _ h
  | dT kvs => exact S2 _ rfl _ h
  | ins x C xs cs =>
    obtain ⟨e, l, ⟨dx, h1⟩, h2, h3⟩ := h
    exact ⟨e, l, ⟨dx, S2 _ (.inl e) _ h1⟩, fun c hc => let ⟨vs, q1, q2⟩ := h2 c hc; ⟨vs, S2 _ (.inr ⟨c, hc, rfl⟩) _ q1, Rps.mono S1 q2⟩, h3⟩
theorem rps_cells {K : PySem.W.Frag} {F : Hp} : ∀ {cs : List (Addr × List D)}, (∀ c ∈ cs, ∃ vs, F c.1 = some (.lst vs) ∧ Rps K F c.2 vs) → Rps K F (cs.map fun c => .lst c.2) (cs.map fun c => V.ref c.1)
  | [], _ => .nil
  | c :: cs, h => let ⟨_, q1, q2⟩ := h c List.mem_cons_self; .cons (.lst q1 q2) (rps_cells fun c' hc => h c' (List.mem_cons_of_mem _ hc))
theorem OR.rpIn {K : PySem.W.Frag} {F F' H : Hp} {a : Addr} {o : O} (S1 : Same F F') (S2 : ∀ b, o.adr a b → ∀ x, H b = some x → F' b = some x) (h : OR K F H a o) : Rp K F' o.d (.ref a) := by
  cases o with
  | lst ds => obtain ⟨vs, h1, h2⟩ := h; exact .lst (S2 _ rfl _ h1) (Rps.mono S1 h2)
  | dK kvs => exact .dK (S2 _ rfl _ h)
  | dT kvs => exact .dT (S2 _ rfl _ h)
  | ins x C xs cs =>
    obtain ⟨e, l, ⟨dx, h1⟩, h2, h3⟩ := h
    exact .ins (S2 _ (.inl e) _ h1) (by rw [List.length_map]; exact l) (rps_cells fun c hc => let ⟨vs, q1, q2⟩ := h2 c hc; ⟨vs, S2 _ (.inr ⟨c, hc, rfl⟩) _ q1, Rps.mono S1 q2⟩)
theorem OR.rp {K : PySem.W.Frag} {F H : Hp} {a : Addr} {o : O} (S1 : Same F H) (h : OR K F H a o) : Rp K H o.d (.ref a) := h.rpIn S1 fun _ _ _ e => e
theorem OR.mut {K : PySem.W.Frag} {F H : Hp} {a : Addr} {o : O} (h : OR K F H a o) : ∀ b, o.adr a b → Mut (H b) := by
  cases o with
  | lst ds => obtain ⟨vs, h1, h2⟩ := h; intro b e; rw [show b = a from e, h1]; trivial
  | dK kvs => intro b e; rw [show b = a from e, show H a = some (.dK kvs) from h]; trivial
  | dT kvs => intro b e; rw [show b = a from e, show H a = some (.dT kvs) from h]; trivial
  | ins x C xs cs =>
    obtain ⟨e, l, ⟨dx, h1⟩, h2, h3⟩ := h
    intro b hb
    rcases hb with hb | ⟨c, hc, hb⟩
    · rw [show b = a from hb.trans e.symm, h1]; trivial
    · obtain ⟨vs, q1, _⟩ := h2 c hc
      rw [hb, q1]; trivial
inductive S where
  | bor (d : D) | sh (d : D) | own (o : O) | view (o : O) | tmp (d : D)
noncomputable abbrev Γ := List (Option S)
/-- without the place that it is said to have -/
noncomputable def D.strip : D → D
  | .loc _ d => d | d => d
theorem Rp.strip {K : PySem.W.Frag} {H : Hp} {d : D} {v : V} (h : Rp K H d v) : Rp K H d.strip v := by
  cases h with
  | loc h => exact h
  | int i => exact .int i
  | bl b => exact .bl b
  | non => exact .non
  | str x => exact .str x
  | ty n => exact .ty n
  | tup h r => exact .tup h r
  | lst h r => exact .lst h r
  | scr h => exact .scr h
  | dK h => exact .dK h
  | dT h => exact .dT h
  | err h => exact .err h
  | ref a => exact .ref a
  | ins h e r => exact .ins h e r
noncomputable def S.d : S → D
  | .bor d => d.strip | .sh d => d | .own o => o.d | .view o => o.d | .tmp d => d
noncomputable def arg (d : D) : S := match imm d with | true => .sh d | false => .bor d
noncomputable def argT (d : D) : S := match imm d with | true => .sh d | false => .tmp d
/-- a part of it -/
noncomputable def S.sub : S → D → S
  | .bor _, e => arg e | .tmp _, e => argT e | _, e => .sh e
/-- as a part of something new -/
noncomputable def S.shd : S → Option D
  | .sh d => some d | .own o => some o.d
  | .bor d => match imm d with | true => some d | false => none
  | .tmp d => match imm d with | true => some d | false => none
  | .view _ => none
/-- as a name's value -/
noncomputable def S.slot : S → Option S
  | .view _ => none | .bor d => some (.bor d) | .sh d => some (.sh d) | .own ds => some (.own ds)
  | .tmp d => match imm d with | true => some (.sh d) | false => none
noncomputable def isOwn (γ : Γ) (σ : L2.St) (b : Addr) : Prop := ∃ (i : Nat) (ds : O) (a : Addr), γ[i]? = some (some (.own ds)) ∧ σ[i]? = some (some (.ref a)) ∧ ds.adr a b
noncomputable def zof (B : Addr → Prop) (γ : Γ) (σ : L2.St) : Addr → Prop := fun b => B b ∨ isOwn γ σ b
noncomputable def SV (K : PySem.W.Frag) (Z : Addr → Prop) (H0 H : Hp) : S → V → Prop
  | .bor d, v => Rp K H0 d v
  | .sh d, v => Rp K (off Z H) d v
  | .own o, v => ∃ a, v = .ref a ∧ (∀ b, o.adr a b → H0 b = none) ∧ OR K (off Z H) H a o
  | _, _ => False
noncomputable def TV (K : PySem.W.Frag) (Z : Addr → Prop) (H0 H H' : Hp) : S → V → Prop
  | .bor d, v => Rp K H0 d v
  | .sh d, v => Rp K (off Z H') d v
  | .own o, v => ∃ a, v = .ref a ∧ (∀ b, o.adr a b → H b = none) ∧ OR K (off (fun b => Z b ∨ o.adr a b) H') H' a o
  | .view o, v => ∃ a, v = .ref a ∧ OR K (off Z H') H' a o
  | .tmp d, v => Rp K H' d v
structure EnvR (K : PySem.W.Frag) (H0 : Hp) (B : Addr → Prop) (H : Hp) (σ : L2.St) (γ : Γ) : Prop where
  same : Same H0 H
  len : σ.length = γ.length
  bm : ∀ b, B b → Mut (H b)
  own : ∀ (i j : Nat) (a a' : Addr) (ds es : O) (b : Addr), γ[i]? = some (some (.own ds)) → γ[j]? = some (some (.own es)) → σ[i]? = some (some (.ref a)) → σ[j]? = some (some (.ref a')) → ds.adr a b → es.adr a' b → i = j
  slot : ∀ (i : Nat) (s : S), γ[i]? = some (some s) → ∃ v, σ[i]? = some (some v) ∧ SV K (zof B γ σ) H0 H s v
section
variable {K : PySem.W.Frag} {H0 H H1 H' : Hp} {B Z Z' : Addr → Prop} {σ : L2.St} {γ : Γ}
theorem mut_same (S : Same H H') {b : Addr} (h : Mut (H b)) : Mut (H' b) := by
  cases e : H b with
  | none => rw [e] at h; exact h.elim
  | some o => rw [S b o e, ← e]; exact h
theorem mut_some {b : Addr} (h : Mut (H b)) : ∃ o, H b = some o := by
  cases e : H b with
  | none => rw [e] at h; exact h.elim
  | some o => exact ⟨o, rfl⟩
theorem EnvR.grow (E : EnvR K H0 B H σ γ) (S : Same H H') : EnvR K H0 B H' σ γ where
  same := E.same.trans S
  len := E.len
  bm b h := mut_same S (E.bm b h)
  own := E.own
  slot i s h := by
    obtain ⟨v, h1, h2⟩ := E.slot i s h
    refine ⟨v, h1, ?_⟩
    cases s with
    | bor d => exact h2
    | sh d => exact Rp.mono (off_mono S fun _ _ _ z => z) h2
    | own ds =>
      obtain ⟨a, e1, e3, e4⟩ := h2
      exact ⟨a, e1, e3, e4.mono (off_mono S fun _ _ _ z => z) fun b _ x => S b x⟩
    | view ds => exact h2
    | tmp d => exact h2
theorem EnvR.zm (E : EnvR K H0 B H σ γ) : ∀ b, zof B γ σ b → Mut (H b) := fun b h => by
  rcases h with h | ⟨i, ds, x, h1, h2, hb⟩
  · exact E.bm b h
  · obtain ⟨v, e1, a, e2, e3, e4⟩ := E.slot i _ h1
    rw [h2] at e1
    cases e1
    cases e2
    exact e4.mut b hb
theorem TV.rp {s : S} {v : V} (h0 : Same H0 H') (h : TV K Z H0 H H' s v) : Rp K H' s.d v := by
  cases s with
  | bor d => exact (Rp.mono h0 h).strip
  | sh d => exact Rp.mono off_sub h
  | own ds =>
    obtain ⟨a, rfl, _, r⟩ := h
    exact r.rp off_sub
  | view ds =>
    obtain ⟨a, rfl, r⟩ := h
    exact r.rp off_sub
  | tmp d => exact h
/-- a value stays what it is while the heap grows -/
theorem TV.grow {s : S} {v : V} (S1 : Same H' H1) (h : TV K Z H0 H H' s v) : TV K Z H0 H H1 s v := by
  cases s with
  | bor d => exact h
  | sh d => exact Rp.mono (off_mono S1 fun _ _ _ z => z) h
  | own ds =>
    obtain ⟨a, rfl, e0, r⟩ := h
    exact ⟨a, rfl, e0, r.mono (off_mono S1 fun _ _ _ z => z) fun b _ x => S1 b x⟩
  | view ds =>
    obtain ⟨a, rfl, r⟩ := h
    exact ⟨a, rfl, r.mono (off_mono S1 fun _ _ _ z => z) fun b _ x => S1 b x⟩
  | tmp d => exact Rp.mono S1 h
/-- counted from an earlier heap, apart from less -/
theorem TV.weak {s : S} {v : V} (S1 : Same H H1) (hz : ∀ b, Z b → Z' b) (h : TV K Z' H0 H1 H' s v) : TV K Z H0 H H' s v := by
  cases s with
  | bor d => exact h
  | sh d => exact Rp.mono (off_mono (Same.refl _) fun b _ _ z y => z (hz b y)) h
  | own ds =>
    obtain ⟨a, rfl, e0, r⟩ := h
    exact ⟨a, rfl, fun b hb => S1.free (e0 b hb), r.mono (off_mono (Same.refl _) fun b _ _ z y => z (y.imp (hz b) id)) fun _ _ _ q => q⟩
  | view ds =>
    obtain ⟨a, rfl, r⟩ := h
    exact ⟨a, rfl, r.mono (off_mono (Same.refl _) fun b _ _ z y => z (hz b y)) fun _ _ _ q => q⟩
  | tmp d => exact h
theorem TV.shd {s : S} {v : V} {d : D} (h0 : Same H0 H') (hm : ∀ b, Z b → Mut (H b)) (S1 : Same H H') (h : TV K Z H0 H H' s v) (e : s.shd = some d) : Rp K (off Z H') d v := by
  have hm' : ∀ b, Z b → Mut (H' b) := fun b z => mut_same S1 (hm b z)
  cases s with
  | bor d' =>
    unfold S.shd at e
    cases q : imm d' with
    | false => simp [q] at e
    | true =>
      simp [q] at e
      subst e
      exact Rp.off hm' (Rp.mono h0 h) q
  | sh d' => cases e; exact h
  | own ds =>
    cases e
    obtain ⟨a, rfl, e0, r⟩ := h
    exact r.rpIn (off_mono (Same.refl _) fun b _ _ z y => z (.inl y)) fun b hb x e => off_of e fun z => by have := hm _ z; rw [e0 b hb] at this; exact this
  | view ds => cases e
  | tmp d' =>
    unfold S.shd at e
    cases q : imm d' with
    | false => simp [q] at e
    | true =>
      simp [q] at e
      subst e
      exact Rp.off hm' h q
theorem argR {d : D} {v : V} (hm : ∀ b, Z b → Mut (H' b)) (h0 : Same H0 H') (h : Rp K H0 d v) : TV K Z H0 H H' (arg d) v := by
  unfold arg
  cases q : imm d with
  | true => exact Rp.off hm (Rp.mono h0 h) q
  | false => exact h
theorem argTR {d : D} {v : V} (hm : ∀ b, Z b → Mut (H' b)) (h : Rp K H' d v) : TV K Z H0 H H' (argT d) v := by
  unfold argT
  cases q : imm d with
  | true => exact Rp.off hm h q
  | false => exact h
theorem Rp.lst_inv {ds : List D} {v : V} (h : Rp K H (.lst ds) v) : ∃ a vs, v = .ref a ∧ H a = some (.lst vs) ∧ Rps K H ds vs := by
  cases h with
  | lst h r => exact ⟨_, _, rfl, h, r⟩
theorem Rp.tup_inv {ds : List D} {v : V} (h : Rp K H (.tup ds) v) : ∃ a vs, v = .ref a ∧ H a = some (.tup vs) ∧ Rps K H ds vs := by
  cases h with
  | tup h r => exact ⟨_, _, rfl, h, r⟩
/-- how a list or a tuple is seen through a value -/
theorem TV.part {s : S} {v : V} (h0 : Same H0 H') (hm : ∀ b, Z b → Mut (H b)) (S1 : Same H H') (h : TV K Z H0 H H' s v) :
    (∀ ds, s.d = .lst ds → ∃ a vs, v = .ref a ∧ H' a = some (.lst vs) ∧ vs.length = ds.length ∧ ∀ (i : Nat) d, ds[i]? = some d → ∃ u, vs[i]? = some u ∧ TV K Z H0 H H' (s.sub d) u) ∧
    (∀ ds, s.d = .tup ds → ∃ a vs, v = .ref a ∧ H' a = some (.tup vs) ∧ vs.length = ds.length ∧ ∀ (i : Nat) d, ds[i]? = some d → ∃ u, vs[i]? = some u ∧ TV K Z H0 H H' (s.sub d) u) := by
  have hm' : ∀ b, Z b → Mut (H' b) := fun b z => mut_same S1 (hm b z)
  cases s with
  | bor d =>
    have h := Rp.strip h
    refine ⟨fun ds e => ?_, fun ds e => ?_⟩ <;> rw [show d.strip = _ from e] at h
    · obtain ⟨a, vs, rfl, h, r⟩ := Rp.lst_inv h
      exact ⟨_, _, rfl, h0 _ _ h, r.len, fun i d e => let ⟨u, h1, h2⟩ := r.get e; ⟨u, h1, argR hm' h0 h2⟩⟩
    · obtain ⟨a, vs, rfl, h, r⟩ := Rp.tup_inv h
      exact ⟨_, _, rfl, h0 _ _ h, r.len, fun i d e => let ⟨u, h1, h2⟩ := r.get e; ⟨u, h1, argR hm' h0 h2⟩⟩
  | sh d =>
    refine ⟨fun ds e => ?_, fun ds e => ?_⟩ <;> (have e' : d = _ := e; subst e')
    · obtain ⟨a, vs, rfl, h, r⟩ := Rp.lst_inv h
      exact ⟨_, _, rfl, off_sub _ _ h, r.len, fun i d e => r.get e⟩
    · obtain ⟨a, vs, rfl, h, r⟩ := Rp.tup_inv h
      exact ⟨_, _, rfl, off_sub _ _ h, r.len, fun i d e => r.get e⟩
  | own es =>
    cases es with
    | lst es =>
      refine ⟨fun ds e => ?_, fun ds e => by cases e⟩
      cases e
      obtain ⟨a, rfl, e0, vs, e, r⟩ := h
      exact ⟨a, vs, rfl, e, r.len, fun i d e => let ⟨u, h1, h2⟩ := r.get e; ⟨u, h1, Rp.mono (off_mono (Same.refl _) fun b _ _ z y => z (.inl y)) h2⟩⟩
    | dK es => exact ⟨(fun ds e => by cases e), (fun ds e => by cases e)⟩
    | dT es => exact ⟨(fun ds e => by cases e), (fun ds e => by cases e)⟩
    | ins x C xs cs => exact ⟨(fun ds e => by cases e), (fun ds e => by cases e)⟩
  | view es =>
    cases es with
    | lst es =>
      refine ⟨fun ds e => ?_, fun ds e => by cases e⟩
      cases e
      obtain ⟨a, rfl, vs, e, r⟩ := h
      exact ⟨a, vs, rfl, e, r.len, fun i d e => r.get e⟩
    | dK es => exact ⟨(fun ds e => by cases e), (fun ds e => by cases e)⟩
    | dT es => exact ⟨(fun ds e => by cases e), (fun ds e => by cases e)⟩
    | ins x C xs cs => exact ⟨(fun ds e => by cases e), (fun ds e => by cases e)⟩
  | tmp d =>
    refine ⟨fun ds e => ?_, fun ds e => ?_⟩ <;> (have e' : d = _ := e; subst e')
    · obtain ⟨a, vs, rfl, h, r⟩ := Rp.lst_inv h
      exact ⟨_, _, rfl, h, r.len, fun i d e => let ⟨u, h1, h2⟩ := r.get e; ⟨u, h1, argTR hm' h2⟩⟩
    · obtain ⟨a, vs, rfl, h, r⟩ := Rp.tup_inv h
      exact ⟨_, _, rfl, h, r.len, fun i d e => let ⟨u, h1, h2⟩ := r.get e; ⟨u, h1, argTR hm' h2⟩⟩
/-- what stays when a name gets a value: all that was apart from one's own -/
noncomputable def Fr (B : Addr → Prop) (H : Hp) (σ : L2.St) (γ : Γ) (H' : Hp) (σ' : L2.St) (γ' : Γ) : Prop := ∀ b o, H b = some o → ¬ zof B γ σ b → H' b = some o ∧ ¬ zof B γ' σ' b
theorem Fr.refl : Fr B H σ γ H σ γ := fun _ _ h z => ⟨h, z⟩
theorem Fr.trans {H1 H2 : Hp} {σ1 σ2 : L2.St} {γ1 γ2 : Γ} (a : Fr B H σ γ H1 σ1 γ1) (b : Fr B H1 σ1 γ1 H2 σ2 γ2) : Fr B H σ γ H2 σ2 γ2 := fun x o h z => let ⟨h1, z1⟩ := a x o h z; b x o h1 z1
theorem Fr.grow (S1 : Same H H') : Fr B H σ γ H' σ γ := fun _ _ h z => ⟨S1 _ _ h, z⟩
theorem Fr.off {H' : Hp} {σ' : L2.St} {γ' : Γ} (f : Fr B H σ γ H' σ' γ') : Same (off (zof B γ σ) H) (Pu.off (zof B γ' σ') H') := fun b o h => by
  obtain ⟨h1, h2⟩ := off_in h
  obtain ⟨h3, h4⟩ := f b o h1 h2
  exact off_of h3 h4
theorem set_get {α : Type} {l : List α} {i j : Nat} {x y : α} (h : (l.set i x)[j]? = some y) : (j = i ∧ x = y ∧ i < l.length) ∨ (j ≠ i ∧ l[j]? = some y) := by
  rw [List.getElem?_set] at h
  by_cases e : i = j
  · subst e
    rw [if_pos rfl] at h
    by_cases e2 : i < l.length
    · rw [if_pos e2] at h
      exact .inl ⟨rfl, Option.some.inj h, e2⟩
    · rw [if_neg e2] at h; cases h
  · rw [if_neg e] at h
    exact .inr ⟨fun z => e z.symm, h⟩
theorem set_at {α : Type} {l : List α} {i : Nat} {x : α} (h : i < l.length) : (l.set i x)[i]? = some x := by rw [List.getElem?_set_self h]
theorem set_ne {α : Type} {l : List α} {i j : Nat} {x : α} (h : j ≠ i) : (l.set i x)[j]? = l[j]? := List.getElem?_set_ne fun z => h z.symm
/-- names that are let go: what is known of the i-th is forgotten -/
theorem EnvR.drop (E : EnvR K H0 B H σ γ) (i : Nat) : EnvR K H0 B H σ (γ.set i none) ∧ Fr B H σ γ H σ (γ.set i none) := by
  have hz : ∀ b, zof B (γ.set i none) σ b → zof B γ σ b := fun b z => z.imp id fun ⟨j, ds, a, h1, h2, h3⟩ => by
    rcases set_get h1 with ⟨_, e, _⟩ | ⟨_, e⟩
    · cases e
    · exact ⟨j, ds, a, e, h2, h3⟩
  refine ⟨⟨E.same, by rw [List.length_set]; exact E.len, E.bm, fun k j a a' ds es b h1 h2 => ?_, fun k s h => ?_⟩, fun b o h z => ⟨h, fun y => z (hz b y)⟩⟩
  · rcases set_get h1 with ⟨_, e, _⟩ | ⟨_, e1⟩
    · cases e
    · rcases set_get h2 with ⟨_, e, _⟩ | ⟨_, e2⟩
      · cases e
      · exact E.own k j a a' ds es b e1 e2
  · rcases set_get h with ⟨_, e, _⟩ | ⟨_, e⟩
    · cases e
    · obtain ⟨v, h1, h2⟩ := E.slot k s e
      refine ⟨v, h1, ?_⟩
      have S1 : Same (Pu.off (zof B γ σ) H) (Pu.off (zof B (γ.set i none) σ) H) := off_mono (Same.refl _) fun b _ _ z y => z (hz b y)
      cases s with
      | bor d => exact h2
      | sh d => exact Rp.mono S1 h2
      | own ds =>
        obtain ⟨a, e1, e3, e4⟩ := h2
        exact ⟨a, e1, e3, e4.mono S1 fun _ _ _ q => q⟩
      | view ds => exact h2
      | tmp d => exact h2
/-- a name gets a value -/
theorem EnvR.put {i : Nat} {s s' : S} {v : V} (E : EnvR K H0 B H σ γ) (S1 : Same H H') (h : TV K (zof B γ σ) H0 H H' s v) (e : s.slot = some s') (hi : i < γ.length) :
    EnvR K H0 B H' (σ.set i (some v)) (γ.set i (some s')) ∧ Fr B H σ γ H' (σ.set i (some v)) (γ.set i (some s')) := by
  have hiσ : i < σ.length := by rw [E.len]; exact hi
  have E' := E.grow S1
  -- the new part's own addresses
  have isown : ∀ ds, s' = .own ds → s = .own ds := fun ds q => by
    subst q
    cases s with
    | own es => cases e; rfl
    | bor d => cases e
    | sh d => cases e
    | view d => cases e
    | tmp d => unfold S.slot at e; cases q : imm d <;> simp [q] at e
  have hown : ∀ b, zof B (γ.set i (some s')) (σ.set i (some v)) b → zof B γ σ b ∨ ∃ ds a, s = .own ds ∧ v = .ref a ∧ ds.adr a b := fun b z => by
    rcases z with z | ⟨j, ds, a, h1, h2, h3⟩
    · exact .inl (.inl z)
    · rcases set_get h1 with ⟨ej, e1, _⟩ | ⟨nj, e1⟩
      · subst ej
        rw [set_at hiσ] at h2
        have : s' = .own ds := Option.some.inj e1
        exact .inr ⟨ds, a, isown ds this, Option.some.inj (Option.some.inj h2), h3⟩
      · rw [set_ne nj] at h2
        exact .inl (.inr ⟨j, ds, a, e1, h2, h3⟩)
  have fresh : ∀ ds a b, s = .own ds → v = .ref a → ds.adr a b → H b = none := fun ds a b es ev hb => by
    subst es
    obtain ⟨a', e1, e0, _⟩ := h
    rw [ev] at e1
    cases e1
    exact e0 b hb
  have hz : ∀ b o, H b = some o → ¬ zof B γ σ b → ¬ zof B (γ.set i (some s')) (σ.set i (some v)) b := fun b o hb z y => by
    rcases hown b y with y | ⟨ds, a, y1, y2, y3⟩
    · exact z y
    · rw [fresh ds a b y1 y2 y3] at hb
      cases hb
  have So : Same (off (zof B γ σ) H) (Pu.off (zof B (γ.set i (some s')) (σ.set i (some v))) H') := off_mono S1 hz
  refine ⟨⟨E'.same, by rw [List.length_set, List.length_set]; exact E.len, E'.bm, fun k j a a' ds es b h1 h2 h3 h4 h5 h6 => ?_, fun k u hk => ?_⟩, fun b o hb z => ⟨S1 b o hb, hz b o hb z⟩⟩
  · have old : ∀ (k : Nat) (ds : O) (a b : Addr), γ[k]? = some (some (.own ds)) → σ[k]? = some (some (.ref a)) → ds.adr a b → ∃ o, H b = some o := fun k ds a b e1 e2 e3 => by
      obtain ⟨u, q1, a', q2, _, q3⟩ := E.slot k _ e1
      rw [e2] at q1
      cases q1
      cases q2
      exact mut_some (q3.mut b e3)
    rcases set_get h1 with ⟨ek, e1, _⟩ | ⟨nk, e1⟩
    · rcases set_get h2 with ⟨ej, e2, _⟩ | ⟨nj, e2⟩
      · rw [ek, ej]
      · subst ek
        rw [set_at hiσ] at h3
        rw [set_ne nj] at h4
        obtain ⟨o, ho⟩ := old j es a' b e2 h4 h6
        rw [fresh ds a b (isown ds (Option.some.inj e1)) (Option.some.inj (Option.some.inj h3)) h5] at ho
        cases ho
    · rcases set_get h2 with ⟨ej, e2, _⟩ | ⟨nj, e2⟩
      · subst ej
        rw [set_at hiσ] at h4
        rw [set_ne nk] at h3
        obtain ⟨o, ho⟩ := old k ds a b e1 h3 h5
        rw [fresh es a' b (isown es (Option.some.inj e2)) (Option.some.inj (Option.some.inj h4)) h6] at ho
        cases ho
      · rw [set_ne nk] at h3
        rw [set_ne nj] at h4
        exact E.own k j a a' ds es b e1 e2 h3 h4 h5 h6
  · rcases set_get hk with ⟨ek, e1, _⟩ | ⟨nk, e1⟩
    · subst ek
      have : u = s' := (Option.some.inj e1).symm
      subst this
      refine ⟨v, set_at hiσ, ?_⟩
      cases s with
      | own ds =>
        cases e
        obtain ⟨a, rfl, e0, r⟩ := h
        refine ⟨a, rfl, fun b hb => E.same.free (e0 b hb), r.mono (off_mono (Same.refl _) fun b o _ z y => ?_) fun _ _ _ q => q⟩
        rcases hown b y with y | ⟨_, _, y1, y, y2⟩
        · exact z (.inl y)
        · cases y; cases y1; exact z (.inr y2)
      | sh d =>
        cases e
        refine Rp.mono (off_mono (Same.refl _) fun b o _ z y => ?_) h
        rcases hown b y with y | ⟨_, _, y, _⟩
        · exact z y
        · cases y
      | bor d => cases e; exact h
      | view d => cases e
      | tmp d =>
        unfold S.slot at e
        cases q : imm d with
        | false => simp [q] at e
        | true =>
          simp [q] at e
          subst e
          refine Rp.off (fun b y => ?_) h q
          rcases hown b y with y | ⟨_, _, y, _⟩
          · exact mut_same S1 (E.zm b y)
          · cases y
    · obtain ⟨w, q1, q2⟩ := E.slot k u e1
      refine ⟨w, by rw [set_ne nk]; exact q1, ?_⟩
      cases u with
      | bor d => exact q2
      | sh d => exact Rp.mono So q2
      | own ds =>
        obtain ⟨a, e1, e3, e4⟩ := q2
        exact ⟨a, e1, e3, e4.mono So fun b _ x => S1 b x⟩
      | view ds => exact q2
      | tmp d => exact q2
/-- one's own list is shared from now on -/
noncomputable def frz (i : Nat) (γ : Γ) : Γ := match γ[i]? with
  | some (some (.own o)) => γ.set i (some (.sh o.d))
  | _ => γ
theorem EnvR.frz (E : EnvR K H0 B H σ γ) (hB : ∀ b, B b → ∃ o, H0 b = some o) (i : Nat) : EnvR K H0 B H σ (frz i γ) ∧ Fr B H σ γ H σ (Pu.frz i γ) := by
  unfold Pu.frz
  split
  · rename_i ds hi
    have hlt : i < γ.length := (List.getElem?_eq_some_iff.mp hi).1
    have hz : ∀ b, zof B (γ.set i (some (.sh ds.d))) σ b → zof B γ σ b := fun b z => z.imp id fun ⟨j, es, a, h1, h2, h3⟩ => by
      rcases set_get h1 with ⟨_, e, _⟩ | ⟨_, e⟩
      · cases e
      · exact ⟨j, es, a, e, h2, h3⟩
    have S1 : Same (Pu.off (zof B γ σ) H) (Pu.off (zof B (γ.set i (some (.sh ds.d))) σ) H) := off_mono (Same.refl _) fun b _ _ z y => z (hz b y)
    refine ⟨⟨E.same, by rw [List.length_set]; exact E.len, E.bm, fun k j a a' es es' b h1 h2 => ?_, fun k s h => ?_⟩, fun b o h z => ⟨h, fun y => z (hz b y)⟩⟩
    · rcases set_get h1 with ⟨_, e, _⟩ | ⟨_, e1⟩
      · cases e
      · rcases set_get h2 with ⟨_, e, _⟩ | ⟨_, e2⟩
        · cases e
        · exact E.own k j a a' es es' b e1 e2
    · rcases set_get h with ⟨ek, e, _⟩ | ⟨nk, e⟩
      · subst ek
        have := Option.some.inj e
        subst this
        obtain ⟨v, h1, a, rfl, h3, h4⟩ := E.slot k _ hi
        refine ⟨_, h1, h4.rpIn S1 fun b hb x h2 => off_of h2 fun z => ?_⟩
        rcases z with z | ⟨j, es, a', e1, e2, e3⟩
        · obtain ⟨o, ho⟩ := hB b z
          rw [h3 b hb] at ho
          cases ho
        · rcases set_get e1 with ⟨_, q, _⟩ | ⟨nj, q⟩
          · cases q
          · exact nj (E.own j k a' a es ds b q hi e2 h1 e3 hb)
      · obtain ⟨v, h1, h2⟩ := E.slot k s e
        refine ⟨v, h1, ?_⟩
        cases s with
        | bor d => exact h2
        | sh d => exact Rp.mono S1 h2
        | own ds =>
          obtain ⟨a, e1, e3, e4⟩ := h2
          exact ⟨a, e1, e3, e4.mono S1 fun _ _ _ q => q⟩
        | view ds => exact h2
        | tmp d => exact h2
  · exact ⟨E, Fr.refl⟩
/-- one's own thing changes, and may get new places -/
theorem EnvR.change {i : Nat} {a : Addr} {o o' : O} (E : EnvR K H0 B H σ γ) (hi : γ[i]? = some (some (.own o))) (ha : σ[i]? = some (some (.ref a)))
    (hH : ∀ b x, H b = some x → ¬ o.adr a b → H' b = some x) (hm : ∀ b, o.adr a b → Mut (H' b)) (hadr : ∀ b, o'.adr a b → o.adr a b ∨ H b = none) (r : OR K (Pu.off (zof B (γ.set i (some (.own o'))) σ) H') H' a o') :
    EnvR K H0 B H' σ (γ.set i (some (.own o'))) ∧ Fr B H σ γ H' σ (γ.set i (some (.own o'))) := by
  have hlt : i < γ.length := (List.getElem?_eq_some_iff.mp hi).1
  obtain ⟨v, h1, a', rfl, h3, h4⟩ := E.slot i _ hi
  rw [ha] at h1
  cases h1
  have za : ∀ b, o.adr a b → zof B γ σ b := fun b hb => .inr ⟨i, o, a, hi, ha, hb⟩
  have hz : ∀ b x, H b = some x → zof B (γ.set i (some (.own o'))) σ b → zof B γ σ b := fun b x hx z => by
    rcases z with z | ⟨j, fs, a', e1, e2, e3⟩
    · exact .inl z
    · rcases set_get e1 with ⟨ej, q, _⟩ | ⟨_, e⟩
      · subst ej
        cases q
        rw [ha] at e2
        cases e2
        rcases hadr b e3 with k | k
        · exact za b k
        · rw [k] at hx; cases hx
      · exact .inr ⟨j, fs, a', e, e2, e3⟩
  have S1 : Same (Pu.off (zof B γ σ) H) (Pu.off (zof B (γ.set i (some (.own o'))) σ) H') := fun b x h => by
    obtain ⟨q1, q2⟩ := off_in h
    exact off_of (hH b x q1 fun k => q2 (za b k)) fun z => q2 (hz b x q1 z)
  have old : ∀ (k : Nat) (ds : O) (a b : Addr), γ[k]? = some (some (.own ds)) → σ[k]? = some (some (.ref a)) → ds.adr a b → ∃ o, H b = some o := fun k ds a b e1 e2 e3 => by
    obtain ⟨u, q1, a', q2, _, q3⟩ := E.slot k _ e1
    rw [e2] at q1
    cases q1
    cases q2
    exact mut_some (q3.mut b e3)
  refine ⟨⟨fun b x h => ?_, by rw [List.length_set]; exact E.len, fun b hb => ?_, fun k j x x' fs fs' b e1 e2 e3 e4 e5 e6 => ?_, fun k s h => ?_⟩, fun b x h z => ⟨?_, fun y => z (hz b x h y)⟩⟩
  · exact hH b x (E.same b x h) fun k => by rw [h3 b k] at h; cases h
  · by_cases k : o.adr a b
    · exact hm b k
    · have := E.bm b hb
      obtain ⟨x, hx⟩ := mut_some this
      rw [hH b x hx k, ← hx]
      exact this
  · rcases set_get e1 with ⟨ek, q1, _⟩ | ⟨nk, q1⟩
    · rcases set_get e2 with ⟨ej, _, _⟩ | ⟨nj, q2⟩
      · rw [ek, ej]
      · subst ek
        cases q1
        rw [ha] at e3
        cases e3
        rcases hadr b e5 with w | w
        · exact E.own k j _ _ _ _ b hi q2 ha e4 w e6
        · obtain ⟨u, hu⟩ := old j fs' x' b q2 e4 e6
          rw [w] at hu; cases hu
    · rcases set_get e2 with ⟨ej, q2, _⟩ | ⟨nj, q2⟩
      · subst ej
        cases q2
        rw [ha] at e4
        cases e4
        rcases hadr b e6 with w | w
        · exact E.own k j _ _ _ _ b q1 hi e3 ha e5 w
        · obtain ⟨u, hu⟩ := old k fs x b q1 e3 e5
          rw [w] at hu; cases hu
      · exact E.own k j x x' fs fs' b q1 q2 e3 e4 e5 e6
  · rcases set_get h with ⟨ek, e, _⟩ | ⟨nk, e⟩
    · subst ek
      have := Option.some.inj e
      subst this
      exact ⟨_, ha, a, rfl, fun b hb => (hadr b hb).elim (h3 b) fun w => E.same.free w, r⟩
    · obtain ⟨v, q1, q2⟩ := E.slot k s e
      refine ⟨v, q1, ?_⟩
      cases s with
      | bor d => exact q2
      | sh d => exact Rp.mono S1 q2
      | own fs =>
        obtain ⟨x, rfl, e3, e4⟩ := q2
        exact ⟨x, rfl, e3, e4.mono S1 fun b hb y e2 => hH b y e2 fun w => nk (E.own k i x a fs o b e hi q1 ha hb w)⟩
      | view ds => exact q2
      | tmp d => exact q2
  · exact hH b x h fun k => z (za b k)
/-- one's own list changes -/
theorem EnvR.mutate {i : Nat} {a : Addr} {ds es : O} {us : HO} (E : EnvR K H0 B H σ γ) (hi : γ[i]? = some (some (.own ds))) (ha : σ[i]? = some (some (.ref a))) (hu : Mut (some us)) (r : ∀ F H' : Hp, Same (Pu.off (zof B γ σ) H) F → H' a = some us → OR K F H' a es)
    (k1 : ds.adr a = fun b => b = a := by rfl) (k2 : es.adr a = fun b => b = a := by rfl) :
    EnvR K H0 B (upd H a us) σ (γ.set i (some (.own es))) ∧ Fr B H σ γ (upd H a us) σ (γ.set i (some (.own es))) := by
  refine E.change (o := ds) (o' := es) hi ha (fun b x h n => by rw [upd_ne (fun z => n (by rw [k1]; exact z))]; exact h) (fun b h => by rw [k1] at h; rw [show b = a from h, upd_same]; exact hu) (fun b h => .inl (by rw [k1]; rw [k2] at h; exact h)) (r _ _ ?_ upd_same)
  intro b x h
  obtain ⟨q1, q2⟩ := off_in h
  have nb : b ≠ a := fun z => q2 (.inr ⟨i, ds, a, hi, ha, by rw [k1]; exact z⟩)
  refine off_of (by rw [upd_ne nb]; exact q1) fun z => q2 ?_
  rcases z with z | ⟨j, fs, a', e1, e2, e3⟩
  · exact .inl z
  · rcases set_get e1 with ⟨ej, q, _⟩ | ⟨_, e⟩
    · subst ej
      cases q
      rw [ha] at e2
      cases e2
      rw [k2] at e3
      exact absurd e3 nb
    · exact .inr ⟨j, fs, a', e, e2, e3⟩
end
end Pu

namespace Pu
open PySem PySem.Spec PyProof.Rows L2 Own
/-! ### readings without a heap, and what it is that they stand for the others -/
noncomputable abbrev XR := Str → Prop
noncomputable abbrev PTE := Γ → (S → Prop) → XR → Prop
noncomputable abbrev PTT := Γ → (Bool → Prop) → XR → Prop
noncomputable abbrev PTA := Γ → (List S → Prop) → XR → Prop
noncomputable abbrev PTO := Γ → (Option Int → Prop) → XR → Prop
structure PEnds where
  nx : Γ → Prop
  rt : S → Prop
  ex : Γ → Str → Prop
  bk : Γ → Prop := fun _ => False
  ct : Γ → Prop := fun _ => False
  rv : Γ → D → Prop := fun _ _ => False
noncomputable abbrev PTS := PEnds → Γ → Prop
noncomputable abbrev PTG := S → Γ → (Γ → Prop) → Prop
noncomputable abbrev PTGs := List S → Γ → (Γ → Prop) → Prop
inductive TVs (K : PySem.W.Frag) (Z : Addr → Prop) (H0 H H' : Hp) : List S → List V → Prop
  | nil : TVs K Z H0 H H' [] []
  | cons {s : S} {v : V} {ss : List S} {vs : List V} : TV K Z H0 H H' s v → TVs K Z H0 H H' ss vs → TVs K Z H0 H H' (s :: ss) (v :: vs)
section
variable (K : PySem.W.Frag) (mg : Str → Option Value) (E : L2.St → XK)
noncomputable def SndE (t : TE) (p : PTE) : Prop := ∀ (H0 : Hp) (B : Addr → Prop) (H : Hp) (σ : L2.St) (γ : Γ) (R : S → Prop) (X : XR) (Q : VK), EnvR K H0 B H σ γ → p γ R X →
  (∀ s v H', R s → Same H H' → TV K (zof B γ σ) H0 H H' s v → Q v H') → (∀ c H', X c → Same H H' → E σ (.ref (ExcR.clsOf mg c)) none H') → t σ H Q
noncomputable def SndT (t : TT) (p : PTT) : Prop := ∀ (H0 : Hp) (B : Addr → Prop) (H : Hp) (σ : L2.St) (γ : Γ) (R : Bool → Prop) (X : XR) (Q : Bool → Hp → Prop), EnvR K H0 B H σ γ → p γ R X →
  (∀ b H', R b → Same H H' → Q b H') → (∀ c H', X c → Same H H' → E σ (.ref (ExcR.clsOf mg c)) none H') → t σ H Q
noncomputable def SndA (t : TA) (p : PTA) : Prop := ∀ (H0 : Hp) (B : Addr → Prop) (H : Hp) (σ : L2.St) (γ : Γ) (R : List S → Prop) (X : XR) (Q : List V → Hp → Prop), EnvR K H0 B H σ γ → p γ R X →
  (∀ ss vs H', R ss → Same H H' → TVs K (zof B γ σ) H0 H H' ss vs → Q vs H') → (∀ c H', X c → Same H H' → E σ (.ref (ExcR.clsOf mg c)) none H') → t σ H Q
noncomputable def SndO (t : TO) (p : PTO) : Prop := ∀ (H0 : Hp) (B : Addr → Prop) (H : Hp) (σ : L2.St) (γ : Γ) (R : Option Int → Prop) (X : XR) (Q : Option Int → Hp → Prop), EnvR K H0 B H σ γ → p γ R X →
  (∀ o H', R o → Same H H' → Q o H') → (∀ c H', X c → Same H H' → E σ (.ref (ExcR.clsOf mg c)) none H') → t σ H Q
structure EndR (H0 : Hp) (B : Addr → Prop) (H : Hp) (σ : L2.St) (γ : Γ) (R : PEnds) (D : Ends) : Prop where
  nx : ∀ σ' γ' H', R.nx γ' → EnvR K H0 B H' σ' γ' → Fr B H σ γ H' σ' γ' → D.nx σ' H'
  rt : ∀ s v H', R.rt s → Same H0 H' → TV K B H0 H0 H' s v → D.rt v H'
  ex : ∀ σ' γ' c H', R.ex γ' c → EnvR K H0 B H' σ' γ' → Fr B H σ γ H' σ' γ' → E σ' (.ref (ExcR.clsOf mg c)) none H'
  bk : ∀ σ' γ' H', R.bk γ' → EnvR K H0 B H' σ' γ' → Fr B H σ γ H' σ' γ' → D.bk σ' H'
  ct : ∀ σ' γ' H', R.ct γ' → EnvR K H0 B H' σ' γ' → Fr B H σ γ H' σ' γ' → D.ct σ' H'
  rv : ∀ σ' γ' d v H', R.rv γ' d → EnvR K H0 B H' σ' γ' → Fr B H σ γ H' σ' γ' → Rp K (off (zof B γ' σ') H') d v → D.rt v H'
noncomputable def SndS (t : TS) (p : PTS) : Prop := ∀ (H0 : Hp) (B : Addr → Prop) (H : Hp) (σ : L2.St) (γ : Γ) (R : PEnds) (D : Ends), (∀ b, B b → ∃ o, H0 b = some o) → EnvR K H0 B H σ γ → p R γ → EndR K mg E H0 B H σ γ R D → t D σ H
end
section
variable {K : PySem.W.Frag} {mg : Str → Option Value} {E : L2.St → XK} {H0 H H1 H' : Hp} {B Z Z' : Addr → Prop} {σ : L2.St} {γ : Γ}
theorem TVs.weakG {H1 H2 : Hp} : ∀ {ss : List S} {vs : List V}, Same H H1 → TVs K Z H0 H1 H2 ss vs → TVs K Z H0 H H2 ss vs
  | _, _, _, .nil => .nil
  | _, _, S1, .cons h r => .cons (TV.weak S1 (fun _ z => z) h) (TVs.weakG S1 r)
theorem TVs.rps (h0 : Same H0 H') : ∀ {ss : List S} {vs : List V}, TVs K Z H0 H H' ss vs → Rps K H' (ss.map S.d) vs
  | _, _, .nil => .nil
  | _, _, .cons h r => .cons (h.rp h0) (TVs.rps h0 r)
theorem TVs.shd {ds : List D} (h0 : Same H0 H') (hm : ∀ b, Z b → Mut (H b)) (S1 : Same H H') : ∀ {ss : List S} {vs : List V} {ds : List D}, TVs K Z H0 H H' ss vs → ss.map S.shd = ds.map some → Rps K (off Z H') ds vs
  | _, _, [], .nil, _ => .nil
  | _, _, _ :: _, .nil, e => by cases e
  | _, _, [], .cons _ _, e => by cases e
  | _, _, d :: ds, .cons h r, e => by
    rw [List.map_cons, List.map_cons, List.cons.injEq] at e
    exact .cons (h.shd h0 hm S1 e.1) (TVs.shd (ds := ds) h0 hm S1 r e.2)
theorem Rp.int_inv {i : Int} {v : V} (h : Rp K H (.int i) v) : v = .int i := by cases h; rfl
theorem Rp.bl_inv {b : Bool} {v : V} (h : Rp K H (.bl b) v) : v = .bl b := by cases h; rfl
theorem Rp.str_inv {x : Str} {v : V} (h : Rp K H (.str x) v) : v = .str x := by cases h; rfl
theorem Rp.non_inv {v : V} (h : Rp K H .non v) : v = .non := by cases h; rfl
theorem Rp.ty_inv {n : String} {v : V} (h : Rp K H (.ty n) v) : v = .ty n := by cases h; rfl
/-! ### expressions -/
noncomputable def pVar (i : Nat) : PTE := fun γ R _ => match γ[i]? with
  | some (some (.own ds)) => R (.view ds)
  | some (some s) => R s
  | _ => False
theorem se_var (i : Nat) : SndE K mg E (tVar i) (pVar i) := by
  intro H0 B H σ γ R X Q env h q _
  unfold pVar at h
  split at h
  · rename_i ds e
    obtain ⟨v, h1, a, rfl, h3, h4⟩ := env.slot i _ e
    exact ⟨_, h1, q _ _ H h (Same.refl _) ⟨a, rfl, h4⟩⟩
  · rename_i s ns e
    obtain ⟨v, h1, h2⟩ := env.slot i _ e
    refine ⟨v, h1, q _ _ H h (Same.refl _) ?_⟩
    cases s with
    | bor d => exact h2
    | sh d => exact h2
    | own ds => exact absurd rfl (ns ds)
    | view ds => exact h2.elim
    | tmp d => exact h2.elim
  · exact h.elim
noncomputable def pC (d : D) : PTE := fun _ R _ => R (.sh d)
theorem se_c {d : D} {v : V} (h : ∀ H, Rp K H d v) : SndE K mg E (tC v) (pC d) := by
  intro H0 B H σ γ R X Q env p q _
  exact q _ _ H p (Same.refl _) (h _)
theorem se_int {i : Int} : SndE K mg E (tC (.int i)) (pC (.int i)) := se_c fun _ => .int i
theorem se_bl {b : Bool} : SndE K mg E (tC (.bl b)) (pC (.bl b)) := se_c fun _ => .bl b
theorem se_str {x : Str} : SndE K mg E (tC (.str x)) (pC (.str x)) := se_c fun _ => .str x
theorem se_ty {n : String} : SndE K mg E (tC (.ty n)) (pC (.ty n)) := se_c fun _ => .ty n
/-- two values, one behind the other -/
noncomputable def p2 (a b : PTE) (f : S → S → (S → Prop) → Prop) : PTE := fun γ R X => a γ (fun x => b γ (fun y => f x y R) X) X
theorem se_2 {r : R2} {ta tb : TE} {a b : PTE} {f : S → S → (S → Prop) → Prop} (ha : SndE K mg E ta a) (hb : SndE K mg E tb b)
    (hr : ∀ (H0 H H2 : Hp) (Z : Addr → Prop) (x y : S) (v u : V) (R : S → Prop) (Q : VK), Same H0 H2 → Same H H2 → (∀ b, Z b → Mut (H b)) → TV K Z H0 H H2 x v → TV K Z H0 H H2 y u → f x y R → (∀ s z H', R s → Same H2 H' → TV K Z H0 H H' s z → Q z H') → r v u H2 Q) :
    SndE K mg E (tOp r ta tb) (p2 a b f) := by
  intro H0 B H σ γ R X Q env p q qx
  refine ha H0 B H σ γ _ X _ env p (fun x v H1 h1 S1 t1 => ?_) qx
  have env1 := env.grow S1
  refine hb H0 B H1 σ γ _ X _ env1 h1 (fun y u H2 h2 S2 t2 => ?_) fun c H' hc S' => qx c H' hc (S1.trans S')
  exact hr H0 H H2 _ x y v u R Q (env1.same.trans S2) (S1.trans S2) env.zm (t1.grow S2) (TV.weak S1 (fun _ z => z) t2) h2 fun s z H' hs S3 t3 => q s z H' hs ((S1.trans S2).trans S3) t3
noncomputable def fI0 (g : Int → Int → D) : S → S → (S → Prop) → Prop := fun x y R => match x.d, y.d with
  | .int i, .int j => R (.sh (g i j))
  | _, _ => False
noncomputable def fI (C : Int → Int → Prop) (g : Int → Int → D) : S → S → (S → Prop) → Prop := fun x y R => match x.d, y.d with
  | .int i, .int j => C i j ∧ R (.sh (g i j))
  | _, _ => False
theorem se_I0 {g : Int → Int → V} {g' : Int → Int → D} {ta tb : TE} {a b : PTE} (hg : ∀ H i j, Rp K H (g' i j) (g i j)) (ha : SndE K mg E ta a) (hb : SndE K mg E tb b) : SndE K mg E (tOp (rI0 g) ta tb) (p2 a b (fI0 g')) := by
  refine se_2 ha hb fun H0 H H2 Z x y v u R Q s0 s1 hm tx ty h q => ?_
  unfold fI0 at h
  have rx := tx.rp s0
  have ry := ty.rp s0
  split at h
  · rename_i i j e1 e2
    rw [e1] at rx
    rw [e2] at ry
    exact ⟨i, j, rx.int_inv, ry.int_inv, q _ _ H2 h (Same.refl _) (hg _ i j)⟩
  · exact h.elim
theorem se_I {C : Int → Int → Prop} {g : Int → Int → V} {g' : Int → Int → D} {ta tb : TE} {a b : PTE} (hg : ∀ H i j, Rp K H (g' i j) (g i j)) (ha : SndE K mg E ta a) (hb : SndE K mg E tb b) : SndE K mg E (tOp (rI C g) ta tb) (p2 a b (fI C g')) := by
  refine se_2 ha hb fun H0 H H2 Z x y v u R Q s0 s1 hm tx ty h q => ?_
  unfold fI at h
  have rx := tx.rp s0
  have ry := ty.rp s0
  split at h
  · rename_i i j e1 e2
    rw [e1] at rx
    rw [e2] at ry
    exact ⟨i, j, rx.int_inv, ry.int_inv, h.1, q _ _ H2 h.2 (Same.refl _) (hg _ i j)⟩
  · exact h.elim
section
variable {ta tb tc : TE} {a b c : PTE}
theorem se_add (ha : SndE K mg E ta a) (hb : SndE K mg E tb b) : SndE K mg E (tOp (rI0 fun i j => .int (i + j)) ta tb) (p2 a b (fI0 fun i j => .int (i + j))) := se_I0 (fun _ _ _ => .int _) ha hb
theorem se_sub (ha : SndE K mg E ta a) (hb : SndE K mg E tb b) : SndE K mg E (tOp (rI0 fun i j => .int (i - j)) ta tb) (p2 a b (fI0 fun i j => .int (i - j))) := se_I0 (fun _ _ _ => .int _) ha hb
theorem se_mul (ha : SndE K mg E ta a) (hb : SndE K mg E tb b) : SndE K mg E (tOp (rI CMul fun i j => .int (i * j)) ta tb) (p2 a b (fI CMul fun i j => .int (i * j))) := se_I (fun _ _ _ => .int _) ha hb
theorem se_fdiv (ha : SndE K mg E ta a) (hb : SndE K mg E tb b) : SndE K mg E (tOp (rI CDiv fun i j => .int (i / j)) ta tb) (p2 a b (fI CDiv fun i j => .int (i / j))) := se_I (fun _ _ _ => .int _) ha hb
theorem se_mod (ha : SndE K mg E ta a) (hb : SndE K mg E tb b) : SndE K mg E (tOp (rI (fun _ j => 0 < j) fun i j => .int (i % j)) ta tb) (p2 a b (fI (fun _ j => 0 < j) fun i j => .int (i % j))) := se_I (fun _ _ _ => .int _) ha hb
theorem se_pow (ha : SndE K mg E ta a) (hb : SndE K mg E tb b) : SndE K mg E (tOp (rI CPow fun i j => .int (i ^ j.toNat)) ta tb) (p2 a b (fI CPow fun i j => .int (i ^ j.toNat))) := se_I (fun _ _ _ => .int _) ha hb
theorem se_lt (ha : SndE K mg E ta a) (hb : SndE K mg E tb b) : SndE K mg E (tOp (rI0 fun i j => .bl (decide (i < j))) ta tb) (p2 a b (fI0 fun i j => .bl (decide (i < j)))) := se_I0 (fun _ _ _ => .bl _) ha hb
theorem se_le (ha : SndE K mg E ta a) (hb : SndE K mg E tb b) : SndE K mg E (tOp (rI0 fun i j => .bl (decide (i ≤ j))) ta tb) (p2 a b (fI0 fun i j => .bl (decide (i ≤ j)))) := se_I0 (fun _ _ _ => .bl _) ha hb
theorem se_gt (ha : SndE K mg E ta a) (hb : SndE K mg E tb b) : SndE K mg E (tOp (rI0 fun i j => .bl (decide (j < i))) ta tb) (p2 a b (fI0 fun i j => .bl (decide (j < i)))) := se_I0 (fun _ _ _ => .bl _) ha hb
theorem se_ge (ha : SndE K mg E ta a) (hb : SndE K mg E tb b) : SndE K mg E (tOp (rI0 fun i j => .bl (decide (j ≤ i))) ta tb) (p2 a b (fI0 fun i j => .bl (decide (j ≤ i)))) := se_I0 (fun _ _ _ => .bl _) ha hb
noncomputable def fEq (neg : Bool) : S → S → (S → Prop) → Prop := fun x y R => match x.d, y.d with
  | .int i, .int j => R (.sh (.bl (if neg then !decide (i = j) else decide (i = j))))
  | .str i, .str j => R (.sh (.bl (if neg then !decide (i = j) else decide (i = j))))
  | .bl i, .bl j => R (.sh (.bl (if neg then !decide (i = j) else decide (i = j))))
  | _, _ => False
theorem dec_inj {α β : Type} [DecidableEq α] [DecidableEq β] {f : α → β} (hf : ∀ a b, f a = f b → a = b) (a b : α) : decide (f a = f b) = decide (a = b) := by
  by_cases e : a = b
  · rw [decide_eq_true e, decide_eq_true (congrArg f e)]
  · rw [decide_eq_false e, decide_eq_false fun z => e (hf a b z)]
/-- a place in a list or a tuple -/
noncomputable def fIx : S → S → (S → Prop) → Prop := fun x y R => match x.d, y.d with
  | .lst ds, .int k => ∃ d, atI ds k = some d ∧ R (x.sub d)
  | .tup ds, .int k => ∃ d, atI ds k = some d ∧ R (x.sub d)
  | .scr ns, .int k => ∃ i, atI ns k = some i ∧ R (.sh (.int i))
  | _, _ => False
theorem at_part {ds : List D} {vs : List V} {k : Int} {d : D} {P : D → V → Prop} (hl : vs.length = ds.length) (h : ∀ (i : Nat) d, ds[i]? = some d → ∃ u, vs[i]? = some u ∧ P d u) (e : atI ds k = some d) : ∃ u, atI vs k = some u ∧ P d u := by
  unfold atI at e ⊢
  rw [hl]
  cases q : ixN ds.length k with
  | none => rw [q] at e; cases e
  | some j =>
    rw [q] at e
    exact h j d e
theorem se_ix (ha : SndE K mg E ta a) (hb : SndE K mg E tb b) : SndE K mg E (tOp (fun x y H Q => rIxL K x y H Q ∨ rIxT K x y H Q) ta tb) (p2 a b fIx) := by
  refine se_2 ha hb fun H0 H H2 Z x y v u R Q s0 s1 hm tx ty h q => ?_
  unfold fIx at h
  have ry := ty.rp s0
  obtain ⟨pl, pt⟩ := tx.part s0 hm s1
  split at h
  · rename_i ds k e1 e2
    rw [e2] at ry
    obtain ⟨d, hd, hR⟩ := h
    obtain ⟨l, vs, rfl, hl, hn, hp⟩ := pl ds e1
    obtain ⟨z, hz, tz⟩ := at_part hn hp hd
    exact .inl ⟨l, vs, k, z, rfl, ry.int_inv, SqL.of hl, hz, q _ _ H2 hR (Same.refl _) tz⟩
  · rename_i ds k e1 e2
    rw [e2] at ry
    obtain ⟨d, hd, hR⟩ := h
    obtain ⟨l, vs, rfl, hl, hn, hp⟩ := pt ds e1
    obtain ⟨z, hz, tz⟩ := at_part hn hp hd
    exact .inr ⟨l, vs, k, z, rfl, ry.int_inv, SqT.of hl, hz, q _ _ H2 hR (Same.refl _) tz⟩
  · rename_i ns k e1 e2
    rw [e2] at ry
    obtain ⟨i, hi, hR⟩ := h
    have rx := tx.rp s0
    rw [e1] at rx
    cases rx with
    | scr hs => exact .inl ⟨_, _, k, .int i, rfl, ry.int_inv, hs, atI_map hi, q _ _ H2 hR (Same.refl _) (.int i)⟩
  · exact h.elim
/-- and, or, not as values; x if c else y -/
noncomputable def pAndV (a b : PTE) : PTE := fun γ R X => a γ (fun x => match x.d with | .bl c => if c = true then b γ R X else R (.sh (.bl false)) | _ => False) X
noncomputable def pNotV (a : PTE) : PTE := fun γ R X => a γ (fun x => match x.d with | .bl c => R (.sh (.bl (!c))) | _ => False) X
theorem se_andV (ha : SndE K mg E ta a) (hb : SndE K mg E tb b) : SndE K mg E (tAndV ta tb) (pAndV a b) := by
  intro H0 B H σ γ R X Q env p q qx
  refine ha H0 B H σ γ _ X _ env p (fun x v H1 h1 S1 t1 => ?_) qx
  have env1 := env.grow S1
  have rx := t1.rp env1.same
  split at h1
  · rename_i c e1
    rw [e1] at rx
    refine ⟨c, rx.bl_inv, ?_⟩
    split at h1
    · rename_i hc
      rw [if_pos hc]
      exact hb H0 B H1 σ γ _ X _ env1 h1 (fun y u H2 h2 S2 t2 => q y u H2 h2 (S1.trans S2) (TV.weak S1 (fun _ z => z) t2)) fun c H' hc S' => qx c H' hc (S1.trans S')
    · rename_i hc
      rw [if_neg hc]
      exact q _ _ H1 h1 S1 (.bl _)
  · exact h1.elim
theorem se_notV (ha : SndE K mg E ta a) : SndE K mg E (tNotV ta) (pNotV a) := by
  intro H0 B H σ γ R X Q env p q qx
  refine ha H0 B H σ γ _ X _ env p (fun x v H1 h1 S1 t1 => ?_) qx
  have rx := t1.rp (env.grow S1).same
  split at h1
  · rename_i c e1
    rw [e1] at rx
    exact ⟨c, rx.bl_inv, q _ _ H1 h1 S1 (.bl _)⟩
  · exact h1.elim
noncomputable def pNeg (a : PTE) : PTE := fun γ R X => a γ (fun x => match x.d with | .int i => R (.sh (.int (-i))) | _ => False) X
theorem se_neg (ha : SndE K mg E ta a) : SndE K mg E (tUn (rU fun i => .int (-i)) ta) (pNeg a) := by
  intro H0 B H σ γ R X Q env p q qx
  refine ha H0 B H σ γ _ X _ env p (fun x v H1 h1 S1 t1 => ?_) qx
  have rx := t1.rp (env.grow S1).same
  split at h1
  · rename_i c e1
    rw [e1] at rx
    exact ⟨c, rx.int_inv, q _ _ H1 h1 S1 (.int _)⟩
  · exact h1.elim
/-! ### tests -/
noncomputable def pTest (a : PTE) : PTT := fun γ R X => a γ (fun x => match x.d with | .bl c => R c | _ => False) X
theorem st_test (ha : SndE K mg E ta a) : SndT K mg E (tTest ta) (pTest a) := by
  intro H0 B H σ γ R X Q env p q qx
  refine ha H0 B H σ γ _ X _ env p (fun x v H1 h1 S1 t1 => ?_) qx
  have rx := t1.rp (env.grow S1).same
  split at h1
  · rename_i c e1
    rw [e1] at rx
    exact ⟨c, rx.bl_inv, q _ H1 h1 S1⟩
  · exact h1.elim
variable {sa sb : TT} {pa pb : PTT}
noncomputable def pAnd (a b : PTT) : PTT := fun γ R X => a γ (fun c => if c = true then b γ R X else R false) X
noncomputable def pOr (a b : PTT) : PTT := fun γ R X => a γ (fun c => if c = true then R true else b γ R X) X
noncomputable def pNot (a : PTT) : PTT := fun γ R X => a γ (fun c => R (!c)) X
theorem st_and (ha : SndT K mg E sa pa) (hb : SndT K mg E sb pb) : SndT K mg E (tAnd sa sb) (pAnd pa pb) := by
  intro H0 B H σ γ R X Q env p q qx
  refine ha H0 B H σ γ _ X _ env p (fun c H1 h1 S1 => ?_) qx
  split at h1
  · rename_i hc
    rw [if_pos hc]
    exact hb H0 B H1 σ γ _ X _ (env.grow S1) h1 (fun y H2 h2 S2 => q y H2 h2 (S1.trans S2)) fun c H' hc S' => qx c H' hc (S1.trans S')
  · rename_i hc
    rw [if_neg hc]
    exact q _ H1 h1 S1
theorem st_or (ha : SndT K mg E sa pa) (hb : SndT K mg E sb pb) : SndT K mg E (tOr sa sb) (pOr pa pb) := by
  intro H0 B H σ γ R X Q env p q qx
  refine ha H0 B H σ γ _ X _ env p (fun c H1 h1 S1 => ?_) qx
  split at h1
  · rename_i hc
    rw [if_pos hc]
    exact q _ H1 h1 S1
  · rename_i hc
    rw [if_neg hc]
    exact hb H0 B H1 σ γ _ X _ (env.grow S1) h1 (fun y H2 h2 S2 => q y H2 h2 (S1.trans S2)) fun c H' hc S' => qx c H' hc (S1.trans S')
theorem st_not (ha : SndT K mg E sa pa) : SndT K mg E (tNot sa) (pNot pa) := by
  intro H0 B H σ γ R X Q env p q qx
  exact ha H0 B H σ γ _ X _ env p (fun c H1 h1 S1 => q _ H1 h1 S1) qx
end
/-! ### argument lists, tuples, lists -/
noncomputable def pNil : PTA := fun _ R _ => R []
noncomputable def pCons (a : PTE) (r : PTA) : PTA := fun γ R X => a γ (fun s => r γ (fun ss => R (s :: ss)) X) X
theorem sa_nil : SndA K mg E tNil pNil := by
  intro H0 B H σ γ R X Q env p q _
  exact q _ _ H p (Same.refl _) .nil
theorem sa_cons {te : TE} {ta : TA} {a : PTE} {r : PTA} (ha : SndE K mg E te a) (hr : SndA K mg E ta r) : SndA K mg E (tCons te ta) (pCons a r) := by
  intro H0 B H σ γ R X Q env p q qx
  refine ha H0 B H σ γ _ X _ env p (fun s v H1 h1 S1 t1 => ?_) qx
  refine hr H0 B H1 σ γ _ X _ (env.grow S1) h1 (fun ss vs H2 h2 S2 t2 => ?_) fun c H' hc S' => qx c H' hc (S1.trans S')
  exact q _ _ H2 h2 (S1.trans S2) (.cons (t1.grow S2) (TVs.weakG S1 t2))
noncomputable def shds : List S → Option (List D)
  | [] => some []
  | s :: r => match s.shd, shds r with
    | some d, some ds => some (d :: ds)
    | _, _ => none
theorem shds_map : ∀ {ss : List S} {ds : List D}, shds ss = some ds → ss.map S.shd = ds.map some
  | [], ds, h => by cases h; rfl
  | s :: r, ds, h => by
    unfold shds at h
    split at h
    · rename_i d es e1 e2
      cases h
      rw [List.map_cons, List.map_cons, e1, shds_map e2]
    · cases h
noncomputable def pTup (r : PTA) : PTE := fun γ R X => r γ (fun ss => match shds ss with | some ds => ds.length ≤ 1000 ∧ R (.sh (.tup ds)) | none => False) X
noncomputable def pLst (r : PTA) : PTE := fun γ R X => r γ (fun ss => match shds ss with | some ds => ds.length ≤ 1000 ∧ R (.own ds) | none => False) X
theorem big1000 {n : Nat} (h : n ≤ 1000) : n ≤ sizeLine := Nat.le_of_lt (small1000 h)
theorem se_tup {ta : TA} {r : PTA} (hr : SndA K mg E ta r) : SndE K mg E (tTup ta) (pTup r) := by
  intro H0 B H σ γ R X Q env p q qx
  refine hr H0 B H σ γ _ X _ env p (fun ss vs H1 h1 S1 t1 => ?_) qx
  split at h1
  · rename_i ds e
    have env1 := env.grow S1
    have rp := t1.shd (ds := ds) env1.same env.zm S1 (shds_map e)
    refine ⟨by rw [rp.len]; exact big1000 h1.1, fun l nl => ?_⟩
    have S2 := same_upd (o := .tup vs) nl
    refine q _ _ _ h1.2 (S1.trans S2) (.tup (off_of upd_same fun z => ?_) (Rps.mono (off_mono S2 fun _ _ _ z => z) rp))
    have := env1.zm l z
    rw [nl] at this
    exact this
  · exact h1.elim
theorem own_new {H H1 : Hp} {l : Addr} {vs : List V} {ds : List D} (S1 : Same H H1) (nl : H1 l = none) (rp : Rps K (off Z H1) ds vs) : TV K Z H0 H (upd H1 l (.lst vs)) (.own ds) (.ref l) :=
  ⟨l, rfl, (fun _ e => e ▸ S1.free nl), vs, upd_same, Rps.mono (off_mono (same_upd nl) fun b o hb z y => y.elim z fun e => by rw [e, nl] at hb; cases hb) rp⟩
theorem se_lst {ta : TA} {r : PTA} (hr : SndA K mg E ta r) : SndE K mg E (tLst ta) (pLst r) := by
  intro H0 B H σ γ R X Q env p q qx
  refine hr H0 B H σ γ _ X _ env p (fun ss vs H1 h1 S1 t1 => ?_) qx
  split at h1
  · rename_i ds e
    have env1 := env.grow S1
    have rp := t1.shd (ds := ds) env1.same env.zm S1 (shds_map e)
    refine ⟨by rw [rp.len]; exact big1000 h1.1, fun l nl => ?_⟩
    exact q _ _ _ h1.2 (S1.trans (same_upd nl)) (own_new S1 nl rp)
  · exact h1.elim
/-! ### calls of defs -/
noncomputable abbrev Pc := List D → (S → Prop) → XR → Prop
noncomputable def spOf (mg : Str → Option Value) (c : Pc) (K : PySem.W.Frag) : Sp := fun vs H Q E => ∃ ds R X, Rps K H ds vs ∧ c ds R X ∧ (∀ s v H', R s → Same H H' → TV K (fun b => Mut (H b)) H H H' s v → Q v H') ∧ ∀ e H', X e → Same H H' → E (.ref (ExcR.clsOf mg e)) none H'
/-- a result as the caller has it -/
noncomputable def S.back : S → S
  | .bor d => argT d | .view o => .tmp o.d | s => s
theorem TV.back {s : S} {v : V} (env : EnvR K H0 B H1 σ γ) (S1 : Same H H1) (S2 : Same H1 H') (h : TV K (fun b => Mut (H1 b)) H1 H1 H' s v) : TV K (zof B γ σ) H0 H H' s.back v := by
  cases s with
  | bor d => exact argTR (fun b z => mut_same S2 (env.zm b z)) (Rp.mono S2 h)
  | sh d => exact Rp.mono (off_mono (Same.refl _) fun b _ _ z y => z (env.zm b y)) h
  | own ds =>
    obtain ⟨a, rfl, e0, r⟩ := h
    exact ⟨a, rfl, (fun b hb => S1.free (e0 b hb)), r.mono (off_mono (Same.refl _) fun b _ _ z y => z (y.imp (env.zm b) id)) fun _ _ _ q => q⟩
  | view ds =>
    obtain ⟨a, rfl, r⟩ := h
    exact r.rp off_sub
  | tmp d => exact h
noncomputable def pCall (c : Pc) (r : PTA) : PTE := fun γ R X => r γ (fun ss => c (ss.map S.d) (fun s => R s.back) fun _ => False) X
noncomputable def pCallX (c : Pc) (r : PTA) : PTE := fun γ R X => r γ (fun ss => c (ss.map S.d) (fun s => R s.back) X) X
theorem se_call {c : Pc} {ta : TA} {r : PTA} (hr : SndA K mg E ta r) : SndE K mg E (tCall (spOf mg c K) [] E0 ta) (pCall c r) := by
  intro H0 B H σ γ R X Q env p q qx
  refine hr H0 B H σ γ _ X _ env p (fun ss vs H1 h1 S1 t1 => ?_) qx
  rw [List.append_nil]
  have env1 := env.grow S1
  exact ⟨_, _, _, t1.rps env1.same, h1, fun s v H' hs S2 tv => q _ _ H' hs (S1.trans S2) (tv.back env1 S1 S2), fun _ _ z => z.elim⟩
theorem se_callX {c : Pc} {ta : TA} {r : PTA} {Ec : XK} (hr : SndA K mg (fun _ => Ec) ta r) : SndE K mg (fun _ => Ec) (tCall (spOf mg c K) [] Ec ta) (pCallX c r) := by
  intro H0 B H σ γ R X Q env p q qx
  refine hr H0 B H σ γ _ X _ env p (fun ss vs H1 h1 S1 t1 => ?_) qx
  rw [List.append_nil]
  have env1 := env.grow S1
  exact ⟨_, _, X, t1.rps env1.same, h1, fun s v H' hs S2 tv => q _ _ H' hs (S1.trans S2) (tv.back env1 S1 S2), fun e H' he S2 => qx e H' he (S1.trans S2)⟩
end
end Pu

namespace Pu
open PySem PySem.Spec PyProof.Rows L2 Own
section
variable {K : PySem.W.Frag} {mg : Str → Option Value} {E : L2.St → XK} {H0 H H1 H' : Hp} {B Z Z' : Addr → Prop} {σ : L2.St} {γ : Γ}
/-- a name gets a value, wherever it stands -/
theorem EnvR.set {i : Nat} {s s' : S} {v : V} (Ev : EnvR K H0 B H σ γ) (S1 : Same H H') (h : TV K (zof B γ σ) H0 H H' s v) (e : s.slot = some s') :
    EnvR K H0 B H' (σ.set i (some v)) (γ.set i (some s')) ∧ Fr B H σ γ H' (σ.set i (some v)) (γ.set i (some s')) := by
  by_cases hi : i < γ.length
  · exact Ev.put S1 h e hi
  · rw [List.set_eq_of_length_le (by rw [Ev.len]; omega), List.set_eq_of_length_le (by omega)]
    exact ⟨Ev.grow S1, Fr.grow S1⟩
/-! ### targets -/
noncomputable def Upd (is : List Nat) (σ σ' : L2.St) : Prop := (∀ j, j ∉ is → σ'[j]? = σ[j]?) ∧ σ'.length = σ.length
noncomputable def SndGi (K : PySem.W.Frag) (is : List Nat) (t : TG) (p : PTG) : Prop := ∀ (H0 : Hp) (B : Addr → Prop) (H H' : Hp) (σ : L2.St) (γ : Γ) (s : S) (v : V) (R : Γ → Prop) (Q : L2.St → Hp → Prop), EnvR K H0 B H σ γ → Same H H' → TV K (zof B γ σ) H0 H H' s v → p s γ R →
  (∀ σ' γ', R γ' → EnvR K H0 B H' σ' γ' → Fr B H σ γ H' σ' γ' → Upd is σ σ' → Q σ' H') → t v σ H' Q
noncomputable def pName (i : Nat) : PTG := fun s γ R => match s.slot with | some s' => R (γ.set i (some s')) | none => False
theorem sg_name (i : Nat) : SndGi K [i] (gName i) (pName i) := by
  intro H0 B H H' σ γ s v R Q env S1 tv p q
  unfold pName at p
  split at p
  · rename_i s' e
    obtain ⟨e1, f1⟩ := env.set (i := i) S1 tv e
    exact q _ _ p e1 f1 ⟨fun j hj => set_ne fun z => hj (by rw [z]; exact List.mem_singleton.mpr rfl), List.length_set⟩
  · exact p.elim
noncomputable def pGNil : PTGs := fun ss γ R => match ss with | [] => R γ | _ => False
noncomputable def pGCons (g : PTG) (r : PTGs) : PTGs := fun ss γ R => match ss with | s :: t => g s γ fun γ' => r t γ' R | [] => False
theorem TV.notown {s : S} {v : V} {σ' : L2.St} {γ' : Γ} {Hb : Hp} (f : Fr B H σ γ H' σ' γ') (hb : Same H H') (n : ∀ ds, s ≠ .own ds) (nv : ∀ ds, s ≠ .view ds) (h : TV K (zof B γ σ) H0 Hb H s v) : TV K (zof B γ' σ') H0 H' H' s v := by
  cases s with
  | bor d => exact h
  | sh d => exact Rp.mono f.off h
  | own ds => exact absurd rfl (n ds)
  | view ds => exact absurd rfl (nv ds)
  | tmp d => exact Rp.mono hb h
theorem TVs.notown {σ' : L2.St} {γ' : Γ} {Hb : Hp} (f : Fr B H σ γ H σ' γ') : ∀ {ss : List S} {vs : List V}, (∀ s ∈ ss, ∀ ds, s ≠ .own ds ∧ s ≠ .view ds) → TVs K (zof B γ σ) H0 Hb H ss vs → TVs K (zof B γ' σ') H0 H H ss vs
  | _, _, _, .nil => .nil
  | _, _, n, .cons h r => .cons (h.notown f (Same.refl _) (fun ds => (n _ List.mem_cons_self ds).1) fun ds => (n _ List.mem_cons_self ds).2) (TVs.notown f (fun s hs => n s (List.mem_cons_of_mem _ hs)) r)
theorem arg_cases (d : D) : arg d = .sh d ∨ arg d = .bor d := by unfold arg; cases imm d <;> simp
theorem argT_cases (d : D) : argT d = .sh d ∨ argT d = .tmp d := by unfold argT; cases imm d <;> simp
theorem sub_plain (s : S) (d : D) : ∀ ds, s.sub d ≠ .own ds ∧ s.sub d ≠ .view ds := fun ds => by
  cases s with
  | bor b => rcases arg_cases d with e | e <;> (show arg d ≠ _ ∧ arg d ≠ _; rw [e]; exact ⟨(fun z => by cases z), (fun z => by cases z)⟩)
  | tmp b => rcases argT_cases d with e | e <;> (show argT d ≠ _ ∧ argT d ≠ _; rw [e]; exact ⟨(fun z => by cases z), (fun z => by cases z)⟩)
  | sh b => exact ⟨(fun z => by cases z), (fun z => by cases z)⟩
  | own b => exact ⟨(fun z => by cases z), (fun z => by cases z)⟩
  | view b => exact ⟨(fun z => by cases z), (fun z => by cases z)⟩
noncomputable def SndGsj (K : PySem.W.Frag) (is : List Nat) (t : TGs) (p : PTGs) : Prop := ∀ (H0 : Hp) (B : Addr → Prop) (H : Hp) (σ : L2.St) (γ : Γ) (ss : List S) (vs : List V) (R : Γ → Prop) (Q : L2.St → Hp → Prop), EnvR K H0 B H σ γ → TVs K (zof B γ σ) H0 H H ss vs → (∀ s ∈ ss, ∀ ds, s ≠ .own ds ∧ s ≠ .view ds) → p ss γ R →
  (∀ σ' γ', R γ' → EnvR K H0 B H σ' γ' → Fr B H σ γ H σ' γ' → Upd is σ σ' → Q σ' H) → t vs σ H Q
theorem sgj_nil : SndGsj K [] gNil pGNil := by
  intro H0 B H σ γ ss vs R Q env tv no p q
  cases tv with
  | nil => exact ⟨rfl, q _ _ p env Fr.refl ⟨fun _ _ => rfl, rfl⟩⟩
  | cons _ _ => exact p.elim
theorem sgj_cons {is js : List Nat} {g : TG} {r : TGs} {pg : PTG} {pr : PTGs} (hg : SndGi K is g pg) (hr : SndGsj K js r pr) : SndGsj K (is ++ js) (gCons g r) (pGCons pg pr) := by
  intro H0 B H σ γ ss vs R Q env tv no p q
  cases tv with
  | nil => exact p.elim
  | cons h t =>
    refine ⟨_, _, rfl, hg H0 B H H σ γ _ _ _ _ env (Same.refl _) h p fun σ1 γ1 p1 e1 f1 k1 => ?_⟩
    refine hr H0 B H σ1 γ1 _ _ _ _ e1 (TVs.notown f1 (fun s hs => no s (List.mem_cons_of_mem _ hs)) t) (fun s hs => no s (List.mem_cons_of_mem _ hs)) p1 fun σ2 γ2 p2 e2 f2 k2 => ?_
    exact q σ2 γ2 p2 e2 (f1.trans f2) ⟨fun j hj => (k2.1 j fun z => hj (List.mem_append_right _ z)).trans (k1.1 j fun z => hj (List.mem_append_left _ z)), k2.2.trans k1.2⟩
noncomputable def pTupG (n : Nat) (r : PTGs) : PTG := fun s γ R => match s.d with | .tup ds => ds.length = n ∧ r (ds.map s.sub) γ R | _ => False
theorem TVs.of_part {ds : List D} {s : S} : ∀ {vs : List V} {ds : List D}, vs.length = ds.length → (∀ (i : Nat) d, ds[i]? = some d → ∃ u, vs[i]? = some u ∧ TV K Z H0 H H' (s.sub d) u) → TVs K Z H0 H H' (ds.map s.sub) vs
  | [], [], _, _ => .nil
  | [], _ :: _, e, _ => by cases e
  | _ :: _, [], e, _ => by cases e
  | v :: vs, d :: ds, e, h => by
    obtain ⟨u, h1, h2⟩ := h 0 d rfl
    cases h1
    exact .cons h2 (TVs.of_part (ds := ds) (by simpa using e) fun i d' hd => by simpa using h (i + 1) d' (by simpa using hd))
theorem sg_tup {n : Nat} {is : List Nat} {r : TGs} {pr : PTGs} (hr : SndGsj K is r pr) : SndGi K is (gTup K n r) (pTupG n pr) := by
  intro H0 B H H' σ γ s v R Q env S1 tv p q
  unfold pTupG at p
  have env1 := env.grow S1
  obtain ⟨_, pt⟩ := tv.part env1.same env.zm S1
  split at p
  · rename_i ds e
    obtain ⟨a, vs, rfl, ha, hn, hp⟩ := pt ds e
    refine ⟨a, vs, rfl, SqT.of ha, hn.trans p.1, ?_⟩
    have tvs := TVs.of_part (ds := ds) hn hp
    refine hr H0 B H' σ γ _ vs R Q env1 (TVs.notown (Fr.refl) (fun s' hs ds => ?_) tvs) (fun s' hs ds => ?_) p.2 fun σ' γ' hR e1 f1 k1 => q σ' γ' hR e1 (Fr.trans (Fr.grow S1) f1) k1
    · obtain ⟨d, _, rfl⟩ := List.mem_map.mp hs
      exact sub_plain s d ds
    · obtain ⟨d, _, rfl⟩ := List.mem_map.mp hs
      exact sub_plain s d ds
  · exact p.elim

/-! ### statements -/
theorem EndR.from {R : PEnds} {D : Ends} {σ1 : L2.St} {γ1 : Γ} (e : EndR K mg E H0 B H σ γ R D) (f : Fr B H σ γ H1 σ1 γ1) : EndR K mg E H0 B H1 σ1 γ1 R D :=
  ⟨fun σ' γ' H' h1 h2 h3 => e.nx σ' γ' H' h1 h2 (f.trans h3), e.rt, fun σ' γ' c H' h1 h2 h3 => e.ex σ' γ' c H' h1 h2 (f.trans h3), fun σ' γ' H' h1 h2 h3 => e.bk σ' γ' H' h1 h2 (f.trans h3), fun σ' γ' H' h1 h2 h3 => e.ct σ' γ' H' h1 h2 (f.trans h3), fun σ' γ' d v H' h1 h2 h3 => e.rv σ' γ' d v H' h1 h2 (f.trans h3)⟩
variable {te : TE} {a : PTE} {tt : TT} {c : PTT} {t u : TS} {p q : PTS}
noncomputable def pNext : PTS := fun R γ => R.nx γ
theorem ss_next : SndS K mg E tNext pNext := fun _ _ _ _ _ _ _ _ env h e => e.nx _ _ _ h env Fr.refl
noncomputable def pSeq (p q : PTS) : PTS := fun R γ => p { R with nx := q R } γ
theorem ss_seq (hp : SndS K mg E t p) (hq : SndS K mg E u q) : SndS K mg E (tSeq t u) (pSeq p q) := by
  intro H0 B H σ γ R D hB env h e
  refine hp H0 B H σ γ _ _ hB env h ⟨fun σ' γ' H' h1 e1 f1 => ?_, e.rt, e.ex, e.bk, e.ct, e.rv⟩
  exact hq H0 B H' σ' γ' R D hB e1 h1 (e.from f1)
structure JoinW (p q : PTS) (R : PEnds) (γ : Γ) : Prop where
  w : ∃ J : Γ → Prop, p { R with nx := J } γ ∧ ∀ γ', J γ' → q R γ'
noncomputable def pJoin (p q : PTS) : PTS := fun R γ => JoinW p q R γ
theorem ss_join (hp : SndS K mg E t p) (hq : SndS K mg E u q) : SndS K mg E (Own.tJoin t u) (pJoin p q) := by
  intro H0 B H σ γ R D hB env h e
  obtain ⟨J, h, k⟩ := h.w
  refine ⟨fun σ' H' => ∃ γ', J γ' ∧ EnvR K H0 B H' σ' γ' ∧ Fr B H σ γ H' σ' γ', hp H0 B H σ γ _ _ hB env h ⟨fun σ' γ' H' h1 e1 f1 => ⟨γ', h1, e1, f1⟩, e.rt, e.ex, e.bk, e.ct, e.rv⟩, ?_⟩
  rintro σ' H' ⟨γ', h1, e1, f1⟩
  exact hq H0 B H' σ' γ' R D hB e1 (k γ' h1) (e.from f1)
/-- the same statement, one's own list at i shared ahead of it -/
noncomputable def pFrz (i : Nat) (p : PTS) : PTS := fun R γ => p R (frz i γ)
theorem ss_frz (i : Nat) (hp : SndS K mg E t p) : SndS K mg E t (pFrz i p) := by
  intro H0 B H σ γ R D hB env h e
  obtain ⟨e1, f1⟩ := env.frz hB i
  exact hp H0 B H σ _ R D hB e1 h (e.from f1)
noncomputable def pAsg (a : PTE) (g : PTG) : PTS := fun R γ => a γ (fun s => g s γ R.nx) (R.ex γ)
theorem ss_asg {is : List Nat} {g : TG} {pg : PTG} (ha : SndE K mg E te a) (hg : SndGi K is g pg) : SndS K mg E (tAsg te g) (pAsg a pg) := by
  intro H0 B H σ γ R D hB env h e
  refine ha H0 B H σ γ _ _ _ env h (fun s v H1 h1 S1 t1 => ?_) fun c H' hc S' => e.ex σ γ c H' hc (env.grow S') (Fr.grow S')
  exact hg H0 B H H1 σ γ s v _ _ env S1 t1 h1 fun σ' γ' h2 e2 f2 _ => e.nx σ' γ' H1 h2 e2 f2
noncomputable def pAug (i : Nat) (f : Int → Int → Int) (a : PTE) : PTS := fun R γ => match γ[i]? with
  | some (some (.sh (.int x))) => a γ (fun y => match y.d with | .int j => R.nx (γ.set i (some (.sh (.int (f x j))))) | _ => False) (R.ex γ)
  | _ => False
noncomputable def pRet (a : PTE) : PTS := fun R γ => a γ R.rt (R.ex γ)
theorem ss_ret (ha : SndE K mg E te a) : SndS K mg E (tRet te) (pRet a) := by
  intro H0 B H σ γ R D hB env h e
  refine ha H0 B H σ γ _ _ _ env h (fun s v H1 h1 S1 t1 => ?_) fun c H' hc S' => e.ex σ γ c H' hc (env.grow S') (Fr.grow S')
  exact e.rt s v H1 h1 (env.same.trans S1) (TV.weak env.same (fun b z => .inl z) t1)
/-- return name -/
noncomputable def pRetV (i : Nat) : PTS := fun R γ => match γ[i]? with | some (some s) => R.rt s | _ => False
theorem ss_retV (i : Nat) : SndS K mg E (tRet (tVar i)) (pRetV i) := by
  intro H0 B H σ γ R D hB env h e
  unfold pRetV at h
  split at h
  · rename_i s hs
    obtain ⟨v, h1, h2⟩ := env.slot i _ hs
    refine ⟨v, h1, e.rt s v H h env.same ?_⟩
    cases s with
    | bor d => exact h2
    | sh d => exact Rp.mono (off_mono (Same.refl _) fun b _ _ z y => z (.inl y)) h2
    | own ds =>
      obtain ⟨l, rfl, e2, e3⟩ := h2
      exact ⟨l, rfl, e2, e3.mono (off_mono (Same.refl _) fun b _ _ z y => z (y.elim .inl fun w => .inr ⟨i, ds, l, hs, h1, w⟩)) fun _ _ _ q => q⟩
    | view ds => exact h2.elim
    | tmp d => exact h2.elim
  · exact h.elim
noncomputable def pIfS (c : PTT) (p q : PTS) : PTS := fun R γ => c γ (fun b => if b = true then p R γ else q R γ) (R.ex γ)
theorem ss_if (hc : SndT K mg E tt c) (hp : SndS K mg E t p) (hq : SndS K mg E u q) : SndS K mg E (tIfS tt t u) (pIfS c p q) := by
  intro H0 B H σ γ R D hB env h e
  refine hc H0 B H σ γ _ _ _ env h (fun b H1 h1 S1 => ?_) fun c H' hc S' => e.ex σ γ c H' hc (env.grow S') (Fr.grow S')
  split at h1
  · rename_i hb
    rw [if_pos hb]
    exact hp H0 B H1 σ γ R D hB (env.grow S1) h1 (e.from (Fr.grow S1))
  · rename_i hb
    rw [if_neg hb]
    exact hq H0 B H1 σ γ R D hB (env.grow S1) h1 (e.from (Fr.grow S1))
noncomputable def pDrop (a : PTE) : PTS := fun R γ => a γ (fun _ => R.nx γ) (R.ex γ)
theorem ss_drop (ha : SndE K mg E te a) : SndS K mg E (tDrop te) (pDrop a) := by
  intro H0 B H σ γ R D hB env h e
  exact ha H0 B H σ γ _ _ _ env h (fun s v H1 h1 S1 t1 => e.nx σ γ H1 h1 (env.grow S1) (Fr.grow S1)) fun c H' hc S' => e.ex σ γ c H' hc (env.grow S') (Fr.grow S')
/-- raise C(..) -/
noncomputable def pRaise (x : Str) (r : PTA) : PTS := fun R γ => r γ (fun ss => ss.length ≤ 1000 ∧ R.ex γ x) (R.ex γ)
theorem TVs.len : ∀ {ss : List S} {vs : List V}, TVs K Z H0 H H' ss vs → vs.length = ss.length
  | _, _, .nil => rfl
  | _, _, .cons _ r => congrArg (· + 1) (TVs.len r)
theorem ss_raise {x : Str} {ta : TA} {r : PTA} {Ec : XK} (hr : SndA K mg (fun _ => Ec) ta r) : SndS K mg (fun _ => Ec) (ExcR.tRaise (ExcR.clsOf mg x) Ec ta) (pRaise x r) := by
  intro H0 B H σ γ R D hB env h e
  refine hr H0 B H σ γ _ _ _ env h (fun ss vs H1 h1 S1 t1 => ⟨?_, ?_⟩) fun c H' hc S' => e.ex σ γ c H' hc (env.grow S') (Fr.grow S')
  · rw [t1.len]
    exact big1000 h1.1
  · exact e.ex σ γ x H1 h1.2 (env.grow S1) (Fr.grow S1)
/-- a, b = e, f of plain names -/
noncomputable def fPar (i j : Nat) (γ : Γ) (R : Γ → Prop) : List S → Prop
  | [.sh d, .sh e] => R ((γ.set i (some (.sh d))).set j (some (.sh e)))
  | _ => False
/-! ### names let go -/
noncomputable def clr : List Nat → Γ → Γ
  | [], γ => γ
  | i :: r, γ => clr r (γ.set i none)
theorem EnvR.clr : ∀ (is : List Nat) {γ : Γ}, EnvR K H0 B H σ γ → EnvR K H0 B H σ (clr is γ) ∧ Fr B H σ γ H σ (Pu.clr is γ)
  | [], _, e => ⟨e, Fr.refl⟩
  | i :: r, γ, e => by
    obtain ⟨e1, f1⟩ := e.drop i
    obtain ⟨e2, f2⟩ := EnvR.clr r e1
    exact ⟨e2, f1.trans f2⟩
/-! ### loops -/
/-- a later heap, apart from Z' -/
noncomputable def Later (H0 : Hp) (Z : Addr → Prop) (H1 : Hp) (Z' : Addr → Prop) (H' : Hp) : Prop := Same H0 H' ∧ (∀ b, Z' b → Mut (H' b)) ∧ ∀ b o, H1 b = some o → ¬ Z b → H' b = some o ∧ ¬ Z' b
theorem Later.of {σ' : L2.St} {γ' : Γ} (e : EnvR K H0 B H' σ' γ') (f : Fr B H1 σ γ H' σ' γ') : Later H0 (zof B γ σ) H1 (zof B γ' σ') H' := ⟨e.same, e.zm, f⟩
theorem Later.off (l : Later H0 Z H1 Z' H') : Same (off Z H1) (Pu.off Z' H') := fun b o h => by
  obtain ⟨h1, h2⟩ := off_in h
  obtain ⟨h3, h4⟩ := l.2.2 b o h1 h2
  exact off_of h3 h4
structure ItOk (K : PySem.W.Frag) (H0 : Hp) (B : Addr → Prop) (H1 : Hp) (σ : L2.St) (γ : Γ) (J : It) (n : Nat) (item : Nat → S) : Prop where
  go : ∀ (i : Nat) (H' : Hp) (Z' : Addr → Prop), i < n → Later H0 (zof B γ σ) H1 Z' H' → J.go i H' ∧ ∀ x H'', J.yld i H' x H'' → Same H' H'' ∧ TV K Z' H0 H' H'' (item i) x
  stop : ∀ (H' : Hp) (Z' : Addr → Prop), Later H0 (zof B γ σ) H1 Z' H' → J.stop n H'
noncomputable abbrev PTI := Γ → (Nat → (Nat → S) → Prop) → XR → Prop
noncomputable def SndI (K : PySem.W.Frag) (mg : Str → Option Value) (E : L2.St → XK) (wi : TI) (it : PTI) : Prop := ∀ (H0 : Hp) (B : Addr → Prop) (H : Hp) (σ : L2.St) (γ : Γ) (R : Nat → (Nat → S) → Prop) (X : XR) (Q : It → Hp → Prop), EnvR K H0 B H σ γ → it γ R X →
  (∀ n item J H1, R n item → Same H H1 → ItOk K H0 B H1 σ γ J n item → Q J H1) → (∀ c H', X c → Same H H' → E σ (.ref (ExcR.clsOf mg c)) none H') → wi σ H Q
structure ForW (js : List Nat) (γ : Γ) (g : PTG) (body : PTS) (R : PEnds) (n : Nat) (item : Nat → S) : Prop where
  w : ∃ inv : Nat → Γ → Prop, inv 0 (clr js γ) ∧
  (∀ i γ', i < n → inv i γ' → g (item i) γ' fun γ2 => body { R with nx := fun γ3 => inv (i + 1) (clr js γ3), ct := fun γ3 => inv (i + 1) (clr js γ3), bk := R.nx } γ2) ∧ ∀ γ', inv n γ' → R.nx γ'
noncomputable def pFor (js : List Nat) (it : PTI) (g : PTG) (body : PTS) : PTS := fun R γ => it γ (fun n item => ForW js γ g body R n item) (R.ex γ)
theorem ss_for {is : List Nat} {wi : TI} {g : TG} {it : PTI} {pg : PTG} (js : List Nat) (hi : SndI K mg E wi it) (hg : SndGi K is g pg) (hb : SndS K mg E t p) : SndS K mg E (tFor wi g t) (pFor js it pg p) := by
  intro H0 B H σ γ R D hB env h e
  refine hi H0 B H σ γ _ _ _ env h (fun n item J H1 h1 S1 ok => ?_) fun c H' hc S' => e.ex σ γ c H' hc (env.grow S') (Fr.grow S')
  obtain ⟨inv, h0, hs, hd⟩ := h1.w
  have env1 := env.grow S1
  refine ⟨fun i m σ' H' => m = n - i ∧ i ≤ n ∧ ∃ γ', inv i γ' ∧ EnvR K H0 B H' σ' γ' ∧ Fr B H1 σ γ H' σ' γ', ⟨n, by simp, Nat.zero_le _, _, h0, (env1.clr js).1, (env1.clr js).2⟩, ?_⟩
  rintro i m σ' H' ⟨rfl, hin, γ', hi', e', f'⟩
  by_cases hlt : i < n
  · obtain ⟨go, yl⟩ := ok.go i H' _ hlt (Later.of e' f')
    refine .inr ⟨go, fun σ2 H2 => ∃ γ2, inv (i + 1) γ2 ∧ EnvR K H0 B H2 σ2 γ2 ∧ Fr B H1 σ γ H2 σ2 γ2, fun σ2 H2 ⟨γ2, a1, a2, a3⟩ => ⟨n - (i + 1), by omega, rfl, hlt, γ2, a1, a2, a3⟩, fun x H'' y => ?_⟩
    obtain ⟨S2, tv⟩ := yl x H'' y
    refine hg H0 B H' H'' σ' γ' _ _ _ _ e' S2 tv (hs i γ' hlt hi') fun σ2 γ2 q2 e2 f2 _ => ?_
    have fall := f'.trans f2
    refine hb H0 B H'' σ2 γ2 _ _ hB e2 q2 ⟨fun σ3 γ3 H3 q3 e3 f3 => ?_, e.rt, fun σ3 γ3 c H3 q3 e3 f3 => e.ex σ3 γ3 c H3 q3 e3 ((Fr.grow S1).trans (fall.trans f3)), fun σ3 γ3 H3 q3 e3 f3 => e.nx σ3 γ3 H3 q3 e3 ((Fr.grow S1).trans (fall.trans f3)), fun σ3 γ3 H3 q3 e3 f3 => ?_, fun σ3 γ3 d v H3 q3 e3 f3 => e.rv σ3 γ3 d v H3 q3 e3 ((Fr.grow S1).trans (fall.trans f3))⟩
    · exact ⟨_, q3, (e3.clr js).1, (fall.trans f3).trans (e3.clr js).2⟩
    · exact ⟨_, q3, (e3.clr js).1, (fall.trans f3).trans (e3.clr js).2⟩
  · have : i = n := by omega
    subst this
    exact .inl ⟨ok.stop H' _ (Later.of e' f'), e.nx σ' γ' H' (hd γ' hi') e' ((Fr.grow S1).trans f')⟩
/-- a list that lasts -/
noncomputable def S.fix : S → Bool
  | .bor _ => true | .sh _ => true | .own _ => true | _ => false
noncomputable def pIL (a : PTE) : PTI := fun γ R X => a γ (fun s => match s.d with
  | .lst ds => s.fix = true ∧ R ds.length fun i => s.sub (ds.getD i .non)
  | .scr ns => s.fix = true ∧ R ns.length fun i => .sh (.int (ns.getD i 0))
  | _ => False) X
theorem TV.last {s : S} {v : V} {ds : List D} (env : EnvR K H0 B H σ γ) (S1 : Same H H1) (tv : TV K (zof B γ σ) H0 H H1 s v) (hf : s.fix = true) (hd : s.d = .lst ds) : ∃ l vs, v = .ref l ∧ vs.length = ds.length ∧
    ∀ (H' : Hp) (Z' : Addr → Prop), Later H0 (zof B γ σ) H1 Z' H' → H' l = some (.lst vs) ∧ ∀ (i : Nat) d, ds[i]? = some d → ∃ u, vs[i]? = some u ∧ TV K Z' H0 H' H' (s.sub d) u := by
  have env1 := env.grow S1
  have key : ∀ {s : S}, (∀ d, s.sub d = .sh d) → Rp K (Pu.off (zof B γ σ) H1) (.lst ds) v → ∃ l vs, v = .ref l ∧ vs.length = ds.length ∧
      ∀ (H' : Hp) (Z' : Addr → Prop), Later H0 (zof B γ σ) H1 Z' H' → H' l = some (.lst vs) ∧ ∀ (i : Nat) d, ds[i]? = some d → ∃ u, vs[i]? = some u ∧ TV K Z' H0 H' H' (s.sub d) u := fun hs h => by
    obtain ⟨l, vs, rfl, h1, h2⟩ := Rp.lst_inv h
    refine ⟨l, vs, rfl, h2.len, fun H' Z' lt => ⟨off_sub _ _ (lt.off _ _ h1), fun i d hi => ?_⟩⟩
    obtain ⟨u, h3, h4⟩ := h2.get hi
    refine ⟨u, h3, ?_⟩
    rw [hs]
    exact Rp.mono lt.off h4
  cases s with
  | bor d =>
    have tv := Rp.strip tv
    rw [show d.strip = .lst ds from hd] at tv
    obtain ⟨l, vs, rfl, h1, h2⟩ := Rp.lst_inv tv
    refine ⟨l, vs, rfl, h2.len, fun H' Z' lt => ⟨lt.1 _ _ h1, fun i d hi => ?_⟩⟩
    obtain ⟨u, h3, h4⟩ := h2.get hi
    exact ⟨u, h3, argR lt.2.1 lt.1 h4⟩
  | sh d =>
    have : d = .lst ds := hd
    subst this
    exact key (fun _ => rfl) tv
  | own es =>
    cases es with
    | lst es =>
      cases hd
      exact key (fun _ => rfl) (tv.shd env1.same env.zm S1 rfl)
    | dK es => cases hd
    | dT es => cases hd
    | ins x C xs cs => cases hd
  | view es => cases hf
  | tmp d => cases hf
theorem si_list {te : TE} {a : PTE} (ha : SndE K mg E te a) : SndI K mg E (iList K te) (pIL a) := by
  intro H0 B H σ γ R X Q env h q qx
  refine ha H0 B H σ γ _ X _ env h (fun s v H1 h1 S1 t1 => ?_) qx
  have env1 := env.grow S1
  split at h1
  · rename_i ds ed
    obtain ⟨l, vs, rfl, hn, hl⟩ := t1.last env S1 h1.1 ed
    obtain ⟨hl1, _⟩ := hl H1 _ (Later.of env1 Fr.refl)
    refine ⟨l, rfl, ⟨vs, SqL.of hl1⟩, q _ _ _ H1 h1.2 S1 ⟨fun i H' Z' hi lt => ?_, fun H' Z' lt => ?_⟩⟩
    · obtain ⟨k1, k2⟩ := hl H' Z' lt
      have hd : ds[i]? = some (ds.getD i .non) := by rw [List.getD_eq_getElem?_getD, List.getElem?_eq_getElem hi]; rfl
      obtain ⟨u, hu, tu⟩ := k2 i _ hd
      refine ⟨⟨vs, u, SqL.of k1, hu⟩, fun x H'' y => ?_⟩
      obtain ⟨rfl, y⟩ := y
      have := y vs (SqL.of k1)
      rw [hu] at this
      cases this
      exact ⟨Same.refl _, tu⟩
    · exact ⟨vs, SqL.of (hl H' Z' lt).1, by omega⟩
  · rename_i ns ed
    have hs : ∃ l, v = .ref l ∧ ∀ (H' : Hp) (Z' : Addr → Prop), Later H0 (zof B γ σ) H1 Z' H' → SqL K H' l (ns.map V.int) := by
      cases s with
      | bor d =>
        have t1 := Rp.strip t1
        rw [show d.strip = .scr ns from ed] at t1
        cases t1 with
        | scr hs => exact ⟨_, rfl, fun H' Z' lt => lt.1.seq hs⟩
      | sh d =>
        have : d = .scr ns := ed
        subst this
        cases t1 with
        | scr hs => exact ⟨_, rfl, fun H' Z' lt => off_sub.seq (lt.off.seq hs)⟩
      | own es => cases es <;> cases ed
      | view es => cases es <;> cases ed
      | tmp d => cases h1.1
    obtain ⟨l, rfl, hl⟩ := hs
    refine ⟨l, rfl, ⟨_, hl H1 _ (Later.of env1 Fr.refl)⟩, q _ _ _ H1 h1.2 S1 ⟨fun i H' Z' hi lt => ?_, fun H' Z' lt => ?_⟩⟩
    · have k1 := hl H' Z' lt
      have hu : (ns.map V.int)[i]? = some (.int (ns.getD i 0)) := by
        rw [List.getElem?_map, List.getElem?_eq_getElem hi, List.getD_eq_getElem?_getD, List.getElem?_eq_getElem hi]
        rfl
      refine ⟨⟨_, _, k1, hu⟩, fun x H'' y => ?_⟩
      obtain ⟨rfl, y⟩ := y
      have := y _ k1
      rw [hu] at this
      cases this
      exact ⟨Same.refl _, .int _⟩
    · exact ⟨_, hl H' Z' lt, by rw [List.length_map]; exact Nat.le_refl _⟩
  · exact h1.elim
noncomputable def fR1 (R : Nat → (Nat → S) → Prop) : List D → Prop
  | [.int j] => (-(2 ^ 62) ≤ j ∧ j < 2 ^ 62) ∧ R j.toNat fun i => .sh (.int (0 + (i : Int)))
  | _ => False
noncomputable def fR2 (R : Nat → (Nat → S) → Prop) : List D → Prop
  | [.int i, .int j] => (-(2 ^ 62) ≤ i ∧ i < 2 ^ 62 ∧ -(2 ^ 62) ≤ j ∧ j < 2 ^ 62) ∧ R (j - i).toNat fun k => .sh (.int (i + (k : Int)))
  | _ => False
noncomputable def pIR1 (r : PTA) : PTI := fun γ R X => r γ (fun ss => fR1 R (ss.map S.d)) X
noncomputable def pIR2 (r : PTA) : PTI := fun γ R X => r γ (fun ss => fR2 R (ss.map S.d)) X
theorem Rps.one_inv {d : D} {vs : List V} (h : Rps K H [d] vs) : ∃ v, vs = [v] ∧ Rp K H d v := by
  cases h with
  | cons h r => cases r; exact ⟨_, rfl, h⟩
theorem Rps.two_inv {d e : D} {vs : List V} (h : Rps K H [d, e] vs) : ∃ v u, vs = [v, u] ∧ Rp K H d v ∧ Rp K H e u := by
  cases h with
  | cons h r => cases r with | cons h2 r => cases r; exact ⟨_, _, rfl, h, h2⟩
theorem itr_ok {lo : Int} {n : Nat} : ItOk K H0 B H1 σ γ (Itr lo n) n fun i => .sh (.int (lo + (i : Int))) := by
  refine ⟨fun i H' Z' hi lt => ⟨hi, fun x H'' y => ?_⟩, fun H' Z' lt => Nat.le_refl _⟩
  obtain ⟨e, y⟩ := y
  subst e y
  exact ⟨Same.refl _, .int _⟩
theorem si_range1 {ta : TA} {r : PTA} (hr : SndA K mg E ta r) : SndI K mg E (iRng1 ta) (pIR1 r) := by
  intro H0 B H σ γ R X Q env h q qx
  refine hr H0 B H σ γ _ X _ env h (fun ss vs H1 h1 S1 t1 => ?_) qx
  have rv := t1.rps (env.grow S1).same
  unfold fR1 at h1
  split at h1
  · rename_i j ej
    rw [ej] at rv
    obtain ⟨v, rfl, r1⟩ := rv.one_inv
    rw [r1.int_inv]
    exact ⟨j, rfl, h1.1.1, h1.1.2, q _ _ _ H1 h1.2 S1 itr_ok⟩
  · exact h1.elim
theorem si_range2 {ta : TA} {r : PTA} (hr : SndA K mg E ta r) : SndI K mg E (iRng2 ta) (pIR2 r) := by
  intro H0 B H σ γ R X Q env h q qx
  refine hr H0 B H σ γ _ X _ env h (fun ss vs H1 h1 S1 t1 => ?_) qx
  have rv := t1.rps (env.grow S1).same
  unfold fR2 at h1
  split at h1
  · rename_i i j ej
    rw [ej] at rv
    obtain ⟨v, u, rfl, r1, r2⟩ := rv.two_inv
    rw [r1.int_inv, r2.int_inv]
    exact ⟨i, j, rfl, h1.1, q _ _ _ H1 h1.2 S1 itr_ok⟩
  · exact h1.elim
end
end Pu

namespace Pu
open PySem PySem.Spec PyProof.Rows L2 Own
section
variable {K : PySem.W.Frag} {mg : Str → Option Value} {E : L2.St → XK} {H0 H H1 H' : Hp} {B Z Z' : Addr → Prop} {σ : L2.St} {γ : Γ}
/-! ### a def by its body -/
noncomputable def startP (N : List Str) (ds : List D) : Γ := ds.map (fun d => some (arg d)) ++ List.replicate (N.length - ds.length) none
theorem start_env {N : List Str} {ds : List D} {vs : List V} (r : Rps K H ds vs) (hn : ds.length ≤ N.length) : EnvR K H (fun b => Mut (H b)) H (start N vs) (startP N ds) := by
  have hlen := r.len
  have get : ∀ (i : Nat) (s : S), (startP N ds)[i]? = some (some s) → ∃ d, ds[i]? = some d ∧ s = arg d := fun i s h => by
    unfold startP at h
    by_cases hi : i < ds.length
    · rw [List.getElem?_append_left (by rw [List.length_map]; exact hi), List.getElem?_map, List.getElem?_eq_getElem hi] at h
      exact ⟨_, List.getElem?_eq_getElem hi, (Option.some.inj (Option.some.inj h)).symm⟩
    · rw [List.getElem?_append_right (by rw [List.length_map]; omega), List.getElem?_replicate] at h
      split at h <;> cases h
  have noown : ∀ (i : Nat) (es : O), (startP N ds)[i]? ≠ some (some (.own es)) := fun i es h => by
    obtain ⟨d, _, e⟩ := get i _ h
    rcases arg_cases d with q | q <;> rw [q] at e <;> cases e
  refine ⟨Same.refl _, ?_, fun b h => h, fun i j a a' es es' b h => absurd h (noown i es), fun i s h => ?_⟩
  · unfold L2.start startP
    simp [hlen]
  · obtain ⟨d, hd, rfl⟩ := get i s h
    obtain ⟨v, hv, rv⟩ := r.get hd
    refine ⟨v, ?_, ?_⟩
    · unfold L2.start
      rw [List.getElem?_append_left (by rw [List.length_map]; exact (List.getElem?_eq_some_iff.mp hv).1), List.getElem?_map, hv]
      rfl
    · have tv := argR (K := K) (Z := zof (fun b => Mut (H b)) (startP N ds) (start N vs)) (H0 := H) (H := H) (H' := H) (fun b z => z.elim id fun ⟨k, es, _, k1, _⟩ => absurd k1 (noown k es)) (Same.refl _) rv
      rcases arg_cases d with q | q <;> rw [q] at tv ⊢ <;> exact tv
theorem fn_use {c : Pc} {N : List Str} {t : TS} {p : PTS} {vs : List V} {Q : VK} {Ec : XK} {n : Nat} (h : spOf mg c K vs H Q Ec) (snd : SndS K mg (fun _ => Ec) t p) (hn : n ≤ N.length)
    (hp : ∀ ds R X, c ds R X → ds.length = n ∧ p { nx := fun _ => R (.sh .non), rt := R, ex := fun _ e => X e } (startP N ds)) : t { nx := fun _ H' => Q .non H', rt := Q } (start N vs) H := by
  obtain ⟨ds, R, X, r, hc, hQ, hX⟩ := h
  obtain ⟨e, hp⟩ := hp ds R X hc
  refine snd H (fun b => Mut (H b)) H _ _ _ _ (fun b z => mut_some z) (start_env r (by rw [e]; exact hn)) hp ⟨fun σ' γ' H' h1 e1 f1 => hQ _ _ H' h1 e1.same .non, fun s v H' h1 S1 tv => hQ s v H' h1 S1 tv, fun σ' γ' c H' h1 e1 f1 => hX c H' h1 e1.same, fun _ _ _ z => z.elim, fun _ _ _ z => z.elim, fun _ _ _ _ _ z => z.elim⟩
theorem spOf_len {c : Pc} {vs : List V} {Q : VK} {Ec : XK} {n : Nat} (h : spOf mg c K vs H Q Ec) (hn : ∀ ds R X, c ds R X → ds.length = n) : vs.length = n := by
  obtain ⟨ds, R, X, r, hc, _⟩ := h
  rw [r.len]
  exact hn ds R X hc
/-! ### a comprehension -/
end
end Pu

namespace Pu
open PySem PySem.Spec PyProof.Rows L2 Own M
section
variable {K : PySem.W.Frag} {mg : Str → Option Value} {E : L2.St → XK} {H0 H H1 H' : Hp} {B Z Z' : Addr → Prop} {σ : L2.St} {γ : Γ}
/-! ### Python's own functions -/
/-- f: what is wanted of the values at hand -/
noncomputable def pCB (f : List S → (S → Prop) → Prop) (r : PTA) : PTE := fun γ R X => r γ (fun ss => f ss R) X
theorem se_cb {rr : List V → Hp → VK → Prop} {f : List S → (S → Prop) → Prop} {ta : TA} {r : PTA} (hr : SndA K mg E ta r)
    (h : ∀ (H0 H H1 : Hp) (Z : Addr → Prop) (ss : List S) (vs : List V) (R : S → Prop) (Q : VK), Same H0 H1 → Same H H1 → (∀ b, Z b → Mut (H b)) → TVs K Z H0 H H1 ss vs → f ss R → (∀ s z H', R s → Same H1 H' → TV K Z H0 H H' s z → Q z H') → rr vs H1 Q) :
    SndE K mg E (tCB rr ta) (pCB f r) := by
  intro H0 B H σ γ R X Q env p q qx
  refine hr H0 B H σ γ _ X _ env p (fun ss vs H1 h1 S1 t1 => ?_) qx
  exact h H0 H H1 _ ss vs R Q (env.grow S1).same S1 env.zm t1 h1 fun s z H' hs S2 tv => q s z H' hs (S1.trans S2) tv
/-- its parts may be parts of something new -/
noncomputable def S.free : S → List D → Bool
  | .bor _, ds => imms ds | .tmp _, ds => imms ds | _, _ => true
theorem TVs.one_inv {s : S} {vs : List V} (h : TVs K Z H0 H H' [s] vs) : ∃ v, vs = [v] ∧ TV K Z H0 H H' s v := by
  cases h with
  | cons h r => cases r; exact ⟨_, rfl, h⟩
theorem TVs.two_inv {s t : S} {vs : List V} (h : TVs K Z H0 H H' [s, t] vs) : ∃ v u, vs = [v, u] ∧ TV K Z H0 H H' s v ∧ TV K Z H0 H H' t u := by
  cases h with
  | cons h r => cases r with | cons h2 r => cases r; exact ⟨_, _, rfl, h, h2⟩
/-- the items of a list that may be handed on -/
theorem TV.items {s : S} {v : V} {ds : List D} (h0 : Same H0 H') (hm : ∀ b, Z b → Mut (H b)) (S1 : Same H H') (h : TV K Z H0 H H' s v) (hf : s.free ds = true) :
    (s.d = .lst ds → ∃ a vs, v = .ref a ∧ H' a = some (.lst vs) ∧ Rps K (off Z H') ds vs) ∧ (s.d = .tup ds → ∃ a vs, v = .ref a ∧ H' a = some (.tup vs) ∧ Rps K (off Z H') ds vs) := by
  have hm' : ∀ b, Z b → Mut (H' b) := fun b z => mut_same S1 (hm b z)
  cases s with
  | bor d =>
    have h := Rp.strip h
    refine ⟨fun e => ?_, fun e => ?_⟩ <;> rw [show d.strip = _ from e] at h
    · obtain ⟨a, vs, rfl, h1, r⟩ := Rp.lst_inv h
      exact ⟨a, vs, rfl, h0 _ _ h1, Rps.off hm' (Rps.mono h0 r) hf⟩
    · obtain ⟨a, vs, rfl, h1, r⟩ := Rp.tup_inv h
      exact ⟨a, vs, rfl, h0 _ _ h1, Rps.off hm' (Rps.mono h0 r) hf⟩
  | sh d =>
    refine ⟨fun e => ?_, fun e => ?_⟩ <;> (have e' : d = _ := e; subst e')
    · obtain ⟨a, vs, rfl, h1, r⟩ := Rp.lst_inv h
      exact ⟨a, vs, rfl, off_sub _ _ h1, r⟩
    · obtain ⟨a, vs, rfl, h1, r⟩ := Rp.tup_inv h
      exact ⟨a, vs, rfl, off_sub _ _ h1, r⟩
  | own es =>
    cases es with
    | dK es => exact ⟨(fun e => by cases e), (fun e => by cases e)⟩
    | dT es => exact ⟨(fun e => by cases e), (fun e => by cases e)⟩
    | ins x C xs cs => exact ⟨(fun e => by cases e), (fun e => by cases e)⟩
    | lst es =>
      refine ⟨fun e => ?_, fun e => by cases e⟩
      cases e
      obtain ⟨a, rfl, e0, vs, e, r⟩ := h
      exact ⟨a, vs, rfl, e, Rps.mono (off_mono (Same.refl _) fun b _ _ z y => z (.inl y)) r⟩
  | view es =>
    cases es with
    | dK es => exact ⟨(fun e => by cases e), (fun e => by cases e)⟩
    | dT es => exact ⟨(fun e => by cases e), (fun e => by cases e)⟩
    | ins x C xs cs => exact ⟨(fun e => by cases e), (fun e => by cases e)⟩
    | lst es =>
      refine ⟨fun e => ?_, fun e => by cases e⟩
      cases e
      obtain ⟨a, rfl, vs, e, r⟩ := h
      exact ⟨a, vs, rfl, e, r⟩
  | tmp d =>
    refine ⟨fun e => ?_, fun e => ?_⟩ <;> (have e' : d = _ := e; subst e')
    · obtain ⟨a, vs, rfl, h1, r⟩ := Rp.lst_inv h
      exact ⟨a, vs, rfl, h1, Rps.off hm' r hf⟩
    · obtain ⟨a, vs, rfl, h1, r⟩ := Rp.tup_inv h
      exact ⟨a, vs, rfl, h1, Rps.off hm' r hf⟩
noncomputable def fLen : List S → (S → Prop) → Prop
  | [s], R => (match s.d with
    | .lst ds => R (.sh (.int ds.length)) | .tup ds => R (.sh (.int ds.length)) | .scr ns => R (.sh (.int ns.length)) | .str x => x.length ≤ sizeLine ∧ R (.sh (.int x.length)) | _ => False)
  | _, _ => False
theorem se_len {ta : TA} {r : PTA} (hr : SndA K mg E ta r) : SndE K mg E (tCB (fun xs H Q => ∃ x n, xs = [x] ∧ LenV K x H n ∧ Q (.int n) H) ta) (pCB fLen r) := by
  refine se_cb hr fun H0 H H1 Z ss vs R Q s0 s1 hm tv h q => ?_
  unfold fLen at h
  split at h
  · rename_i s
    obtain ⟨v, rfl, t1⟩ := tv.one_inv
    have rv := t1.rp s0
    split at h
    · rename_i ds e
      rw [e] at rv
      obtain ⟨a, us, rfl, h1, r1⟩ := rv.lst_inv
      exact ⟨_, _, rfl, .inl ⟨us, SqL.of h1, rfl⟩, by rw [r1.len]; exact q _ _ H1 h (Same.refl _) (.int _)⟩
    · rename_i ds e
      rw [e] at rv
      obtain ⟨a, us, rfl, h1, r1⟩ := rv.tup_inv
      exact ⟨_, _, rfl, .inr ⟨us, SqT.of h1, rfl⟩, by rw [r1.len]; exact q _ _ H1 h (Same.refl _) (.int _)⟩
    · rename_i ns e
      rw [e] at rv
      cases rv with
      | scr hs => exact ⟨_, _, rfl, .inl ⟨_, hs, rfl⟩, by rw [List.length_map]; exact q _ _ H1 h (Same.refl _) (.int _)⟩
    · rename_i x e
      rw [e] at rv
      rw [rv.str_inv]
      exact ⟨_, _, rfl, ⟨h.1, rfl⟩, q _ _ H1 h.2 (Same.refl _) (.int _)⟩
    · exact h.elim
  · exact h.elim
/-- list(xs) -/
noncomputable def fList : List S → (S → Prop) → Prop
  | [s], R => (match s.d with
    | .lst ds => s.free ds = true ∧ R (.own ds) | .tup ds => s.free ds = true ∧ R (.own ds) | _ => False)
  | _, _ => False
theorem se_list {ta : TA} {r : PTA} (hr : SndA K mg E ta r) : SndE K mg E (tCB (fun xs H Q => ∃ p ys, xs = [.ref p] ∧ (SqL K H p ys ∨ SqT K H p ys) ∧ ∀ l, H l = none → Q (.ref l) (upd H l (.lst ys))) ta) (pCB fList r) := by
  refine se_cb hr fun H0 H H1 Z ss vs R Q s0 s1 hm tv h q => ?_
  unfold fList at h
  split at h
  · rename_i s
    obtain ⟨v, rfl, t1⟩ := tv.one_inv
    split at h
    · rename_i ds e
      obtain ⟨a, us, rfl, h1, r1⟩ := (t1.items s0 hm s1 h.1).1 e
      exact ⟨a, us, rfl, .inl (SqL.of h1), fun l nl => q _ _ _ h.2 (same_upd nl) (own_new s1 nl r1)⟩
    · rename_i ds e
      obtain ⟨a, us, rfl, h1, r1⟩ := (t1.items s0 hm s1 h.1).2 e
      exact ⟨a, us, rfl, .inr (SqT.of h1), fun l nl => q _ _ _ h.2 (same_upd nl) (own_new s1 nl r1)⟩
    · exact h.elim
  · exact h.elim
theorem Rps.ints {K : PySem.W.Frag} {H : Hp} : ∀ {js : List Int} {vs : List V}, Rps K H (js.map D.int) vs → vs = js.map V.int
  | [], _, .nil => rfl
  | j :: r, _, .cons h t => by rw [Rp.int_inv h, Rps.ints t]; rfl
noncomputable def fMax2 : List S → (S → Prop) → Prop
  | [s, t], R => (match s.d, t.d with | .int i, .int j => R (.sh (.int (if j > i then j else i))) | _, _ => False)
  | _, _ => False
theorem se_max2 {ta : TA} {r : PTA} (hr : SndA K mg E ta r) : SndE K mg E (tCB (fun xs H Q => ∃ i j, xs = [.int i, .int j] ∧ Q (.int (if j > i then j else i)) H) ta) (pCB fMax2 r) := by
  refine se_cb hr fun H0 H H1 Z ss vs R Q s0 s1 hm tv h q => ?_
  unfold fMax2 at h
  split at h
  · obtain ⟨v, u, rfl, t1, t2⟩ := tv.two_inv
    have r1 := t1.rp s0
    have r2 := t2.rp s0
    split at h
    · rename_i i j e1 e2
      rw [e1] at r1
      rw [e2] at r2
      rw [r1.int_inv, r2.int_inv]
      exact ⟨i, j, rfl, q _ _ H1 h (Same.refl _) (.int _)⟩
    · exact h.elim
  · exact h.elim
noncomputable def fAbs : List S → (S → Prop) → Prop
  | [s], R => (match s.d with | .int i => R (.sh (.int (if i < 0 then -i else i))) | _ => False)
  | _, _ => False
/-- isinstance(x, T), T of Python's own -/
noncomputable def tyD : D → Option String
  | .int _ => some "int" | .bl _ => some "bool" | .non => some "NoneType" | .str _ => some "str" | .tup _ => some "tuple" | .lst _ => some "list" | .dK _ => some "dict" | .dT _ => some "dict" | _ => none
inductive IsiR : String → String → Bool → Prop
  | same (n : String) : IsiR n n true
  | ib : IsiR "int" "bool" false
  | bi : IsiR "bool" "int" true
  | tl : IsiR "tuple" "list" false
  | lt : IsiR "list" "tuple" false
  | it : IsiR "int" "tuple" false
  | il : IsiR "int" "list" false
  | bt : IsiR "bool" "tuple" false
  | bL : IsiR "bool" "list" false
  | ti : IsiR "tuple" "int" false
  | li : IsiR "list" "int" false
  | si : IsiR "str" "int" false
  | is : IsiR "int" "str" false
  | ni : IsiR "NoneType" "int" false
  | nl : IsiR "NoneType" "list" false
  | nt : IsiR "NoneType" "tuple" false
theorem IsiR.kit {m n : String} {b : Bool} (h : IsiR m n b) : PySem.W.kitOne K (.type m) (.type n) = some b := by
  cases h with
  | same => exact kit_same K _
  | _ => rfl
noncomputable def fIsi : List S → (S → Prop) → Prop
  | [s, t], R => (match tyD s.d, t.d with | some m, .ty n => ∃ b, IsiR m n b ∧ R (.sh (.bl b)) | _, _ => False)
  | _, _ => False
theorem tyD_of {d : D} {v : V} {m : String} (h : Rp K H d v) (e : tyD d = some m) : TyOf K H v (.type m) := by
  cases h with
  | int i => cases e; exact .int i
  | bl b => cases e; exact .bl b
  | non => cases e; exact .non
  | str x => cases e; exact .str x
  | ty n => cases e
  | tup h r => cases e; exact .tup h
  | lst h r => cases e; exact .lst h
  | scr h => cases e
  | dK h => cases e; exact .dK h
  | dT h => cases e; exact .dT h
  | loc h => cases e
  | err h => cases e
  | ref a => cases e
  | ins h q r => cases e
theorem se_isi {ta : TA} {r : PTA} (hr : SndA K mg E ta r) : SndE K mg E (tCB (fun xs H Q => ∃ x n t b, xs = [x, .ty n] ∧ TyOf K H x t ∧ PySem.W.kitOne K t (.type n) = some b ∧ Q (.bl b) H) ta) (pCB fIsi r) := by
  refine se_cb hr fun H0 H H1 Z ss vs R Q s0 s1 hm tv h q => ?_
  unfold fIsi at h
  split at h
  · obtain ⟨v, u, rfl, t1, t2⟩ := tv.two_inv
    have r1 := t1.rp s0
    have r2 := t2.rp s0
    split at h
    · rename_i m n e1 e2
      rw [e2] at r2
      rw [r2.ty_inv]
      obtain ⟨b, k, hR⟩ := h
      exact ⟨v, n, _, b, rfl, tyD_of r1 e1, k.kit, q _ _ H1 hR (Same.refl _) (.bl _)⟩
    · exact h.elim
  · exact h.elim
/-! ### methods of lists that change nothing -/
/-! ### in -/
noncomputable def prD (p : Int × Int) : D := .tup [.int p.1, .int p.2]
/-! ### == of lists of ints too -/
noncomputable def fEqU (neg : Bool) : S → S → (S → Prop) → Prop := fun x y R => match x.d, y.d with
  | .lst ds, .lst es => ∃ xs ys : List Int, ds = xs.map D.int ∧ es = ys.map D.int ∧ R (.sh (.bl (if neg then !decide (xs = ys) else decide (xs = ys))))
  | _, _ => fEq neg x y R
theorem se_eqU {ta tb : TE} {a b : PTE} (ha : SndE K mg E ta a) (hb : SndE K mg E tb b) : SndE K mg E (tOp (fun x y H Q => rEq x y H Q ∨ rEqL K false x y H Q) ta tb) (p2 a b (fEqU false)) := by
  refine se_2 ha hb fun H0 H H2 Z x y v u R Q s0 s1 hm tx ty h q => ?_
  have rx := tx.rp s0
  have ry := ty.rp s0
  unfold fEqU at h
  split at h
  · rename_i ds es e1 e2
    obtain ⟨xs, ys, rfl, rfl, hR⟩ := h
    rw [e1] at rx
    rw [e2] at ry
    obtain ⟨l, us, rfl, hl, r⟩ := rx.lst_inv
    obtain ⟨m, ws, rfl, hm, r'⟩ := ry.lst_inv
    rw [r.ints] at hl
    rw [r'.ints] at hm
    refine .inr ⟨l, m, _, _, rfl, rfl, SqL.of hl, SqL.of hm, flat_ints _, flat_ints _, ?_⟩
    rw [eqL_ints]
    exact q _ _ H2 hR (Same.refl _) (.bl _)
  · refine .inl ?_
    unfold fEq at h
    split at h
    · rename_i i j e1 e2
      rw [e1] at rx
      rw [e2] at ry
      rw [rx.int_inv, ry.int_inv]
      refine ⟨rfl, ?_⟩
      rw [dec_inj (f := V.int) fun _ _ z => V.int.inj z]
      exact q _ _ H2 h (Same.refl _) (.bl _)
    · rename_i i j e1 e2
      rw [e1] at rx
      rw [e2] at ry
      rw [rx.str_inv, ry.str_inv]
      refine ⟨rfl, ?_⟩
      rw [dec_inj (f := V.str) fun _ _ z => V.str.inj z]
      exact q _ _ H2 h (Same.refl _) (.bl _)
    · rename_i i j e1 e2
      rw [e1] at rx
      rw [e2] at ry
      rw [rx.bl_inv, ry.bl_inv]
      refine ⟨rfl, ?_⟩
      rw [dec_inj (f := V.bl) fun _ _ z => V.bl.inj z]
      exact q _ _ H2 h (Same.refl _) (.bl _)
    · exact h.elim
theorem se_neU {ta tb : TE} {a b : PTE} (ha : SndE K mg E ta a) (hb : SndE K mg E tb b) : SndE K mg E (tOp (fun x y H Q => rNe x y H Q ∨ rEqL K true x y H Q) ta tb) (p2 a b (fEqU true)) := by
  refine se_2 ha hb fun H0 H H2 Z x y v u R Q s0 s1 hm tx ty h q => ?_
  have rx := tx.rp s0
  have ry := ty.rp s0
  unfold fEqU at h
  split at h
  · rename_i ds es e1 e2
    obtain ⟨xs, ys, rfl, rfl, hR⟩ := h
    rw [e1] at rx
    rw [e2] at ry
    obtain ⟨l, us, rfl, hl, r⟩ := rx.lst_inv
    obtain ⟨m, ws, rfl, hm, r'⟩ := ry.lst_inv
    rw [r.ints] at hl
    rw [r'.ints] at hm
    refine .inr ⟨l, m, _, _, rfl, rfl, SqL.of hl, SqL.of hm, flat_ints _, flat_ints _, ?_⟩
    rw [eqL_ints]
    exact q _ _ H2 hR (Same.refl _) (.bl _)
  · refine .inl ?_
    unfold fEq at h
    split at h
    · rename_i i j e1 e2
      rw [e1] at rx
      rw [e2] at ry
      rw [rx.int_inv, ry.int_inv]
      refine ⟨rfl, ?_⟩
      rw [dec_inj (f := V.int) fun _ _ z => V.int.inj z]
      exact q _ _ H2 h (Same.refl _) (.bl _)
    · rename_i i j e1 e2
      rw [e1] at rx
      rw [e2] at ry
      rw [rx.str_inv, ry.str_inv]
      refine ⟨rfl, ?_⟩
      rw [dec_inj (f := V.str) fun _ _ z => V.str.inj z]
      exact q _ _ H2 h (Same.refl _) (.bl _)
    · rename_i i j e1 e2
      rw [e1] at rx
      rw [e2] at ry
      rw [rx.bl_inv, ry.bl_inv]
      refine ⟨rfl, ?_⟩
      rw [dec_inj (f := V.bl) fun _ _ z => V.bl.inj z]
      exact q _ _ H2 h (Same.refl _) (.bl _)
    · exact h.elim
/-! ### truth -/
noncomputable abbrev tTru (K : PySem.W.Frag) (ta : TE) : TT := fun σ H Q => ta σ H fun x H' => ∃ k, TruV K x H' k ∧ Q k H'
noncomputable def pTru (a : PTE) : PTT := fun γ R X => a γ (fun x => match x.d with
  | .bl b => R b | .lst ds => R (!ds.isEmpty) | .tup ds => R (!ds.isEmpty) | .int i => R (i != 0) | .non => R false | _ => False) X
theorem isEmpty_len {α β : Type} {l : List α} {m : List β} (h : l.length = m.length) : l.isEmpty = m.isEmpty := by
  cases l <;> cases m <;> simp at h ⊢
theorem st_tru {te : TE} {a : PTE} (ha : SndE K mg E te a) : SndT K mg E (tTru K te) (pTru a) := by
  intro H0 B H σ γ R X Q env p q qx
  refine ha H0 B H σ γ _ X _ env p (fun x v H1 h1 S1 t1 => ?_) qx
  have rx := t1.rp (env.grow S1).same
  split at h1
  · rename_i b e
    rw [e] at rx
    rw [rx.bl_inv]
    exact ⟨b, rfl, q _ H1 h1 S1⟩
  · rename_i ds e
    rw [e] at rx
    obtain ⟨l, us, rfl, hl, r⟩ := rx.lst_inv
    exact ⟨!us.isEmpty, .inl ⟨us, SqL.of hl, rfl⟩, by rw [isEmpty_len r.len]; exact q _ H1 h1 S1⟩
  · rename_i ds e
    rw [e] at rx
    obtain ⟨l, us, rfl, hl, r⟩ := rx.tup_inv
    exact ⟨!us.isEmpty, .inr (.inl ⟨us, SqT.of hl, rfl⟩), by rw [isEmpty_len r.len]; exact q _ H1 h1 S1⟩
  · rename_i i e
    rw [e] at rx
    rw [rx.int_inv]
    exact ⟨_, rfl, q _ H1 h1 S1⟩
  · rename_i e
    rw [e] at rx
    rw [rx.non_inv]
    exact ⟨_, rfl, q _ H1 h1 S1⟩
  · exact h1.elim
/-! ### slices, + of lists -/
noncomputable def cutD {α : Type} (xs : List α) (lo hi : Option Int) : List α := (xs.drop (HT.sIx xs.length 0 lo)).take (HT.sIx xs.length xs.length hi - HT.sIx xs.length 0 lo)
noncomputable def pNoPart : PTO := fun _ R _ => R none
noncomputable def pPart (a : PTE) : PTO := fun γ R X => a γ (fun s => match s.d with | .int i => R (some i) | _ => False) X
theorem so_none : SndO K mg E tNoPart pNoPart := fun _ _ H _ _ _ _ _ _ p q _ => q _ H p (Same.refl _)
theorem so_some {te : TE} {a : PTE} (ha : SndE K mg E te a) : SndO K mg E (tPart te) (pPart a) := by
  intro H0 B H σ γ R X Q env p q qx
  refine ha H0 B H σ γ _ X _ env p (fun x v H1 h1 S1 t1 => ?_) qx
  have rx := t1.rp (env.grow S1).same
  split at h1
  · rename_i i e
    rw [e] at rx
    exact ⟨i, rx.int_inv, q _ H1 h1 S1⟩
  · exact h1.elim
noncomputable def pSl (a : PTE) (l u : PTO) : PTE := fun γ R X => a γ (fun s => l γ (fun lo => u γ (fun hi => match s.d with | .lst ds => s.free ds = true ∧ R (.own (cutD ds lo hi)) | _ => False) X) X) X
theorem Rps.cut {ds : List D} {vs : List V} {lo hi : Option Int} (r : Rps K H ds vs) : Rps K H (cutD ds lo hi) (cutV vs lo hi) := by
  unfold cutD cutV
  rw [r.len]
  exact Rps.take _ (Rps.drop _ r)
theorem se_slice {te : TE} {tl th : TO} {a : PTE} {l u : PTO} (ha : SndE K mg E te a) (hl : SndO K mg E tl l) (hu : SndO K mg E th u) : SndE K mg E (tSl (rSlL K) te tl th) (pSl a l u) := by
  intro H0 B H σ γ R X Q env p q qx
  refine ha H0 B H σ γ _ X _ env p (fun x v H1 h1 S1 t1 => ?_) qx
  refine hl H0 B H1 σ γ _ X _ (env.grow S1) h1 (fun lo H2 h2 S2 => ?_) fun c H' hc S' => qx c H' hc (S1.trans S')
  refine hu H0 B H2 σ γ _ X _ ((env.grow S1).grow S2) h2 (fun hi H3 h3 S3 => ?_) fun c H' hc S' => qx c H' hc ((S1.trans S2).trans S')
  have S13 := (S1.trans S2).trans S3
  split at h3
  · rename_i ds e
    obtain ⟨b, us, rfl, hb, r⟩ := ((t1.grow (S2.trans S3)).items (env.grow S13).same env.zm S13 h3.1).1 e
    exact ⟨b, us, rfl, SqL.of hb, fun m nm => q _ _ _ h3.2 (S13.trans (same_upd nm)) (own_new S13 nm r.cut)⟩
  · exact h3.elim
noncomputable def fCat : S → S → (S → Prop) → Prop := fun x y R => match x.d, y.d with
  | .lst ds, .lst es => x.free ds = true ∧ y.free es = true ∧ ds.length + es.length ≤ 100000 ∧ R (.own (ds ++ es))
  | _, _ => False
theorem se_cat {ta tb : TE} {a b : PTE} (ha : SndE K mg E ta a) (hb : SndE K mg E tb b) : SndE K mg E (tOp rCat ta tb) (p2 a b fCat) := by
  refine se_2 ha hb fun H0 H H2 Z x y v u R Q s0 s1 hm tx ty h q => ?_
  unfold fCat at h
  split at h
  · rename_i ds es e1 e2
    obtain ⟨l, us, rfl, hl, r⟩ := (tx.items s0 hm s1 h.1).1 e1
    obtain ⟨m, ws, rfl, hm', r'⟩ := (ty.items s0 hm s1 h.2.1).1 e2
    have hz : us.length + ws.length ≤ sizeLine := by rw [r.len, r'.len]; exact Nat.le_trans h.2.2.1 (by decide)
    exact ⟨l, m, us, ws, rfl, rfl, hl, hm', hz, fun p np => q _ _ _ h.2.2.2 (same_upd np) (own_new s1 np (r.append r'))⟩
  · exact h.elim
/-! ### one's own lists that change -/
noncomputable def pAppend (i : Nat) (a : PTE) : PTS := fun R γ => match γ[i]? with
  | some (some (.own (.lst ds))) => a γ (fun s => match s.shd with
    | some d => ds.length < 10000000 ∧ R.nx (γ.set i (some (.own (ds ++ [d]))))
    | none => False) (R.ex γ)
  | _ => False
theorem ss_append (i : Nat) {te : TE} {a : PTE} (ha : SndE K mg E te a) : SndS K mg E (tDrop (tBM K "list" rAppend (tVar i) (tCons te tNil))) (pAppend i a) := by
  intro H0 B H σ γ R D hB env h e
  unfold pAppend at h
  split at h
  · rename_i ds hi
    obtain ⟨v, hv, b, rfl, hb0, us, hb, rb⟩ := env.slot i _ hi
    refine ⟨_, hv, .inl ⟨rfl, us, SqL.of hb⟩, ha H0 B H σ γ _ _ _ env h (fun s u H1 h1 S1 t1 => ?_) fun c H' hc S' => e.ex σ γ c H' hc (env.grow S') (Fr.grow S')⟩
    have env1 := env.grow S1
    split at h1
    · rename_i d e2
      have rd := t1.shd env1.same env.zm S1 e2
      refine ⟨b, us, u, rfl, rfl, S1 _ _ hb, by rw [rb.len]; exact Nat.lt_trans h1.1 (by decide), ?_⟩
      obtain ⟨e2, f2⟩ := env1.mutate (es := .lst (ds ++ [d])) (us := .lst (us ++ [u])) hi hv trivial fun F H' SF hF => ⟨_, hF, Rps.mono SF (Rps.append (Rps.mono (off_mono S1 fun _ _ _ z => z) rb) (.cons rd .nil))⟩
      exact e.nx _ _ _ h1.2 e2 ((Fr.grow S1).trans f2)
    · exact h1.elim
  · exact h.elim
end
section
variable {X : Cx} {K : PySem.W.Frag}
theorem op_eqU (hu : X.A.units < cLine) (hK : X.K = K := by rfl) : OpR X (compareOp .Eq) (fun x y H Q => rEq x y H Q ∨ rEqL K false x y H Q) := by subst hK; exact op_eq.or (op_eqL hu)
theorem op_neU (hu : X.A.units < cLine) (hK : X.K = K := by rfl) : OpR X (compareOp .NotEq) (fun x y H Q => rNe x y H Q ∨ rEqL K true x y H Q) := by subst hK; exact op_ne.or (op_neL hu)
theorem pt_tru {e : Expr} {te : TE} (ha : PE X e te) (hK : X.K = K := by rfl) (he : ∀ whole, isTrue e X.env whole = (do let v ← whole; standAt e.pos; holding [v] (truthy v)) := by intro _; rfl) : PT X e (tTru K te) := by
  subst hK
  exact pt_truth ha he
theorem call_listK (hK : X.K = K := by rfl) : CallR X (.type "list") (fun xs H Q => ∃ p ys, xs = [.ref p] ∧ (SqL K H p ys ∨ SqT K H p ys) ∧ ∀ l, H l = none → Q (.ref l) (upd H l (.lst ys))) := by subst hK; exact call_list_of
theorem call_isiK (hK : X.K = K := by rfl) : CallR X (.builtin "isinstance") (fun xs H Q => ∃ x n t b, xs = [x, .ty n] ∧ TyOf K H x t ∧ PySem.W.kitOne K t (.type n) = some b ∧ Q (.bl b) H) := by subst hK; exact call_isi
theorem sl_listK (hK : X.K = K := by rfl) : SlR X (rSlL K) := by subst hK; exact sl_list
theorem pi_listK {tg l : Expr} {tl : TE} (hl : PE X l tl) (hK : X.K = K := by rfl) : PI X tg l (iList K tl) := by subst hK; exact pi_list hl
end
end Pu

namespace Pu
open PySem PySem.Spec PyProof.Rows L2 Own M
section
variable {P : Program} {w : World} {K : PySem.W.Frag} {mg : Str → Option Value} {base : Heap} {H H' : Hp}
/-! ### from promises over a heap -/
theorem imms_ints : ∀ (ns : List Int), imms (ns.map D.int) = true
  | [] => by unfold List.map imms; rfl
  | n :: r => by rw [List.map_cons]; unfold imms; rw [imms_ints r]; unfold imm; rfl
theorem imm_pair (p : Int × Int) : imm (prD p) = true := by unfold prD imm imms imm imms imm imms; rfl
theorem imms_pairs : ∀ (ps : List (Int × Int)), imms (ps.map prD) = true
  | [] => by unfold List.map imms; rfl
  | p :: r => by rw [List.map_cons]; unfold imms; rw [imms_pairs r, imm_pair]; rfl
/-! ### loops and blocks over lists of one kind -/
theorem getD_map {α : Type} {f : α → D} {xs : List α} {i : Nat} (h : i < xs.length) : (xs.map f).getD i .non = f xs[i] := by
  rw [List.getD_eq_getElem?_getD, List.getElem?_map, List.getElem?_eq_getElem h]
  rfl
theorem at_map {α : Type} {f : α → D} {xs : List α} {i : Int} (h0 : 0 ≤ i) (h : i < (xs.length : Int)) : atI (xs.map f) i = some (f (xs[i.toNat]'(by omega))) := by
  have h' : i.toNat < xs.length := by omega
  exact atI_map (atI_pos h0 (List.getElem?_eq_getElem h'))
theorem at_nat {α : Type} {f : α → D} {xs : List α} {i : Nat} (h : i < xs.length) : atI (xs.map f) (i : Int) = some (f xs[i]) := atI_map (atI_nat (List.getElem?_eq_getElem h))
/-- for x in xs, xs of one kind -/
theorem for_of {α : Type} {js : List Nat} {γ : Γ} {g : PTG} {body : PTS} {s : S} {R : PEnds} {xs : List α} {emb : α → D} (inv : Nat → Γ → Prop) (h0 : inv 0 (clr js γ))
    (turn : ∀ (i : Nat) (hi : i < xs.length) γ', inv i γ' → g (s.sub (emb xs[i])) γ' fun γ2 => body { R with nx := fun γ3 => inv (i + 1) (clr js γ3), ct := fun γ3 => inv (i + 1) (clr js γ3), bk := R.nx } γ2)
    (done : ∀ γ', inv xs.length γ' → R.nx γ') :
    ForW js γ g body R (xs.map emb).length (fun i => s.sub ((xs.map emb).getD i .non)) := by
  refine ⟨⟨inv, h0, fun i γ' hi h => ?_, fun γ' h => ?_⟩⟩
  · rw [List.length_map] at hi
    have t := turn i hi γ' h
    rw [← getD_map (f := emb) hi] at t
    exact t
  · rw [List.length_map] at h
    exact done γ' h
/-- for k in range(..) -/
theorem forR_of {js : List Nat} {γ : Γ} {g : PTG} {body : PTS} {R : PEnds} {n : Nat} {item : Nat → S} (inv : Nat → Γ → Prop) (h0 : inv 0 (clr js γ))
    (turn : ∀ (i : Nat) γ', i < n → inv i γ' → g (item i) γ' fun γ2 => body { R with nx := fun γ3 => inv (i + 1) (clr js γ3), ct := fun γ3 => inv (i + 1) (clr js γ3), bk := R.nx } γ2)
    (done : ∀ γ', inv n γ' → R.nx γ') : ForW js γ g body R n item := ⟨⟨inv, h0, turn, done⟩⟩
theorem join_of {p q : PTS} {R : PEnds} {γ : Γ} (J : Γ → Prop) (h1 : p { R with nx := J } γ) (h2 : ∀ γ', J γ' → q R γ') : JoinW p q R γ := ⟨⟨J, h1, h2⟩⟩
theorem cutD_map {α : Type} (f : α → D) (xs : List α) (lo hi : Option Int) : cutD (xs.map f) lo hi = (cutD xs lo hi).map f := by
  unfold cutD
  rw [List.length_map, List.map_take, List.map_drop]
theorem cutD_to {α : Type} (xs : List α) {n : Int} (h : 0 ≤ n) : cutD xs none (some n) = xs.take n.toNat := by
  unfold cutD
  have e : n = (n.toNat : Int) := by omega
  rw [HT.sIx_none, e, HT.sIx_nat, List.drop_zero]
  rw [Nat.sub_zero, Int.toNat_natCast]
  by_cases c : n.toNat ≤ xs.length
  · rw [Nat.min_eq_left c]
  · rw [Nat.min_eq_right (by omega), List.take_of_length_le (Nat.le_refl _), List.take_of_length_le (by omega)]
theorem cutD_from {α : Type} (xs : List α) {n : Int} (h : 0 ≤ n) : cutD xs (some n) none = xs.drop n.toNat := by
  unfold cutD
  have e : n = (n.toNat : Int) := by omega
  rw [HT.sIx_none, e, HT.sIx_nat, Int.toNat_natCast]
  by_cases c : n.toNat ≤ xs.length
  · rw [Nat.min_eq_left c, List.take_of_length_le (by rw [List.length_drop]; omega)]
  · rw [Nat.min_eq_right (by omega), List.drop_of_length_le (Nat.le_refl _), List.drop_of_length_le (by omega)]
    simp
/-! ### the law itself -/
noncomputable def lawSp (K : PySem.W.Frag) : Sp := fun vs H Q _ => ∃ (a : Addr) (ns : List Int), vs = [.ref a] ∧ SqL K H a (ns.map V.int) ∧ ∀ H', Q (.bl true) H'
noncomputable def pc_law : Pc := fun ds R _ => ∃ ns : List Int, ds = [.scr ns] ∧ R (.sh (.bl true))
theorem law_of {vs : List V} {Q : VK} {Ec : XK} (h : lawSp K vs H Q Ec) : spOf mg pc_law K vs H Q Ec := by
  obtain ⟨a, ns, rfl, hS, q⟩ := h
  refine ⟨[.scr ns], fun s => s = .sh (.bl true), fun _ => False, .cons (.scr hS) .nil, ⟨ns, rfl, rfl⟩, fun s v H' e S1 tv => ?_, fun _ _ z => z.elim⟩
  subst e
  cases tv
  exact q H'
end
end Pu

namespace Pu
open PySem PySem.Spec PyProof.Rows L2 Own M
section
variable {K : PySem.W.Frag} {mg : Str → Option Value} {E : L2.St → XK} {H0 H H1 H' : Hp} {B Z Z' : Addr → Prop} {σ : L2.St} {γ : Γ}
/-! ### dicts of plain values -/
noncomputable def scalV : D → Option V
  | .int i => some (.int i) | .bl b => some (.bl b) | .non => some .non | .str x => some (.str x) | _ => none
theorem rp_scal {d : D} {v u : V} (h : Rp K H d v) (e : scalV d = some u) : v = u := by
  cases h with
  | int i => cases e; rfl
  | bl b => cases e; rfl
  | non => cases e; rfl
  | str x => cases e; rfl
  | _ => cases e
/-! ### enumerate -/
theorem at_head {α : Type} (d : α) (ds : List α) : atI (d :: ds) 0 = some d := atI_pos (by decide) rfl
/-- a row that begins with l -/
noncomputable def em (l : Int) (p : List Int) : D := .lst ((l :: p).map D.int)
end
end Pu

namespace Pu
open PySem PySem.Spec PyProof.Rows L2 Own M
section
variable {K : PySem.W.Frag} {mg : Str → Option Value} {E : L2.St → XK} {H0 H H1 H' : Hp} {B Z Z' : Addr → Prop} {σ : L2.St} {γ : Γ}
noncomputable def fSumL : List S → (S → Prop) → Prop
  | [s], R => ∃ ns : List Int, s.d = .lst (ns.map D.int) ∧ R (.sh (.int ns.sum))
  | _, _ => False
noncomputable def fEqE (neg : Bool) : S → S → (S → Prop) → Prop := fun x y R => match x.d, y.d with
  | .lst ds, .lst [] => R (.sh (.bl (if neg then !ds.isEmpty else ds.isEmpty)))
  | _, _ => False
theorem se_eqE {neg : Bool} {ta tb : TE} {a b : PTE} (ha : SndE K mg E ta a) (hb : SndE K mg E tb b) : SndE K mg E (tOp (rEqE K neg) ta tb) (p2 a b (fEqE neg)) := by
  refine se_2 ha hb fun H0 H H2 Z x y v u R Q s0 s1 hm tx ty h q => ?_
  have rx := tx.rp s0
  have ry := ty.rp s0
  unfold fEqE at h
  split at h
  · rename_i ds e1 e2
    rw [e1] at rx
    rw [e2] at ry
    obtain ⟨l, us, rfl, hl, r⟩ := rx.lst_inv
    obtain ⟨m, ws, rfl, hm', r'⟩ := ry.lst_inv
    cases r'
    refine ⟨l, m, us, rfl, rfl, SqL.of hl, SqL.of hm', ?_⟩
    rw [isEmpty_len r.len]
    exact q _ _ H2 h (Same.refl _) (.bl _)
  · exact h.elim
theorem cutD_sub {α : Type} (xs : List α) (lo hi : Option Int) : (cutD xs lo hi).Sublist xs := (List.take_sublist _ _).trans (List.drop_sublist _ _)
end
end Pu

namespace Pu
open PySem PySem.Spec PyProof.Rows L2 Own M
section
variable {K : PySem.W.Frag} {mg : Str → Option Value} {E : L2.St → XK} {H0 H H1 H' : Hp} {B Z Z' : Addr → Prop} {σ : L2.St} {γ : Γ}
/-! ### try -/
theorem EnvR.gone (Ev : EnvR K H0 B H σ γ) (i : Nat) : EnvR K H0 B H (σ.set i none) (γ.set i none) ∧ Fr B H σ γ H (σ.set i none) (γ.set i none) := by
  obtain ⟨e1, f1⟩ := Ev.drop i
  have got : ∀ (j : Nat) (s : S), (γ.set i none)[j]? = some (some s) → j ≠ i := fun j s h => by
    rcases set_get h with ⟨_, e, _⟩ | ⟨n, _⟩
    · cases e
    · exact n
  have hz : ∀ b, zof B (γ.set i none) (σ.set i none) b ↔ zof B (γ.set i none) σ b := fun b => by
    constructor
    · rintro (z | ⟨j, ds, x, z1, z2, z3⟩)
      · exact .inl z
      · rw [set_ne (got j _ z1)] at z2
        exact .inr ⟨j, ds, x, z1, z2, z3⟩
    · rintro (z | ⟨j, ds, x, z1, z2, z3⟩)
      · exact .inl z
      · exact .inr ⟨j, ds, x, z1, by rw [set_ne (got j _ z1)]; exact z2, z3⟩
  have ez : zof B (γ.set i none) (σ.set i none) = zof B (γ.set i none) σ := funext fun b => propext (hz b)
  refine ⟨⟨e1.same, by rw [List.length_set]; exact e1.len, e1.bm, fun k j a a' ds es b h1 h2 h3 h4 h5 h6 => ?_, fun j s h => ?_⟩, fun b o h z => ?_⟩
  · rw [set_ne (got k _ h1)] at h3
    rw [set_ne (got j _ h2)] at h4
    exact e1.own k j a a' ds es b h1 h2 h3 h4 h5 h6
  · obtain ⟨v, h1, h2⟩ := e1.slot j s h
    rw [ez]
    exact ⟨v, by rw [set_ne (got j _ h)]; exact h1, h2⟩
  · rw [ez]
    exact f1 b o h z
noncomputable def pTry (mg : Str → Option Value) (cs : List Str) (i : Nat) (pb ph : PTS) : PTS := fun R γ => pb { R with ex := fun γ' c => c ∈ cs ∧ ph { nx := fun g => R.nx (g.set i none), rt := R.rt, ex := fun _ _ => False, bk := fun g => R.bk (g.set i none), ct := fun g => R.ct (g.set i none), rv := R.rv } (γ'.set i (some (.sh (.err (ExcR.clsOf mg c))))) } γ
theorem ss_try {i : Nat} {C0 : Addr} {tb : Ends → TS} {ts : TS} {pb ph : PTS} {E' : L2.St → XK} (cs : List Str) (hcs : ∀ c ∈ cs, ExcR.ErrGet K (ExcR.clsOf mg c) ∧ PySem.W.exmOne K (.ref (ExcR.clsOf mg c)) (.ref C0) = some true)
    (hb : ∀ D, SndS K mg (ExcR.hx K C0 i ts D) (tb D) pb) (hh : SndS K mg E' ts ph) : SndS K mg E (fun D σ H => tb D D σ H) (pTry mg cs i pb ph) := by
  intro H0 B H σ γ R D hB env h e
  refine hb D H0 B H σ γ _ D hB env h ⟨e.nx, e.rt, fun σ' γ' c H' hc e' f' => ?_, e.bk, e.ct, e.rv⟩
  obtain ⟨hin, hp⟩ := hc
  obtain ⟨k1, k2⟩ := hcs c hin
  refine ⟨_, rfl, k1, k2, fun a na => ?_⟩
  have S1 := same_upd (o := ExcR.ErrH a (ExcR.clsOf mg c)) na
  have tv : TV K (zof B γ' σ') H0 H' (upd H' a (ExcR.ErrH a (ExcR.clsOf mg c))) (.sh (.err (ExcR.clsOf mg c))) (.ref a) := .err (off_of upd_same fun z => by have := e'.zm a z; rw [na] at this; exact this)
  obtain ⟨e2, f2⟩ := e'.set (i := i) S1 tv rfl
  have f12 := f'.trans f2
  refine hh H0 B _ _ _ _ _ hB e2 hp ⟨fun σ3 γ3 H3 q3 e3 f3 => ?_, e.rt, fun _ _ _ _ z => z.elim, fun σ3 γ3 H3 q3 e3 f3 => ?_, fun σ3 γ3 H3 q3 e3 f3 => ?_, fun σ3 γ3 d v H3 q3 e3 f3 => e.rv σ3 γ3 d v H3 q3 e3 (f12.trans f3)⟩
  · obtain ⟨e4, f4⟩ := e3.gone i
    exact e.nx _ _ H3 q3 e4 (f12.trans (f3.trans f4))
  · obtain ⟨e4, f4⟩ := e3.gone i
    exact e.bk _ _ H3 q3 e4 (f12.trans (f3.trans f4))
  · obtain ⟨e4, f4⟩ := e3.gone i
    exact e.ct _ _ H3 q3 e4 (f12.trans (f3.trans f4))
theorem se_ref {a : Addr} : SndE K mg E (tC (.ref a)) (pC (.ref a)) := se_c fun _ => .ref a
/-- isinstance of a caught error -/
noncomputable def fIsiE (K : PySem.W.Frag) : List S → (S → Prop) → Prop
  | [s, t], R => (match s.d, t.d with
    | .err C, .ref C' => ∃ b, ExcR.ErrGet K C ∧ PySem.W.kitOne K (.ref C) (.ref C') = some b ∧ R (.sh (.bl b))
    | .err C, .ty n => ∃ b, ExcR.ErrGet K C ∧ PySem.W.kitOne K (.ref C) (.type n) = some b ∧ R (.sh (.bl b))
    | _, _ => False)
  | _, _ => False
theorem Rp.err_inv {C : Addr} {v : V} (h : Rp K H (.err C) v) : ∃ a, v = .ref a ∧ H a = some (ExcR.ErrH a C) := by
  cases h with
  | err h => exact ⟨_, rfl, h⟩
theorem Rp.ref_inv {a : Addr} {v : V} (h : Rp K H (.ref a) v) : v = .ref a := by cases h; rfl
theorem se_isiE {ta : TA} {r : PTA} (hr : SndA K mg E ta r) : SndE K mg E (tCB (fun xs H Q => ∃ (a C : Addr) (c : V) (b : Bool), xs = [.ref a, c] ∧ H a = some (ExcR.ErrH a C) ∧ ExcR.ErrGet K C ∧ (∃ cv : Value, (∀ u, RelV c u → u = cv) ∧ PySem.W.kitOne K (.ref C) cv = some b) ∧ Q (.bl b) H) ta) (pCB (fIsiE K) r) := by
  refine se_cb hr fun H0 H H1 Z ss vs R Q s0 s1 hm tv h q => ?_
  unfold fIsiE at h
  split at h
  · obtain ⟨v, u, rfl, t1, t2⟩ := tv.two_inv
    have r1 := t1.rp s0
    have r2 := t2.rp s0
    split at h
    · rename_i C C' e1 e2
      rw [e1] at r1
      rw [e2] at r2
      obtain ⟨a, rfl, ha⟩ := r1.err_inv
      obtain ⟨b, h1, h2, h3⟩ := h
      rw [r2.ref_inv]
      exact ⟨a, C, _, b, rfl, ha, h1, ⟨.ref C', fun u hu => hu, h2⟩, q _ _ H1 h3 (Same.refl _) (.bl _)⟩
    · rename_i C n e1 e2
      rw [e1] at r1
      rw [e2] at r2
      obtain ⟨a, rfl, ha⟩ := r1.err_inv
      obtain ⟨b, h1, h2, h3⟩ := h
      rw [r2.ty_inv]
      exact ⟨a, C, _, b, rfl, ha, h1, ⟨.type n, fun u hu => hu, h2⟩, q _ _ H1 h3 (Same.refl _) (.bl _)⟩
    · exact h.elim
  · exact h.elim
/-! ### xs[k] = v, xs one's own -/
noncomputable def pSetI (i : Nat) (b a : PTE) : PTS := fun R γ => match γ[i]? with
  | some (some (.own (.lst ds))) => a γ (fun s => b γ (fun y => match y.d with
      | .int k => ∃ j d, ixN ds.length k = some j ∧ s.shd = some d ∧ R.nx (γ.set i (some (.own (.lst (ds.set j d)))))
      | _ => False) (R.ex γ)) (R.ex γ)
  | _ => False
/-! ### xs * k -/
noncomputable def fRep : S → S → (S → Prop) → Prop := fun x y R => match x.d, y.d with
  | .lst ds, .int k => x.free ds = true ∧ (-(2 ^ 63) ≤ k ∧ k < 2 ^ 63) ∧ ds.length * k.toNat ≤ 10000000 ∧ R (.own (.lst (List.replicate k.toNat ds).flatten))
  | _, _ => False
/-! ### == of lists of plain values -/
noncomputable def scalVs : List D → Option (List V)
  | [] => some []
  | d :: r => match scalV d, scalVs r with
    | some v, some vs => some (v :: vs)
    | _, _ => none
theorem scalVs_of : ∀ {ds : List D} {vs us : List V}, Rps K H ds vs → scalVs ds = some us → vs = us
  | [], _, _, .nil, e => by cases e; rfl
  | d :: r, _, us, .cons h t, e => by
    unfold scalVs at e
    split at e
    · rename_i v vs e1 e2
      cases e
      rw [rp_scal h e1, scalVs_of t e2]
    · cases e
noncomputable def fEqV (neg : Bool) : S → S → (S → Prop) → Prop := fun x y R => match x.d, y.d with
  | .lst ds, .lst es => ∃ us ws, scalVs ds = some us ∧ scalVs es = some ws ∧ us.all flatV = true ∧ ws.all flatV = true ∧ R (.sh (.bl (if neg then !eqL us ws else eqL us ws)))
  | _, _ => False
theorem se_eqV {neg : Bool} {ta tb : TE} {a b : PTE} (ha : SndE K mg E ta a) (hb : SndE K mg E tb b) : SndE K mg E (tOp (rEqL K neg) ta tb) (p2 a b (fEqV neg)) := by
  refine se_2 ha hb fun H0 H H2 Z x y v u R Q s0 s1 hm tx ty h q => ?_
  unfold fEqV at h
  have rx := tx.rp s0
  have ry := ty.rp s0
  split at h
  · rename_i ds es e1 e2
    rw [e1] at rx
    rw [e2] at ry
    obtain ⟨us, ws, h1, h2, h3, h4, h5⟩ := h
    obtain ⟨l, vs, rfl, hl, r⟩ := rx.lst_inv
    obtain ⟨m, vs', rfl, hm', r'⟩ := ry.lst_inv
    rw [scalVs_of r h1] at hl
    rw [scalVs_of r' h2] at hm'
    exact ⟨l, m, us, ws, rfl, rfl, SqL.of hl, SqL.of hm', h3, h4, q _ _ H2 h5 (Same.refl _) (.bl _)⟩
  · exact h.elim
theorem op_neLK {X : Cx} (hu : X.A.units < cLine) (hK : X.K = K := by rfl) : OpR X (compareOp .NotEq) (rEqL K true) := by subst hK; exact op_neL hu
end
end Pu

namespace PySem
open Sem (wp)
section
variable {prog : Program} {w : World} {K : Type} {A : Around} {E : Value → Shared → Prop} {s : Shared}
end
end PySem

namespace Own
open PySem PySem.Spec PyProof.Rows L2
/-! ### t + u of tuples; a dict by tuple keys that is written out with one pair; a tuple walked -/
section
variable {X : Cx} {K : PySem.W.Frag}
end
end Own
namespace Own
open PySem PySem.Spec PyProof.Rows L2
/-! ### list(d.values()) -/
section
variable {prog : Program} {w : World} {A : Around} {K : Type} {d r : Addr} {kvs : List (K × Value)} {ep : Nat} {h h' : Heap}
end
section
variable {X : Cx}
end
end Own
namespace Pu
open PySem PySem.Spec PyProof.Rows L2 Own M
section
variable {K : PySem.W.Frag} {mg : Str → Option Value} {E : L2.St → XK} {H0 H H1 H' : Hp} {B Z Z' : Addr → Prop} {σ : L2.St} {γ : Γ}
/-! ### tuples: their sum, a walk over one; {t: x} -/
end
section
variable {X : Cx} {K : PySem.W.Frag}
end
end Pu

namespace M
open PySem PySem.Spec PyProof.Rows L2 Own Pu
/-! ### orders of a set of holders: what one costs by pairs, which wishes it keeps, the least of them -/
/-- each one against those behind it -/
noncomputable def oc (c : Int → Int → Int) : List Int → Int
  | [] => 0
  | a :: r => (r.map (c a)).sum + oc c r
end M

namespace Own
open PySem PySem.Spec PyProof.Rows L2 PySem.SeqAt PySem.MeetsSeq PySem.MeetsSeq2 PySem.MeetsSeq3 PySem.SeqRoads2
open AutoSeq1 (wpAny_loadPart')
/-! ### xs <= ys of int lists of one length -/
end Own
namespace Own
open PySem PySem.Spec PyProof.Rows L2
section
variable {X : Cx} {K : PySem.W.Frag}
end
end Own
namespace Pu
open PySem PySem.Spec PyProof.Rows L2 Own M
section
variable {K : PySem.W.Frag} {mg : Str → Option Value} {E : L2.St → XK}
end
end Pu

namespace Pu
open PySem PySem.Spec PyProof.Rows L2 Own
/-! ### one's own instance: a thing of several places, whose methods change it -/
section
variable {K : PySem.W.Frag} {mg : Str → Option Value} {E : L2.St → XK} {H0 H H1 H' : Hp} {B Z Z' : Addr → Prop} {σ : L2.St} {γ : Γ}
/-- the same instance later: no place is lost -/
noncomputable def O.from : O → O → Prop
  | .ins x _ _ cs, .ins x' _ _ cs' => x' = x ∧ ∀ c ∈ cs, ∃ c' ∈ cs', c'.1 = c.1
  | _, _ => False
theorem O.from_adr {o o' : O} {a : Addr} (h : o.from o') : ∀ b, o.adr a b → o'.adr a b := by
  cases o with
  | ins x C xs cs =>
    cases o' with
    | ins x' C' xs' cs' =>
      intro b hb
      rcases hb with hb | ⟨c, hc, hb⟩
      · exact .inl (hb.trans h.1.symm)
      · obtain ⟨c', q1, q2⟩ := h.2 c hc
        exact .inr ⟨c', q1, hb.trans q2.symm⟩
    | lst _ => exact h.elim
    | dK _ => exact h.elim
    | dT _ => exact h.elim
  | lst _ => exact h.elim
  | dK _ => exact h.elim
  | dT _ => exact h.elim
theorem O.from_at {o o' : O} {a a' : Addr} {F F' H H' : Hp} (h : o.from o') (h1 : OR K F H a o) (h2 : OR K F' H' a' o') : a' = a := by
  cases o with
  | ins x C xs cs =>
    cases o' with
    | ins x' C' xs' cs' => exact h2.1.trans (h.1.trans h1.1.symm)
    | lst _ => exact h.elim
    | dK _ => exact h.elim
    | dT _ => exact h.elim
  | lst _ => exact h.elim
  | dK _ => exact h.elim
  | dT _ => exact h.elim
/-- what a def gets that changes its first argument -/
noncomputable abbrev Pw := O → List S → (O → D → Prop) → (O → Str → Prop) → Prop
/-- shared for good, or lent -/
noncomputable def S.pass : S → Option S
  | .sh d => some (.sh d) | .own o => some (.sh o.d)
  | .bor d => match imm d with | true => some (.sh d) | false => some (.bor d)
  | .tmp d => match imm d with | true => some (.sh d) | false => none
  | .view _ => none
noncomputable def S.flat : S → Prop
  | .sh _ => True | .bor _ => True | _ => False
noncomputable def passes : List S → Option (List S)
  | [] => some []
  | s :: r => match s.pass, passes r with | some s', some r' => some (s' :: r') | _, _ => none
structure After (K : PySem.W.Frag) (B : Addr → Prop) (H : Hp) (a : Addr) (o o' : O) (H' : Hp) : Prop where
  same : Same (off (o.adr a) H) H'
  old : ∀ b, o.adr a b → o'.adr a b
  new : ∀ b, o'.adr a b → o.adr a b ∨ H b = none
  at_ : OR K (off (fun b => B b ∨ o'.adr a b) H') H' a o'
noncomputable def spW (mg : Str → Option Value) (c : Pw) (K : PySem.W.Frag) : Sp := fun vs H Q E => ∃ (o : O) (a : Addr) (ss : List S) (us : List V) (B : Addr → Prop) (R : O → D → Prop) (X : O → Str → Prop),
  vs = .ref a :: us ∧ (∀ b, B b → Mut (H b) ∧ ¬ o.adr a b) ∧ OR K (off (fun b => B b ∨ o.adr a b) H) H a o ∧ TVs K (fun b => B b ∨ o.adr a b) (off (o.adr a) H) H H ss us ∧ (∀ s ∈ ss, s.flat) ∧ c o ss R X ∧
  (∀ o' d v H', R o' d → After K B H a o o' H' → Rp K (off (fun b => B b ∨ o'.adr a b) H') d v → Q v H') ∧ ∀ o' e H', X o' e → After K B H a o o' H' → E (.ref (ExcR.clsOf mg e)) none H'
theorem TVs.get : ∀ {ss : List S} {vs : List V} {i : Nat} {s : S}, TVs K Z H0 H H' ss vs → ss[i]? = some s → ∃ v, vs[i]? = some v ∧ TV K Z H0 H H' s v
  | _, _, _, _, .nil, e => by simp at e
  | _, _, 0, _, .cons h _, e => by simp at e; subst e; exact ⟨_, rfl, h⟩
  | _, _, i + 1, s, .cons _ r, e => by
    obtain ⟨v, h1, h2⟩ := TVs.get (i := i) (s := s) r (by simpa using e)
    exact ⟨v, by simpa using h1, h2⟩
noncomputable def startW (N : List Str) (o : O) (ss : List S) : Γ := some (.own o) :: (ss.map some ++ List.replicate (N.length - (ss.length + 1)) none)
theorem startW_env {N : List Str} {o : O} {a : Addr} {ss : List S} {us : List V} (hB : ∀ b, B b → Mut (H b) ∧ ¬ o.adr a b) (ho : OR K (off (fun b => B b ∨ o.adr a b) H) H a o) (r : TVs K (fun b => B b ∨ o.adr a b) (off (o.adr a) H) H H ss us) (hf : ∀ s ∈ ss, s.flat) (hn : ss.length + 1 ≤ N.length) :
    EnvR K (off (o.adr a) H) B H (start N (.ref a :: us)) (startW N o ss) := by
  have hlen := r.len
  have get : ∀ (i : Nat) (s : S), (startW N o ss)[i + 1]? = some (some s) → ss[i]? = some s := fun i s h => by
    unfold startW at h
    rw [List.getElem?_cons_succ] at h
    by_cases hi : i < ss.length
    · rw [List.getElem?_append_left (by rw [List.length_map]; exact hi), List.getElem?_map, List.getElem?_eq_getElem hi] at h
      rw [List.getElem?_eq_getElem hi]
      exact congrArg some (Option.some.inj (Option.some.inj h))
    · rw [List.getElem?_append_right (by rw [List.length_map]; omega), List.getElem?_replicate] at h
      split at h <;> cases h
  have noown : ∀ (i : Nat) (es : O), (startW N o ss)[i + 1]? ≠ some (some (.own es)) := fun i es h => hf _ (List.mem_of_getElem? (get i _ h))
  have st0 : (start N (V.ref a :: us))[0]? = some (some (.ref a)) := by
    unfold L2.start
    rfl
  have hz : ∀ b, zof B (startW N o ss) (start N (V.ref a :: us)) b → B b ∨ o.adr a b := fun b z => by
    rcases z with z | ⟨i, es, a', h1, h2, h3⟩
    · exact .inl z
    · cases i with
      | zero =>
        rw [st0] at h2
        cases h2
        have : o = es := by
          have h1 : some (some (S.own o)) = some (some (S.own es)) := h1
          cases h1
          rfl
        subst this
        exact .inr h3
      | succ i => exact absurd h1 (noown i es)
  refine ⟨off_sub, ?_, fun b h => (hB b h).1, fun i j x x' es es' b h1 h2 _ _ _ _ => ?_, fun i s h => ?_⟩
  · unfold L2.start startW
    simp [hlen]
  · cases i with
    | succ i => exact absurd h1 (noown i es)
    | zero =>
      cases j with
      | zero => rfl
      | succ j => exact absurd h2 (noown j es')
  · cases i with
    | zero =>
      have h : some (some (S.own o)) = some (some s) := h
      cases h
      refine ⟨_, st0, a, rfl, fun b hb => ?_, ho.mono (off_mono (Same.refl _) fun b _ _ z y => z (hz b y)) fun _ _ _ q => q⟩
      unfold off
      rw [if_pos hb]
    | succ i =>
      have hs := get i s h
      obtain ⟨v, hv, tv⟩ := r.get hs
      refine ⟨v, ?_, ?_⟩
      · unfold L2.start
        rw [List.getElem?_append_left (by rw [List.length_map, List.length_cons]; have := (List.getElem?_eq_some_iff.mp hv).1; omega), List.getElem?_map, List.getElem?_cons_succ, hv]
        rfl
      · have := hf s (List.mem_of_getElem? hs)
        cases s with
        | bor d => exact tv
        | sh d => exact Rp.mono (off_mono (Same.refl _) fun b _ _ z y => z (hz b y)) tv
        | own _ => exact this.elim
        | view _ => exact this.elim
        | tmp _ => exact this.elim
noncomputable def finW (o : O) (R : O → D → Prop) (γ : Γ) (d : D) : Prop := ∃ o', γ[0]? = some (some (.own o')) ∧ o.from o' ∧ R o' d
noncomputable def finX (o : O) (X : O → Str → Prop) (γ : Γ) (e : Str) : Prop := ∃ o', γ[0]? = some (some (.own o')) ∧ o.from o' ∧ X o' e
noncomputable def endsW (o : O) (R : O → D → Prop) (X : O → Str → Prop) : PEnds := { nx := fun γ => finW o R γ .non, rt := fun _ => False, ex := finX o X, rv := finW o R }
theorem after_of {a : Addr} {o o' : O} {σ' : L2.St} {γ' : Γ} (ho : OR K (off (fun b => B b ∨ o.adr a b) H) H a o) (e : EnvR K (off (o.adr a) H) B H' σ' γ') (h : γ'[0]? = some (some (.own o'))) (k : o.from o') : After K B H a o o' H' ∧ ∀ b, B b ∨ o'.adr a b → zof B γ' σ' b := by
  obtain ⟨v, h1, a', rfl, h2, h3⟩ := e.slot 0 _ h
  have ea := O.from_at k ho h3
  subst ea
  have hz : ∀ b, B b ∨ o'.adr a' b → zof B γ' σ' b := fun b z => z.imp id fun z => ⟨0, o', a', h, h1, z⟩
  refine ⟨⟨e.same, O.from_adr k, fun b hb => ?_, h3.mono (off_mono (Same.refl _) fun b _ _ z y => z (hz b y)) fun _ _ _ q => q⟩, hz⟩
  have := h2 b hb
  unfold off at this
  by_cases q : o.adr a' b
  · exact .inl q
  · rw [if_neg q] at this
    exact .inr this
theorem fnW_use {c : Pw} {N : List Str} {t : TS} {p : PTS} {vs : List V} {Q : VK} {Ec : XK} {n : Nat} (h : spW mg c K vs H Q Ec) (snd : SndS K mg (fun _ => Ec) t p) (hn : n + 1 ≤ N.length)
    (hp : ∀ o ss R X, c o ss R X → ss.length = n ∧ p (endsW o R X) (startW N o ss)) : t { nx := fun _ H' => Q .non H', rt := Q } (start N vs) H := by
  obtain ⟨o, a, ss, us, B, R, X, rfl, hB, ho, r, hf, hc, hQ, hX⟩ := h
  obtain ⟨e, hp⟩ := hp o ss R X hc
  have env := startW_env (N := N) hB ho r hf (by rw [e]; exact hn)
  refine snd _ B H _ _ _ _ (fun b z => ?_) env hp ⟨fun σ' γ' H' h1 e1 f1 => ?_, fun _ _ _ z => z.elim, fun σ' γ' c H' h1 e1 f1 => ?_, fun _ _ _ z => z.elim, fun _ _ _ z => z.elim, fun σ' γ' d v H' h1 e1 f1 rd => ?_⟩
  · obtain ⟨q1, q2⟩ := hB b z
    obtain ⟨x, hx⟩ := mut_some q1
    exact ⟨x, off_of hx q2⟩
  · obtain ⟨o', q1, q2, q3⟩ := h1
    exact hQ o' .non .non H' q3 (after_of ho e1 q1 q2).1 .non
  · obtain ⟨o', q1, q2, q3⟩ := h1
    exact hX o' c H' q3 (after_of ho e1 q1 q2).1
  · obtain ⟨o', q1, q2, q3⟩ := h1
    obtain ⟨k1, k2⟩ := after_of ho e1 q1 q2
    exact hQ o' d v H' q3 k1 (Rp.mono (off_mono (Same.refl _) fun b _ _ z y => z (k2 b y)) rd)
theorem spW_len {c : Pw} {vs : List V} {Q : VK} {Ec : XK} {n : Nat} (h : spW mg c K vs H Q Ec) (hn : ∀ o ss R X, c o ss R X → ss.length = n) : vs.length = n + 1 := by
  obtain ⟨o, a, ss, us, B, R, X, rfl, _, _, r, _, hc, _⟩ := h
  rw [List.length_cons, r.len, hn o ss R X hc]

/-! ### expressions that change one's own things -/
noncomputable abbrev PTW := Γ → (Γ → D → Prop) → (Γ → Str → Prop) → Prop
noncomputable def SndW (K : PySem.W.Frag) (mg : Str → Option Value) (E : L2.St → XK) (t : TE) (p : PTW) : Prop := ∀ (H0 : Hp) (B : Addr → Prop) (H : Hp) (σ : L2.St) (γ : Γ) (R : Γ → D → Prop) (X : Γ → Str → Prop) (Q : VK), (∀ b, B b → ∃ o, H0 b = some o) → EnvR K H0 B H σ γ → p γ R X →
  (∀ γ' d v H', R γ' d → EnvR K H0 B H' σ γ' → Fr B H σ γ H' σ γ' → Rp K (off (zof B γ' σ) H') d v → Q v H') → (∀ γ' c H', X γ' c → EnvR K H0 B H' σ γ' → Fr B H σ γ H' σ γ' → E σ (.ref (ExcR.clsOf mg c)) none H') → t σ H Q
variable {te : TE} {w : PTW}
noncomputable def pAsgW (w : PTW) (g : PTG) : PTS := fun R γ => w γ (fun γ' d => g (.sh d) γ' R.nx) R.ex
theorem ss_asgW {is : List Nat} {g : TG} {pg : PTG} (hw : SndW K mg E te w) (hg : SndGi K is g pg) : SndS K mg E (tAsg te g) (pAsgW w pg) := by
  intro H0 B H σ γ R D hB env h e
  refine hw H0 B H σ γ _ _ _ hB env h (fun γ' d v H1 h1 e1 f1 rd => ?_) fun γ' c H' hc e' f' => e.ex σ γ' c H' hc e' f'
  exact hg H0 B H1 H1 σ γ' (.sh d) v _ _ e1 (Same.refl _) rd h1 fun σ2 γ2 h2 e2 f2 _ => e.nx σ2 γ2 H1 h2 e2 (f1.trans f2)
noncomputable def pDropW (w : PTW) : PTS := fun R γ => w γ (fun γ' _ => R.nx γ') R.ex
theorem ss_dropW (hw : SndW K mg E te w) : SndS K mg E (tDrop te) (pDropW w) := by
  intro H0 B H σ γ R D hB env h e
  exact hw H0 B H σ γ _ _ _ hB env h (fun γ' d v H1 h1 e1 f1 _ => e.nx σ γ' H1 h1 e1 f1) fun γ' c H' hc e' f' => e.ex σ γ' c H' hc e' f'
/-- return of a def that changes its first argument: what such a call gives -/
noncomputable def pRetWW (w : PTW) : PTS := fun R γ => w γ R.rv R.ex
theorem ss_retWW (hw : SndW K mg E te w) : SndS K mg E (tRet te) (pRetWW w) := by
  intro H0 B H σ γ R D hB env h e
  exact hw H0 B H σ γ _ _ _ hB env h (fun γ' d v H1 h1 e1 f1 rd => e.rv σ γ' d v H1 h1 e1 f1 rd) fun γ' c H' hc e' f' => e.ex σ γ' c H' hc e' f'
/-- the same, of any other value -/
noncomputable def pRetW (a : PTE) : PTS := fun R γ => a γ (fun s => match s.shd with | some d => R.rv γ d | none => False) (R.ex γ)
theorem ss_retW {a : PTE} (ha : SndE K mg E te a) : SndS K mg E (tRet te) (pRetW a) := by
  intro H0 B H σ γ R D hB env h e
  refine ha H0 B H σ γ _ _ _ env h (fun s v H1 h1 S1 t1 => ?_) fun c H' hc S' => e.ex σ γ c H' hc (env.grow S') (Fr.grow S')
  split at h1
  · rename_i d ed
    exact e.rv σ γ d v H1 h1 (env.grow S1) (Fr.grow S1) (t1.shd (env.grow S1).same env.zm S1 ed)
  · exact h1.elim
theorem pass_flat {s s' : S} (h : s.pass = some s') : s'.flat := by
  cases s with
  | sh d => cases h; trivial
  | own o => cases h; trivial
  | bor d => unfold S.pass at h; cases q : imm d <;> simp [q] at h <;> subst h <;> trivial
  | tmp d =>
    unfold S.pass at h
    cases q : imm d <;> simp [q] at h
    subst h; trivial
  | view o => cases h
theorem passes_flat : ∀ {ss ss' : List S}, passes ss = some ss' → ∀ s ∈ ss', s.flat
  | [], _, h => by cases h; simp
  | s :: r, _, h => by
    unfold passes at h
    split at h
    · rename_i s1 r1 e1 e2
      cases h
      intro x hx
      rcases List.mem_cons.mp hx with rfl | hx
      · exact pass_flat e1
      · exact passes_flat e2 x hx
    · cases h
/-- the arguments as the callee has them: P is apart from all of one's own -/
theorem TV.pass {s s' : S} {v : V} {P W : Addr → Prop} {HB : Hp} (h0 : Same H0 H') (hm : ∀ b, Z b → Mut (H b)) (S1 : Same H H') (hb : Same H0 (off P HB)) (hs : Same (off Z H') (off W HB)) (h : TV K Z H0 H H' s v) (e : s.pass = some s') : TV K W (off P HB) HB HB s' v := by
  have shd : ∀ d, s.shd = some d → Rp K (off W HB) d v := fun d ed => Rp.mono hs (h.shd h0 hm S1 ed)
  cases s with
  | sh d => cases e; exact shd _ rfl
  | own o => cases e; exact shd _ rfl
  | view o => cases e
  | tmp d =>
    unfold S.pass at e
    cases q : imm d with
    | false => simp [q] at e
    | true => simp [q] at e; subst e; exact shd d (by unfold S.shd; simp [q])
  | bor d =>
    unfold S.pass at e
    cases q : imm d with
    | false => simp [q] at e; subst e; exact Rp.mono hb h
    | true => simp [q] at e; subst e; exact shd d (by unfold S.shd; simp [q])
theorem TVs.pass {P W : Addr → Prop} {HB : Hp} (h0 : Same H0 H') (hm : ∀ b, Z b → Mut (H b)) (S1 : Same H H') (hb : Same H0 (off P HB)) (hs : Same (off Z H') (off W HB)) : ∀ {ss ss' : List S} {vs : List V}, TVs K Z H0 H H' ss vs → passes ss = some ss' → TVs K W (off P HB) HB HB ss' vs
  | _, _, _, .nil, e => by cases e; exact .nil
  | _, _, _, .cons h r, e => by
    unfold passes at e
    split at e
    · rename_i s1 r1 e1 e2
      cases e
      exact .cons (h.pass h0 hm S1 hb hs e1) (TVs.pass h0 hm S1 hb hs r e2)
    · cases e
/-- a call that changes one's own thing at i: its promise is there, and all that follows from it -/
theorem callW {c : Pw} {i : Nat} {o : O} {a : Addr} {ss ss' : List S} {us : List V} {R : Γ → D → Prop} {X : Γ → Str → Prop} {Q : VK} {Ec : XK} (env : EnvR K H0 B H σ γ) (hB : ∀ b, B b → ∃ o, H0 b = some o) (S1 : Same H H1) (hi : γ[i]? = some (some (.own o))) (ha : σ[i]? = some (some (.ref a)))
    (t1 : TVs K (zof B γ σ) H0 H H1 ss us) (hp : passes ss = some ss') (hc : c o ss' (fun o' d => R (γ.set i (some (.own o'))) d) (fun o' e => X (γ.set i (some (.own o'))) e))
    (q : ∀ γ' d v H', R γ' d → EnvR K H0 B H' σ γ' → Fr B H σ γ H' σ γ' → Rp K (off (zof B γ' σ) H') d v → Q v H') (qx : ∀ γ' c H', X γ' c → EnvR K H0 B H' σ γ' → Fr B H σ γ H' σ γ' → Ec (.ref (ExcR.clsOf mg c)) none H') : spW mg c K (.ref a :: us) H1 Q Ec := by
  have env1 := env.grow S1
  obtain ⟨v, h1, a', ev, h3, h4⟩ := env1.slot i _ hi
  rw [ha] at h1
  cases h1
  cases ev
  have za : ∀ b, o.adr a b → zof B γ σ b := fun b hb => .inr ⟨i, o, a, hi, ha, hb⟩
  -- what follows
  have aft : ∀ o' H', After K (fun b => zof B γ σ b ∧ ¬ o.adr a b) H1 a o o' H' → EnvR K H0 B H' σ (γ.set i (some (.own o'))) ∧ Fr B H σ γ H' σ (γ.set i (some (.own o'))) ∧ ∀ b x, H' b = some x → ¬ ((zof B γ σ b ∧ ¬ o.adr a b) ∨ o'.adr a b) → ¬ zof B (γ.set i (some (.own o'))) σ b := fun o' H' A => by
    have hzz : ∀ b x, H' b = some x → ¬ ((zof B γ σ b ∧ ¬ o.adr a b) ∨ o'.adr a b) → ¬ zof B (γ.set i (some (.own o'))) σ b := fun b x _ n z => by
      rcases z with z | ⟨j, fs, a', e1, e2, e3⟩
      · refine n (.inl ⟨.inl z, fun w => ?_⟩)
        obtain ⟨u, hu⟩ := hB b z
        rw [h3 b w] at hu
        cases hu
      · rcases set_get e1 with ⟨ej, q, _⟩ | ⟨nj, q⟩
        · subst ej
          cases q
          rw [ha] at e2
          cases e2
          exact n (.inr e3)
        · exact n (.inl ⟨.inr ⟨j, fs, a', q, e2, e3⟩, fun w => nj (env.own j i a' a fs o b q hi e2 ha e3 w)⟩)
    obtain ⟨k1, k2⟩ := env1.change (o' := o') (H' := H') hi ha (fun b x hx n => A.same b x (off_of hx n)) (fun b hb => A.at_.mut b (A.old b hb)) A.new (A.at_.mono (off_mono (Same.refl _) fun b x hx z => hzz b x hx z) fun _ _ _ q => q)
    exact ⟨k1, (Fr.grow S1).trans k2, hzz⟩
  refine ⟨o, a, ss', us, fun b => zof B γ σ b ∧ ¬ o.adr a b, _, _, rfl, fun b hb => ⟨env1.zm b hb.1, hb.2⟩, h4.mono (off_mono (Same.refl _) fun b _ _ z y => z (y.elim (fun y => y.1) (za b))) fun _ _ _ q => q, ?_, passes_flat hp, hc, fun o' d v H' hR A rd => ?_, fun o' e H' hX A => ?_⟩
  · refine t1.pass env1.same env.zm S1 (fun b x hx => off_of (env1.same b x hx) fun w => ?_) (off_mono (Same.refl _) fun b _ _ z y => z (y.elim (fun y => y.1) (za b))) hp
    rw [h3 b w] at hx
    cases hx
  · obtain ⟨k1, k2, k3⟩ := aft o' H' A
    exact q _ d v H' hR k1 k2 (Rp.mono (fun b x h => let ⟨p1, p2⟩ := off_in h; off_of p1 (k3 b x p1 p2)) rd)
  · obtain ⟨k1, k2, _⟩ := aft o' H' A
    exact qx _ e H' hX k1 k2
/-- f(x, ..), x one's own -/
noncomputable def pCallW (i : Nat) (c : Pw) (r : PTA) : PTW := fun γ R X => match γ[i]? with
  | some (some (.own o)) => r γ (fun ss => match passes ss with | some ss' => c o ss' (fun o' d => R (γ.set i (some (.own o'))) d) (fun o' e => X (γ.set i (some (.own o'))) e) | none => False) (X γ)
  | _ => False
/-- a callee that lets none out -/
noncomputable def pCallWN (i : Nat) (c : Pw) (r : PTA) : PTW := fun γ R X => match γ[i]? with
  | some (some (.own o)) => r γ (fun ss => match passes ss with | some ss' => c o ss' (fun o' d => R (γ.set i (some (.own o'))) d) (fun _ _ => False) | none => False) (X γ)
  | _ => False
theorem sw_callN (i : Nat) {c : Pw} {ta : TA} {r : PTA} (hr : SndA K mg E ta r) : SndW K mg E (tCall (spW mg c K) [] E0 (tCons (tVar i) ta)) (pCallWN i c r) := by
  intro H0 B H σ γ R X Q hB env h q qx
  unfold pCallWN at h
  split at h
  · rename_i o hi
    obtain ⟨v, hv, a, rfl, _, _⟩ := env.slot i _ hi
    refine ⟨_, hv, hr H0 B H σ γ _ _ _ env h (fun ss us H1 h1 S1 t1 => ?_) fun c H' hc S' => qx γ c H' hc (env.grow S') (Fr.grow S')⟩
    show spW mg c K ((V.ref a :: us) ++ []) H1 Q E0
    rw [List.append_nil]
    split at h1
    · rename_i ss' ep
      exact callW (X := fun _ _ => False) env hB S1 hi hv t1 ep h1 q fun _ _ _ z => z.elim
    · exact h1.elim
  · exact h.elim

/-! ### fields and methods -/
/-- e.f: the j-th attribute of an instance of C whose attributes are xs -/
noncomputable def fFld (C : Addr) (xs : List Str) (j : Nat) : S → (S → Prop) → Prop
  | .view (.ins _ C' xs' cs), R => C' = C ∧ xs' = xs ∧ ∃ c, cs[j]? = some c ∧ R (.view (.lst c.2))
  | .bor (.ins C' xs' ds), R => C' = C ∧ xs' = xs ∧ ∃ d, ds[j]? = some d ∧ R (arg d)
  | _, _ => False
noncomputable def pFld (C : Addr) (xs : List Str) (j : Nat) (a : PTE) : PTE := fun γ R X => a γ (fun s => fFld C xs j s R) X
theorem Rp.ins_inv {C : Addr} {xs : List Str} {ds : List D} {v : V} (h : Rp K H (.ins C xs ds) v) : ∃ a dx vs, v = .ref a ∧ H a = some (.ins C dx (xs.zip vs)) ∧ xs.length = vs.length ∧ Rps K H ds vs := by
  cases h with
  | ins h e r => exact ⟨_, _, _, rfl, h, e, r⟩
noncomputable def FldAt (f : Str) (xs : List Str) (j : Nat) : Prop := ∀ vs : List V, xs.length = vs.length → (xs.zip vs).lookup f = vs[j]?
theorem se_fld {C : Addr} {f : Str} {xs : List Str} (j : Nat) {a : PTE} (hc : Cls K C) (hn : NoAttr K C f) (hj : FldAt f xs j) (ha : SndE K mg E te a) : SndE K mg E (tFld K te f) (pFld C xs j a) := by
  intro H0 B H σ γ R X Q env p q qx
  refine ha H0 B H σ γ _ X _ env p (fun s v H1 h1 S1 t1 => ?_) qx
  have env1 := env.grow S1
  unfold fFld at h1
  split at h1
  · rename_i x C' xs' cs
    obtain ⟨rfl, rfl, c, ec, hR⟩ := h1
    obtain ⟨b, rfl, e1, e2, ⟨dx, e3⟩, e4, e5⟩ := t1
    obtain ⟨us, u1, u2⟩ := e4 c (List.mem_of_getElem? ec)
    refine ⟨b, _, dx, _, _, rfl, e3, hc, hn, ?_, q _ _ H1 hR S1 ⟨c.1, rfl, us, u1, u2⟩⟩
    rw [hj _ (by rw [List.length_map]; exact e2), List.getElem?_map, ec]
    rfl
  · rename_i C' xs' ds
    obtain ⟨rfl, rfl, d, ed, hR⟩ := h1
    obtain ⟨b, dx, vs, rfl, e1, e2, e3⟩ := Rp.ins_inv (show Rp K H0 (.ins C' xs' ds) v from t1)
    obtain ⟨u, hu, ru⟩ := e3.get ed
    refine ⟨b, _, dx, _, u, rfl, env1.same _ _ e1, hc, hn, by rw [hj _ e2]; exact hu, q _ _ H1 hR S1 (argR env1.zm env1.same ru)⟩
  · exact h1.elim
/-- x.m(..) that changes nothing -/
noncomputable def pMeth (C : Addr) (xs : List Str) (c : Pc) (a : PTE) (r : PTA) : PTE := fun γ R X => a γ (fun s => match s.d with
  | .ins C' xs' ds => C' = C ∧ xs' = xs ∧ r γ (fun ss => c (.ins C' xs' ds :: ss.map S.d) (fun s => R s.back) X) X
  | _ => False) X
noncomputable def NoFld (m : Str) (xs : List Str) : Prop := ∀ vs : List V, (xs.zip vs).lookup m = none
noncomputable def tMethS (C : Addr) (m : Str) (sp : Sp) (E : L2.St → XK) (ta : TE) (t : TA) : TE := fun σ H Q => ta σ H fun x H1 => ∃ a dx fs, x = .ref a ∧ H1 a = some (.ins C dx fs) ∧ fs.lookup m = none ∧ t σ H1 fun vs H2 => sp (x :: (vs ++ [])) H2 Q (E σ)
theorem se_methS {C : Addr} {m : Str} {xs : List Str} {c : Pc} {ta : TA} {a : PTE} {r : PTA} (hx : NoFld m xs) (ha : SndE K mg E te a) (hr : SndA K mg E ta r) : SndE K mg E (tMethS C m (spOf mg c K) E te ta) (pMeth C xs c a r) := by
  intro H0 B H σ γ R X Q env p q qx
  refine ha H0 B H σ γ _ X _ env p (fun s v H1 h1 S1 t1 => ?_) qx
  have env1 := env.grow S1
  split at h1
  · rename_i C' xs' ds ed
    obtain ⟨rfl, rfl, h1⟩ := h1
    have rs := t1.rp env1.same
    rw [ed] at rs
    obtain ⟨b, dx, vs, rfl, e1, e2, e3⟩ := Rp.ins_inv rs
    refine ⟨b, dx, _, rfl, e1, hx vs, hr H0 B H1 σ γ _ X _ env1 h1 (fun ss us H2 h2 S2 t2 => ?_) fun c H' hc S' => qx c H' hc (S1.trans S')⟩
    have env2 := env1.grow S2
    rw [List.append_nil]
    refine ⟨_, _, X, Rps.cons (Rp.mono S2 rs) (t2.rps env2.same), h2, fun s v H' hs S3 tv => q _ _ H' hs ((S1.trans S2).trans S3) (tv.back env2 (S1.trans S2) S3), fun e H' he S3 => qx e H' he ((S1.trans S2).trans S3)⟩
  · exact h1.elim
theorem se_meth {C : Addr} {m : Str} {xs : List Str} {c : Pc} {ta : TA} {a : PTE} {r : PTA} {Ec : XK} (hx : NoFld m xs) (ha : SndE K mg (fun _ => Ec) te a) (hr : SndA K mg (fun _ => Ec) ta r) : SndE K mg (fun _ => Ec) (tMeth C m (spOf mg c K) [] Ec te ta) (pMeth C xs c a r) := se_methS (E := fun _ => Ec) hx ha hr
/-- x.m(..) that lets no error out -/
noncomputable def pMethN (C : Addr) (xs : List Str) (c : Pc) (a : PTE) (r : PTA) : PTE := fun γ R X => a γ (fun s => match s.d with
  | .ins C' xs' ds => C' = C ∧ xs' = xs ∧ r γ (fun ss => c (.ins C' xs' ds :: ss.map S.d) (fun s => R s.back) fun _ => False) X
  | _ => False) X
theorem se_methN {C : Addr} {m : Str} {xs : List Str} {c : Pc} {ta : TA} {a : PTE} {r : PTA} (hx : NoFld m xs) (ha : SndE K mg E te a) (hr : SndA K mg E ta r) : SndE K mg E (tMeth C m (spOf mg c K) [] E0 te ta) (pMethN C xs c a r) := by
  intro H0 B H σ γ R X Q env p q qx
  refine ha H0 B H σ γ _ X _ env p (fun s v H1 h1 S1 t1 => ?_) qx
  have env1 := env.grow S1
  split at h1
  · rename_i C' xs' ds ed
    obtain ⟨rfl, rfl, h1⟩ := h1
    have rs := t1.rp env1.same
    rw [ed] at rs
    obtain ⟨b, dx, vs, rfl, e1, e2, e3⟩ := Rp.ins_inv rs
    refine ⟨b, dx, _, rfl, e1, hx vs, hr H0 B H1 σ γ _ X _ env1 h1 (fun ss us H2 h2 S2 t2 => ?_) fun c H' hc S' => qx c H' hc (S1.trans S')⟩
    have env2 := env1.grow S2
    rw [List.append_nil]
    exact ⟨_, _, _, Rps.cons (Rp.mono S2 rs) (t2.rps env2.same), h2, fun s v H' hs S3 tv => q _ _ H' hs ((S1.trans S2).trans S3) (tv.back env2 (S1.trans S2) S3), fun _ _ z => z.elim⟩
  · exact h1.elim
/-- x.m(..) that changes x -/
noncomputable def pMethW (i : Nat) (C : Addr) (xs : List Str) (c : Pw) (r : PTA) : PTW := fun γ R X => match γ[i]? with
  | some (some (.own (.ins x C' xs' cs))) => C' = C ∧ xs' = xs ∧ r γ (fun ss => match passes ss with | some ss' => c (.ins x C' xs' cs) ss' (fun o' d => R (γ.set i (some (.own o'))) d) (fun o' e => X (γ.set i (some (.own o'))) e) | none => False) (X γ)
  | _ => False
theorem sw_methS (i : Nat) {C : Addr} {m : Str} {xs : List Str} {c : Pw} {ta : TA} {r : PTA} (hx : NoFld m xs) (hr : SndA K mg E ta r) : SndW K mg E (tMethS C m (spW mg c K) E (tVar i) ta) (pMethW i C xs c r) := by
  intro H0 B H σ γ R X Q hB env h q qx
  unfold pMethW at h
  split at h
  · rename_i x C' xs' cs hi
    obtain ⟨rfl, rfl, h⟩ := h
    obtain ⟨v, hv, a, rfl, _, e1, e2, ⟨dx, e3⟩, e4⟩ := env.slot i _ hi
    refine ⟨_, hv, a, dx, _, rfl, e3, hx _, hr H0 B H σ γ _ _ _ env h (fun ss us H1 h1 S1 t1 => ?_) fun c H' hc S' => qx γ c H' hc (env.grow S') (Fr.grow S')⟩
    rw [List.append_nil]
    split at h1
    · rename_i ss' ep
      exact callW env hB S1 hi hv t1 ep h1 q qx
    · exact h1.elim
  · exact h.elim
/-- one that lets none out -/
noncomputable def pMethWN (i : Nat) (C : Addr) (xs : List Str) (c : Pw) (r : PTA) : PTW := fun γ R X => match γ[i]? with
  | some (some (.own (.ins x C' xs' cs))) => C' = C ∧ xs' = xs ∧ r γ (fun ss => match passes ss with | some ss' => c (.ins x C' xs' cs) ss' (fun o' d => R (γ.set i (some (.own o'))) d) (fun _ _ => False) | none => False) (X γ)
  | _ => False
theorem sw_methN (i : Nat) {C : Addr} {m : Str} {xs : List Str} {c : Pw} {ta : TA} {r : PTA} (hx : NoFld m xs) (hr : SndA K mg E ta r) : SndW K mg E (tMeth C m (spW mg c K) [] E0 (tVar i) ta) (pMethWN i C xs c r) := by
  intro H0 B H σ γ R X Q hB env h q qx
  unfold pMethWN at h
  split at h
  · rename_i x C' xs' cs hi
    obtain ⟨rfl, rfl, h⟩ := h
    obtain ⟨v, hv, a, rfl, _, e1, e2, ⟨dx, e3⟩, e4⟩ := env.slot i _ hi
    refine ⟨_, hv, a, dx, _, rfl, e3, hx _, hr H0 B H σ γ _ _ _ env h (fun ss us H1 h1 S1 t1 => ?_) fun c H' hc S' => qx γ c H' hc (env.grow S') (Fr.grow S')⟩
    rw [List.append_nil]
    split at h1
    · rename_i ss' ep
      exact callW (X := fun _ _ => False) env hB S1 hi hv t1 ep h1 q fun _ _ _ z => z.elim
    · exact h1.elim
  · exact h.elim
/-! ### a list of one's own instance changes -/
theorem nodup_at {α : Type} : ∀ {l : List α} {i j : Nat} {x : α}, l.Nodup → l[i]? = some x → l[j]? = some x → i = j
  | [], _, _, _, _, h, _ => by simp at h
  | y :: r, 0, 0, _, _, _, _ => rfl
  | y :: r, 0, j + 1, x, hn, h1, h2 => by
    have e : y = x := by simpa using h1
    exact absurd (e ▸ List.mem_of_getElem? (show r[j]? = some x by simpa using h2)) (List.nodup_cons.mp hn).1
  | y :: r, i + 1, 0, x, hn, h1, h2 => by
    have e : y = x := by simpa using h2
    exact absurd (e ▸ List.mem_of_getElem? (show r[i]? = some x by simpa using h1)) (List.nodup_cons.mp hn).1
  | y :: r, i + 1, j + 1, x, hn, h1, h2 => congrArg (· + 1) (nodup_at (l := r) (List.nodup_cons.mp hn).2 (by simpa using h1) (by simpa using h2))
theorem EnvR.cell {i j : Nat} {x C : Addr} {xs : List Str} {cs : List (Addr × List D)} {b : Addr} {ds es : List D} {us : List V} (env : EnvR K H0 B H σ γ) (hi : γ[i]? = some (some (.own (.ins x C xs cs)))) (hj : cs[j]? = some (b, ds)) (r : Rps K (off (zof B γ σ) H) es us) :
    EnvR K H0 B (upd H b (.lst us)) σ (γ.set i (some (.own (.ins x C xs (cs.set j (b, es)))))) ∧ Fr B H σ γ (upd H b (.lst us)) σ (γ.set i (some (.own (.ins x C xs (cs.set j (b, es)))))) := by
  obtain ⟨v, hv, a, rfl, e0, e1, e2, ⟨dx, e3⟩, e4, e5⟩ := env.slot i _ hi
  subst e1
  have hjl : j < cs.length := (List.getElem?_eq_some_iff.mp hj).1
  have hbm : (b, ds) ∈ cs := List.mem_of_getElem? hj
  have hab : a ≠ b := fun z => by
    obtain ⟨ws, w1, _⟩ := e4 _ hbm
    rw [← show a = b from z, e3] at w1
    cases w1
  have em : (cs.set j (b, es)).map (·.1) = cs.map (·.1) := by
    apply List.ext_getElem?
    intro k
    rw [List.getElem?_map, List.getElem?_map, List.getElem?_set]
    by_cases e : j = k
    · subst e
      rw [if_pos rfl, if_pos hjl, hj]
      rfl
    · rw [if_neg e]
  have em2 : (cs.set j (b, es)).map (fun c => V.ref c.1) = cs.map fun c => V.ref c.1 := by
    have := congrArg (List.map V.ref) em
    rw [List.map_map, List.map_map] at this
    exact this
  have adr : ∀ c, (O.ins a C xs (cs.set j (b, es))).adr a c → (O.ins a C xs cs).adr a c := fun c hc => by
    rcases hc with hc | ⟨d, hd, hc⟩
    · exact .inl hc
    · have : d.1 ∈ (cs.set j (b, es)).map (·.1) := List.mem_map_of_mem hd
      rw [em] at this
      obtain ⟨d', q1, q2⟩ := List.mem_map.mp this
      exact .inr ⟨d', q1, hc.trans q2.symm⟩
  have zb : ∀ c, (O.ins a C xs cs).adr a c → zof B γ σ c := fun c hc => .inr ⟨i, _, a, hi, hv, hc⟩
  have So : Same (off (zof B γ σ) H) (off (zof B (γ.set i (some (.own (.ins a C xs (cs.set j (b, es)))))) σ) (upd H b (.lst us))) := fun c u h => by
    obtain ⟨q1, q2⟩ := off_in h
    have nb : c ≠ b := fun z => q2 (zb c (.inr ⟨_, hbm, z⟩))
    refine off_of (by rw [upd_ne nb]; exact q1) fun z => q2 ?_
    rcases z with z | ⟨k, fs, a', k1, k2, k3⟩
    · exact .inl z
    · rcases set_get k1 with ⟨ek, q, _⟩ | ⟨_, q⟩
      · subst ek
        cases q
        rw [hv] at k2
        cases k2
        exact zb c (adr c k3)
      · exact .inr ⟨k, fs, a', q, k2, k3⟩
  refine env.change hi hv (fun c u hu n => ?_) (fun c hc => ?_) (fun c hc => .inl (adr c hc)) ⟨rfl, by rw [List.length_set]; exact e2, ⟨dx, ?_⟩, fun c hc => ?_, by rw [em]; exact e5⟩
  · rw [upd_ne fun z => n (.inr ⟨_, hbm, z⟩)]
    exact hu
  · by_cases z : c = b
    · rw [z, upd_same]; trivial
    · rw [upd_ne z]; exact env.zm c (zb c hc)
  · rw [upd_ne hab, em2]
    exact e3
  · obtain ⟨k, hk, ek⟩ := List.getElem_of_mem hc
    have hk' : (cs.set j (b, es))[k]? = some c := by rw [List.getElem?_eq_getElem hk, ek]
    rcases set_get hk' with ⟨_, q, _⟩ | ⟨nk, q⟩
    · subst q
      exact ⟨us, upd_same, Rps.mono So r⟩
    · obtain ⟨ws, w1, w2⟩ := e4 c (List.mem_of_getElem? q)
      have nb : c.1 ≠ b := fun z => nk (by
        have h1 : (cs.map (·.1))[k]? = some b := by rw [List.getElem?_map, q]; exact congrArg some z
        have h2 : (cs.map (·.1))[j]? = some b := by rw [List.getElem?_map, hj]; rfl
        exact nodup_at e5 h1 h2)
      exact ⟨ws, by rw [upd_ne nb]; exact w1, Rps.mono So w2⟩
/-- x.f.append(e) -/
noncomputable def pAppF (i j : Nat) (C : Addr) (xs : List Str) (a : PTE) : PTW := fun γ R X => match γ[i]? with
  | some (some (.own (.ins x C' xs' cs))) => C' = C ∧ xs' = xs ∧ ∃ c, cs[j]? = some c ∧ a γ (fun s => match s.shd with
    | some d => c.2.length < 10000000 ∧ R (γ.set i (some (.own (.ins x C' xs' (cs.set j (c.1, c.2 ++ [d])))))) .non
    | none => False) (X γ)
  | _ => False
theorem sw_appF (i j : Nat) {C : Addr} {f : Str} {xs : List Str} {a : PTE} (hc : Cls K C) (hn : NoAttr K C f) (hj : FldAt f xs j) (ha : SndE K mg E te a) : SndW K mg E (tBM K "list" rAppend (tFld K (tVar i) f) (tCons te tNil)) (pAppF i j C xs a) := by
  intro H0 B H σ γ R X Q hB env h q qx
  unfold pAppF at h
  split at h
  · rename_i x C' xs' cs hi
    obtain ⟨rfl, rfl, c, ec, h⟩ := h
    obtain ⟨v, hv, b, rfl, _, e1, e2, ⟨dx, e3⟩, e4, e5⟩ := env.slot i _ hi
    obtain ⟨us, u1, u2⟩ := e4 c (List.mem_of_getElem? ec)
    refine ⟨_, hv, b, _, dx, _, V.ref c.1, rfl, e3, hc, hn, ?_, .inl ⟨rfl, us, SqL.of u1⟩, ha H0 B H σ γ _ _ _ env h (fun s u H1 h1 S1 t1 => ?_) fun c H' hc S' => qx γ c H' hc (env.grow S') (Fr.grow S')⟩
    · rw [hj _ (by rw [List.length_map]; exact e2), List.getElem?_map, ec]
      rfl
    · have env1 := env.grow S1
      split at h1
      · rename_i d ed
        have rd := t1.shd env1.same env.zm S1 ed
        refine ⟨c.1, us, u, rfl, rfl, S1 _ _ u1, by rw [u2.len]; exact Nat.lt_trans h1.1 (by decide), ?_⟩
        obtain ⟨k1, k2⟩ := env1.cell (es := c.2 ++ [d]) (us := us ++ [u]) hi ec (Rps.append (Rps.mono (off_mono S1 fun _ _ _ z => z) u2) (.cons rd .nil))
        exact q _ _ _ _ h1.2 k1 ((Fr.grow S1).trans k2) .non
      · exact h1.elim
  · exact h.elim
/-- self.f = a list of its own -/
noncomputable def PutAt (f : Str) (xs : List Str) : Prop := ∀ (vs : List V) (y : V), xs.length = vs.length → putF f y (xs.zip vs) = (xs ++ [f]).zip (vs ++ [y])
noncomputable def pSetF (i : Nat) (C : Addr) (f : Str) (xs : List Str) (a : PTE) : PTS := fun R γ => a γ (fun s => match s with
  | .own (.lst ds) => (match γ[i]? with
    | some (some (.own (.ins x C' xs' cs))) => C' = C ∧ xs' = xs ∧ xs.length < 1000 ∧ ∀ b, R.nx (γ.set i (some (.own (.ins x C' (xs ++ [f]) (cs ++ [(b, ds)])))))
    | _ => False)
  | _ => False) (R.ex γ)
theorem ss_setF (i : Nat) {C : Addr} {f : Str} {xs : List Str} {a : PTE} (hc : Cls K C) (hn : NoAttr K C f) (hp : PutAt f xs) (ha : SndE K mg E te a) : SndS K mg E (sFld K (tVar i) te f) (pSetF i C f xs a) := by
  intro H0 B H σ γ R D hB env h e
  refine ha H0 B H σ γ _ _ _ env h (fun s v H1 h1 S1 t1 => ?_) fun c H' hc S' => e.ex σ γ c H' hc (env.grow S') (Fr.grow S')
  have env1 := env.grow S1
  split at h1
  · rename_i ds
    split at h1
    · rename_i x C' xs' cs hi
      obtain ⟨rfl, rfl, hl, h1⟩ := h1
      obtain ⟨u, hv, b, rfl, e0, e1, e2, ⟨dx, e3⟩, e4, e5⟩ := env.slot i _ hi
      subst e1
      obtain ⟨l, rfl, l0, vs, l1, l2⟩ := t1
      have l0 : H l = none := l0 l rfl
      have na : b ≠ l := ne_of_none e3 l0
      refine ⟨_, hv, b, _, dx, _, rfl, S1 _ _ e3, hc, hn, ?_, ?_⟩
      · rw [List.length_zip, List.length_map]; omega
      · rw [hp _ _ (by rw [List.length_map]; exact e2)]
        have nl : ∀ c ∈ cs, c.1 ≠ l := fun c hc => by
          obtain ⟨ws, w1, _⟩ := e4 c hc
          exact ne_of_none w1 l0
        have nb : ∀ c ∈ cs, c.1 ≠ b := fun c hc z => by
          obtain ⟨ws, w1, _⟩ := e4 c hc
          rw [z, e3] at w1
          cases w1
        have zb : ∀ c, (O.ins b C' xs' cs).adr b c → zof B γ σ c := fun c hc => .inr ⟨i, _, b, hi, hv, hc⟩
        have key : ∀ c u, H1 c = some u → ¬ (zof B γ σ c ∨ c = l) → ¬ zof B (γ.set i (some (.own (.ins b C' (xs' ++ [f]) (cs ++ [(l, ds)]))))) σ c := fun c u _ n z => by
          rcases z with z | ⟨k, fs, a', k1, k2, k3⟩
          · exact n (.inl (.inl z))
          · rcases set_get k1 with ⟨ek, q, _⟩ | ⟨_, q⟩
            · subst ek
              cases q
              rw [hv] at k2
              cases k2
              rcases k3 with k3 | ⟨d, hd, k3⟩
              · exact n (.inl (zb c (.inl k3)))
              · rcases List.mem_append.mp hd with hd | hd
                · exact n (.inl (zb c (.inr ⟨d, hd, k3⟩)))
                · rw [List.mem_singleton] at hd
                  subst hd
                  exact n (.inr k3)
            · exact n (.inl (.inr ⟨k, fs, a', q, k2, k3⟩))
        have So : Same (off (fun c => zof B γ σ c ∨ c = l) H1) (off (zof B (γ.set i (some (.own (.ins b C' (xs' ++ [f]) (cs ++ [(l, ds)]))))) σ) (upd H1 b (.ins C' dx ((xs' ++ [f]).zip ((cs.map fun c => V.ref c.1) ++ [.ref l]))))) := fun c u h => by
          obtain ⟨q1, q2⟩ := off_in h
          exact off_of (by rw [upd_ne fun z => q2 (.inl (zb c (.inl z)))]; exact q1) (key c u q1 q2)
        have S0 : Same (off (zof B γ σ) H) (off (fun c => zof B γ σ c ∨ c = l) H1) := off_mono S1 fun c u hc z y => y.elim z fun y => by rw [y, l0] at hc; cases hc
        obtain ⟨k1, k2⟩ := env.change (o' := .ins b C' (xs' ++ [f]) (cs ++ [(l, ds)])) (H' := upd H1 b (.ins C' dx ((xs' ++ [f]).zip ((cs.map fun c => V.ref c.1) ++ [.ref l])))) hi hv
          (fun c u hu n => by rw [upd_ne fun z => n (.inl z)]; exact S1 _ _ hu)
          (fun c hc => by
            by_cases z : c = b
            · rw [z, upd_same]; trivial
            · rw [upd_ne z]; exact env1.zm c (zb c hc))
          (fun c hc => by
            rcases hc with hc | ⟨d, hd, hc⟩
            · exact .inl (.inl hc)
            · rcases List.mem_append.mp hd with hd | hd
              · exact .inl (.inr ⟨d, hd, hc⟩)
              · rw [List.mem_singleton] at hd
                subst hd
                exact .inr (by rw [show c = l from hc]; exact l0))
          ⟨rfl, by rw [List.length_append, List.length_append, e2]; rfl, ⟨dx, by rw [upd_same, List.map_append]; rfl⟩, fun c hc => by
            rcases List.mem_append.mp hc with hc | hc
            · obtain ⟨ws, w1, w2⟩ := e4 c hc
              exact ⟨ws, by rw [upd_ne (nb c hc)]; exact S1 _ _ w1, Rps.mono So (Rps.mono S0 w2)⟩
            · rw [List.mem_singleton] at hc
              subst hc
              exact ⟨vs, by rw [upd_ne (fun z => na z.symm)]; exact l1, Rps.mono So l2⟩, by
            rw [List.map_append, List.nodup_append]
            exact ⟨e5, by simp, fun c hc d hd z => by
              obtain ⟨c', q1, q2⟩ := List.mem_map.mp hc
              have : d = l := by simpa using hd
              exact nl c' q1 (q2.trans (z.trans this))⟩⟩
        exact e.nx _ _ _ (h1 l) k1 k2
    · exact h1.elim
  · exact h1.elim
/-! ### a new instance -/
theorem makeW {C : Addr} {c : Pw} {ss ss' : List S} {us : List V} {R : S → Prop} {X : XR} {Q : VK} {Ec : XK} (env : EnvR K H0 B H σ γ) (S1 : Same H H1) (t1 : TVs K (zof B γ σ) H0 H H1 ss us) (ep : passes ss = some ss')
    (h1 : ∀ x, c (.ins x C [] []) ss' (fun o' d => d = .non ∧ R (.own o')) (fun _ e => X e)) (q : ∀ s v H', R s → Same H H' → TV K (zof B γ σ) H0 H H' s v → Q v H') (qx : ∀ c H', X c → Same H H' → Ec (.ref (ExcR.clsOf mg c)) none H') :
    ∀ x dx, H1 x = none → H1 dx = none → dx ≠ x → spW mg c K (.ref x :: us) (upd (upd H1 dx (.own x)) x (.ins C dx [])) (fun v H2 => v = .non ∧ Q (.ref x) H2) Ec := by
  have env1 := env.grow S1
  intro x dx nx ndx nex
  have S2 : Same H1 (upd (upd H1 dx (.own x)) x (.ins C dx [])) := fun b o e => by
    rw [upd_ne (ne_of_none e nx), upd_ne (ne_of_none e ndx)]
    exact e
  have aft : ∀ o' H', After K (zof B γ σ) (upd (upd H1 dx (.own x)) x (.ins C dx [])) x (.ins x C [] []) o' H' → Same H1 H' ∧ ∀ b, o'.adr x b → H b = none := fun o' H' A => by
    refine ⟨fun b o e => A.same b o (off_of (S2 b o e) fun z => ?_), fun b hb => ?_⟩
    · rcases z with z | ⟨c, hc, _⟩
      · rw [z, nx] at e; cases e
      · cases hc
    · rcases A.new b hb with (z | ⟨c, hc, _⟩) | z
      · rw [z]; exact S1.free nx
      · cases hc
      · exact S1.free (S2.free z)
  refine ⟨.ins x C [] [], x, ss', us, zof B γ σ, _, _, rfl, fun b hb => ⟨mut_same S2 (env1.zm b hb), fun z => ?_⟩, ⟨rfl, rfl, ⟨dx, upd_same⟩, (fun c hc => by cases hc), List.nodup_nil⟩, ?_, passes_flat ep, h1 x, fun o' d v H' hR A rd => ?_, fun o' e H' hX A => ?_⟩
  · rcases z with z | ⟨c, hc, _⟩
    · have := env1.zm b hb
      rw [z, nx] at this
      exact this
    · cases hc
  · refine t1.pass env1.same env.zm S1 (fun b o e => off_of (S2 _ _ (env1.same b o e)) fun z => ?_) (off_mono S2 fun b o e z y => ?_) ep
    · rcases z with z | ⟨c, hc, _⟩
      · rw [z, (env1.same).free nx] at e; cases e
      · cases hc
    · rcases y with y | y | ⟨c, hc, _⟩
      · exact z y
      · rw [y, nx] at e; cases e
      · cases hc
  · obtain ⟨rfl, hR⟩ := hR
    obtain ⟨k1, k2⟩ := aft o' H' A
    exact ⟨Rp.non_inv rd, q _ _ H' hR (S1.trans k1) ⟨x, rfl, k2, A.at_⟩⟩
  · exact qx e H' hX (S1.trans (aft o' H' A).1)
/-- where no error may come -/
noncomputable def pMakeN (C : Addr) (c : Pw) (r : PTA) : PTE := fun γ R X => r γ (fun ss => match passes ss with | some ss' => ∀ x, c (.ins x C [] []) ss' (fun o' d => d = .non ∧ R (.own o')) (fun _ _ => False) | none => False) X
theorem se_makeN {C : Addr} {c : Pw} {ta : TA} {r : PTA} (hr : SndA K mg E ta r) : SndE K mg E (tMake C (spW mg c K) [] E0 ta) (pMakeN C c r) := by
  intro H0 B H σ γ R X Q env p q qx
  refine hr H0 B H σ γ _ X _ env p (fun ss us H1 h1 S1 t1 => ?_) qx
  split at h1
  · rename_i ss' ep
    rw [List.append_nil]
    exact makeW (X := fun _ => False) env S1 t1 ep h1 q fun _ _ z => z.elim
  · exact h1.elim
end
end Pu

namespace Pu
open PySem PySem.Spec PyProof.Rows L2 Own
theorem len0 {α : Type} {us : List α} (h : us.length = 0) : ∃ _ : True, us = [] := ⟨trivial, List.length_eq_zero_iff.mp h⟩
theorem len1 {α : Type} {us : List α} (h : us.length = 1) : ∃ a, us = [a] := List.length_eq_one_iff.mp h
theorem len2 {α : Type} {us : List α} (h : us.length = 2) : ∃ a b, us = [a, b] := by
  cases us with
  | nil => cases h
  | cons a r => obtain ⟨b, rfl⟩ := len1 (us := r) (by simpa using h); exact ⟨a, b, rfl⟩
theorem len3 {α : Type} {us : List α} (h : us.length = 3) : ∃ a b c, us = [a, b, c] := by
  cases us with
  | nil => cases h
  | cons a r => obtain ⟨b, c, rfl⟩ := len2 (us := r) (by simpa using h); exact ⟨a, b, c, rfl⟩
theorem len4 {α : Type} {us : List α} (h : us.length = 4) : ∃ a b c d, us = [a, b, c, d] := by
  cases us with
  | nil => cases h
  | cons a r => obtain ⟨b, c, d, rfl⟩ := len3 (us := r) (by simpa using h); exact ⟨a, b, c, d, rfl⟩
/-! ### methods of a class of the text -/
structure DefM (K : PySem.W.Frag) (W : Addr → Prop) (x q : Str) (st : Stmt) (ps : List Str) : Prop where
  ex : ∃ f fd, Fun K x q st f fd ∧ W f ∧ Binds K fd ps []
structure CalleeM (P : Program) (w : World) (K : PySem.W.Frag) (mg : Str → Option Value) (base : Heap) (CX : CXT) (k : Nat) (W : Addr → Prop) (ps : List Str) (sp : Sp) : Prop where
  ex : ∃ f fd, FnOk P w K mg base CX k f fd ps sp ∧ W f ∧ Binds K fd ps []
section
variable {P : Program} {w : World} {K : PySem.W.Frag} {mg : Str → Option Value} {base : Heap} {W : Addr → Prop}
theorem DefM.ok {x q : Str} {st : Stmt} {N ps : List Str} {k : Nat} {sp : Sp} (D : DefM K W x q st ps) (S : FnScope N ps (defScope st)) (len : ∀ vs H Q E, sp vs H Q E → vs.length = ps.length)
    (hbody : ∀ (f : Addr) (cdv : Value) (A : Around) (outer : List Env) (s : Shared) (H : Hp) (vs : List V) (Q : VK) (E : XK), Room k (A.deeper (envOfC q (defScope st) s.heap.objs.size f cdv)) → sp vs H Q E →
      ∃ t, PSs (cxOf CX0 P w K mg base N q (defScope st) f cdv A outer s H E).nox (defBody st) t ∧ t { nx := fun _ H' => Q .non H', rt := Q } (start N vs) H) : CalleeM P w K mg base CX0 (k + 1) W ps sp := by
  obtain ⟨f, fd, F, hm, hb⟩ := D.ex
  exact ⟨f, fd, F.ok S len fun cdv A outer s H vs Q E hr h => hbody f cdv A outer s H vs Q E hr h, hm, hb⟩
theorem DefM.okX {x q : Str} {st : Stmt} {N ps : List Str} {k : Nat} {sp : Sp} (D : DefM K W x q st ps) (S : FnScope N ps (defScope st)) (len : ∀ vs H Q E, sp vs H Q E → vs.length = ps.length)
    (hbody : ∀ (f : Addr) (cdv : Value) (A : Around) (outer : List Env) (s : Shared) (H : Hp) (vs : List V) (Q : VK) (E : XK), Room k (A.deeper (envOfC q (defScope st) s.heap.objs.size f cdv)) → sp vs H Q E →
      ∃ t, PSs (cxOf (ExcR.CXe P w) P w K mg base N q (defScope st) f cdv A outer s H E) (defBody st) t ∧ t { nx := fun _ H' => Q .non H', rt := Q } (start N vs) H) : CalleeM P w K mg base (ExcR.CXe P w) (k + 1) W ps sp := by
  obtain ⟨f, fd, F, hm, hb⟩ := D.ex
  obtain ⟨oc, od, kV, doc, pm, an, cdv, ct, osl, rfl, lk, hcd⟩ := F.ex
  exact ⟨f, _, fn_of lk hcd S len fun A outer s H vs Q E hr hsp => hbody f cdv A outer s H vs Q E hr hsp, hm, hb⟩
/-- a callee whose promise lets none out -/
theorem passes_no {X : Cx} : Passes (ExcR.CXe P w) X E0 := fun _ _ _ _ _ _ _ h => by
  obtain ⟨a, T, C, H', _, _, z⟩ := h
  exact z.elim
end
section
variable {X : Cx} {CX : CXT} {k : Nat} {Cc : Addr} {ps : List Str} {sp : Sp} {E : XK} {ES : L2.St → XK} {x m : Str} {p pos apos : Pos} {e o : Expr} {es : List Expr} {ta : TE} {t : TA}
/-- o.m(e, ..) -/
theorem pe_mth {pl : Sem Bool} (C : CalleeM X.prog X.w X.K X.mg X.base CX k (Meth X.K Cc m) ps sp) (c : Cls X.K Cc) (hr : Room k X.A) (hx : Passes CX X E) (he : PE X o ta) (ha : PA X (e :: es) t)
    (hst : starEach (e :: es) X.env = (false, eval e X.env) :: starEach es X.env := by rfl) (hpl : (backTo pos (starEach es X.env)).any (·.1) = false := by rfl)
    (ht : eval (.Call (.Attribute o m apos) (e :: es) [] pos) X.env = (do
      let ov ← eval o X.env
      standAt apos.atName
      let (f, first) ← holding [ov] (getMethod ov m pl)
      callWith pos f first (backTo pos (starEach (e :: es) X.env)) (backToKw pos (keywordEach [] X.env))) := by rfl) :
    PE X (.Call (.Attribute o m apos) (e :: es) [] pos) (tMeth Cc m sp [] E ta t) := by
  obtain ⟨f, fd, F, hm, hb⟩ := C.ex
  exact pe_meth he c hm F hr hb .nil hx ha hst hpl ht
theorem pe_mth0 {pl : Sem Bool} (C : CalleeM X.prog X.w X.K X.mg X.base CX k (Meth X.K Cc m) ps sp) (c : Cls X.K Cc) (hr : Room k X.A) (hx : Passes CX X E) (he : PE X o ta)
    (ht : eval (.Call (.Attribute o m apos) [] [] pos) X.env = (do
      let ov ← eval o X.env
      standAt apos.atName
      let (f, first) ← holding [ov] (getMethod ov m pl)
      callWith pos f first (backTo pos (starEach [] X.env)) (backToKw pos (keywordEach [] X.env))) := by rfl) :
    PE X (.Call (.Attribute o m apos) [] [] pos) (tMeth Cc m sp [] E ta tNil) := by
  obtain ⟨f, fd, F, hm, hb⟩ := C.ex
  exact pe_meth0 he c hm F hr hb .nil hx ht
/-- within a try -/
theorem run_fnS {f : Addr} {fd : FuncData} {pins : List (Addr × Obj)} {σ : L2.St} {H : Hp} {s : Shared} {Q : VK} {us : List Value} {vs : List V} (F : FnOk X.prog X.w X.K X.mg X.base CX k f fd ps sp) (hr : Room k X.A) (hb : Binds X.K fd ps []) (hx : ExcR.PassesS CX X ES)
    (I : Inv X pins σ H s) (r : Vals vs us) (h : sp vs H Q (ES σ)) : wpAny (model X.prog X.w) X.A (call (.ref f) us) (EP X pins σ Q) X.xe s := by
  have hl : (us ++ []).length = ps.length := by rw [List.append_nil, ← r.length]; exact F.len _ _ _ _ h
  refine wpAny_call (codeAny_mono (F.run X.A X.stack s H ⟨us, []⟩ (us ++ []) vs Q (ES σ) hr I.env0 (hb s us I.kIn hl) (by simpa using r) h) fun r s' hq => ?_)
  cases r with
  | error e => exact hx pins σ H s e s' I hq
  | ok fl =>
    cases fl with
    | ret u => exact I.after hq
    | next => exact False.elim hq
    | brk => exact False.elim hq
    | cont => exact False.elim hq
theorem pe_mthS {pl : Sem Bool} (C : CalleeM X.prog X.w X.K X.mg X.base CX k (Meth X.K Cc m) ps sp) (c : Cls X.K Cc) (hr : Room k X.A) (hx : ExcR.PassesS CX X ES) (he : PE X o ta) (ha : PA X (e :: es) t)
    (hst : starEach (e :: es) X.env = (false, eval e X.env) :: starEach es X.env := by rfl) (hpl : (backTo pos (starEach es X.env)).any (·.1) = false := by rfl)
    (ht : eval (.Call (.Attribute o m apos) (e :: es) [] pos) X.env = (do
      let ov ← eval o X.env
      standAt apos.atName
      let (f, first) ← holding [ov] (getMethod ov m pl)
      callWith pos f first (backTo pos (starEach (e :: es) X.env)) (backToKw pos (keywordEach [] X.env))) := by rfl) :
    PE X (.Call (.Attribute o m apos) (e :: es) [] pos) (tMethS Cc m sp ES ta t) := by
  obtain ⟨f, fd, F, hm, hb⟩ := C.ex
  intro pins s σ H Q I h
  refine PySem.W.methodCall_KW (pl := pl) (thn (he pins s σ H _ I h) fun u s1 ⟨x, H1, I1, rx, a, dx, fs, ex, ea, l, q⟩ => ?_) ht
  subst ex
  obtain rfl : u = Value.ref a := rx
  refine getmeth_ok I1 ea c hm l ?_
  refine PySem.W.callWith_K (first := [.ref a]) (h₀ := X.base) I.ok.mod.kin hm.kp (thn (ha pos pins s1 σ H1 _ I1 q) fun us s2 ⟨vs, H2, I2, r, q2⟩ => ⟨I2.kIn, ?_⟩) hst hpl
  exact run_fnS (us := .ref a :: us) (vs := .ref a :: (vs ++ [])) F hr hb hx I2 (.cons rfl (by rw [List.append_nil]; exact r)) q2
/-- C(e, ..) -/
theorem pe_new (C : CalleeM X.prog X.w X.K X.mg X.base CX k (Mk X.K Cc) ps sp) (hm : X.mg x = some (.ref Cc)) (hr : Room (k + 1) X.A) (hx : Passes CX X E) (ha : PA X (e :: es) t) (hg : Gl X x := by rfl)
    (hdb : (x == ("__debug__" : Str)) = false := by decide) (he : starEach (e :: es) X.env = (false, eval e X.env) :: starEach es X.env := by rfl) (hpl : (backTo pos (starEach es X.env)).any (·.1) = false := by rfl) :
    PE X (.Call (.Name x p) (e :: es) [] pos) (tMake Cc sp [] E t) := by
  obtain ⟨f, fd, F, M, hb⟩ := C.ex
  exact pe_make M F hr hg hm hb .nil hx ha hdb he hpl
end
/-! ### texts with braces -/
noncomputable abbrev PTF := Γ → Str → (Str → Prop) → XR → Prop
section
variable {K : PySem.W.Frag} {mg : Str → Option Value} {E : L2.St → XK} {t : ExcR.TF} {p : PTF} {te : TE} {a : PTE}
noncomputable def SndF (K : PySem.W.Frag) (mg : Str → Option Value) (E : L2.St → XK) (t : ExcR.TF) (p : PTF) : Prop := ∀ (H0 : Hp) (B : Addr → Prop) (H : Hp) (σ : L2.St) (γ : Γ) (out : Str) (R : Str → Prop) (X : XR) (Q : Str → Hp → Prop), EnvR K H0 B H σ γ → p γ out R X →
  (∀ x H', R x → Same H H' → Q x H') → (∀ c H', X c → Same H H' → E σ (.ref (ExcR.clsOf mg c)) none H') → t σ H out Q
noncomputable def pFNil : PTF := fun _ out R _ => out.length ≤ sizeLine ∧ R out
theorem sf_nil : SndF K mg E ExcR.fNil pFNil := fun H0 B H σ γ out R X Q env h q _ => ⟨h.1, q _ H h.2 (Same.refl _)⟩
noncomputable def pFStr (x : Str) (p : PTF) : PTF := fun γ out R X => (out ++ x).length ≤ sizeLine ∧ p γ (out ++ x) R X
theorem sf_str {x : Str} (h : SndF K mg E t p) : SndF K mg E (ExcR.fStr x t) (pFStr x p) := fun H0 B H σ γ out R X Q env hp q qx => ⟨hp.1, h H0 B H σ γ _ R X Q env hp.2 q qx⟩
noncomputable def pFVal (a : PTE) (p : PTF) : PTF := fun γ out R X => a γ (fun s => match s.d with
  | .int i => i.natAbs.log2 < 1920 ∧ (out ++ (Str.ofString (toString i))).length ≤ sizeLine ∧ p γ (out ++ Str.ofString (toString i)) R X
  | .str x => x.length ≤ sizeLine ∧ (out ++ x).length ≤ sizeLine ∧ p γ (out ++ x) R X
  | _ => False) X
theorem sf_val (ha : SndE K mg E te a) (h : SndF K mg E t p) : SndF K mg E (ExcR.fVal te t) (pFVal a p) := fun H0 B H σ γ out R X Q env hp q qx => by
  refine ha H0 B H σ γ _ X _ env hp (fun s v H1 h1 S1 t1 => ?_) qx
  have env1 := env.grow S1
  have rs := t1.rp env1.same
  split at h1
  · rename_i i ei
    rw [ei] at rs
    exact .inl ⟨i, rs.int_inv, h1.1, h1.2.1, h H0 B H1 σ γ _ R X Q env1 h1.2.2 (fun x H' hx S' => q x H' hx (S1.trans S')) fun c H' hc S' => qx c H' hc (S1.trans S')⟩
  · rename_i x ex
    rw [ex] at rs
    exact .inr ⟨x, rs.str_inv, h1.1, h1.2.1, h H0 B H1 σ γ _ R X Q env1 h1.2.2 (fun x H' hx S' => q x H' hx (S1.trans S')) fun c H' hc S' => qx c H' hc (S1.trans S')⟩
  · exact h1.elim
noncomputable def pF (p : PTF) : PTE := fun γ R X => p γ Str.empty (fun x => R (.sh (.str x))) X
theorem se_f (h : SndF K mg E t p) : SndE K mg E (ExcR.tF t) (pF p) := fun H0 B H σ γ R X Q env hp q qx =>
  h H0 B H σ γ _ _ X _ env hp (fun x H' hx S' => q _ _ H' hx S' (.str x)) qx
end
end Pu

namespace Pu
open PySem PySem.Spec PyProof.Rows L2 Own M
/-! ### the village: its book, its fields, its wishes, each from the beginning on -/
noncomputable abbrev plD (f : List (Int × Int)) : D := .lst (f.map prD)
noncomputable abbrev dD (q : Str × List Int) : D := .tup (.str q.1 :: q.2.map D.int)
noncomputable abbrev vF : List Str := ["book", "fields", "wished"]
noncomputable abbrev vO (C x b1 b2 b3 : Addr) (bk : List (Str × List Int)) (fs ws : List (List (Int × Int))) : O := .ins x C vF [(b1, bk.map dD), (b2, fs.map plD), (b3, ws.map plD)]
noncomputable abbrev vilD (C : Addr) (bk : List (Str × List Int)) (fs ws : List (List (Int × Int))) : D := .ins C vF [.lst (bk.map dD), .lst (fs.map plD), .lst (ws.map plD)]
theorem at_end {α : Type} (f : α → D) (xs : List α) (x : α) : atI ((xs ++ [x]).map f) (-1) = some (f x) := by
  refine atI_map ?_
  unfold atI ixN
  rw [if_neg (by omega), if_pos (by rw [List.length_append, List.length_singleton]; omega)]
  show (xs ++ [x])[_]? = some x
  have e : ((-1 : Int) + ((xs ++ [x]).length : Int)).toNat = xs.length := by rw [List.length_append, List.length_singleton]; omega
  rw [e, List.getElem?_append_right (Nat.le_refl _), Nat.sub_self]
  rfl
/-- refused with a class, or not -/
noncomputable def tellE (e : Option Str) (X : Str → Prop) (R : Prop) : Prop := match e with | some c => X c | none => R
noncomputable def holdE (h : Int) : Option Str := if 1 ≤ h ∧ h ≤ 10 then none else some "BadHolder"
noncomputable def firstE : List (Int × Int) → Option Str
  | [] => none
  | q :: r => if ¬ (1 ≤ q.1 ∧ q.1 ≤ 10) then some "BadHolder" else if ¬ (1 ≤ q.2 ∧ q.2 ≤ 1000) then some "BadWidth" else firstE r
noncomputable def stripE (ps : List (Int × Int)) : Option Str := if 40 < ps.length then some "TooManyStrips" else firstE ps
theorem firstE_field : ∀ {ps : List (Int × Int)}, Field ps → firstE ps = none
  | [], _ => rfl
  | q :: r, h => by
    obtain ⟨h1, h2, h3, h4⟩ := h q List.mem_cons_self
    unfold firstE
    rw [if_neg (fun z => z ⟨h1, h2⟩), if_neg (fun z => z ⟨h3, h4⟩)]
    exact firstE_field fun x hx => h x (List.mem_cons_of_mem _ hx)
theorem stripE_field {ps : List (Int × Int)} (h : Field ps) (hl : ps.length ≤ 40) : stripE ps = none := by
  unfold stripE
  rw [if_neg (by omega)]
  exact firstE_field h
noncomputable def placeE (ps : List (Int × Int)) (p : Int) : Option Str := if p < 1 ∨ (ps.length : Int) < p then some "NoStrip" else none
noncomputable def atP1 (ps : List (Int × Int)) (p : Int) : Int × Int := ps.getD (p - 1).toNat (0, 0)
noncomputable def soldE (ps : List (Int × Int)) (p h : Int) : Option Str := if p < 1 ∨ (ps.length : Int) < p then some "NoStrip" else if ¬ (1 ≤ h ∧ h ≤ 10) then some "BadHolder" else if (atP1 ps p).1 = h then some "OwnStrip" else none
theorem cut_set {ps : List (Int × Int)} {p : Int} {x : Int × Int} (h1 : 1 ≤ p) (h2 : p ≤ ps.length) : cutD (ps.map prD) none (some (p - 1)) ++ [prD x] ++ cutD (ps.map prD) (some p) none = (ps.set (p - 1).toNat x).map prD := by
  rw [cutD_map, cutD_map, cutD_to ps (by omega), cutD_from ps (by omega)]
  have e : p.toNat = (p - 1).toNat + 1 := by omega
  rw [e, List.set_eq_take_append_cons_drop, if_pos (by omega), List.map_append, List.map_cons, List.append_assoc]
  rfl
theorem atP1_eq {ps : List (Int × Int)} {p : Int} (h1 : 1 ≤ p) (h2 : p ≤ ps.length) : atI (ps.map prD) (p - 1) = some (prD (atP1 ps p)) := by
  rw [at_map (by omega) (by omega)]
  unfold atP1
  rw [List.getD_eq_getElem?_getD, List.getElem?_eq_getElem (show (p - 1).toNat < ps.length by omega)]
  rfl
theorem firstE_cons (q : Int × Int) (r : List (Int × Int)) : firstE (q :: r) = if ¬ (1 ≤ q.1 ∧ q.1 ≤ 10) then some ("BadHolder" : Str) else if ¬ (1 ≤ q.2 ∧ q.2 ≤ 1000) then some ("BadWidth" : Str) else firstE r := rfl
theorem imm_deed (q : Str × List Int) : imm (dD q) = true := by
  unfold dD imm imms
  rw [imms_ints]
  unfold imm
  rfl
theorem imms_deeds : ∀ (bk : List (Str × List Int)), imms (bk.map dD) = true
  | [] => by unfold List.map imms; rfl
  | q :: r => by
    rw [List.map_cons]
    unfold imms
    rw [imm_deed, imms_deeds r]
    rfl
theorem arg_deed (q : Str × List Int) : arg (dD q) = .sh (dD q) := by
  unfold arg
  rw [imm_deed]
theorem start_deed {N : List Str} {q : Str × List Int} {ds : List D} : startP N (dD q :: ds) = some (.sh (dD q)) :: (ds.map (fun d => some (arg d)) ++ List.replicate (N.length - (ds.length + 1)) none) := by
  unfold startP
  rw [List.map_cons, arg_deed]
  rfl
theorem deed_at {q : Str × List Int} {i : Nat} (h : i < q.2.length) : atI (.str q.1 :: q.2.map D.int) (1 + (i : Int)) = some (.int q.2[i]) := by
  have e : (1 + (i : Int)) = ((i + 1 : Nat) : Int) := by omega
  rw [e]
  exact atI_nat (by rw [List.getElem?_cons_succ, List.getElem?_map, List.getElem?_eq_getElem h]; rfl)
/-- the classes of a sale's error, as they are told -/
noncomputable def soldK (ps : List (Int × Int)) (p h : Int) : List Bool := if p < 1 ∨ (ps.length : Int) < p then [true, true, false, false] else if ¬ (1 ≤ h ∧ h ≤ 10) then [true, false, true, false] else if (atP1 ps p).1 = h then [true, false, false, true] else []
theorem sold_cases (ps : List (Int × Int)) (p h : Int) : (soldE ps p h = some ("NoStrip" : Str) ∧ soldK ps p h = [true, true, false, false]) ∨ (soldE ps p h = some ("BadHolder" : Str) ∧ soldK ps p h = [true, false, true, false]) ∨ (soldE ps p h = some ("OwnStrip" : Str) ∧ soldK ps p h = [true, false, false, true]) ∨
    (soldE ps p h = none ∧ soldK ps p h = [] ∧ 1 ≤ p ∧ p ≤ ps.length) := by
  unfold soldE soldK
  by_cases c : p < 1 ∨ (ps.length : Int) < p
  · rw [if_pos c, if_pos c]
    exact .inl ⟨rfl, rfl⟩
  · rw [if_neg c, if_neg c]
    by_cases c2 : 1 ≤ h ∧ h ≤ 10
    · rw [if_neg (Classical.not_not.mpr c2), if_neg (Classical.not_not.mpr c2)]
      by_cases c3 : (atP1 ps p).1 = h
      · rw [if_pos c3, if_pos c3]
        exact .inr (.inr (.inl ⟨rfl, rfl⟩))
      · rw [if_neg c3, if_neg c3]
        exact .inr (.inr (.inr ⟨rfl, rfl, by omega, by omega⟩))
    · rw [if_pos c2, if_pos c2]
      exact .inr (.inl ⟨rfl, rfl⟩)
/-! ### a strip is parted -/
noncomputable def partE (ps : List (Int × Int)) (p w : Int) : Option Str := if p < 1 ∨ (ps.length : Int) < p then some "NoStrip" else if w < 1 ∨ (atP1 ps p).2 ≤ w then some "BadPart" else if 40 ≤ ps.length then some "TooManyStrips" else none
noncomputable def partL (ps : List (Int × Int)) (p w : Int) : List (Int × Int) := ps.take (p - 1).toNat ++ [((atP1 ps p).1, w), ((atP1 ps p).1, (atP1 ps p).2 - w)] ++ ps.drop p.toNat
noncomputable def partK (ps : List (Int × Int)) (p w : Int) : List Bool := if p < 1 ∨ (ps.length : Int) < p then [true, true, false, false] else if w < 1 ∨ (atP1 ps p).2 ≤ w then [true, false, true, false] else if 40 ≤ ps.length then [true, false, false, true] else []
theorem part_cases (ps : List (Int × Int)) (p w : Int) : (partE ps p w = some ("NoStrip" : Str) ∧ partK ps p w = [true, true, false, false]) ∨ (partE ps p w = some ("BadPart" : Str) ∧ partK ps p w = [true, false, true, false]) ∨ (partE ps p w = some ("TooManyStrips" : Str) ∧ partK ps p w = [true, false, false, true]) ∨
    (partE ps p w = none ∧ partK ps p w = [] ∧ 1 ≤ p ∧ p ≤ ps.length ∧ 1 ≤ w ∧ w < (atP1 ps p).2 ∧ ps.length < 40) := by
  unfold partE partK
  by_cases c : p < 1 ∨ (ps.length : Int) < p
  · rw [if_pos c, if_pos c]
    exact .inl ⟨rfl, rfl⟩
  · rw [if_neg c, if_neg c]
    by_cases c2 : w < 1 ∨ (atP1 ps p).2 ≤ w
    · rw [if_pos c2, if_pos c2]
      exact .inr (.inl ⟨rfl, rfl⟩)
    · rw [if_neg c2, if_neg c2]
      by_cases c3 : 40 ≤ ps.length
      · rw [if_pos c3, if_pos c3]
        exact .inr (.inr (.inl ⟨rfl, rfl⟩))
      · rw [if_neg c3, if_neg c3]
        exact .inr (.inr (.inr ⟨rfl, rfl, by omega, by omega, by omega, by omega, by omega⟩))
theorem atP1_mem {ps : List (Int × Int)} {p : Int} (h1 : 1 ≤ p) (h2 : p ≤ ps.length) : atP1 ps p ∈ ps := by
  have hl : (p - 1).toNat < ps.length := by omega
  unfold atP1
  rw [List.getD_eq_getElem?_getD, List.getElem?_eq_getElem hl]
  exact List.getElem_mem hl
theorem partL_eq {ps : List (Int × Int)} {p w : Int} (h1 : 1 ≤ p) : cutD (ps.map prD) none (some (p - 1)) ++ [prD ((atP1 ps p).1, w), prD ((atP1 ps p).1, (atP1 ps p).2 - w)] ++ cutD (ps.map prD) (some p) none = (partL ps p w).map prD := by
  rw [cutD_map, cutD_map, cutD_to ps (by omega), cutD_from ps (by omega)]
  unfold partL
  rw [List.map_append, List.map_append]
  rfl
theorem partL_len {ps : List (Int × Int)} {p w : Int} (h1 : 1 ≤ p) (h2 : p ≤ ps.length) : (partL ps p w).length = ps.length + 1 := by
  unfold partL
  rw [List.length_append, List.length_append, List.length_take, List.length_drop]
  simp
  omega
theorem partL_field {ps : List (Int × Int)} {p w : Int} (hF : Field ps) (h1 : 1 ≤ p) (h2 : p ≤ ps.length) (h3 : 1 ≤ w) (h4 : w < (atP1 ps p).2) : Field (partL ps p w) := by
  obtain ⟨a1, a2, a3, a4⟩ := hF _ (atP1_mem h1 h2)
  intro q hq
  unfold partL at hq
  rcases List.mem_append.mp hq with hq | hq
  · rcases List.mem_append.mp hq with hq | hq
    · exact hF q (List.mem_of_mem_take hq)
    · rcases List.mem_cons.mp hq with rfl | hq
      · exact ⟨a1, a2, h3, by show w ≤ 1000; omega⟩
      · rw [List.mem_singleton] at hq
        subst hq
        exact ⟨a1, a2, by show 1 ≤ _ - w; omega, by show _ - w ≤ 1000; omega⟩
  · exact hF q (List.mem_of_mem_drop hq)
/-! ### lists of True and False -/
theorem scal_bl : ∀ ks : List Bool, scalVs (ks.map D.bl) = some (ks.map V.bl)
  | [] => rfl
  | k :: r => by
    rw [List.map_cons, List.map_cons]
    unfold scalVs
    rw [scal_bl r]
    rfl
theorem flat_bl : ∀ ks : List Bool, (ks.map V.bl).all flatV = true
  | [] => rfl
  | k :: r => by rw [List.map_cons, List.all_cons, flat_bl r]; rfl
theorem eqL_bl (ks : List Bool) : eqL (ks.map V.bl) (ks.map V.bl) = true := by
  unfold eqL
  rw [decide_eq_true rfl, Bool.true_and, List.all_eq_true]
  intro j hj
  have hj' : j < ks.length := by simpa using List.mem_range.mp hj
  rw [List.getD_eq_getElem?_getD, List.getElem?_map, List.getElem?_eq_getElem hj']
  cases ks[j] <;> rfl
end Pu

namespace Pu
open PySem PySem.Spec PyProof.Rows L2 Own M
section
variable {K : PySem.W.Frag} {mg : Str → Option Value} {E : L2.St → XK}
/-! ### xs.extend(ys), xs.pop() -/
end
/-! ### all orders, from the first by the numbers on -/
end Pu

namespace Pu
open PySem PySem.Spec PyProof.Rows L2 Own M
/-! ### all stands of a field -/
/-! ### a stand's cost: the products of each two that stand the other way about -/
end Pu

namespace Pu
open PySem PySem.Spec PyProof.Rows L2 Own
section
variable {K : PySem.W.Frag} {mg : Str → Option Value} {E : L2.St → XK}
/-! ### t[a:b] of a tuple, not the whole of it -/
/-! ### t == u of flat tuples -/
end
end Pu

namespace Own
open PySem PySem.Spec PyProof.Rows L2 PySem.SeqAt PySem.MeetsSeq PySem.MeetsSeq2 PySem.MeetsSeq3 PySem.SeqRoads2
open AutoSeq1 (wpAny_loadPart')
/-! ### t >= u of int tuples of one length -/
section
variable {X : Cx} {K : PySem.W.Frag}
end
end Own
namespace Pu
open PySem PySem.Spec PyProof.Rows L2 Own M
section
variable {K : PySem.W.Frag} {mg : Str → Option Value} {E : L2.St → XK}
end
end Pu

namespace Own
open PySem PySem.Spec PyProof.Rows L2
/-! ### sorted(t) of a tuple of ints -/
section
variable {prog : Program} {w : World} {A : Around} {s : Shared} {E : Value → Shared → Prop}
end
section
variable {X : Cx} {K : PySem.W.Frag}
end
end Own
namespace Pu
open PySem PySem.Spec PyProof.Rows L2 Own M
section
variable {K : PySem.W.Frag} {mg : Str → Option Value} {E : L2.St → XK}
end
end Pu

namespace Pu
open PySem PySem.Spec PyProof.Rows L2 Own M
/-! ### wishes that come and go; two strips made one -/
/-- the holder of a number, by the menu -/
noncomputable def holdP (m : List Int) (k : Int) : Int := 1 + (k * m.getD 1 0 + m.getD 2 0) % 10
end Pu
namespace Pu
open PySem PySem.Spec PyProof.Rows L2 Own M
end Pu
namespace Pu
open PySem PySem.Spec PyProof.Rows L2 Own M
end Pu

namespace T
open PySem PySem.Spec PyProof.Rows L2
noncomputable def top (i : Nat) : Stmt := PySem.Challenge.pw_stripmeld_k23_parts.main.body.getD i (.Pass ⟨0, 0, 0, 0⟩)
noncomputable abbrev s_check_holder : Stmt := top 13
theorem sc_check_holder : FnScope ["holder"] ["holder"] (defScope s_check_holder) := ⟨rfl, rfl, rfl, by decide +kernel, rfl, by decide +kernel, by decide +kernel⟩
noncomputable abbrev s_check_width : Stmt := top 14
theorem sc_check_width : FnScope ["width"] ["width"] (defScope s_check_width) := ⟨rfl, rfl, rfl, by decide +kernel, rfl, by decide +kernel, by decide +kernel⟩
noncomputable abbrev s_check_strips : Stmt := top 15
theorem sc_check_strips : FnScope ["strips", "holder", "width"] ["strips"] (defScope s_check_strips) := ⟨rfl, rfl, rfl, by decide +kernel, rfl, by decide +kernel, by decide +kernel⟩
noncomputable abbrev s_check_place : Stmt := top 17
theorem sc_check_place : FnScope ["strips", "place"] ["strips", "place"] (defScope s_check_place) := ⟨rfl, rfl, rfl, by decide +kernel, rfl, by decide +kernel, by decide +kernel⟩
noncomputable abbrev s_parted : Stmt := top 18
theorem sc_parted : FnScope ["strips", "place", "width", "strip"] ["strips", "place", "width"] (defScope s_parted) := ⟨rfl, rfl, rfl, by decide +kernel, rfl, by decide +kernel, by decide +kernel⟩
noncomputable abbrev s_Village_init : Stmt := inClass (top 21) 0
theorem sc_Village_init : FnScope ["self", "strips"] ["self", "strips"] (defScope s_Village_init) := ⟨rfl, rfl, rfl, by decide +kernel, rfl, by decide +kernel, by decide +kernel⟩
noncomputable abbrev s_Village_strips : Stmt := inClass (top 21) 1
theorem sc_Village_strips : FnScope ["self"] ["self"] (defScope s_Village_strips) := ⟨rfl, rfl, rfl, by decide +kernel, rfl, by decide +kernel, by decide +kernel⟩
noncomputable abbrev s_Village_wishes : Stmt := inClass (top 21) 2
theorem sc_Village_wishes : FnScope ["self"] ["self"] (defScope s_Village_wishes) := ⟨rfl, rfl, rfl, by decide +kernel, rfl, by decide +kernel, by decide +kernel⟩
noncomputable abbrev s_Village_deeds : Stmt := inClass (top 21) 3
theorem sc_Village_deeds : FnScope ["self"] ["self"] (defScope s_Village_deeds) := ⟨rfl, rfl, rfl, by decide +kernel, rfl, by decide +kernel, by decide +kernel⟩
noncomputable abbrev s_Village_check_room : Stmt := inClass (top 21) 4
theorem sc_Village_check_room : FnScope ["self"] ["self"] (defScope s_Village_check_room) := ⟨rfl, rfl, rfl, by decide +kernel, rfl, by decide +kernel, by decide +kernel⟩
noncomputable abbrev s_Village_enter : Stmt := inClass (top 21) 5
theorem sc_Village_enter : FnScope ["self", "deed", "field", "wishes"] ["self", "deed", "field", "wishes"] (defScope s_Village_enter) := ⟨rfl, rfl, rfl, by decide +kernel, rfl, by decide +kernel, by decide +kernel⟩
noncomputable abbrev s_Village_part : Stmt := inClass (top 21) 7
theorem sc_Village_part : FnScope ["self", "place", "width", "field"] ["self", "place", "width"] (defScope s_Village_part) := ⟨rfl, rfl, rfl, by decide +kernel, rfl, by decide +kernel, by decide +kernel⟩
noncomputable abbrev s_law_at : Stmt := top 23
theorem sc_law_at : FnScope ["_law_script", "_law_k"] ["_law_script", "_law_k"] (defScope s_law_at) := ⟨rfl, rfl, rfl, by decide +kernel, rfl, by decide +kernel, by decide +kernel⟩
noncomputable abbrev s_law_whole : Stmt := top 24
theorem sc_law_whole : FnScope ["_law_found"] ["_law_found"] (defScope s_law_whole) := ⟨rfl, rfl, rfl, by decide +kernel, rfl, by decide +kernel, by decide +kernel⟩
noncomputable abbrev s_law_mix : Stmt := top 25
theorem sc_law_mix : FnScope ["_law_cell", "_law_place_here", "_law_first"] ["_law_cell", "_law_place_here"] (defScope s_law_mix) := ⟨rfl, rfl, rfl, by decide +kernel, rfl, by decide +kernel, by decide +kernel⟩
noncomputable abbrev s_law_draw : Stmt := top 26
theorem sc_law_draw : FnScope ["_law_script", "_law_k"] ["_law_script", "_law_k"] (defScope s_law_draw) := ⟨rfl, rfl, rfl, by decide +kernel, rfl, by decide +kernel, by decide +kernel⟩
noncomputable abbrev s_law_menu : Stmt := top 27
theorem sc_law_menu : FnScope ["_law_cell", "_law_wide_here", "_law_least"] ["_law_cell"] (defScope s_law_menu) := ⟨rfl, rfl, rfl, by decide +kernel, rfl, by decide +kernel, by decide +kernel⟩
noncomputable abbrev s_law_holder : Stmt := top 28
theorem sc_law_holder : FnScope ["_law_menu_here", "_law_k"] ["_law_menu_here", "_law_k"] (defScope s_law_holder) := ⟨rfl, rfl, rfl, by decide +kernel, rfl, by decide +kernel, by decide +kernel⟩
noncomputable abbrev s_law_strips : Stmt := top 29
theorem sc_law_strips : FnScope ["_law_script", "_law_menu_here", "_law_many", "_law_strips_here", "_law_k", "_law_cell", "_law_width_here"] ["_law_script", "_law_menu_here", "_law_many"] (defScope s_law_strips) := ⟨rfl, rfl, rfl, by decide +kernel, rfl, by decide +kernel, by decide +kernel⟩
noncomputable abbrev s_law_tuples : Stmt := top 30
theorem sc_law_tuples : FnScope ["_law_found", "_law_due_here", "_law_k", "_law_j"] ["_law_found", "_law_due_here"] (defScope s_law_tuples) := ⟨rfl, rfl, rfl, by decide +kernel, rfl, by decide +kernel, by decide +kernel⟩
noncomputable abbrev s_law_deed_is : Stmt := top 31
theorem sc_law_deed_is : FnScope ["_law_found", "_law_due_here", "_law_j"] ["_law_found", "_law_due_here"] (defScope s_law_deed_is) := ⟨rfl, rfl, rfl, by decide +kernel, rfl, by decide +kernel, by decide +kernel⟩
noncomputable abbrev s_law_book_is : Stmt := top 32
theorem sc_law_book_is : FnScope ["_law_found", "_law_due_here", "_law_k"] ["_law_found", "_law_due_here"] (defScope s_law_book_is) := ⟨rfl, rfl, rfl, by decide +kernel, rfl, by decide +kernel, by decide +kernel⟩
noncomputable abbrev s_law_place : Stmt := top 33
theorem sc_law_place : FnScope ["_law_cell", "_law_strips_here"] ["_law_cell", "_law_strips_here"] (defScope s_law_place) := ⟨rfl, rfl, rfl, by decide +kernel, rfl, by decide +kernel, by decide +kernel⟩
noncomputable abbrev s_law_width : Stmt := top 34
theorem sc_law_width : FnScope ["_law_cell", "_law_strips_here", "_law_place_here"] ["_law_cell", "_law_strips_here", "_law_place_here"] (defScope s_law_width) := ⟨rfl, rfl, rfl, by decide +kernel, rfl, by decide +kernel, by decide +kernel⟩
noncomputable abbrev s_law_parting : Stmt := top 35
theorem sc_law_parting : FnScope ["_law_village", "_law_place_here", "_law_width_here", "_law_kinds", "_law_found", "e"] ["_law_village", "_law_place_here", "_law_width_here"] (defScope s_law_parting) := ⟨rfl, rfl, rfl, by decide +kernel, rfl, by decide +kernel, by decide +kernel⟩
noncomputable abbrev s_law_due : Stmt := top 36
theorem sc_law_due : FnScope ["_law_strips_here", "_law_place_here", "_law_width_here"] ["_law_strips_here", "_law_place_here", "_law_width_here"] (defScope s_law_due) := ⟨rfl, rfl, rfl, by decide +kernel, rfl, by decide +kernel, by decide +kernel⟩
noncomputable abbrev s_law_wide : Stmt := top 37
theorem sc_law_wide : FnScope ["_law_cell", "_law_strips_here", "_law_place_here"] ["_law_cell", "_law_strips_here", "_law_place_here"] (defScope s_law_wide) := ⟨rfl, rfl, rfl, by decide +kernel, rfl, by decide +kernel, by decide +kernel⟩
noncomputable abbrev s_law : Stmt := top 38
theorem sc_law : FnScope ["_law_script", "_law_menu_here", "_law_size", "_law_many", "_law_strips_here", "_law_village", "_law_book", "_law_k", "_law_cell", "_law_place_here", "_law_width_here", "_law_found", "_law_due_here", "_law_holder_here", "_law_whole_here", "_law_parts"] ["_law_script"] (defScope s_law) := ⟨rfl, rfl, rfl, by decide +kernel, rfl, by decide +kernel, by decide +kernel⟩
structure Glob (K : PySem.W.Frag) (mg : Str → Option Value) : Prop where
  ValueError : mg "ValueError" = none
  bool : mg "bool" = none
  int : mg "int" = none
  isinstance : mg "isinstance" = none
  len : mg "len" = none
  list : mg "list" = none
  max : mg "max" = none
  range : mg "range" = none
  str : mg "str" = none
  tuple : mg "tuple" = none
  HOLDERS : ∃ u, mg "HOLDERS" = some u ∧ RelV (.int 10) u
  STRIPS : ∃ u, mg "STRIPS" = some u ∧ RelV (.int 40) u
  WIDEST : ∃ u, mg "WIDEST" = some u ∧ RelV (.int 1000) u
  MOST_DEEDS : ∃ u, mg "MOST_DEEDS" = some u ∧ RelV (.int 100) u
  m_MeldError : mg "MeldError" = some (.ref (ExcR.clsOf mg "MeldError"))
  g_MeldError : ExcR.ErrGet K (ExcR.clsOf mg "MeldError")
  m_TooManyStrips : mg "TooManyStrips" = some (.ref (ExcR.clsOf mg "TooManyStrips"))
  g_TooManyStrips : ExcR.ErrGet K (ExcR.clsOf mg "TooManyStrips")
  m_BadHolder : mg "BadHolder" = some (.ref (ExcR.clsOf mg "BadHolder"))
  g_BadHolder : ExcR.ErrGet K (ExcR.clsOf mg "BadHolder")
  m_BadWidth : mg "BadWidth" = some (.ref (ExcR.clsOf mg "BadWidth"))
  g_BadWidth : ExcR.ErrGet K (ExcR.clsOf mg "BadWidth")
  m_NoStrip : mg "NoStrip" = some (.ref (ExcR.clsOf mg "NoStrip"))
  g_NoStrip : ExcR.ErrGet K (ExcR.clsOf mg "NoStrip")
  m_BadPart : mg "BadPart" = some (.ref (ExcR.clsOf mg "BadPart"))
  g_BadPart : ExcR.ErrGet K (ExcR.clsOf mg "BadPart")
  m_BookFull : mg "BookFull" = some (.ref (ExcR.clsOf mg "BookFull"))
  g_BookFull : ExcR.ErrGet K (ExcR.clsOf mg "BookFull")
  x_MeldError_MeldError : PySem.W.exmOne K (.ref (ExcR.clsOf mg "MeldError")) (.ref (ExcR.clsOf mg "MeldError")) = some true
  x_TooManyStrips_MeldError : PySem.W.exmOne K (.ref (ExcR.clsOf mg "TooManyStrips")) (.ref (ExcR.clsOf mg "MeldError")) = some true
  x_BadHolder_MeldError : PySem.W.exmOne K (.ref (ExcR.clsOf mg "BadHolder")) (.ref (ExcR.clsOf mg "MeldError")) = some true
  x_BadWidth_MeldError : PySem.W.exmOne K (.ref (ExcR.clsOf mg "BadWidth")) (.ref (ExcR.clsOf mg "MeldError")) = some true
  x_NoStrip_MeldError : PySem.W.exmOne K (.ref (ExcR.clsOf mg "NoStrip")) (.ref (ExcR.clsOf mg "MeldError")) = some true
  x_BadPart_MeldError : PySem.W.exmOne K (.ref (ExcR.clsOf mg "BadPart")) (.ref (ExcR.clsOf mg "MeldError")) = some true
  x_BookFull_MeldError : PySem.W.exmOne K (.ref (ExcR.clsOf mg "BookFull")) (.ref (ExcR.clsOf mg "MeldError")) = some true
  k_TooManyStrips_ValueError : PySem.W.kitOne K (.ref (ExcR.clsOf mg "TooManyStrips")) (.type "ValueError") = some true
  k_TooManyStrips_NoStrip : PySem.W.kitOne K (.ref (ExcR.clsOf mg "TooManyStrips")) (.ref (ExcR.clsOf mg "NoStrip")) = some false
  k_TooManyStrips_BadPart : PySem.W.kitOne K (.ref (ExcR.clsOf mg "TooManyStrips")) (.ref (ExcR.clsOf mg "BadPart")) = some false
  k_TooManyStrips_TooManyStrips : PySem.W.kitOne K (.ref (ExcR.clsOf mg "TooManyStrips")) (.ref (ExcR.clsOf mg "TooManyStrips")) = some true
  k_NoStrip_ValueError : PySem.W.kitOne K (.ref (ExcR.clsOf mg "NoStrip")) (.type "ValueError") = some true
  k_NoStrip_NoStrip : PySem.W.kitOne K (.ref (ExcR.clsOf mg "NoStrip")) (.ref (ExcR.clsOf mg "NoStrip")) = some true
  k_NoStrip_BadPart : PySem.W.kitOne K (.ref (ExcR.clsOf mg "NoStrip")) (.ref (ExcR.clsOf mg "BadPart")) = some false
  k_NoStrip_TooManyStrips : PySem.W.kitOne K (.ref (ExcR.clsOf mg "NoStrip")) (.ref (ExcR.clsOf mg "TooManyStrips")) = some false
  k_BadPart_ValueError : PySem.W.kitOne K (.ref (ExcR.clsOf mg "BadPart")) (.type "ValueError") = some true
  k_BadPart_NoStrip : PySem.W.kitOne K (.ref (ExcR.clsOf mg "BadPart")) (.ref (ExcR.clsOf mg "NoStrip")) = some false
  k_BadPart_BadPart : PySem.W.kitOne K (.ref (ExcR.clsOf mg "BadPart")) (.ref (ExcR.clsOf mg "BadPart")) = some true
  k_BadPart_TooManyStrips : PySem.W.kitOne K (.ref (ExcR.clsOf mg "BadPart")) (.ref (ExcR.clsOf mg "TooManyStrips")) = some false
  m_Village : mg "Village" = some (.ref (ExcR.clsOf mg "Village"))
  cl_Village : Cls K (ExcR.clsOf mg "Village")
  n_Village_book : NoAttr K (ExcR.clsOf mg "Village") "book"
  n_Village_fields : NoAttr K (ExcR.clsOf mg "Village") "fields"
  n_Village_wished : NoAttr K (ExcR.clsOf mg "Village") "wished"
theorem fa_Village_book : Pu.FldAt "book" ["book", "fields", "wished"] 0 := fun vs h => by obtain ⟨a0, a1, a2, rfl⟩ := Pu.len3 h.symm; simp only [List.zip_cons_cons, List.zip_nil_right, List.lookup, (show (("book" : Str) == "book") = true by decide +kernel)]; rfl
theorem pa_Village_book : Pu.PutAt "book" [] := fun vs y h => by obtain ⟨_, rfl⟩ := Pu.len0 h.symm; simp only [List.zip_cons_cons, List.zip_nil_right, putF]; rfl
theorem fa_Village_fields : Pu.FldAt "fields" ["book", "fields", "wished"] 1 := fun vs h => by obtain ⟨a0, a1, a2, rfl⟩ := Pu.len3 h.symm; simp only [List.zip_cons_cons, List.zip_nil_right, List.lookup, (show (("fields" : Str) == "book") = false by decide +kernel), (show (("fields" : Str) == "fields") = true by decide +kernel)]; rfl
theorem pa_Village_fields : Pu.PutAt "fields" ["book"] := fun vs y h => by obtain ⟨a0, rfl⟩ := Pu.len1 h.symm; simp only [List.zip_cons_cons, List.zip_nil_right, putF, if_neg (show ¬ (("book" : Str) = "fields") by decide +kernel)]; rfl
theorem fa_Village_wished : Pu.FldAt "wished" ["book", "fields", "wished"] 2 := fun vs h => by obtain ⟨a0, a1, a2, rfl⟩ := Pu.len3 h.symm; simp only [List.zip_cons_cons, List.zip_nil_right, List.lookup, (show (("wished" : Str) == "book") = false by decide +kernel), (show (("wished" : Str) == "fields") = false by decide +kernel), (show (("wished" : Str) == "wished") = true by decide +kernel)]; rfl
theorem pa_Village_wished : Pu.PutAt "wished" ["book", "fields"] := fun vs y h => by obtain ⟨a0, a1, rfl⟩ := Pu.len2 h.symm; simp only [List.zip_cons_cons, List.zip_nil_right, putF, if_neg (show ¬ (("book" : Str) = "wished") by decide +kernel), if_neg (show ¬ (("fields" : Str) = "wished") by decide +kernel)]; rfl
theorem nf_Village_strips : Pu.NoFld "strips" ["book", "fields", "wished"] := fun vs => match vs with | [] => rfl | [a0] => by simp only [List.zip_cons_cons, List.zip_nil_right, List.lookup, (show (("strips" : Str) == "book") = false by decide +kernel), (show (("strips" : Str) == "fields") = false by decide +kernel), (show (("strips" : Str) == "wished") = false by decide +kernel)] | [a0, a1] => by simp only [List.zip_cons_cons, List.zip_nil_right, List.lookup, (show (("strips" : Str) == "book") = false by decide +kernel), (show (("strips" : Str) == "fields") = false by decide +kernel), (show (("strips" : Str) == "wished") = false by decide +kernel)] | a0 :: a1 :: a2 :: _ => by simp only [List.zip_cons_cons, List.zip_nil_left, List.lookup, (show (("strips" : Str) == "book") = false by decide +kernel), (show (("strips" : Str) == "fields") = false by decide +kernel), (show (("strips" : Str) == "wished") = false by decide +kernel)]
theorem nf_Village_wishes : Pu.NoFld "wishes" ["book", "fields", "wished"] := fun vs => match vs with | [] => rfl | [a0] => by simp only [List.zip_cons_cons, List.zip_nil_right, List.lookup, (show (("wishes" : Str) == "book") = false by decide +kernel), (show (("wishes" : Str) == "fields") = false by decide +kernel), (show (("wishes" : Str) == "wished") = false by decide +kernel)] | [a0, a1] => by simp only [List.zip_cons_cons, List.zip_nil_right, List.lookup, (show (("wishes" : Str) == "book") = false by decide +kernel), (show (("wishes" : Str) == "fields") = false by decide +kernel), (show (("wishes" : Str) == "wished") = false by decide +kernel)] | a0 :: a1 :: a2 :: _ => by simp only [List.zip_cons_cons, List.zip_nil_left, List.lookup, (show (("wishes" : Str) == "book") = false by decide +kernel), (show (("wishes" : Str) == "fields") = false by decide +kernel), (show (("wishes" : Str) == "wished") = false by decide +kernel)]
theorem nf_Village_deeds : Pu.NoFld "deeds" ["book", "fields", "wished"] := fun vs => match vs with | [] => rfl | [a0] => by simp only [List.zip_cons_cons, List.zip_nil_right, List.lookup, (show (("deeds" : Str) == "book") = false by decide +kernel), (show (("deeds" : Str) == "fields") = false by decide +kernel), (show (("deeds" : Str) == "wished") = false by decide +kernel)] | [a0, a1] => by simp only [List.zip_cons_cons, List.zip_nil_right, List.lookup, (show (("deeds" : Str) == "book") = false by decide +kernel), (show (("deeds" : Str) == "fields") = false by decide +kernel), (show (("deeds" : Str) == "wished") = false by decide +kernel)] | a0 :: a1 :: a2 :: _ => by simp only [List.zip_cons_cons, List.zip_nil_left, List.lookup, (show (("deeds" : Str) == "book") = false by decide +kernel), (show (("deeds" : Str) == "fields") = false by decide +kernel), (show (("deeds" : Str) == "wished") = false by decide +kernel)]
theorem nf_Village_check_room : Pu.NoFld "check_room" ["book", "fields", "wished"] := fun vs => match vs with | [] => rfl | [a0] => by simp only [List.zip_cons_cons, List.zip_nil_right, List.lookup, (show (("check_room" : Str) == "book") = false by decide +kernel), (show (("check_room" : Str) == "fields") = false by decide +kernel), (show (("check_room" : Str) == "wished") = false by decide +kernel)] | [a0, a1] => by simp only [List.zip_cons_cons, List.zip_nil_right, List.lookup, (show (("check_room" : Str) == "book") = false by decide +kernel), (show (("check_room" : Str) == "fields") = false by decide +kernel), (show (("check_room" : Str) == "wished") = false by decide +kernel)] | a0 :: a1 :: a2 :: _ => by simp only [List.zip_cons_cons, List.zip_nil_left, List.lookup, (show (("check_room" : Str) == "book") = false by decide +kernel), (show (("check_room" : Str) == "fields") = false by decide +kernel), (show (("check_room" : Str) == "wished") = false by decide +kernel)]
theorem nf_Village_enter : Pu.NoFld "enter" ["book", "fields", "wished"] := fun vs => match vs with | [] => rfl | [a0] => by simp only [List.zip_cons_cons, List.zip_nil_right, List.lookup, (show (("enter" : Str) == "book") = false by decide +kernel), (show (("enter" : Str) == "fields") = false by decide +kernel), (show (("enter" : Str) == "wished") = false by decide +kernel)] | [a0, a1] => by simp only [List.zip_cons_cons, List.zip_nil_right, List.lookup, (show (("enter" : Str) == "book") = false by decide +kernel), (show (("enter" : Str) == "fields") = false by decide +kernel), (show (("enter" : Str) == "wished") = false by decide +kernel)] | a0 :: a1 :: a2 :: _ => by simp only [List.zip_cons_cons, List.zip_nil_left, List.lookup, (show (("enter" : Str) == "book") = false by decide +kernel), (show (("enter" : Str) == "fields") = false by decide +kernel), (show (("enter" : Str) == "wished") = false by decide +kernel)]
theorem nf_Village_part : Pu.NoFld "part" ["book", "fields", "wished"] := fun vs => match vs with | [] => rfl | [a0] => by simp only [List.zip_cons_cons, List.zip_nil_right, List.lookup, (show (("part" : Str) == "book") = false by decide +kernel), (show (("part" : Str) == "fields") = false by decide +kernel), (show (("part" : Str) == "wished") = false by decide +kernel)] | [a0, a1] => by simp only [List.zip_cons_cons, List.zip_nil_right, List.lookup, (show (("part" : Str) == "book") = false by decide +kernel), (show (("part" : Str) == "fields") = false by decide +kernel), (show (("part" : Str) == "wished") = false by decide +kernel)] | a0 :: a1 :: a2 :: _ => by simp only [List.zip_cons_cons, List.zip_nil_left, List.lookup, (show (("part" : Str) == "book") = false by decide +kernel), (show (("part" : Str) == "fields") = false by decide +kernel), (show (("part" : Str) == "wished") = false by decide +kernel)]
end T

namespace M
open PySem PySem.Spec PyProof.Rows L2 Own Pu
noncomputable def pc_check_holder : Pc := fun ds R X => ∃ h : Int, ds = [.int h] ∧ tellE (holdE h) X (R (.sh .non))
noncomputable def widthE (h : Int) : Option Str := if 1 ≤ h ∧ h ≤ 1000 then none else some "BadWidth"
noncomputable def pc_check_width : Pc := fun ds R X => ∃ h : Int, ds = [.int h] ∧ tellE (widthE h) X (R (.sh .non))
noncomputable def pc_check_place : Pc := fun ds R X => ∃ (ps : List (Int × Int)) (p : Int), ds = [plD ps, .int p] ∧ tellE (placeE ps p) X (R (.sh .non))
noncomputable def pc_Village_strips (C : Addr) : Pc := fun ds R _ => ∃ (bk : List (Str × List Int)) (fs ws : List (List (Int × Int))) (f : List (Int × Int)), ds = [vilD C bk (fs ++ [f]) ws] ∧ R (.own (f.map prD))
noncomputable def pc_Village_wishes (C : Addr) : Pc := fun ds R _ => ∃ (bk : List (Str × List Int)) (fs ws : List (List (Int × Int))) (f : List (Int × Int)), ds = [vilD C bk fs (ws ++ [f])] ∧ R (.own (f.map prD))
noncomputable def pc_Village_deeds (C : Addr) : Pc := fun ds R _ => ∃ (bk : List (Str × List Int)) (fs ws : List (List (Int × Int))), ds = [vilD C bk fs ws] ∧ R (.own (bk.map dD))
noncomputable def roomE (bk : List (Str × List Int)) : Option Str := if 100 ≤ bk.length then some "BookFull" else none
noncomputable def pc_Village_check_room (C : Addr) : Pc := fun ds R X => ∃ (bk : List (Str × List Int)) (fs ws : List (List (Int × Int))), ds = [vilD C bk fs ws] ∧ tellE (roomE bk) X (R (.sh .non))
noncomputable def pw_Village_enter (C : Addr) : Pw := fun o ss R _ => ∃ (x b1 b2 b3 : Addr) (bk : List (Str × List Int)) (fs ws : List (List (Int × Int))) (q : Str × List Int) (f w : List (Int × Int)), o = vO C x b1 b2 b3 bk fs ws ∧ ss = [.sh (dD q), .sh (plD f), .sh (plD w)] ∧ bk.length ≤ 1000 ∧ fs.length ≤ 1000 ∧ ws.length ≤ 1000 ∧
  R (vO C x b1 b2 b3 (bk ++ [q]) (fs ++ [f]) (ws ++ [w])) (.int (bk.length + 1))
noncomputable def pc_law_at : Pc := fun ds R _ => ∃ (ns : List Int) (k : Int), ds = [.scr ns, .int k] ∧ 0 ≤ k ∧ ∀ v : Int, R (.sh (.int v))
noncomputable def pc_law_whole : Pc := fun ds R _ => ∃ i : Int, ds = [.int i] ∧ R (.sh (.bl true))
noncomputable def pc_law_mix : Pc := fun ds R _ => ∃ c p : Int, ds = [.int c, .int p] ∧ ∀ v : Int, R (.sh (.int v))
noncomputable def pc_law_menu : Pc := fun ds R _ => ∃ c : Int, ds = [.int c] ∧ ∀ m, Menu m → R (.own (m.map D.int))
noncomputable def pc_law_holder : Pc := fun ds R _ => ∃ (m : List Int) (k : Int), ds = [.lst (m.map D.int), .int k] ∧ Menu m ∧ ∀ h : Int, 1 ≤ h → h ≤ 10 → h = holdP m k → R (.sh (.int h))
noncomputable def pc_law_place : Pc := fun ds R _ => ∃ (c : Int) (ps : List (Int × Int)), ds = [.int c, plD ps] ∧ ps.length ≤ 1000 ∧ ∀ v : Int, R (.sh (.int v))
noncomputable def pc_law_width : Pc := fun ds R _ => ∃ (c : Int) (ps : List (Int × Int)) (p : Int), ds = [.int c, plD ps, .int p] ∧ Field ps ∧ ps.length ≤ 1000 ∧ ∀ v : Int, R (.sh (.int v))
noncomputable def pc_law_due : Pc := fun ds R _ => ∃ (ps : List (Int × Int)) (p w : Int), ds = [plD ps, .int p, .int w] ∧ ps.length ≤ 40 ∧ R (.own ((partK ps p w).map D.bl))
noncomputable def pc_check_strips : Pc := fun ds R X => ∃ ps : List (Int × Int), ds = [plD ps] ∧ ps.length ≤ 1000 ∧ tellE (stripE ps) X (R (.sh .non))
noncomputable def pc_parted : Pc := fun ds R X => ∃ (ps : List (Int × Int)) (p w : Int), ds = [plD ps, .int p, .int w] ∧ ps.length ≤ 1000 ∧ tellE (partE ps p w) X (R (.own ((partL ps p w).map prD)))
noncomputable def pc_law_draw : Pc := fun ds R _ => ∃ (ns : List Int) (k : Int), ds = [.scr ns, .int k] ∧ 0 ≤ k ∧ ∀ v : Int, R (.sh (.int v))
noncomputable def pc_law_tuples : Pc := fun ds R _ => ∃ ps : List (Int × Int), ds = [.lst (ps.map prD), .lst (ps.map prD)] ∧ ps.length ≤ 1000000 ∧ R (.sh (.bl true))
noncomputable def pc_law_deed_is : Pc := fun ds R _ => ∃ q : Str × List Int, ds = [dD q, dD q] ∧ q.2.length ≤ 100 ∧ R (.sh (.bl true))
noncomputable def pc_law_wide : Pc := fun ds R _ => ∃ (c : Int) (ps : List (Int × Int)) (p : Int), ds = [.int c, plD ps, .int p] ∧ Field ps ∧ ps.length ≤ 1000 ∧ ∀ v : Int, R (.sh (.int v))
noncomputable def pw_Village_init (C : Addr) : Pw := fun o ss R X => ∃ (x : Addr) (ps : List (Int × Int)), o = .ins x C [] [] ∧ ss = [.sh (plD ps)] ∧ ps.length ≤ 1000 ∧ tellE (stripE ps) (X (.ins x C [] [])) (∀ b1 b2 b3, R (vO C x b1 b2 b3 [] [ps] [[]]) .non)
noncomputable def partRE (bk : List (Str × List Int)) (f : List (Int × Int)) (p h : Int) : Option Str := if 100 ≤ bk.length then some "BookFull" else partE f p h
noncomputable def pw_Village_part (C : Addr) : Pw := fun o ss R X => ∃ (x b1 b2 b3 : Addr) (bk : List (Str × List Int)) (fs ws : List (List (Int × Int))) (f w : List (Int × Int)) (p h : Int), o = vO C x b1 b2 b3 bk (fs ++ [f]) (ws ++ [w]) ∧ ss = [.sh (.int p), .sh (.int h)] ∧ bk.length ≤ 1000 ∧ fs.length ≤ 900 ∧ ws.length ≤ 900 ∧ f.length ≤ 1000 ∧
  tellE (partRE bk f p h) (X (vO C x b1 b2 b3 bk (fs ++ [f]) (ws ++ [w]))) (R (vO C x b1 b2 b3 (bk ++ [(("part" : Str), [p, h])]) (fs ++ [f] ++ [partL f p h]) (ws ++ [w] ++ [w])) (.int (bk.length + 1)))
noncomputable def pc_law_strips : Pc := fun ds R _ => ∃ (ns m : List Int) (n : Int), ds = [.scr ns, .lst (m.map D.int), .int n] ∧ Menu m ∧ 0 ≤ n ∧ n ≤ 1000 ∧ ∀ ps : List (Int × Int), Field ps → ps.length = n.toNat → R (.own (ps.map prD))
noncomputable def pc_law_book_is : Pc := fun ds R _ => ∃ bk : List (Str × List Int), ds = [.lst (bk.map dD), .lst (bk.map dD)] ∧ (∀ q ∈ bk, q.2.length ≤ 100) ∧ bk.length ≤ 1000 ∧ R (.sh (.bl true))
noncomputable def pw_law_parting (C : Addr) : Pw := fun o ss R _ => ∃ (x b1 b2 b3 : Addr) (bk : List (Str × List Int)) (fs ws : List (List (Int × Int))) (f w : List (Int × Int)) (p h : Int), o = vO C x b1 b2 b3 bk (fs ++ [f]) (ws ++ [w]) ∧ ss = [.sh (.int p), .sh (.int h)] ∧ bk.length < 100 ∧ fs.length ≤ 900 ∧ ws.length ≤ 900 ∧ f.length ≤ 1000 ∧
  R (if partK f p h = [] then vO C x b1 b2 b3 (bk ++ [(("part" : Str), [p, h])]) (fs ++ [f] ++ [partL f p h]) (ws ++ [w] ++ [w]) else vO C x b1 b2 b3 bk (fs ++ [f]) (ws ++ [w])) (.tup [.int (if partK f p h = [] then bk.length + 1 else -1), .lst ((partK f p h).map D.bl)])
-- the law
end M


namespace T
open PySem PySem.Spec PyProof.Rows L2 Own M Pu
section
variable {P : Program} {w : World} {K : PySem.W.Frag} {mg : Str → Option Value} {base : Heap}
theorem ok_check_holder (G : Glob K mg) (DD : Def K mg "check_holder" s_check_holder ["holder"])
    : Callee P w K mg base (ExcR.CXe P w) 1 "check_holder" ["holder"] (Pu.spOf mg pc_check_holder K) := by
  refine ExcR.Def.okX DD (k := 0) sc_check_holder (fun vs H Q E h => spOf_len h (fun ds R X h => ?_)) (fun f cdv A outer s H vs Q E hr h => ?_)
  · obtain ⟨h, rfl, hR⟩ := h
    rfl
  · refine ⟨_, (pss_one (ps_if (PW.pt (pw_or (pt_cmpR op_lt (pv 0) pe_int (nomark _)) (pw_or1 (pt_cmpR op_gt (pv 0) (ExcR.pe_globE G.HOLDERS) (nomark _)))))
      (pss_one (ExcR.ps_raise G.g_BadHolder.c G.m_BadHolder ExcR.raises_e rfl (pa_cons (ExcR.pe_f (ExcR.pf_str (ExcR.pf_val (ExcR.pe_globE G.HOLDERS) ExcR.pf_nil))) pa_nil)))
      pss_nil)), Pu.fn_use (n := 1) h
      (ss_if (st_or (st_test (se_lt (se_var 0) se_int)) (st_test (se_gt (se_var 0) se_int))) (ss_raise (sa_cons (se_f (sf_str (sf_val se_int sf_nil))) sa_nil)) ss_next) (by decide) (fun ds R X h => ?_)⟩
    obtain ⟨h, rfl, hR⟩ := h
    refine ⟨rfl, ?_⟩
    unfold holdE at hR
    refine ite2 (fun g => iteT ?_) (fun g => ?_)
    · rw [if_neg (by have := of_decide_eq_true g; omega)] at hR
      exact ⟨by decide, by decide, by decide, by decide, by simp, hR⟩
    · have g' : ¬ h < 1 := fun z => g (decide_eq_true z)
      refine ite2 (fun g2 => ?_) (fun g2 => ?_)
      · rw [if_neg (by have := of_decide_eq_true g2; omega)] at hR
        exact ⟨by decide, by decide, by decide, by decide, by simp, hR⟩
      · have g2' : ¬ 10 < h := fun z => g2 (decide_eq_true z)
        rw [if_pos (by omega)] at hR
        exact hR
end
end T


namespace T
open PySem PySem.Spec PyProof.Rows L2 Own M Pu
section
variable {P : Program} {w : World} {K : PySem.W.Frag} {mg : Str → Option Value} {base : Heap}
theorem ok_check_width (G : Glob K mg) (DD : Def K mg "check_width" s_check_width ["width"])
    : Callee P w K mg base (ExcR.CXe P w) 1 "check_width" ["width"] (Pu.spOf mg pc_check_width K) := by
  refine ExcR.Def.okX DD (k := 0) sc_check_width (fun vs H Q E h => spOf_len h (fun ds R X h => ?_)) (fun f cdv A outer s H vs Q E hr h => ?_)
  · obtain ⟨h, rfl, hR⟩ := h
    rfl
  · refine ⟨_, (pss_one (ps_if (PW.pt (pw_or (pt_cmpR op_lt (pv 0) pe_int (nomark _)) (pw_or1 (pt_cmpR op_gt (pv 0) (ExcR.pe_globE G.WIDEST) (nomark _)))))
      (pss_one (ExcR.ps_raise G.g_BadWidth.c G.m_BadWidth ExcR.raises_e rfl (pa_cons (ExcR.pe_f (ExcR.pf_str (ExcR.pf_val (ExcR.pe_globE G.WIDEST) ExcR.pf_nil))) pa_nil)))
      pss_nil)), Pu.fn_use (n := 1) h
      (ss_if (st_or (st_test (se_lt (se_var 0) se_int)) (st_test (se_gt (se_var 0) se_int))) (ss_raise (sa_cons (se_f (sf_str (sf_val se_int sf_nil))) sa_nil)) ss_next) (by decide) (fun ds R X h => ?_)⟩
    obtain ⟨h, rfl, hR⟩ := h
    refine ⟨rfl, ?_⟩
    unfold widthE at hR
    refine ite2 (fun g => iteT ?_) (fun g => ?_)
    · rw [if_neg (by have := of_decide_eq_true g; omega)] at hR
      exact ⟨by decide, by decide, by decide, by decide, by simp, hR⟩
    · have g' : ¬ h < 1 := fun z => g (decide_eq_true z)
      refine ite2 (fun g2 => ?_) (fun g2 => ?_)
      · rw [if_neg (by have := of_decide_eq_true g2; omega)] at hR
        exact ⟨by decide, by decide, by decide, by decide, by simp, hR⟩
      · have g2' : ¬ 1000 < h := fun z => g2 (decide_eq_true z)
        rw [if_pos (by omega)] at hR
        exact hR
end
end T


namespace T
open PySem PySem.Spec PyProof.Rows L2 Own M Pu
section
variable {P : Program} {w : World} {K : PySem.W.Frag} {mg : Str → Option Value} {base : Heap}
theorem ok_check_place (G : Glob K mg) (DD : Def K mg "check_place" s_check_place ["strips", "place"])
    : Callee P w K mg base (ExcR.CXe P w) 1 "check_place" ["strips", "place"] (Pu.spOf mg pc_check_place K) := by
  refine ExcR.Def.okX DD (k := 0) sc_check_place (fun vs H Q E h => spOf_len h (fun ds R X h => ?_)) (fun f cdv A outer s H vs Q E hr h => ?_)
  · obtain ⟨ps, p, rfl, hR⟩ := h
    rfl
  · refine ⟨_, (pss_one (ps_if (PW.pt (pw_or (pt_cmpR op_lt (pv 1) pe_int (nomark _)) (pw_or1 (pt_cmpR op_gt (pv 1) (pe_callB (Own.call_lenK (K := K)) (by rfl) G.len PySem.boot_len (pa_cons (pv 0) pa_nil)) (nomark _)))))
      (pss_one (ExcR.ps_raise G.g_NoStrip.c G.m_NoStrip ExcR.raises_e rfl (pa_cons pe_str pa_nil)))
      pss_nil)), Pu.fn_use (n := 2) h
      (ss_if (st_or (st_test (se_lt (se_var 1) se_int)) (st_test (se_gt (se_var 1) (se_len (sa_cons (se_var 0) sa_nil))))) (ss_raise (sa_cons se_str sa_nil)) ss_next) (by decide) (fun ds R X h => ?_)⟩
    obtain ⟨ps, p, rfl, hR⟩ := h
    refine ⟨rfl, ?_⟩
    have hl : (ps.map prD).length = ps.length := List.length_map ..
    unfold placeE at hR
    refine ite2 (fun g => iteT ?_) (fun g => ?_)
    · rw [if_pos (.inl (of_decide_eq_true g))] at hR
      exact ⟨by simp, hR⟩
    · have g' : ¬ p < 1 := fun z => g (decide_eq_true z)
      refine ite2 (fun g2 => ?_) (fun g2 => ?_)
      · have g2' : ((ps.map prD).length : Int) < p := of_decide_eq_true g2
        rw [if_pos (.inr (by omega))] at hR
        exact ⟨by simp, hR⟩
      · have g2' : ¬ ((ps.map prD).length : Int) < p := fun z => g2 (decide_eq_true z)
        rw [if_neg (by omega)] at hR
        exact hR
end
end T


namespace T
open PySem PySem.Spec PyProof.Rows L2 Own M Pu
section
variable {P : Program} {w : World} {K : PySem.W.Frag} {mg : Str → Option Value} {base : Heap}
theorem ok_Village_strips (G : Glob K mg) (DD : Pu.DefM K (Meth K (ExcR.clsOf mg "Village") "strips") "strips" "Village.strips" s_Village_strips ["self"])
    : Pu.CalleeM P w K mg base CX0 1 (Meth K (ExcR.clsOf mg "Village") "strips") ["self"] (Pu.spOf mg (pc_Village_strips (ExcR.clsOf mg "Village")) K) := by
  refine Pu.DefM.ok DD (k := 0) sc_Village_strips (fun vs H Q E h => spOf_len h (fun ds R X h => ?_)) (fun f cdv A outer s H vs Q E hr h => ?_)
  · obtain ⟨bk, fs, ws, f, rfl, hR⟩ := h
    rfl
  · refine ⟨_, (pss_one (ps_ret (pe_callTy (Pu.call_listK (K := K)) (by rfl) G.list boot_list (pa_cons (pe_ix (Own.ix_ltK (K := K)) (pe_fld (pv 0) rfl) (pe_un un_neg pe_int) (fun _ _ => rfl)) pa_nil)))), Pu.fn_use (n := 1) h
      (ss_ret (se_list (sa_cons (se_ix (se_fld 1 G.cl_Village G.n_Village_fields fa_Village_fields (se_var 0)) (se_neg se_int)) sa_nil))) (by decide) (fun ds R X h => ?_)⟩
    obtain ⟨bk, fs, ws, f, rfl, hR⟩ := h
    refine ⟨rfl, ?_⟩
    exact ⟨rfl, rfl, _, rfl, _, at_end plD fs f, imms_pairs _, hR⟩
end
end T


namespace T
open PySem PySem.Spec PyProof.Rows L2 Own M Pu
section
variable {P : Program} {w : World} {K : PySem.W.Frag} {mg : Str → Option Value} {base : Heap}
theorem ok_Village_wishes (G : Glob K mg) (DD : Pu.DefM K (Meth K (ExcR.clsOf mg "Village") "wishes") "wishes" "Village.wishes" s_Village_wishes ["self"])
    : Pu.CalleeM P w K mg base CX0 1 (Meth K (ExcR.clsOf mg "Village") "wishes") ["self"] (Pu.spOf mg (pc_Village_wishes (ExcR.clsOf mg "Village")) K) := by
  refine Pu.DefM.ok DD (k := 0) sc_Village_wishes (fun vs H Q E h => spOf_len h (fun ds R X h => ?_)) (fun f cdv A outer s H vs Q E hr h => ?_)
  · obtain ⟨bk, fs, ws, f, rfl, hR⟩ := h
    rfl
  · refine ⟨_, (pss_one (ps_ret (pe_callTy (Pu.call_listK (K := K)) (by rfl) G.list boot_list (pa_cons (pe_ix (Own.ix_ltK (K := K)) (pe_fld (pv 0) rfl) (pe_un un_neg pe_int) (fun _ _ => rfl)) pa_nil)))), Pu.fn_use (n := 1) h
      (ss_ret (se_list (sa_cons (se_ix (se_fld 2 G.cl_Village G.n_Village_wished fa_Village_wished (se_var 0)) (se_neg se_int)) sa_nil))) (by decide) (fun ds R X h => ?_)⟩
    obtain ⟨bk, fs, ws, f, rfl, hR⟩ := h
    refine ⟨rfl, ?_⟩
    exact ⟨rfl, rfl, _, rfl, _, at_end plD ws f, imms_pairs _, hR⟩
end
end T


namespace T
open PySem PySem.Spec PyProof.Rows L2 Own M Pu
section
variable {P : Program} {w : World} {K : PySem.W.Frag} {mg : Str → Option Value} {base : Heap}
theorem ok_Village_deeds (G : Glob K mg) (DD : Pu.DefM K (Meth K (ExcR.clsOf mg "Village") "deeds") "deeds" "Village.deeds" s_Village_deeds ["self"])
    : Pu.CalleeM P w K mg base CX0 1 (Meth K (ExcR.clsOf mg "Village") "deeds") ["self"] (Pu.spOf mg (pc_Village_deeds (ExcR.clsOf mg "Village")) K) := by
  refine Pu.DefM.ok DD (k := 0) sc_Village_deeds (fun vs H Q E h => spOf_len h (fun ds R X h => ?_)) (fun f cdv A outer s H vs Q E hr h => ?_)
  · obtain ⟨bk, fs, ws, rfl, hR⟩ := h
    rfl
  · refine ⟨_, (pss_one (ps_ret (pe_callTy (Pu.call_listK (K := K)) (by rfl) G.list boot_list (pa_cons (pe_fld (pv 0) rfl) pa_nil)))), Pu.fn_use (n := 1) h
      (ss_ret (se_list (sa_cons (se_fld 0 G.cl_Village G.n_Village_book fa_Village_book (se_var 0)) sa_nil))) (by decide) (fun ds R X h => ?_)⟩
    obtain ⟨bk, fs, ws, rfl, hR⟩ := h
    refine ⟨rfl, ?_⟩
    exact ⟨rfl, rfl, _, rfl, imms_deeds _, hR⟩
end
end T


namespace T
open PySem PySem.Spec PyProof.Rows L2 Own M Pu
section
variable {P : Program} {w : World} {K : PySem.W.Frag} {mg : Str → Option Value} {base : Heap}
theorem ok_Village_check_room (G : Glob K mg) (DD : Pu.DefM K (Meth K (ExcR.clsOf mg "Village") "check_room") "check_room" "Village.check_room" s_Village_check_room ["self"])
    : Pu.CalleeM P w K mg base (ExcR.CXe P w) 1 (Meth K (ExcR.clsOf mg "Village") "check_room") ["self"] (Pu.spOf mg (pc_Village_check_room (ExcR.clsOf mg "Village")) K) := by
  refine Pu.DefM.okX DD (k := 0) sc_Village_check_room (fun vs H Q E h => spOf_len h (fun ds R X h => ?_)) (fun f cdv A outer s H vs Q E hr h => ?_)
  · obtain ⟨bk, fs, ws, rfl, hR⟩ := h
    rfl
  · refine ⟨_, (pss_one (ps_if (pt_cmpR op_ge (pe_callB (Own.call_lenK (K := K)) (by rfl) G.len PySem.boot_len (pa_cons (pe_fld (pv 0) rfl) pa_nil)) (ExcR.pe_globE G.MOST_DEEDS) (nomark _))
      (pss_one (ExcR.ps_raise G.g_BookFull.c G.m_BookFull ExcR.raises_e rfl (pa_cons (ExcR.pe_f (ExcR.pf_str (ExcR.pf_val (ExcR.pe_globE G.MOST_DEEDS) (ExcR.pf_str ExcR.pf_nil)))) pa_nil)))
      pss_nil)), Pu.fn_use (n := 1) h
      (ss_if (st_test (se_ge (se_len (sa_cons (se_fld 0 G.cl_Village G.n_Village_book fa_Village_book (se_var 0)) sa_nil)) se_int)) (ss_raise (sa_cons (se_f (sf_str (sf_val se_int (sf_str sf_nil)))) sa_nil)) ss_next) (by decide) (fun ds R X h => ?_)⟩
    obtain ⟨bk, fs, ws, rfl, hR⟩ := h
    refine ⟨rfl, ?_⟩
    have hl : (bk.map dD).length = bk.length := List.length_map ..
    unfold roomE at hR
    refine ⟨rfl, rfl, _, rfl, ite2 (fun g => ?_) (fun g => ?_)⟩
    · have g' : (100 : Int) ≤ ((bk.map dD).length : Int) := of_decide_eq_true g
      rw [if_pos (by omega)] at hR
      exact ⟨by decide, by decide, by decide, by decide, by decide, by simp, hR⟩
    · have g' : ¬ (100 : Int) ≤ ((bk.map dD).length : Int) := fun z => g (decide_eq_true z)
      rw [if_neg (by omega)] at hR
      exact hR
end
end T


namespace T
open PySem PySem.Spec PyProof.Rows L2 Own M Pu
section
variable {P : Program} {w : World} {K : PySem.W.Frag} {mg : Str → Option Value} {base : Heap}
theorem ok_Village_enter (G : Glob K mg) (DD : Pu.DefM K (Meth K (ExcR.clsOf mg "Village") "enter") "enter" "Village.enter" s_Village_enter ["self", "deed", "field", "wishes"])
    : Pu.CalleeM P w K mg base CX0 1 (Meth K (ExcR.clsOf mg "Village") "enter") ["self", "deed", "field", "wishes"] (Pu.spW mg (pw_Village_enter (ExcR.clsOf mg "Village")) K) := by
  refine Pu.DefM.ok DD (k := 0) sc_Village_enter (fun vs H Q E h => Pu.spW_len (n := 3) h (fun o ss R X h => ?_)) (fun f cdv A outer s H vs Q E hr h => ?_)
  · obtain ⟨x, b1, b2, b3, bk, fs, ws, q, f, w, rfl, rfl, h1, h2, h3, hR⟩ := h
    rfl
  · refine ⟨_, (pss_cons (ps_expr (pe_bm PySem.F.plainAttrs_list PySem.F.slot_list_append PySem.F.type_list_append mt_append (pe_fld (pv 0) rfl) (pa_cons (pv 1) pa_nil)))
      (pss_cons (ps_expr (pe_bm PySem.F.plainAttrs_list PySem.F.slot_list_append PySem.F.type_list_append mt_append (pe_fld (pv 0) rfl) (pa_cons (pv 2) pa_nil)))
      (pss_cons (ps_expr (pe_bm PySem.F.plainAttrs_list PySem.F.slot_list_append PySem.F.type_list_append mt_append (pe_fld (pv 0) rfl) (pa_cons (pv 3) pa_nil)))
      (pss_one (ps_ret (pe_callB (Own.call_lenK (K := K)) (by rfl) G.len PySem.boot_len (pa_cons (pe_fld (pv 0) rfl) pa_nil))))))), Pu.fnW_use (n := 3) h
      (ss_seq (ss_frz 1 (ss_dropW (sw_appF 0 0 G.cl_Village G.n_Village_book fa_Village_book (se_var 1))))
        (ss_seq (ss_frz 2 (ss_dropW (sw_appF 0 1 G.cl_Village G.n_Village_fields fa_Village_fields (se_var 2))))
        (ss_seq (ss_frz 3 (ss_dropW (sw_appF 0 2 G.cl_Village G.n_Village_wished fa_Village_wished (se_var 3))))
        (ss_retW (se_len (sa_cons (se_fld 0 G.cl_Village G.n_Village_book fa_Village_book (se_var 0)) sa_nil)))))) (by decide) (fun o ss R X h => ?_)⟩
    obtain ⟨x, b1, b2, b3, bk, fs, ws, q, f, w, rfl, rfl, h1, h2, h3, hR⟩ := h
    refine ⟨rfl, ?_⟩
    have k1 : (bk.map dD).length < 10000000 := by rw [List.length_map]; omega
    have k2 : (fs.map plD).length < 10000000 := by rw [List.length_map]; omega
    have k3 : (ws.map plD).length < 10000000 := by rw [List.length_map]; omega
    refine ⟨rfl, rfl, _, rfl, k1, rfl, rfl, _, rfl, k2, rfl, rfl, _, rfl, k3, rfl, rfl, _, rfl, _, rfl, ⟨rfl, by simp⟩, ?_⟩
    have e : (((bk.map dD ++ [dD q]).length : Nat) : Int) = (bk.length : Int) + 1 := by rw [List.length_append, List.length_map]; simp
    show R (.ins x _ vF [(b1, bk.map dD ++ [dD q]), (b2, fs.map plD ++ [plD f]), (b3, ws.map plD ++ [plD w])]) (.int (((bk.map dD ++ [dD q]).length : Nat) : Int))
    rw [e]
    have e1 : bk.map dD ++ [dD q] = (bk ++ [q]).map dD := by rw [List.map_append]; rfl
    have e2 : fs.map plD ++ [plD f] = (fs ++ [f]).map plD := by rw [List.map_append]; rfl
    have e3 : ws.map plD ++ [plD w] = (ws ++ [w]).map plD := by rw [List.map_append]; rfl
    rw [e1, e2, e3]
    exact hR
end
end T


namespace T
open PySem PySem.Spec PyProof.Rows L2 Own M Pu
section
variable {P : Program} {w : World} {K : PySem.W.Frag} {mg : Str → Option Value} {base : Heap}
theorem ok_law_at (G : Glob K mg) (DD : Def K mg "_law_at" s_law_at ["_law_script", "_law_k"])
    : Callee P w K mg base CX0 1 "_law_at" ["_law_script", "_law_k"] (Pu.spOf mg pc_law_at K) := by
  refine DD.ok (k := 0) sc_law_at (fun vs H Q E h => spOf_len h (fun ds R X h => ?_)) (fun f cdv A outer s H vs Q E hr h => ?_)
  · obtain ⟨ns, k, rfl, hk, hR⟩ := h
    rfl
  · refine ⟨_, (pss_cons (ps_if (pt_cmpR op_lt (pv 1) (pe_callB (Own.call_lenK (K := K)) (by rfl) G.len PySem.boot_len (pa_cons (pv 0) pa_nil)) (nomark _))
      (pss_one (ps_ret (pe_ix (Own.ix_ltK (K := K)) (pv 0) (pv 1) (fun _ _ => rfl))))
      pss_nil)
      (pss_one (ps_ret pe_int))), Pu.fn_use (n := 2) h
      (ss_seq (ss_if (st_test (se_lt (se_var 1) (se_len (sa_cons (se_var 0) sa_nil)))) (ss_ret (se_ix (se_var 0) (se_var 1))) ss_next)
        (ss_ret se_int)) (by decide) (fun ds R X h => ?_)⟩
    obtain ⟨ns, k, rfl, hk, hR⟩ := h
    refine ⟨rfl, ?_⟩
    refine ite2 (fun g => ?_) (fun _ => hR 0)
    have g' : k < (ns.length : Int) := of_decide_eq_true g
    exact ⟨_, atI_pos hk (List.getElem?_eq_getElem (show k.toNat < ns.length by omega)), hR _⟩
end
end T


namespace T
open PySem PySem.Spec PyProof.Rows L2 Own M Pu
section
variable {P : Program} {w : World} {K : PySem.W.Frag} {mg : Str → Option Value} {base : Heap}
theorem ok_law_whole (G : Glob K mg) (DD : Def K mg "_law_whole" s_law_whole ["_law_found"])
    : Callee P w K mg base CX0 1 "_law_whole" ["_law_found"] (Pu.spOf mg pc_law_whole K) := by
  refine DD.ok (k := 0) sc_law_whole (fun vs H Q E h => spOf_len h (fun ds R X h => ?_)) (fun f cdv A outer s H vs Q E hr h => ?_)
  · obtain ⟨i, rfl, hR⟩ := h
    rfl
  · refine ⟨_, (pss_one (ps_ret (pe_and (pe_callB (Pu.call_isiK (K := K)) (by rfl) G.isinstance boot_isinstance (pa_cons (pv 0) (pa_cons (pe_bltn (v := .ty "int") rfl G.int boot_int rfl) pa_nil))) (pe_one (pe_not (pe_callB (Pu.call_isiK (K := K)) (by rfl) G.isinstance boot_isinstance (pa_cons (pv 0) (pa_cons (pe_bltn (v := .ty "bool") rfl G.bool boot_bool rfl) pa_nil)))))))), Pu.fn_use (n := 1) h
      (ss_ret (se_andV (se_isi (sa_cons (se_var 0) (sa_cons se_ty sa_nil))) (se_notV (se_isi (sa_cons (se_var 0) (sa_cons se_ty sa_nil)))))) (by decide) (fun ds R X h => ?_)⟩
    obtain ⟨i, rfl, hR⟩ := h
    refine ⟨rfl, ?_⟩
    exact ⟨_, .same _, _, .ib, hR⟩
end
end T


namespace T
open PySem PySem.Spec PyProof.Rows L2 Own M Pu
section
variable {P : Program} {w : World} {K : PySem.W.Frag} {mg : Str → Option Value} {base : Heap}
theorem ok_law_mix (G : Glob K mg) (DD : Def K mg "_law_mix" s_law_mix ["_law_cell", "_law_place_here"])
    : Callee P w K mg base CX0 1 "_law_mix" ["_law_cell", "_law_place_here"] (Pu.spOf mg pc_law_mix K) := by
  refine DD.ok (k := 0) sc_law_mix (fun vs H Q E h => spOf_len h (fun ds R X h => ?_)) (fun f cdv A outer s H vs Q E hr h => ?_)
  · obtain ⟨c, p, rfl, hR⟩ := h
    rfl
  · refine ⟨_, (pss_cons (ps_set (i := 2) sc_law_mix.nd rfl (by first | exact Or.inl rfl | exact Or.inr rfl) (pe_op op_mod (pe_op op_mul (pe_op op_add (pe_op op_add (pe_op op_mod (pv 0) pe_int) (pe_op op_mul pe_int (pv 1))) pe_int) pe_int) pe_int))
      (pss_one (ps_ret (pe_op op_mod (pe_op op_mul (pe_op op_add (pe_op op_add (pv 2) (pe_op op_mul pe_int (pv 1))) pe_int) pe_int) pe_int)))), Pu.fn_use (n := 2) h
      (ss_seq (ss_asg (se_mod (se_mul (se_add (se_add (se_mod (se_var 0) se_int) (se_mul se_int (se_var 1))) se_int) se_int) se_int) (sg_name 2))
        (ss_ret (se_mod (se_mul (se_add (se_add (se_var 2) (se_mul se_int (se_var 1))) se_int) se_int) se_int))) (by decide) (fun ds R X h => ?_)⟩
    obtain ⟨c, p, rfl, hR⟩ := h
    refine ⟨rfl, ?_⟩
    exact ⟨(by show (0 : Int) < 2147483647; decide), .inl ⟨by decide, by decide⟩, .inr ⟨by decide, by decide⟩, (by show (0 : Int) < 2147483647; decide), .inl ⟨by decide, by decide⟩, .inr ⟨by decide, by decide⟩, (by show (0 : Int) < 2147483647; decide), hR _⟩
end
end T


namespace T
open PySem PySem.Spec PyProof.Rows L2 Own M Pu
section
variable {P : Program} {w : World} {K : PySem.W.Frag} {mg : Str → Option Value} {base : Heap}
theorem ok_law_menu (G : Glob K mg) (DD : Def K mg "_law_menu" s_law_menu ["_law_cell"])
    : Callee P w K mg base CX0 1 "_law_menu" ["_law_cell"] (Pu.spOf mg pc_law_menu K) := by
  refine DD.ok (k := 0) sc_law_menu (fun vs H Q E h => spOf_len h (fun ds R X h => ?_)) (fun f cdv A outer s H vs Q E hr h => ?_)
  · obtain ⟨c, rfl, hR⟩ := h
    rfl
  · refine ⟨_, (pss_cons (ps_set (i := 1) sc_law_menu.nd rfl (by first | exact Or.inl rfl | exact Or.inr rfl) (pe_ix (Own.ix_ltK (K := K)) (pe_lst (pa_cons pe_int (pa_cons pe_int (pa_cons pe_int (pa_cons pe_int (pa_cons pe_int pa_nil)))))) (pe_op op_mod (pe_op op_fdiv (pv 0) pe_int) pe_int) (fun _ _ => rfl)))
      (pss_cons (ps_set (i := 2) sc_law_menu.nd rfl (by first | exact Or.inl rfl | exact Or.inr rfl) (pe_ix (Own.ix_ltK (K := K)) (pe_lst (pa_cons pe_int (pa_cons pe_int (pa_cons pe_int (pa_cons pe_int (pa_cons pe_int pa_nil)))))) (pe_op op_mod (pe_op op_fdiv (pv 0) pe_int) pe_int) (fun _ _ => rfl)))
      (pss_one (ps_ret (pe_lst (pa_cons (pe_op op_add pe_int (pe_op op_mod (pv 0) pe_int)) (pa_cons (pe_ix (Own.ix_ltK (K := K)) (pe_lst (pa_cons pe_int (pa_cons pe_int (pa_cons pe_int (pa_cons pe_int pa_nil))))) (pe_op op_mod (pe_op op_fdiv (pv 0) pe_int) pe_int) (fun _ _ => rfl)) (pa_cons (pe_op op_mod (pe_op op_fdiv (pv 0) pe_int) pe_int) (pa_cons (pv 1) (pa_cons (pv 2) pa_nil)))))))))), Pu.fn_use (n := 1) h
      (ss_seq (ss_asg (se_ix (se_lst (sa_cons se_int (sa_cons se_int (sa_cons se_int (sa_cons se_int (sa_cons se_int sa_nil)))))) (se_mod (se_fdiv (se_var 0) se_int) se_int)) (sg_name 1))
        (ss_seq (ss_asg (se_ix (se_lst (sa_cons se_int (sa_cons se_int (sa_cons se_int (sa_cons se_int (sa_cons se_int sa_nil)))))) (se_mod (se_fdiv (se_var 0) se_int) se_int)) (sg_name 2))
        (ss_frz 2 (ss_frz 1 (ss_ret (se_lst (sa_cons (se_add se_int (se_mod (se_var 0) se_int)) (sa_cons (se_ix (se_lst (sa_cons se_int (sa_cons se_int (sa_cons se_int (sa_cons se_int sa_nil))))) (se_mod (se_fdiv (se_var 0) se_int) se_int)) (sa_cons (se_mod (se_fdiv (se_var 0) se_int) se_int) (sa_cons (se_var 1) (sa_cons (se_var 2) sa_nil))))))))))) (by decide) (fun ds R X h => ?_)⟩
    obtain ⟨c, rfl, hR⟩ := h
    refine ⟨rfl, ?_⟩
    have h1 : 0 ≤ c / 10 % 4 ∧ c / 10 % 4 < 4 := by omega
    have h2 : 0 ≤ c / 400 % 5 ∧ c / 400 % 5 < 5 := by omega
    have hb : ∀ v ∈ ([1, 3, 7, 9] : List Int), 1 ≤ v ∧ v ≤ 9 ∧ (v = 1 ∨ v = 3 ∨ v = 7 ∨ v = 9) := by decide
    have hde : ∀ i : Int, 0 ≤ i → i < 5 → ∃ d e : Int, atI [D.int 1000, .int 3, .int 1, .int 2, .int 3] i = some (.int d) ∧ atI [D.int 1, .int 1, .int 1, .int 1, .int 998] i = some (.int e) ∧ (1 ≤ d ∧ d ≤ 1000) ∧ 1 ≤ e ∧ e + d ≤ 1001 := fun i a b => by
      have : i = 0 ∨ i = 1 ∨ i = 2 ∨ i = 3 ∨ i = 4 := by omega
      rcases this with rfl | rfl | rfl | rfl | rfl
      · exact ⟨1000, 1, rfl, rfl, by decide, by decide, by decide⟩
      · exact ⟨3, 1, rfl, rfl, by decide, by decide, by decide⟩
      · exact ⟨1, 1, rfl, rfl, by decide, by decide, by decide⟩
      · exact ⟨2, 1, rfl, rfl, by decide, by decide, by decide⟩
      · exact ⟨3, 998, rfl, rfl, by decide, by decide, by decide⟩
    obtain ⟨d, e, e1, e2, hd, he⟩ := hde _ h2.1 h2.2
    have hbb := hb _ (List.getElem_mem (l := ([1, 3, 7, 9] : List Int)) (n := (c / 10 % 4).toNat) (by show (c / 10 % 4).toNat < 4; omega))
    refine ⟨by simp, ⟨by decide, by decide⟩, (by show (0 : Int) < 5; decide), _, e1, by simp, ⟨by decide, by decide⟩, (by show (0 : Int) < 5; decide), _, e2, (by show (0 : Int) < 10; decide), by simp, ⟨by decide, by decide⟩, (by show (0 : Int) < 4; decide), _, at_map (f := D.int) (xs := [1, 3, 7, 9]) h1.1 h1.2, ⟨by decide, by decide⟩, (by show (0 : Int) < 10; decide), by simp, ?_⟩
    exact hR [_, _, _, _, _] ⟨_, _, _, _, _, rfl, by omega, hbb, by omega, hd, he⟩
end
end T


namespace T
open PySem PySem.Spec PyProof.Rows L2 Own M Pu
section
variable {P : Program} {w : World} {K : PySem.W.Frag} {mg : Str → Option Value} {base : Heap}
theorem ok_law_holder (G : Glob K mg) (DD : Def K mg "_law_holder" s_law_holder ["_law_menu_here", "_law_k"])
    : Callee P w K mg base CX0 1 "_law_holder" ["_law_menu_here", "_law_k"] (Pu.spOf mg pc_law_holder K) := by
  refine DD.ok (k := 0) sc_law_holder (fun vs H Q E h => spOf_len h (fun ds R X h => ?_)) (fun f cdv A outer s H vs Q E hr h => ?_)
  · obtain ⟨m, k, rfl, hM, hR⟩ := h
    rfl
  · refine ⟨_, (pss_one (ps_ret (pe_op op_add pe_int (pe_op op_mod (pe_op op_add (pe_op op_mul (pv 1) (pe_ix (Own.ix_ltK (K := K)) (pv 0) pe_int (fun _ _ => rfl))) (pe_ix (Own.ix_ltK (K := K)) (pv 0) pe_int (fun _ _ => rfl))) pe_int)))), Pu.fn_use (n := 2) h
      (ss_ret (se_add se_int (se_mod (se_add (se_mul (se_var 1) (se_ix (se_var 0) se_int)) (se_ix (se_var 0) se_int)) se_int))) (by decide) (fun ds R X h => ?_)⟩
    obtain ⟨m, k, rfl, hM, hR⟩ := h
    refine ⟨rfl, ?_⟩
    obtain ⟨a, b, c, d, e, rfl, ha, hb, hc, hd, he⟩ := hM
    exact ⟨_, rfl, .inr ⟨by omega, by omega⟩, _, rfl, (by show (0 : Int) < 10; decide), hR _ (by omega) (by omega) rfl⟩
end
end T


namespace T
open PySem PySem.Spec PyProof.Rows L2 Own M Pu
section
variable {P : Program} {w : World} {K : PySem.W.Frag} {mg : Str → Option Value} {base : Heap}
theorem ok_law_place (G : Glob K mg) (DD : Def K mg "_law_place" s_law_place ["_law_cell", "_law_strips_here"])
    : Callee P w K mg base CX0 1 "_law_place" ["_law_cell", "_law_strips_here"] (Pu.spOf mg pc_law_place K) := by
  refine DD.ok (k := 0) sc_law_place (fun vs H Q E h => spOf_len h (fun ds R X h => ?_)) (fun f cdv A outer s H vs Q E hr h => ?_)
  · obtain ⟨c, ps, rfl, hz, hR⟩ := h
    rfl
  · refine ⟨_, (pss_cons (ps_if (pt_cmpR (Pu.op_eqU (K := K) (show _ < cLine from hr.units0)) (pe_op op_mod (pv 0) pe_int) pe_int (nomark _))
      (pss_one (ps_ret (pe_ix (Own.ix_ltK (K := K)) (pe_lst (pa_cons pe_int (pa_cons (pe_un un_neg pe_int) (pa_cons (pe_op op_add (pe_callB (Own.call_lenK (K := K)) (by rfl) G.len PySem.boot_len (pa_cons (pv 1) pa_nil)) pe_int) (pa_cons (pe_op op_pow pe_int pe_int) pa_nil))))) (pe_op op_mod (pe_op op_fdiv (pv 0) pe_int) pe_int) (fun _ _ => rfl))))
      pss_nil)
      (pss_cons (ps_if (pt_cmpR (Own.op_eqE (K := K) (show _ < cLine from hr.units0)) (pv 1) (pe_lst pa_nil) (nomark _))
      (pss_one (ps_ret pe_int))
      pss_nil)
      (pss_one (ps_ret (pe_op op_add pe_int (pe_op op_mod (pe_op op_fdiv (pv 0) pe_int) (pe_callB (Own.call_lenK (K := K)) (by rfl) G.len PySem.boot_len (pa_cons (pv 1) pa_nil)))))))), Pu.fn_use (n := 2) h
      (ss_seq (ss_if (st_test (se_eqU (se_mod (se_var 0) se_int) se_int)) (ss_ret (se_ix (se_lst (sa_cons se_int (sa_cons (se_neg se_int) (sa_cons (se_add (se_len (sa_cons (se_var 1) sa_nil)) se_int) (sa_cons (se_pow se_int se_int) sa_nil))))) (se_mod (se_fdiv (se_var 0) se_int) se_int))) ss_next)
        (ss_seq (ss_if (st_test (se_eqE (se_var 1) (se_lst sa_nil))) (ss_ret se_int) ss_next)
        (ss_ret (se_add se_int (se_mod (se_fdiv (se_var 0) se_int) (se_len (sa_cons (se_var 1) sa_nil))))))) (by decide) (fun ds R X h => ?_)⟩
    obtain ⟨c, ps, rfl, hz, hR⟩ := h
    refine ⟨rfl, ?_⟩
    have h4 : 0 ≤ c / 11 % 4 ∧ c / 11 % 4 < 4 := by omega
    have hl : (ps.map prD).length = ps.length := List.length_map ..
    refine ⟨(by show (0 : Int) < 11; decide), ite2 (fun _ => ?_) (fun _ => ?_)⟩
    · exact ⟨⟨by decide, by decide, by decide⟩, by simp, ⟨by decide, by decide⟩, (by show (0 : Int) < 4; decide), _, at_map (f := D.int) (xs := [0, -1, (((ps.map prD).length : Nat) : Int) + 1, 10 ^ (30 : Int).toNat]) h4.1 h4.2, hR _⟩
    · refine ⟨by simp, ?_⟩
      have emp : (ps.map prD).isEmpty = decide (ps = []) := by cases ps <;> simp
      show if (ps.map prD).isEmpty = true then _ else _
      rw [emp]
      refine ite2 (fun _ => hR _) (fun g => ?_)
      have hne : 0 < ps.length := List.length_pos_iff.mpr fun z => g (decide_eq_true z)
      exact ⟨⟨by decide, by decide⟩, (by show 0 < (((ps.map prD).length : Nat) : Int); omega), hR _⟩
end
end T


namespace T
open PySem PySem.Spec PyProof.Rows L2 Own M Pu
section
variable {P : Program} {w : World} {K : PySem.W.Frag} {mg : Str → Option Value} {base : Heap}
theorem ok_law_width (G : Glob K mg) (DD : Def K mg "_law_width" s_law_width ["_law_cell", "_law_strips_here", "_law_place_here"])
    : Callee P w K mg base CX0 1 "_law_width" ["_law_cell", "_law_strips_here", "_law_place_here"] (Pu.spOf mg pc_law_width K) := by
  refine DD.ok (k := 0) sc_law_width (fun vs H Q E h => spOf_len h (fun ds R X h => ?_)) (fun f cdv A outer s H vs Q E hr h => ?_)
  · obtain ⟨c, ps, p, rfl, hF, hz, hR⟩ := h
    rfl
  · refine ⟨_, (pss_cons (ps_if (PW.pt (pw_or (pt_cmpR op_lt (pv 2) pe_int (nomark _)) (pw_or (pt_cmpR op_gt (pv 2) (pe_callB (Own.call_lenK (K := K)) (by rfl) G.len PySem.boot_len (pa_cons (pv 1) pa_nil)) (nomark _)) (pw_or1 (pt_cmpR (Pu.op_eqU (K := K) (show _ < cLine from hr.units0)) (pe_op op_mod (pv 0) pe_int) pe_int (nomark _))))))
      (pss_one (ps_ret (pe_ix (Own.ix_ltK (K := K)) (pe_lst (pa_cons pe_int (pa_cons (pe_un un_neg pe_int) (pa_cons pe_int (pa_cons pe_int (pa_cons pe_int (pa_cons pe_int (pa_cons (pe_op op_pow pe_int pe_int) pa_nil)))))))) (pe_op op_mod (pe_op op_fdiv (pv 0) pe_int) pe_int) (fun _ _ => rfl))))
      pss_nil)
      (pss_one (ps_ret (pe_op op_mod (pe_op op_fdiv (pv 0) pe_int) (pe_op op_add (pe_ix (Own.ix_ltK (K := K)) (pe_ix (Own.ix_ltK (K := K)) (pv 1) (pe_op op_sub (pv 2) pe_int) (fun _ _ => rfl)) pe_int (fun _ _ => rfl)) pe_int))))), Pu.fn_use (n := 3) h
      (ss_seq (ss_if (st_or (st_test (se_lt (se_var 2) se_int)) (st_or (st_test (se_gt (se_var 2) (se_len (sa_cons (se_var 1) sa_nil)))) (st_test (se_eqU (se_mod (se_var 0) se_int) se_int)))) (ss_ret (se_ix (se_lst (sa_cons se_int (sa_cons (se_neg se_int) (sa_cons se_int (sa_cons se_int (sa_cons se_int (sa_cons se_int (sa_cons (se_pow se_int se_int) sa_nil)))))))) (se_mod (se_fdiv (se_var 0) se_int) se_int))) ss_next)
        (ss_ret (se_mod (se_fdiv (se_var 0) se_int) (se_add (se_ix (se_ix (se_var 1) (se_sub (se_var 2) se_int)) se_int) se_int)))) (by decide) (fun ds R X h => ?_)⟩
    obtain ⟨c, ps, p, rfl, hF, hz, hR⟩ := h
    refine ⟨rfl, ?_⟩
    have hl : (ps.map prD).length = ps.length := List.length_map ..
    have h7 : 0 ≤ c / 5 % 7 ∧ c / 5 % 7 < 7 := by omega
    have odd : ∀ {A : Prop}, (∀ v : Int, A) → A := fun h => h 0
    refine ite2 (fun g => iteT ?_) (fun g => ite2 (fun g2 => iteT ?_) (fun g2 => ⟨(by show (0 : Int) < 5; decide), ite2 (fun g3 => ?_) (fun g3 => ?_)⟩))
    · exact ⟨⟨by decide, by decide, by decide⟩, by simp, ⟨by decide, by decide⟩, (by show (0 : Int) < 7; decide), _, at_map (f := D.int) (xs := [0, -1, 1, 1000, 1001, 999, 10 ^ (30 : Int).toNat]) h7.1 h7.2, hR _⟩
    · exact ⟨⟨by decide, by decide, by decide⟩, by simp, ⟨by decide, by decide⟩, (by show (0 : Int) < 7; decide), _, at_map (f := D.int) (xs := [0, -1, 1, 1000, 1001, 999, 10 ^ (30 : Int).toNat]) h7.1 h7.2, hR _⟩
    · exact ⟨⟨by decide, by decide, by decide⟩, by simp, ⟨by decide, by decide⟩, (by show (0 : Int) < 7; decide), _, at_map (f := D.int) (xs := [0, -1, 1, 1000, 1001, 999, 10 ^ (30 : Int).toNat]) h7.1 h7.2, hR _⟩
    · have g' : ¬ p < 1 := fun z => g (decide_eq_true z)
      have g2' : ¬ ((ps.map prD).length : Int) < p := fun z => g2 (decide_eq_true z)
      have := hF _ (atP1_mem (ps := ps) (p := p) (by omega) (by omega))
      exact ⟨⟨by decide, by decide⟩, _, atP1_eq (by omega) (by omega), _, rfl, (by show 0 < (atP1 ps p).2 + 1; omega), hR _⟩
end
end T


namespace T
open PySem PySem.Spec PyProof.Rows L2 Own M Pu
section
variable {P : Program} {w : World} {K : PySem.W.Frag} {mg : Str → Option Value} {base : Heap}
theorem ok_law_due (G : Glob K mg) (DD : Def K mg "_law_due" s_law_due ["_law_strips_here", "_law_place_here", "_law_width_here"])
    : Callee P w K mg base CX0 1 "_law_due" ["_law_strips_here", "_law_place_here", "_law_width_here"] (Pu.spOf mg pc_law_due K) := by
  refine DD.ok (k := 0) sc_law_due (fun vs H Q E h => spOf_len h (fun ds R X h => ?_)) (fun f cdv A outer s H vs Q E hr h => ?_)
  · obtain ⟨ps, p, w, rfl, hz, hR⟩ := h
    rfl
  · refine ⟨_, (pss_cons (ps_if (PW.pt (pw_or (pt_cmpR op_lt (pv 1) pe_int (nomark _)) (pw_or1 (pt_cmpR op_gt (pv 1) (pe_callB (Own.call_lenK (K := K)) (by rfl) G.len PySem.boot_len (pa_cons (pv 0) pa_nil)) (nomark _)))))
      (pss_one (ps_ret (pe_lst (pa_cons pe_bl (pa_cons pe_bl (pa_cons pe_bl (pa_cons pe_bl pa_nil)))))))
      pss_nil)
      (pss_cons (ps_if (PW.pt (pw_or (pt_cmpR op_lt (pv 2) pe_int (nomark _)) (pw_or1 (pt_cmpR op_ge (pv 2) (pe_ix (Own.ix_ltK (K := K)) (pe_ix (Own.ix_ltK (K := K)) (pv 0) (pe_op op_sub (pv 1) pe_int) (fun _ _ => rfl)) pe_int (fun _ _ => rfl)) (nomark _)))))
      (pss_one (ps_ret (pe_lst (pa_cons pe_bl (pa_cons pe_bl (pa_cons pe_bl (pa_cons pe_bl pa_nil)))))))
      pss_nil)
      (pss_cons (ps_if (pt_cmpR (Pu.op_eqU (K := K) (show _ < cLine from hr.units0)) (pe_callB (Own.call_lenK (K := K)) (by rfl) G.len PySem.boot_len (pa_cons (pv 0) pa_nil)) pe_int (nomark _))
      (pss_one (ps_ret (pe_lst (pa_cons pe_bl (pa_cons pe_bl (pa_cons pe_bl (pa_cons pe_bl pa_nil)))))))
      pss_nil)
      (pss_one (ps_ret (pe_lst pa_nil)))))), Pu.fn_use (n := 3) h
      (ss_seq (ss_if (st_or (st_test (se_lt (se_var 1) se_int)) (st_test (se_gt (se_var 1) (se_len (sa_cons (se_var 0) sa_nil))))) (ss_ret (se_lst (sa_cons se_bl (sa_cons se_bl (sa_cons se_bl (sa_cons se_bl sa_nil)))))) ss_next)
        (ss_seq (ss_if (st_or (st_test (se_lt (se_var 2) se_int)) (st_test (se_ge (se_var 2) (se_ix (se_ix (se_var 0) (se_sub (se_var 1) se_int)) se_int)))) (ss_ret (se_lst (sa_cons se_bl (sa_cons se_bl (sa_cons se_bl (sa_cons se_bl sa_nil)))))) ss_next)
        (ss_seq (ss_if (st_test (se_eqU (se_len (sa_cons (se_var 0) sa_nil)) se_int)) (ss_ret (se_lst (sa_cons se_bl (sa_cons se_bl (sa_cons se_bl (sa_cons se_bl sa_nil)))))) ss_next)
        (ss_ret (se_lst sa_nil))))) (by decide) (fun ds R X h => ?_)⟩
    obtain ⟨ps, p, w, rfl, hz, hR⟩ := h
    refine ⟨rfl, ?_⟩
    have hl : (ps.map prD).length = ps.length := List.length_map ..
    unfold partK at hR
    by_cases c : p < 1 ∨ (ps.length : Int) < p
    · rw [if_pos c] at hR
      refine ite2 (fun g => iteT ⟨by simp, hR⟩) (fun g => ite2 (fun g2 => ⟨by simp, hR⟩) (fun g2 => ?_))
      have g' : ¬ p < 1 := fun z => g (decide_eq_true z)
      have g2' : ¬ ((ps.map prD).length : Int) < p := fun z => g2 (decide_eq_true z)
      omega
    · rw [if_neg c] at hR
      refine ite2 (fun g => absurd (of_decide_eq_true g) (by omega)) (fun g => ite2 (fun g2 => absurd (show ((ps.map prD).length : Int) < p from of_decide_eq_true g2) (by omega)) (fun g2 => ?_))
      by_cases c2 : w < 1 ∨ (atP1 ps p).2 ≤ w
      · rw [if_pos c2] at hR
        refine ite2 (fun g => iteT ⟨by simp, hR⟩) (fun g => ⟨_, atP1_eq (by omega) (by omega), _, rfl, ite2 (fun g2 => ⟨by simp, hR⟩) (fun g2 => ?_)⟩)
        have g' : ¬ w < 1 := fun z => g (decide_eq_true z)
        have g2' : ¬ (atP1 ps p).2 ≤ w := fun z => g2 (decide_eq_true z)
        omega
      · rw [if_neg c2] at hR
        refine ite2 (fun g => absurd (of_decide_eq_true g) (by omega)) (fun g => ⟨_, atP1_eq (by omega) (by omega), _, rfl, ite2 (fun g2 => absurd (of_decide_eq_true g2) (by omega)) (fun g2 => ?_)⟩)
        refine ite2 (fun g3 => ?_) (fun g3 => ?_)
        · have g3' : ((ps.map prD).length : Int) = 40 := of_decide_eq_true g3
          rw [if_pos (by omega)] at hR
          exact ⟨by simp, hR⟩
        · have g3' : ¬ ((ps.map prD).length : Int) = 40 := fun z => g3 (decide_eq_true z)
          rw [if_neg (by omega)] at hR
          exact ⟨by simp, hR⟩
end
end T


namespace T
open PySem PySem.Spec PyProof.Rows L2 Own M Pu
section
variable {P : Program} {w : World} {K : PySem.W.Frag} {mg : Str → Option Value} {base : Heap}
theorem ok_check_strips (G : Glob K mg) (DD : Def K mg "check_strips" s_check_strips ["strips"])
    (c_check_holder : Callee P w K mg base (ExcR.CXe P w) 1 "check_holder" ["holder"] (Pu.spOf mg pc_check_holder K))
    (c_check_width : Callee P w K mg base (ExcR.CXe P w) 1 "check_width" ["width"] (Pu.spOf mg pc_check_width K))
    : Callee P w K mg base (ExcR.CXe P w) 2 "check_strips" ["strips"] (Pu.spOf mg pc_check_strips K) := by
  refine ExcR.Def.okX DD (k := 1) sc_check_strips (fun vs H Q E h => spOf_len h (fun ds R X h => ?_)) (fun f cdv A outer s H vs Q E hr h => ?_)
  · obtain ⟨ps, rfl, hz, hR⟩ := h
    rfl
  · refine ⟨_, (pss_cons (ps_if (pt_cmpR op_gt (pe_callB (Own.call_lenK (K := K)) (by rfl) G.len PySem.boot_len (pa_cons (pv 0) pa_nil)) (ExcR.pe_globE G.STRIPS) (nomark _))
      (pss_one (ExcR.ps_raise G.g_TooManyStrips.c G.m_TooManyStrips ExcR.raises_e rfl (pa_cons (ExcR.pe_f (ExcR.pf_str (ExcR.pf_val (ExcR.pe_globE G.STRIPS) (ExcR.pf_str ExcR.pf_nil)))) pa_nil)))
      pss_nil)
      (pss_one (ps_for ExcR.loops_e rfl (Pu.pi_listK (K := K) (pv 0)) (Own.pg_tupK (K := K) (n := 2) rfl (pgs_cons (pg_name (i := 1) sc_check_strips.nd rfl (by first | exact Or.inl rfl | exact Or.inr rfl)) (pgs_cons (pg_name (i := 2) sc_check_strips.nd rfl (by first | exact Or.inl rfl | exact Or.inr rfl)) pgs_nil)))
      (pss_cons (ps_expr (Own.pe_fn c_check_holder (hr.mono (by decide)) ExcR.passes_e (pa_cons (pv 1) pa_nil)))
      (pss_one (ps_expr (Own.pe_fn c_check_width (hr.mono (by decide)) ExcR.passes_e (pa_cons (pv 2) pa_nil)))))))), Pu.fn_use (n := 1) h
      (ss_seq (ss_if (st_test (se_gt (se_len (sa_cons (se_var 0) sa_nil)) se_int)) (ss_raise (sa_cons (se_f (sf_str (sf_val se_int (sf_str sf_nil)))) sa_nil)) ss_next)
        (ss_frz 0 (ss_for [1, 2] (si_list (se_var 0)) (sg_tup (sgj_cons (sg_name 1) (sgj_cons (sg_name 2) sgj_nil)))
        (ss_seq (ss_drop (se_callX (sa_cons (se_var 1) sa_nil)))
        (ss_drop (se_callX (sa_cons (se_var 2) sa_nil))))))) (by decide) (fun ds R X h => ?_)⟩
    obtain ⟨ps, rfl, hz, hR⟩ := h
    refine ⟨rfl, ?_⟩
    have hl : (ps.map prD).length = ps.length := List.length_map ..
    unfold stripE at hR
    refine ite2 (fun g => ?_) (fun g => ?_)
    · have g' : (40 : Int) < ((ps.map prD).length : Int) := of_decide_eq_true g
      rw [if_pos (by omega)] at hR
      exact ⟨by decide, by decide, by decide, by decide, by decide, by simp, hR⟩
    · have g' : ¬ (40 : Int) < ((ps.map prD).length : Int) := fun z => g (decide_eq_true z)
      rw [if_neg (by omega)] at hR
      refine ⟨rfl, for_of (xs := ps) (emb := prD) (fun i γ' => γ' = [some (.bor (plD ps)), none, none] ∧ firstE (ps.drop i) = firstE ps) ⟨rfl, rfl⟩ ?_ ?_⟩
      · rintro i hi γ' ⟨rfl, hf⟩
        have ed : ps.drop i = ps[i] :: ps.drop (i + 1) := List.drop_eq_getElem_cons hi
        rw [ed, firstE_cons] at hf
        generalize ps[i] = p at hf ⊢
        refine ⟨rfl, p.1, rfl, ?_⟩
        unfold holdE
        by_cases c : 1 ≤ p.1 ∧ p.1 ≤ 10
        · rw [if_neg (fun z => z c)] at hf
          rw [if_pos c]
          refine ⟨p.2, rfl, ?_⟩
          unfold widthE
          by_cases c2 : 1 ≤ p.2 ∧ p.2 ≤ 1000
          · rw [if_neg (fun z => z c2)] at hf
            rw [if_pos c2]
            exact ⟨rfl, hf⟩
          · rw [if_pos c2] at hf
            rw [if_neg c2]
            rw [← hf] at hR
            exact hR
        · rw [if_pos c] at hf
          rw [if_neg c]
          rw [← hf] at hR
          exact hR
      · rintro γ' ⟨rfl, hf⟩
        rw [List.drop_length] at hf
        rw [← hf] at hR
        exact hR
end
end T


namespace T
open PySem PySem.Spec PyProof.Rows L2 Own M Pu
section
variable {P : Program} {w : World} {K : PySem.W.Frag} {mg : Str → Option Value} {base : Heap}
theorem ok_parted (G : Glob K mg) (DD : Def K mg "parted" s_parted ["strips", "place", "width"])
    (c_check_place : Callee P w K mg base (ExcR.CXe P w) 1 "check_place" ["strips", "place"] (Pu.spOf mg pc_check_place K))
    : Callee P w K mg base (ExcR.CXe P w) 2 "parted" ["strips", "place", "width"] (Pu.spOf mg pc_parted K) := by
  refine ExcR.Def.okX DD (k := 1) sc_parted (fun vs H Q E h => spOf_len h (fun ds R X h => ?_)) (fun f cdv A outer s H vs Q E hr h => ?_)
  · obtain ⟨ps, p, w, rfl, hz, hR⟩ := h
    rfl
  · refine ⟨_, (pss_cons (ps_expr (Own.pe_fn c_check_place (hr.mono (by decide)) ExcR.passes_e (pa_cons (pv 0) (pa_cons (pv 1) pa_nil))))
      (pss_cons (ps_set (i := 3) sc_parted.nd rfl (by first | exact Or.inl rfl | exact Or.inr rfl) (pe_ix (Own.ix_ltK (K := K)) (pv 0) (pe_op op_sub (pv 1) pe_int) (fun _ _ => rfl)))
      (pss_cons (ps_if (PW.pt (pw_or (pt_cmpR op_lt (pv 2) pe_int (nomark _)) (pw_or1 (pt_cmpR op_ge (pv 2) (pe_ix (Own.ix_ltK (K := K)) (pv 3) pe_int (fun _ _ => rfl)) (nomark _)))))
      (pss_one (ExcR.ps_raise G.g_BadPart.c G.m_BadPart ExcR.raises_e rfl (pa_cons pe_str pa_nil)))
      pss_nil)
      (pss_cons (ps_if (pt_cmpR op_ge (pe_callB (Own.call_lenK (K := K)) (by rfl) G.len PySem.boot_len (pa_cons (pv 0) pa_nil)) (ExcR.pe_globE G.STRIPS) (nomark _))
      (pss_one (ExcR.ps_raise G.g_TooManyStrips.c G.m_TooManyStrips ExcR.raises_e rfl (pa_cons (ExcR.pe_f (ExcR.pf_str (ExcR.pf_val (ExcR.pe_globE G.STRIPS) (ExcR.pf_str ExcR.pf_nil)))) pa_nil)))
      pss_nil)
      (pss_one (ps_ret (pe_op op_cat (pe_op op_cat (pe_slice (Pu.sl_listK (K := K)) (pv 0) po_none (po_some (pe_op op_sub (pv 1) pe_int))) (pe_lst (pa_cons (pe_tup (pa_cons (pe_ix (Own.ix_ltK (K := K)) (pv 3) pe_int (fun _ _ => rfl)) (pa_cons (pv 2) pa_nil))) (pa_cons (pe_tup (pa_cons (pe_ix (Own.ix_ltK (K := K)) (pv 3) pe_int (fun _ _ => rfl)) (pa_cons (pe_op op_sub (pe_ix (Own.ix_ltK (K := K)) (pv 3) pe_int (fun _ _ => rfl)) (pv 2)) pa_nil))) pa_nil)))) (pe_slice (Pu.sl_listK (K := K)) (pv 0) (po_some (pv 1)) po_none)))))))), Pu.fn_use (n := 3) h
      (ss_seq (ss_drop (se_callX (sa_cons (se_var 0) (sa_cons (se_var 1) sa_nil))))
        (ss_seq (ss_asg (se_ix (se_var 0) (se_sub (se_var 1) se_int)) (sg_name 3))
        (ss_seq (ss_if (st_or (st_test (se_lt (se_var 2) se_int)) (st_test (se_ge (se_var 2) (se_ix (se_var 3) se_int)))) (ss_raise (sa_cons se_str sa_nil)) ss_next)
        (ss_seq (ss_if (st_test (se_ge (se_len (sa_cons (se_var 0) sa_nil)) se_int)) (ss_raise (sa_cons (se_f (sf_str (sf_val se_int (sf_str sf_nil)))) sa_nil)) ss_next)
        (ss_frz 2 (ss_ret (se_cat (se_cat (se_slice (se_var 0) so_none (so_some (se_sub (se_var 1) se_int))) (se_lst (sa_cons (se_tup (sa_cons (se_ix (se_var 3) se_int) (sa_cons (se_var 2) sa_nil))) (sa_cons (se_tup (sa_cons (se_ix (se_var 3) se_int) (sa_cons (se_sub (se_ix (se_var 3) se_int) (se_var 2)) sa_nil))) sa_nil)))) (se_slice (se_var 0) (so_some (se_var 1)) so_none)))))))) (by decide) (fun ds R X h => ?_)⟩
    obtain ⟨ps, p, w, rfl, hz, hR⟩ := h
    refine ⟨rfl, ?_⟩
    have hl : (ps.map prD).length = ps.length := List.length_map ..
    refine ⟨ps, p, rfl, ?_⟩
    unfold partE at hR
    unfold placeE
    by_cases c : p < 1 ∨ (ps.length : Int) < p
    · rw [if_pos c] at hR ⊢
      exact hR
    · rw [if_neg c] at hR ⊢
      refine ⟨_, atP1_eq (by omega) (by omega), ?_⟩
      have go : ¬ (w < 1 ∨ (atP1 ps p).2 ≤ w) → _ := fun c2 => by
        rw [if_neg c2] at hR
        exact hR
      by_cases c2 : w < 1 ∨ (atP1 ps p).2 ≤ w
      · rw [if_pos c2] at hR
        refine ite2 (fun g => iteT ⟨by simp, hR⟩) (fun g => ⟨_, rfl, ite2 (fun g2 => ⟨by simp, hR⟩) (fun g2 => ?_)⟩)
        have g' : ¬ w < 1 := fun z => g (decide_eq_true z)
        have g2' : ¬ (atP1 ps p).2 ≤ w := fun z => g2 (decide_eq_true z)
        omega
      · rw [if_neg c2] at hR
        refine ite2 (fun g => absurd (of_decide_eq_true g) (by omega)) (fun g => ⟨_, rfl, ite2 (fun g2 => absurd (of_decide_eq_true g2) (by omega)) (fun g2 => ?_)⟩)
        refine ite2 (fun g3 => ?_) (fun g3 => ?_)
        · have g3' : (40 : Int) ≤ ((ps.map prD).length : Int) := of_decide_eq_true g3
          rw [if_pos (by omega)] at hR
          exact ⟨by decide, by decide, by decide, by decide, by decide, by simp, hR⟩
        · have g3' : ¬ (40 : Int) ≤ ((ps.map prD).length : Int) := fun z => g3 (decide_eq_true z)
          rw [if_neg (by omega)] at hR
          have l1 : (cutD (ps.map prD) none (some (p - 1))).length ≤ 1000 := by have := (cutD_sub (ps.map prD) none (some (p - 1))).length_le; rw [List.length_map] at this; omega
          have l2 : (cutD (ps.map prD) (some p) none).length ≤ 1000 := by have := (cutD_sub (ps.map prD) (some p) none).length_le; rw [List.length_map] at this; omega
          refine ⟨imms_pairs _, _, rfl, by simp, _, rfl, _, rfl, by simp, by simp, rfl, rfl, Nat.le_trans (Nat.add_le_add l1 (Nat.le_refl 2)) (by decide), imms_pairs _, rfl, rfl, Nat.le_trans (Nat.add_le_add (by rw [List.length_append]; exact Nat.add_le_add l1 (Nat.le_refl 2)) l2) (by decide), ?_⟩
          rw [← partL_eq (by omega)] at hR
          exact hR
end
end T


namespace T
open PySem PySem.Spec PyProof.Rows L2 Own M Pu
section
variable {P : Program} {w : World} {K : PySem.W.Frag} {mg : Str → Option Value} {base : Heap}
theorem ok_law_draw (G : Glob K mg) (DD : Def K mg "_law_draw" s_law_draw ["_law_script", "_law_k"])
    (c_law_mix : Callee P w K mg base CX0 1 "_law_mix" ["_law_cell", "_law_place_here"] (Pu.spOf mg pc_law_mix K))
    (c_law_at : Callee P w K mg base CX0 1 "_law_at" ["_law_script", "_law_k"] (Pu.spOf mg pc_law_at K))
    : Callee P w K mg base CX0 2 "_law_draw" ["_law_script", "_law_k"] (Pu.spOf mg pc_law_draw K) := by
  refine DD.ok (k := 1) sc_law_draw (fun vs H Q E h => spOf_len h (fun ds R X h => ?_)) (fun f cdv A outer s H vs Q E hr h => ?_)
  · obtain ⟨ns, k, rfl, hk, hR⟩ := h
    rfl
  · refine ⟨_, (pss_cons (ps_if (pt_cmpR (Pu.op_eqU (K := K) (show _ < cLine from hr.units0)) (pe_op op_mod (Own.pe_fn c_law_at (hr.mono (by decide)) pass0 (pa_cons (pv 0) (pa_cons pe_int pa_nil))) pe_int) pe_int (nomark _))
      (pss_one (ps_ret (Own.pe_fn c_law_at (hr.mono (by decide)) pass0 (pa_cons (pv 0) (pa_cons (pe_op op_add pe_int (pv 1)) pa_nil)))))
      pss_nil)
      (pss_one (ps_ret (Own.pe_fn c_law_mix (hr.mono (by decide)) pass0 (pa_cons (Own.pe_fn c_law_at (hr.mono (by decide)) pass0 (pa_cons (pv 0) (pa_cons pe_int pa_nil))) (pa_cons (pv 1) pa_nil)))))), Pu.fn_use (n := 2) h
      (ss_seq (ss_if (st_test (se_eqU (se_mod (se_call (sa_cons (se_var 0) (sa_cons se_int sa_nil))) se_int) se_int)) (ss_ret (se_call (sa_cons (se_var 0) (sa_cons (se_add se_int (se_var 1)) sa_nil)))) ss_next)
        (ss_ret (se_call (sa_cons (se_call (sa_cons (se_var 0) (sa_cons se_int sa_nil))) (sa_cons (se_var 1) sa_nil))))) (by decide) (fun ds R X h => ?_)⟩
    obtain ⟨ns, k, rfl, hk, hR⟩ := h
    refine ⟨rfl, ?_⟩
    refine ⟨ns, 0, rfl, by decide, fun v => ⟨(by show (0 : Int) < 2; decide), ite2 (fun _ => ?_) (fun _ => ?_)⟩⟩
    · exact ⟨ns, _, rfl, by omega, fun v => hR v⟩
    · exact ⟨ns, 1, rfl, by decide, fun u => ⟨_, _, rfl, fun v => hR v⟩⟩
end
end T


namespace T
open PySem PySem.Spec PyProof.Rows L2 Own M Pu
section
variable {P : Program} {w : World} {K : PySem.W.Frag} {mg : Str → Option Value} {base : Heap}
theorem ok_law_tuples (G : Glob K mg) (DD : Def K mg "_law_tuples" s_law_tuples ["_law_found", "_law_due_here"])
    (c_law_whole : Callee P w K mg base CX0 1 "_law_whole" ["_law_found"] (Pu.spOf mg pc_law_whole K))
    : Callee P w K mg base CX0 2 "_law_tuples" ["_law_found", "_law_due_here"] (Pu.spOf mg pc_law_tuples K) := by
  refine DD.ok (k := 1) sc_law_tuples (fun vs H Q E h => spOf_len h (fun ds R X h => ?_)) (fun f cdv A outer s H vs Q E hr h => ?_)
  · obtain ⟨ps, rfl, hz, hR⟩ := h
    rfl
  · refine ⟨_, (pss_cons (ps_if (PW.pt (pw_or (pt_not (Pu.pt_tru (K := K) (pe_callB (Pu.call_isiK (K := K)) (by rfl) G.isinstance boot_isinstance (pa_cons (pv 0) (pa_cons (pe_bltn (v := .ty "list") rfl G.list boot_list rfl) pa_nil))))) (pw_or1 (pt_cmpR (Pu.op_neU (K := K) (show _ < cLine from hr.units0)) (pe_callB (Own.call_lenK (K := K)) (by rfl) G.len PySem.boot_len (pa_cons (pv 0) pa_nil)) (pe_callB (Own.call_lenK (K := K)) (by rfl) G.len PySem.boot_len (pa_cons (pv 1) pa_nil)) (nomark _)))))
      (pss_one (ps_ret pe_bl))
      pss_nil)
      (pss_cons (ps_for PassesOwn.never rfl (pi_range1 rfl G.range (pa_cons (pe_callB (Own.call_lenK (K := K)) (by rfl) G.len PySem.boot_len (pa_cons (pv 1) pa_nil)) pa_nil)) (pg_name (i := 2) sc_law_tuples.nd rfl (by first | exact Or.inl rfl | exact Or.inr rfl))
      (pss_cons (ps_if (PW.pt (pw_or (pt_not (Pu.pt_tru (K := K) (pe_callB (Pu.call_isiK (K := K)) (by rfl) G.isinstance boot_isinstance (pa_cons (pe_ix (Own.ix_ltK (K := K)) (pv 0) (pv 2) (fun _ _ => rfl)) (pa_cons (pe_bltn (v := .ty "tuple") rfl G.tuple boot_tuple rfl) pa_nil))))) (pw_or1 (pt_cmpR (Pu.op_neU (K := K) (show _ < cLine from hr.units0)) (pe_callB (Own.call_lenK (K := K)) (by rfl) G.len PySem.boot_len (pa_cons (pe_ix (Own.ix_ltK (K := K)) (pv 0) (pv 2) (fun _ _ => rfl)) pa_nil)) (pe_callB (Own.call_lenK (K := K)) (by rfl) G.len PySem.boot_len (pa_cons (pe_ix (Own.ix_ltK (K := K)) (pv 1) (pv 2) (fun _ _ => rfl)) pa_nil)) (nomark _)))))
      (pss_one (ps_ret pe_bl))
      pss_nil)
      (pss_one (ps_for PassesOwn.never rfl (pi_range1 rfl G.range (pa_cons (pe_callB (Own.call_lenK (K := K)) (by rfl) G.len PySem.boot_len (pa_cons (pe_ix (Own.ix_ltK (K := K)) (pv 1) (pv 2) (fun _ _ => rfl)) pa_nil)) pa_nil)) (pg_name (i := 3) sc_law_tuples.nd rfl (by first | exact Or.inl rfl | exact Or.inr rfl))
      (pss_one (ps_if (PW.pt (pw_or (pt_not (Pu.pt_tru (K := K) (Own.pe_fn c_law_whole (hr.mono (by decide)) pass0 (pa_cons (pe_ix (Own.ix_ltK (K := K)) (pe_ix (Own.ix_ltK (K := K)) (pv 0) (pv 2) (fun _ _ => rfl)) (pv 3) (fun _ _ => rfl)) pa_nil)))) (pw_or1 (pt_cmpR (Pu.op_neU (K := K) (show _ < cLine from hr.units0)) (pe_ix (Own.ix_ltK (K := K)) (pe_ix (Own.ix_ltK (K := K)) (pv 0) (pv 2) (fun _ _ => rfl)) (pv 3) (fun _ _ => rfl)) (pe_ix (Own.ix_ltK (K := K)) (pe_ix (Own.ix_ltK (K := K)) (pv 1) (pv 2) (fun _ _ => rfl)) (pv 3) (fun _ _ => rfl)) (nomark _)))))
      (pss_one (ps_ret pe_bl))
      pss_nil))))))
      (pss_one (ps_ret pe_bl)))), Pu.fn_use (n := 2) h
      (ss_seq (ss_if (st_or (st_not (st_tru (se_isi (sa_cons (se_var 0) (sa_cons se_ty sa_nil))))) (st_test (se_neU (se_len (sa_cons (se_var 0) sa_nil)) (se_len (sa_cons (se_var 1) sa_nil))))) (ss_ret se_bl) ss_next)
        (ss_seq (ss_for [2, 3] (si_range1 (sa_cons (se_len (sa_cons (se_var 1) sa_nil)) sa_nil)) (sg_name 2)
        (ss_seq (ss_if (st_or (st_not (st_tru (se_isi (sa_cons (se_ix (se_var 0) (se_var 2)) (sa_cons se_ty sa_nil))))) (st_test (se_neU (se_len (sa_cons (se_ix (se_var 0) (se_var 2)) sa_nil)) (se_len (sa_cons (se_ix (se_var 1) (se_var 2)) sa_nil))))) (ss_ret se_bl) ss_next)
        (ss_for [3] (si_range1 (sa_cons (se_len (sa_cons (se_ix (se_var 1) (se_var 2)) sa_nil)) sa_nil)) (sg_name 3)
        (ss_if (st_or (st_not (st_tru (se_call (sa_cons (se_ix (se_ix (se_var 0) (se_var 2)) (se_var 3)) sa_nil)))) (st_test (se_neU (se_ix (se_ix (se_var 0) (se_var 2)) (se_var 3)) (se_ix (se_ix (se_var 1) (se_var 2)) (se_var 3))))) (ss_ret se_bl) ss_next))))
        (ss_ret se_bl))) (by decide) (fun ds R X h => ?_)⟩
    obtain ⟨ps, rfl, hz, hR⟩ := h
    refine ⟨rfl, ?_⟩
    have hl : (ps.map prD).length = ps.length := List.length_map ..
    refine ⟨_, .same _, iteF (iteNS rfl ?_)⟩
    refine ⟨⟨by omega, by omega⟩, forR_of (fun i γ' => ∃ t, γ' = [some (.bor (.lst (ps.map prD))), some (.bor (.lst (ps.map prD))), none, t]) ⟨_, rfl⟩ ?_ ?_⟩
    · rintro i γ' hi ⟨t, rfl⟩
      have hi' : i < (((ps.map prD).length : Nat) : Int).toNat := hi
      have ez : (0 : Int) + (i : Int) = (i : Int) := by omega
      have hb : i < ps.length := by omega
      have ha : atI (ps.map prD) (0 + (i : Int)) = some (prD ps[i]) := by rw [ez]; exact at_nat hb
      generalize ps[i] = q at ha
      refine ⟨_, ha, _, .same _, iteF ⟨_, ha, _, ha, ?_⟩⟩
      refine ⟨_, ha, ⟨(by show -(2 ^ 62) ≤ (2 : Int); decide), (by show (2 : Int) < 2 ^ 62; decide)⟩, forR_of (fun j γ' => ∃ t, γ' = [some (.bor (.lst (ps.map prD))), some (.bor (.lst (ps.map prD))), some (.sh (.int (0 + (i : Int)))), t]) ⟨_, rfl⟩ ?_ ?_⟩
      · rintro j γ' hj ⟨t, rfl⟩
        have hj2 : j < 2 := hj
        obtain ⟨z, ea⟩ : ∃ z : Int, atI [D.int q.1, D.int q.2] (0 + (j : Int)) = some (.int z) := by
          have : j = 0 ∨ j = 1 := by omega
          rcases this with rfl | rfl
          · exact ⟨_, rfl⟩
          · exact ⟨_, rfl⟩
        exact ⟨_, ha, _, ea, z, rfl, iteF ⟨_, ha, _, ea, _, ha, _, ea, iteNS rfl ⟨_, rfl⟩⟩⟩
      · rintro γ' ⟨t, rfl⟩
        exact ⟨_, rfl⟩
    · rintro γ' ⟨t, rfl⟩
      exact hR
end
end T


namespace T
open PySem PySem.Spec PyProof.Rows L2 Own M Pu
section
variable {P : Program} {w : World} {K : PySem.W.Frag} {mg : Str → Option Value} {base : Heap}
theorem ok_law_deed_is (G : Glob K mg) (DD : Def K mg "_law_deed_is" s_law_deed_is ["_law_found", "_law_due_here"])
    (c_law_whole : Callee P w K mg base CX0 1 "_law_whole" ["_law_found"] (Pu.spOf mg pc_law_whole K))
    : Callee P w K mg base CX0 2 "_law_deed_is" ["_law_found", "_law_due_here"] (Pu.spOf mg pc_law_deed_is K) := by
  refine DD.ok (k := 1) sc_law_deed_is (fun vs H Q E h => spOf_len h (fun ds R X h => ?_)) (fun f cdv A outer s H vs Q E hr h => ?_)
  · obtain ⟨q, rfl, hz, hR⟩ := h
    rfl
  · refine ⟨_, (pss_cons (ps_if (PW.pt (pw_or (pt_not (Pu.pt_tru (K := K) (pe_callB (Pu.call_isiK (K := K)) (by rfl) G.isinstance boot_isinstance (pa_cons (pv 0) (pa_cons (pe_bltn (v := .ty "tuple") rfl G.tuple boot_tuple rfl) pa_nil))))) (pw_or (pt_cmpR (Pu.op_neU (K := K) (show _ < cLine from hr.units0)) (pe_callB (Own.call_lenK (K := K)) (by rfl) G.len PySem.boot_len (pa_cons (pv 0) pa_nil)) (pe_callB (Own.call_lenK (K := K)) (by rfl) G.len PySem.boot_len (pa_cons (pv 1) pa_nil)) (nomark _)) (pw_or1 (pt_not (Pu.pt_tru (K := K) (pe_callB (Pu.call_isiK (K := K)) (by rfl) G.isinstance boot_isinstance (pa_cons (pe_ix (Own.ix_ltK (K := K)) (pv 0) pe_int (fun _ _ => rfl)) (pa_cons (pe_bltn (v := .ty "str") rfl G.str boot_str rfl) pa_nil)))))))))
      (pss_one (ps_ret pe_bl))
      pss_nil)
      (pss_cons (ps_if (pt_cmpR (Pu.op_neU (K := K) (show _ < cLine from hr.units0)) (pe_ix (Own.ix_ltK (K := K)) (pv 0) pe_int (fun _ _ => rfl)) (pe_ix (Own.ix_ltK (K := K)) (pv 1) pe_int (fun _ _ => rfl)) (nomark _))
      (pss_one (ps_ret pe_bl))
      pss_nil)
      (pss_cons (ps_for PassesOwn.never rfl (pi_range2 rfl G.range (pa_cons pe_int (pa_cons (pe_callB (Own.call_lenK (K := K)) (by rfl) G.len PySem.boot_len (pa_cons (pv 1) pa_nil)) pa_nil))) (pg_name (i := 2) sc_law_deed_is.nd rfl (by first | exact Or.inl rfl | exact Or.inr rfl))
      (pss_one (ps_if (PW.pt (pw_or (pt_not (Pu.pt_tru (K := K) (Own.pe_fn c_law_whole (hr.mono (by decide)) pass0 (pa_cons (pe_ix (Own.ix_ltK (K := K)) (pv 0) (pv 2) (fun _ _ => rfl)) pa_nil)))) (pw_or1 (pt_cmpR (Pu.op_neU (K := K) (show _ < cLine from hr.units0)) (pe_ix (Own.ix_ltK (K := K)) (pv 0) (pv 2) (fun _ _ => rfl)) (pe_ix (Own.ix_ltK (K := K)) (pv 1) (pv 2) (fun _ _ => rfl)) (nomark _)))))
      (pss_one (ps_ret pe_bl))
      pss_nil)))
      (pss_one (ps_ret pe_bl))))), Pu.fn_use (n := 2) h
      (ss_seq (ss_if (st_or (st_not (st_tru (se_isi (sa_cons (se_var 0) (sa_cons se_ty sa_nil))))) (st_or (st_test (se_neU (se_len (sa_cons (se_var 0) sa_nil)) (se_len (sa_cons (se_var 1) sa_nil)))) (st_not (st_tru (se_isi (sa_cons (se_ix (se_var 0) se_int) (sa_cons se_ty sa_nil))))))) (ss_ret se_bl) ss_next)
        (ss_seq (ss_if (st_test (se_neU (se_ix (se_var 0) se_int) (se_ix (se_var 1) se_int))) (ss_ret se_bl) ss_next)
        (ss_seq (ss_for [2] (si_range2 (sa_cons se_int (sa_cons (se_len (sa_cons (se_var 1) sa_nil)) sa_nil))) (sg_name 2)
        (ss_if (st_or (st_not (st_tru (se_call (sa_cons (se_ix (se_var 0) (se_var 2)) sa_nil)))) (st_test (se_neU (se_ix (se_var 0) (se_var 2)) (se_ix (se_var 1) (se_var 2))))) (ss_ret se_bl) ss_next))
        (ss_ret se_bl)))) (by decide) (fun ds R X h => ?_)⟩
    obtain ⟨q, rfl, hz, hR⟩ := h
    refine ⟨rfl, ?_⟩
    have hl : (D.str q.1 :: q.2.map D.int).length = q.2.length + 1 := by rw [List.length_cons, List.length_map]
    rw [start_deed]
    show _
    rw [List.map_cons, arg_deed]
    refine ⟨_, .same _, iteF (iteNS rfl ⟨_, at_head _ _, _, .same _, iteF ⟨_, at_head _ _, _, at_head _ _, iteNS rfl ?_⟩⟩)⟩
    refine ⟨⟨by omega, by omega⟩, forR_of (fun i γ' => γ' = [some (.sh (dD q)), some (.sh (dD q)), none]) rfl ?_ ?_⟩
    · rintro i γ' hi rfl
      have hi' : i < q.2.length := by
        have : i < ((((D.str q.1 :: q.2.map D.int).length : Nat) : Int) - 1).toNat := hi
        omega
      exact ⟨_, deed_at hi', _, rfl, iteF ⟨_, deed_at hi', _, deed_at hi', iteNS rfl rfl⟩⟩
    · rintro γ' rfl
      exact hR
end
end T


namespace T
open PySem PySem.Spec PyProof.Rows L2 Own M Pu
section
variable {P : Program} {w : World} {K : PySem.W.Frag} {mg : Str → Option Value} {base : Heap}
theorem ok_law_wide (G : Glob K mg) (DD : Def K mg "_law_wide" s_law_wide ["_law_cell", "_law_strips_here", "_law_place_here"])
    (c_law_width : Callee P w K mg base CX0 1 "_law_width" ["_law_cell", "_law_strips_here", "_law_place_here"] (Pu.spOf mg pc_law_width K))
    : Callee P w K mg base CX0 2 "_law_wide" ["_law_cell", "_law_strips_here", "_law_place_here"] (Pu.spOf mg pc_law_wide K) := by
  refine DD.ok (k := 1) sc_law_wide (fun vs H Q E h => spOf_len h (fun ds R X h => ?_)) (fun f cdv A outer s H vs Q E hr h => ?_)
  · obtain ⟨c, ps, p, rfl, hF, hz, hR⟩ := h
    rfl
  · refine ⟨_, (pss_cons (ps_if (PW.pt (pw_and (pt_cmpR (Pu.op_eqU (K := K) (show _ < cLine from hr.units0)) (pe_op op_mod (pv 0) pe_int) pe_int (nomark _)) (pw_and (pt_cmpR op_ge (pv 2) pe_int (nomark _)) (pw_and1 (pt_cmpR op_le (pv 2) (pe_callB (Own.call_lenK (K := K)) (by rfl) G.len PySem.boot_len (pa_cons (pv 1) pa_nil)) (nomark _))))))
      (pss_one (ps_ret (pe_op op_sub (pe_ix (Own.ix_ltK (K := K)) (pe_ix (Own.ix_ltK (K := K)) (pv 1) (pe_op op_sub (pv 2) pe_int) (fun _ _ => rfl)) pe_int (fun _ _ => rfl)) pe_int)))
      pss_nil)
      (pss_one (ps_ret (Own.pe_fn c_law_width (hr.mono (by decide)) pass0 (pa_cons (pe_op op_fdiv (pv 0) pe_int) (pa_cons (pv 1) (pa_cons (pv 2) pa_nil))))))), Pu.fn_use (n := 3) h
      (ss_seq (ss_if (st_and (st_test (se_eqU (se_mod (se_var 0) se_int) se_int)) (st_and (st_test (se_ge (se_var 2) se_int)) (st_test (se_le (se_var 2) (se_len (sa_cons (se_var 1) sa_nil)))))) (ss_ret (se_sub (se_ix (se_ix (se_var 1) (se_sub (se_var 2) se_int)) se_int) se_int)) ss_next)
        (ss_ret (se_call (sa_cons (se_fdiv (se_var 0) se_int) (sa_cons (se_var 1) (sa_cons (se_var 2) sa_nil)))))) (by decide) (fun ds R X h => ?_)⟩
    obtain ⟨c, ps, p, rfl, hF, hz, hR⟩ := h
    refine ⟨rfl, ?_⟩
    have hl : (ps.map prD).length = ps.length := List.length_map ..
    refine ⟨(by show (0 : Int) < 4; decide), ite2 (fun g => ite2 (fun g1 => ite2 (fun g2 => ?_) (fun g2 => ?_)) (fun g1 => iteF ?_)) (fun g => iteF ?_)⟩
    · have g1' : (1 : Int) ≤ p := of_decide_eq_true g1
      have g2' : p ≤ ((ps.map prD).length : Int) := of_decide_eq_true g2
      exact ⟨_, atP1_eq (by omega) (by omega), _, rfl, hR _⟩
    · exact ⟨⟨by decide, by decide⟩, _, ps, p, rfl, hF, hz, fun v => hR v⟩
    · exact ⟨⟨by decide, by decide⟩, _, ps, p, rfl, hF, hz, fun v => hR v⟩
    · exact ⟨⟨by decide, by decide⟩, _, ps, p, rfl, hF, hz, fun v => hR v⟩
end
end T


namespace T
open PySem PySem.Spec PyProof.Rows L2 Own M Pu
section
variable {P : Program} {w : World} {K : PySem.W.Frag} {mg : Str → Option Value} {base : Heap}
theorem ok_Village_init (G : Glob K mg) (DD : Pu.DefM K (Mk K (ExcR.clsOf mg "Village")) "__init__" "Village.__init__" s_Village_init ["self", "strips"])
    (c_check_strips : Callee P w K mg base (ExcR.CXe P w) 2 "check_strips" ["strips"] (Pu.spOf mg pc_check_strips K))
    : Pu.CalleeM P w K mg base (ExcR.CXe P w) 3 (Mk K (ExcR.clsOf mg "Village")) ["self", "strips"] (Pu.spW mg (pw_Village_init (ExcR.clsOf mg "Village")) K) := by
  refine Pu.DefM.okX DD (k := 2) sc_Village_init (fun vs H Q E h => Pu.spW_len (n := 1) h (fun o ss R X h => ?_)) (fun f cdv A outer s H vs Q E hr h => ?_)
  · obtain ⟨x, ps, rfl, rfl, hz, hR⟩ := h
    rfl
  · refine ⟨_, (pss_cons (ps_expr (Own.pe_fn c_check_strips (hr.mono (by decide)) ExcR.passes_e (pa_cons (pv 1) pa_nil)))
      (pss_cons (ps_fld (pv 0) (pe_lst pa_nil) rfl)
      (pss_cons (ps_fld (pv 0) (pe_lst (pa_cons (pe_callTy (Pu.call_listK (K := K)) (by rfl) G.list boot_list (pa_cons (pv 1) pa_nil)) pa_nil)) rfl)
      (pss_one (ps_fld (pv 0) (pe_lst (pa_cons (pe_lst pa_nil) pa_nil)) rfl))))), Pu.fnW_use (n := 1) h
      (ss_seq (ss_drop (se_callX (sa_cons (se_var 1) sa_nil)))
        (ss_seq (ss_setF 0 G.cl_Village G.n_Village_book pa_Village_book (se_lst sa_nil))
        (ss_seq (ss_setF 0 G.cl_Village G.n_Village_fields pa_Village_fields (se_lst (sa_cons (se_list (sa_cons (se_var 1) sa_nil)) sa_nil)))
        (ss_setF 0 G.cl_Village G.n_Village_wished pa_Village_wished (se_lst (sa_cons (se_lst sa_nil) sa_nil)))))) (by decide) (fun o ss R X h => ?_)⟩
    obtain ⟨x, ps, rfl, rfl, hz, hR⟩ := h
    refine ⟨rfl, ?_⟩
    refine ⟨ps, rfl, hz, ?_⟩
    cases e : stripE ps with
    | some c =>
      rw [e] at hR
      exact ⟨_, rfl, ⟨rfl, by simp⟩, hR⟩
    | none =>
      rw [e] at hR
      refine ⟨by simp, rfl, rfl, by decide, fun b1 => ?_⟩
      refine ⟨rfl, by simp, rfl, rfl, by decide, fun b2 => ?_⟩
      refine ⟨by simp, by simp, rfl, rfl, by decide, fun b3 => ?_⟩
      exact ⟨_, rfl, ⟨rfl, by simp⟩, hR b1 b2 b3⟩
end
end T


namespace T
open PySem PySem.Spec PyProof.Rows L2 Own M Pu
section
variable {P : Program} {w : World} {K : PySem.W.Frag} {mg : Str → Option Value} {base : Heap}
theorem ok_Village_part (G : Glob K mg) (DD : Pu.DefM K (Meth K (ExcR.clsOf mg "Village") "part") "part" "Village.part" s_Village_part ["self", "place", "width"])
    (c_Village_check_room : Pu.CalleeM P w K mg base (ExcR.CXe P w) 1 (Meth K (ExcR.clsOf mg "Village") "check_room") ["self"] (Pu.spOf mg (pc_Village_check_room (ExcR.clsOf mg "Village")) K))
    (c_parted : Callee P w K mg base (ExcR.CXe P w) 2 "parted" ["strips", "place", "width"] (Pu.spOf mg pc_parted K))
    (c_Village_enter : Pu.CalleeM P w K mg base CX0 1 (Meth K (ExcR.clsOf mg "Village") "enter") ["self", "deed", "field", "wishes"] (Pu.spW mg (pw_Village_enter (ExcR.clsOf mg "Village")) K))
    (c_Village_strips : Pu.CalleeM P w K mg base CX0 1 (Meth K (ExcR.clsOf mg "Village") "strips") ["self"] (Pu.spOf mg (pc_Village_strips (ExcR.clsOf mg "Village")) K))
    (c_Village_wishes : Pu.CalleeM P w K mg base CX0 1 (Meth K (ExcR.clsOf mg "Village") "wishes") ["self"] (Pu.spOf mg (pc_Village_wishes (ExcR.clsOf mg "Village")) K))
    : Pu.CalleeM P w K mg base (ExcR.CXe P w) 3 (Meth K (ExcR.clsOf mg "Village") "part") ["self", "place", "width"] (Pu.spW mg (pw_Village_part (ExcR.clsOf mg "Village")) K) := by
  refine Pu.DefM.okX DD (k := 2) sc_Village_part (fun vs H Q E h => Pu.spW_len (n := 2) h (fun o ss R X h => ?_)) (fun f cdv A outer s H vs Q E hr h => ?_)
  · obtain ⟨x, b1, b2, b3, bk, fs, ws, f, w, p, h, rfl, rfl, hb, hf, hw, hz, hR⟩ := h
    rfl
  · refine ⟨_, (pss_cons (ps_expr (Pu.pe_mth0 c_Village_check_room G.cl_Village (hr.mono (by decide)) ExcR.passes_e (pv 0)))
      (pss_cons (ps_set (i := 3) sc_Village_part.nd rfl (by first | exact Or.inl rfl | exact Or.inr rfl) (Own.pe_fn c_parted (hr.mono (by decide)) ExcR.passes_e (pa_cons (Pu.pe_mth0 c_Village_strips G.cl_Village (hr.mono (by decide)) pass0 (pv 0)) (pa_cons (pv 1) (pa_cons (pv 2) pa_nil)))))
      (pss_one (ps_ret (Pu.pe_mth c_Village_enter G.cl_Village (hr.mono (by decide)) pass0 (pv 0) (pa_cons (pe_tup (pa_cons pe_str (pa_cons (pv 1) (pa_cons (pv 2) pa_nil)))) (pa_cons (pv 3) (pa_cons (Pu.pe_mth0 c_Village_wishes G.cl_Village (hr.mono (by decide)) pass0 (pv 0)) pa_nil)))))))), Pu.fnW_use (n := 2) h
      (ss_seq (ss_drop (se_meth nf_Village_check_room (se_var 0) sa_nil))
        (ss_seq (ss_asg (se_callX (sa_cons (se_methN nf_Village_strips (se_var 0) sa_nil) (sa_cons (se_var 1) (sa_cons (se_var 2) sa_nil)))) (sg_name 3))
        (ss_frz 2 (ss_frz 1 (ss_frz 3 (ss_retWW (sw_methN 0 nf_Village_enter (sa_cons (se_tup (sa_cons se_str (sa_cons (se_var 1) (sa_cons (se_var 2) sa_nil)))) (sa_cons (se_var 3) (sa_cons (se_methN nf_Village_wishes (se_var 0) sa_nil) sa_nil)))))))))) (by decide) (fun o ss R X h => ?_)⟩
    obtain ⟨x, b1, b2, b3, bk, fs, ws, f, w, p, h, rfl, rfl, hb, hf, hw, hz, hR⟩ := h
    refine ⟨rfl, ?_⟩
    unfold partRE at hR
    refine ⟨rfl, rfl, bk, fs ++ [f], ws ++ [w], rfl, ?_⟩
    unfold roomE
    by_cases c : 100 ≤ bk.length
    · rw [if_pos c] at hR ⊢
      exact ⟨_, rfl, ⟨rfl, by simp⟩, hR⟩
    · rw [if_neg c] at hR ⊢
      refine ⟨rfl, rfl, bk, fs, ws ++ [w], f, rfl, f, p, h, rfl, hz, ?_⟩
      cases e : partE f p h with
      | some c =>
        rw [e] at hR
        exact ⟨_, rfl, ⟨rfl, by simp⟩, hR⟩
      | none =>
        rw [e] at hR
        refine ⟨rfl, rfl, by simp, rfl, rfl, bk, fs ++ [f], ws, w, rfl, ?_⟩
        exact ⟨x, b1, b2, b3, bk, fs ++ [f], ws ++ [w], ("part", [p, h]), partL f p h, w, rfl, rfl, hb, by rw [List.length_append]; simp; omega, by rw [List.length_append]; simp; omega, _, rfl, ⟨rfl, by simp⟩, hR⟩
end
end T


namespace T
open PySem PySem.Spec PyProof.Rows L2 Own M Pu
section
variable {P : Program} {w : World} {K : PySem.W.Frag} {mg : Str → Option Value} {base : Heap}
theorem ok_law_strips (G : Glob K mg) (DD : Def K mg "_law_strips" s_law_strips ["_law_script", "_law_menu_here", "_law_many"])
    (c_law_draw : Callee P w K mg base CX0 2 "_law_draw" ["_law_script", "_law_k"] (Pu.spOf mg pc_law_draw K))
    (c_law_holder : Callee P w K mg base CX0 1 "_law_holder" ["_law_menu_here", "_law_k"] (Pu.spOf mg pc_law_holder K))
    : Callee P w K mg base CX0 3 "_law_strips" ["_law_script", "_law_menu_here", "_law_many"] (Pu.spOf mg pc_law_strips K) := by
  refine DD.ok (k := 2) sc_law_strips (fun vs H Q E h => spOf_len h (fun ds R X h => ?_)) (fun f cdv A outer s H vs Q E hr h => ?_)
  · obtain ⟨ns, m, n, rfl, hM, h0, h1, hR⟩ := h
    rfl
  · refine ⟨_, (pss_cons (ps_set (i := 3) sc_law_strips.nd rfl (by first | exact Or.inl rfl | exact Or.inr rfl) (pe_lst pa_nil))
      (pss_cons (ps_for PassesOwn.never rfl (pi_range1 rfl G.range (pa_cons (pv 2) pa_nil)) (pg_name (i := 4) sc_law_strips.nd rfl (by first | exact Or.inl rfl | exact Or.inr rfl))
      (pss_cons (ps_set (i := 5) sc_law_strips.nd rfl (by first | exact Or.inl rfl | exact Or.inr rfl) (Own.pe_fn c_law_draw (hr.mono (by decide)) pass0 (pa_cons (pv 0) (pa_cons (pe_op op_add pe_int (pv 4)) pa_nil))))
      (pss_cons (ps_set (i := 6) sc_law_strips.nd rfl (by first | exact Or.inl rfl | exact Or.inr rfl) (pe_op op_add (pe_ix (Own.ix_ltK (K := K)) (pv 1) pe_int (fun _ _ => rfl)) (pe_op op_mod (pe_op op_fdiv (pv 5) (pe_ix (Own.ix_ltK (K := K)) (pv 1) pe_int (fun _ _ => rfl))) (pe_ix (Own.ix_ltK (K := K)) (pv 1) pe_int (fun _ _ => rfl)))))
      (pss_one (ps_expr (pe_bm PySem.F.plainAttrs_list PySem.F.slot_list_append PySem.F.type_list_append mt_append (pv 3) (pa_cons (pe_tup (pa_cons (Own.pe_fn c_law_holder (hr.mono (by decide)) pass0 (pa_cons (pv 1) (pa_cons (pe_op op_mod (pv 5) (pe_ix (Own.ix_ltK (K := K)) (pv 1) pe_int (fun _ _ => rfl))) pa_nil))) (pa_cons (pv 6) pa_nil))) pa_nil)))))))
      (pss_one (ps_ret (pv 3))))), Pu.fn_use (n := 3) h
      (ss_seq (ss_asg (se_lst sa_nil) (sg_name 3))
        (ss_seq (ss_for [4, 5, 6] (si_range1 (sa_cons (se_var 2) sa_nil)) (sg_name 4)
        (ss_seq (ss_asg (se_call (sa_cons (se_var 0) (sa_cons (se_add se_int (se_var 4)) sa_nil))) (sg_name 5))
        (ss_seq (ss_asg (se_add (se_ix (se_var 1) se_int) (se_mod (se_fdiv (se_var 5) (se_ix (se_var 1) se_int)) (se_ix (se_var 1) se_int))) (sg_name 6))
        (ss_frz 6 (ss_append 3 (se_tup (sa_cons (se_call (sa_cons (se_var 1) (sa_cons (se_mod (se_var 5) (se_ix (se_var 1) se_int)) sa_nil))) (sa_cons (se_var 6) sa_nil))))))))
        (ss_retV 3))) (by decide) (fun ds R X h => ?_)⟩
    obtain ⟨ns, m, n, rfl, hM, h0, h1, hR⟩ := h
    refine ⟨rfl, ?_⟩
    have hMM := hM
    obtain ⟨a, b, c, d, e, rfl, ha, hb, hc, hd, he⟩ := hM
    refine ⟨by simp, ⟨by omega, by omega⟩, forR_of (fun i γ' => ∃ ps : List (Int × Int), γ' = [some (.bor (.scr ns)), some (.bor (.lst (([a, b, c, d, e] : List Int).map D.int))), some (.sh (.int n)), some (.own (ps.map prD)), none, none, none] ∧ Field ps ∧ ps.length = i) ⟨[], rfl, (fun q hq => by cases hq), rfl⟩ ?_ ?_⟩
    · rintro i γ' hi ⟨ps, rfl, hF, hl⟩
      have hlm : (ps.map prD).length = ps.length := List.length_map ..
      have hi' : i < n.toNat := hi
      refine ⟨ns, _, rfl, by omega, fun v => ?_⟩
      have q1 := Int.emod_nonneg (v / a) (show d ≠ 0 by omega)
      have q2 := Int.emod_lt_of_pos (v / a) (show 0 < d by omega)
      refine ⟨_, rfl, _, rfl, ⟨by omega, by omega⟩, _, rfl, (by show 0 < d; omega), _, rfl, (by show 0 < a; omega), [a, b, c, d, e], _, rfl, hMM, fun h l1 l2 _ => ⟨by simp, by omega, ps ++ [(h, e + v / a % d)], ?_, fun q hq => ?_, by rw [List.length_append, hl]; rfl⟩⟩
      · rw [List.map_append]
        rfl
      · rcases List.mem_append.mp hq with hq | hq
        · exact hF q hq
        · rw [List.mem_singleton] at hq
          subst hq
          exact ⟨l1, l2, by show 1 ≤ e + v / a % d; omega, by show e + v / a % d ≤ 1000; omega⟩
    · rintro γ' ⟨ps, rfl, hF, hl⟩
      exact hR ps hF hl
end
end T


namespace T
open PySem PySem.Spec PyProof.Rows L2 Own M Pu
section
variable {P : Program} {w : World} {K : PySem.W.Frag} {mg : Str → Option Value} {base : Heap}
theorem ok_law_book_is (G : Glob K mg) (DD : Def K mg "_law_book_is" s_law_book_is ["_law_found", "_law_due_here"])
    (c_law_deed_is : Callee P w K mg base CX0 2 "_law_deed_is" ["_law_found", "_law_due_here"] (Pu.spOf mg pc_law_deed_is K))
    : Callee P w K mg base CX0 3 "_law_book_is" ["_law_found", "_law_due_here"] (Pu.spOf mg pc_law_book_is K) := by
  refine DD.ok (k := 2) sc_law_book_is (fun vs H Q E h => spOf_len h (fun ds R X h => ?_)) (fun f cdv A outer s H vs Q E hr h => ?_)
  · obtain ⟨bk, rfl, hq, hz, hR⟩ := h
    rfl
  · refine ⟨_, (pss_cons (ps_if (PW.pt (pw_or (pt_not (Pu.pt_tru (K := K) (pe_callB (Pu.call_isiK (K := K)) (by rfl) G.isinstance boot_isinstance (pa_cons (pv 0) (pa_cons (pe_bltn (v := .ty "list") rfl G.list boot_list rfl) pa_nil))))) (pw_or1 (pt_cmpR (Pu.op_neU (K := K) (show _ < cLine from hr.units0)) (pe_callB (Own.call_lenK (K := K)) (by rfl) G.len PySem.boot_len (pa_cons (pv 0) pa_nil)) (pe_callB (Own.call_lenK (K := K)) (by rfl) G.len PySem.boot_len (pa_cons (pv 1) pa_nil)) (nomark _)))))
      (pss_one (ps_ret pe_bl))
      pss_nil)
      (pss_cons (ps_for PassesOwn.never rfl (pi_range1 rfl G.range (pa_cons (pe_callB (Own.call_lenK (K := K)) (by rfl) G.len PySem.boot_len (pa_cons (pv 1) pa_nil)) pa_nil)) (pg_name (i := 2) sc_law_book_is.nd rfl (by first | exact Or.inl rfl | exact Or.inr rfl))
      (pss_one (ps_if (pt_not (Pu.pt_tru (K := K) (Own.pe_fn c_law_deed_is (hr.mono (by decide)) pass0 (pa_cons (pe_ix (Own.ix_ltK (K := K)) (pv 0) (pv 2) (fun _ _ => rfl)) (pa_cons (pe_ix (Own.ix_ltK (K := K)) (pv 1) (pv 2) (fun _ _ => rfl)) pa_nil)))))
      (pss_one (ps_ret pe_bl))
      pss_nil)))
      (pss_one (ps_ret pe_bl)))), Pu.fn_use (n := 2) h
      (ss_seq (ss_if (st_or (st_not (st_tru (se_isi (sa_cons (se_var 0) (sa_cons se_ty sa_nil))))) (st_test (se_neU (se_len (sa_cons (se_var 0) sa_nil)) (se_len (sa_cons (se_var 1) sa_nil))))) (ss_ret se_bl) ss_next)
        (ss_seq (ss_for [2] (si_range1 (sa_cons (se_len (sa_cons (se_var 1) sa_nil)) sa_nil)) (sg_name 2)
        (ss_if (st_not (st_tru (se_call (sa_cons (se_ix (se_var 0) (se_var 2)) (sa_cons (se_ix (se_var 1) (se_var 2)) sa_nil))))) (ss_ret se_bl) ss_next))
        (ss_ret se_bl))) (by decide) (fun ds R X h => ?_)⟩
    obtain ⟨bk, rfl, hq, hz, hR⟩ := h
    refine ⟨rfl, ?_⟩
    have hl : (bk.map dD).length = bk.length := List.length_map ..
    refine ⟨_, .same _, iteF (iteNS rfl ?_)⟩
    refine ⟨⟨by omega, by omega⟩, forR_of (fun i γ' => γ' = [some (.bor (.lst (bk.map dD))), some (.bor (.lst (bk.map dD))), none]) rfl ?_ ?_⟩
    · rintro i γ' hi rfl
      have hi' : i < (((bk.map dD).length : Nat) : Int).toNat := hi
      have ez : (0 : Int) + (i : Int) = (i : Int) := by omega
      have hb : i < bk.length := by omega
      have ha : atI (bk.map dD) (0 + (i : Int)) = some (dD bk[i]) := by rw [ez]; exact at_nat hb
      refine ⟨_, ha, _, ha, bk[i], ?_, hq _ (List.getElem_mem hb), iteF rfl⟩
      show [(arg (dD bk[i])).d, (arg (dD bk[i])).d] = _
      rw [arg_deed]
      rfl
    · rintro γ' rfl
      exact hR
end
end T


namespace T
open PySem PySem.Spec PyProof.Rows L2 Own M Pu
section
variable {P : Program} {w : World} {K : PySem.W.Frag} {mg : Str → Option Value} {base : Heap}
theorem ok_law_parting (G : Glob K mg) (DD : Def K mg "_law_parting" s_law_parting ["_law_village", "_law_place_here", "_law_width_here"])
    (c_Village_part : Pu.CalleeM P w K mg base (ExcR.CXe P w) 3 (Meth K (ExcR.clsOf mg "Village") "part") ["self", "place", "width"] (Pu.spW mg (pw_Village_part (ExcR.clsOf mg "Village")) K))
    : Callee P w K mg base CX0 4 "_law_parting" ["_law_village", "_law_place_here", "_law_width_here"] (Pu.spW mg (pw_law_parting (ExcR.clsOf mg "Village")) K) := by
  refine DD.ok (k := 3) sc_law_parting (fun vs H Q E h => Pu.spW_len (n := 2) h (fun o ss R X h => ?_)) (fun f cdv A outer s H vs Q E hr h => ?_)
  · obtain ⟨x, b1, b2, b3, bk, fs, ws, f, w, p, h, rfl, rfl, hb, hf, hw, hz, hR⟩ := h
    rfl
  · refine ⟨_, (pss_cons (ps_set (i := 3) sc_law_parting.nd rfl (by first | exact Or.inl rfl | exact Or.inr rfl) (pe_lst pa_nil))
      (pss_cons (ps_set (i := 4) sc_law_parting.nd rfl (by first | exact Or.inl rfl | exact Or.inr rfl) (pe_un un_neg pe_int))
      (Own.pss_join (ExcR.ps_try (fun pins D => (pss_one (ps_set (i := 4) sc_law_parting.nd rfl (by first | exact Or.inl rfl | exact Or.inr rfl) (Pu.pe_mthS c_Village_part G.cl_Village (hr.mono (by decide)) (ExcR.passes_try (pins := pins) (D := D) (i := 5) rfl rfl sc_law_parting.nd rfl rfl rfl G.m_MeldError (by decide) (fun a => (pss_one (ps_set (i := 3) sc_law_parting.nd rfl (by first | exact Or.inl rfl | exact Or.inr rfl) (pe_lst (pa_cons (pe_callB (ExcR.call_isiEK (K := K)) (by rfl) G.isinstance boot_isinstance (pa_cons (pv 5) (pa_cons (pe_bltn (v := .ty "ValueError") rfl G.ValueError (by decide +kernel) rfl) pa_nil))) (pa_cons (pe_callB (ExcR.call_isiEK (K := K)) (by rfl) G.isinstance boot_isinstance (pa_cons (pv 5) (pa_cons (ExcR.pe_cls G.m_NoStrip) pa_nil))) (pa_cons (pe_callB (ExcR.call_isiEK (K := K)) (by rfl) G.isinstance boot_isinstance (pa_cons (pv 5) (pa_cons (ExcR.pe_cls G.m_BadPart) pa_nil))) (pa_cons (pe_callB (ExcR.call_isiEK (K := K)) (by rfl) G.isinstance boot_isinstance (pa_cons (pv 5) (pa_cons (ExcR.pe_cls G.m_TooManyStrips) pa_nil))) pa_nil))))))))) (pv 0) (pa_cons (pv 1) (pa_cons (pv 2) pa_nil)))))))
      (pss_one (ps_ret (pe_tup (pa_cons (pv 4) (pa_cons (pv 3) pa_nil)))))))), Pu.fnW_use (n := 2) h
      (ss_seq (ss_asg (se_lst sa_nil) (sg_name 3))
        (ss_seq (ss_asg (se_neg se_int) (sg_name 4))
        (ss_join (ss_try (E' := fun _ => E) ["MeldError", "TooManyStrips", "BadHolder", "BadWidth", "NoStrip", "BadPart", "BookFull"] (fun c hc => by
        simp only [List.mem_cons, List.not_mem_nil, or_false] at hc
        rcases hc with rfl | rfl | rfl | rfl | rfl | rfl | rfl
        · exact ⟨G.g_MeldError, G.x_MeldError_MeldError⟩
        · exact ⟨G.g_TooManyStrips, G.x_TooManyStrips_MeldError⟩
        · exact ⟨G.g_BadHolder, G.x_BadHolder_MeldError⟩
        · exact ⟨G.g_BadWidth, G.x_BadWidth_MeldError⟩
        · exact ⟨G.g_NoStrip, G.x_NoStrip_MeldError⟩
        · exact ⟨G.g_BadPart, G.x_BadPart_MeldError⟩
        · exact ⟨G.g_BookFull, G.x_BookFull_MeldError⟩)
        (fun D => (ss_frz 2 (ss_frz 1 (ss_asgW (sw_methS 0 nf_Village_part (sa_cons (se_var 1) (sa_cons (se_var 2) sa_nil))) (sg_name 4))))) (ss_asg (se_lst (sa_cons (se_isiE (sa_cons (se_var 5) (sa_cons se_ty sa_nil))) (sa_cons (se_isiE (sa_cons (se_var 5) (sa_cons se_ref sa_nil))) (sa_cons (se_isiE (sa_cons (se_var 5) (sa_cons se_ref sa_nil))) (sa_cons (se_isiE (sa_cons (se_var 5) (sa_cons se_ref sa_nil))) sa_nil))))) (sg_name 3)))
        (ss_frz 3 (ss_frz 4 (ss_retW (se_tup (sa_cons (se_var 4) (sa_cons (se_var 3) sa_nil))))))))) (by decide) (fun o ss R X h => ?_)⟩
    obtain ⟨x, b1, b2, b3, bk, fs, ws, f, w, p, h, rfl, rfl, hb, hf, hw, hz, hR⟩ := h
    refine ⟨rfl, ?_⟩
    refine ⟨by simp, ?_⟩
    refine join_of (fun γ' => ∃ (o' : O) (d : D) (ks : List Bool), γ' = [some (.own o'), some (.sh (.int p)), some (.sh (.int h)), some (.own (ks.map D.bl)), some (.sh d), none] ∧ (vO (ExcR.clsOf mg "Village") x b1 b2 b3 bk (fs ++ [f]) (ws ++ [w])).from o' ∧ R o' (.tup [d, .lst (ks.map D.bl)])) ?_ ?_
    · refine ⟨rfl, rfl, x, b1, b2, b3, bk, fs, ws, f, w, p, h, rfl, rfl, by omega, hf, hw, hz, ?_⟩
      unfold partRE
      rw [if_neg (by omega)]
      rcases part_cases f p h with ⟨e, k⟩ | ⟨e, k⟩ | ⟨e, k⟩ | ⟨e, k, _⟩
      · rw [k, if_neg (by decide), if_neg (by decide)] at hR
        rw [e]
        exact ⟨by simp, _, G.g_NoStrip, G.k_NoStrip_ValueError, _, G.g_NoStrip, G.k_NoStrip_NoStrip, _, G.g_NoStrip, G.k_NoStrip_BadPart, _, G.g_NoStrip, G.k_NoStrip_TooManyStrips, by simp, _, _, [true, true, false, false], rfl, ⟨rfl, by simp⟩, hR⟩
      · rw [k, if_neg (by decide), if_neg (by decide)] at hR
        rw [e]
        exact ⟨by simp, _, G.g_BadPart, G.k_BadPart_ValueError, _, G.g_BadPart, G.k_BadPart_NoStrip, _, G.g_BadPart, G.k_BadPart_BadPart, _, G.g_BadPart, G.k_BadPart_TooManyStrips, by simp, _, _, [true, false, true, false], rfl, ⟨rfl, by simp⟩, hR⟩
      · rw [k, if_neg (by decide), if_neg (by decide)] at hR
        rw [e]
        exact ⟨by simp, _, G.g_TooManyStrips, G.k_TooManyStrips_ValueError, _, G.g_TooManyStrips, G.k_TooManyStrips_NoStrip, _, G.g_TooManyStrips, G.k_TooManyStrips_BadPart, _, G.g_TooManyStrips, G.k_TooManyStrips_TooManyStrips, by simp, _, _, [true, false, false, true], rfl, ⟨rfl, by simp⟩, hR⟩
      · rw [k, if_pos rfl, if_pos rfl] at hR
        rw [e]
        exact ⟨_, _, [], rfl, ⟨rfl, by simp⟩, hR⟩
    · rintro γ' ⟨o', d, ks, rfl, hfr, hR'⟩
      exact ⟨by simp, _, rfl, hfr, hR'⟩
end
end T


namespace T
open PySem PySem.Spec PyProof.Rows L2 Own M Pu
section
variable {P : Program} {w : World} {K : PySem.W.Frag} {mg : Str → Option Value} {base : Heap}
theorem ok_law (G : Glob K mg) (DD : Def K mg "law" s_law ["_law_script"])
    (c_law_menu : Callee P w K mg base CX0 1 "_law_menu" ["_law_cell"] (Pu.spOf mg pc_law_menu K))
    (c_law_strips : Callee P w K mg base CX0 3 "_law_strips" ["_law_script", "_law_menu_here", "_law_many"] (Pu.spOf mg pc_law_strips K))
    (c_Village_init : Pu.CalleeM P w K mg base (ExcR.CXe P w) 3 (Mk K (ExcR.clsOf mg "Village")) ["self", "strips"] (Pu.spW mg (pw_Village_init (ExcR.clsOf mg "Village")) K))
    (c_law_draw : Callee P w K mg base CX0 2 "_law_draw" ["_law_script", "_law_k"] (Pu.spOf mg pc_law_draw K))
    (c_law_at : Callee P w K mg base CX0 1 "_law_at" ["_law_script", "_law_k"] (Pu.spOf mg pc_law_at K))
    (c_law_place : Callee P w K mg base CX0 1 "_law_place" ["_law_cell", "_law_strips_here"] (Pu.spOf mg pc_law_place K))
    (c_law_wide : Callee P w K mg base CX0 2 "_law_wide" ["_law_cell", "_law_strips_here", "_law_place_here"] (Pu.spOf mg pc_law_wide K))
    (c_law_parting : Callee P w K mg base CX0 4 "_law_parting" ["_law_village", "_law_place_here", "_law_width_here"] (Pu.spW mg (pw_law_parting (ExcR.clsOf mg "Village")) K))
    (c_law_due : Callee P w K mg base CX0 1 "_law_due" ["_law_strips_here", "_law_place_here", "_law_width_here"] (Pu.spOf mg pc_law_due K))
    (c_law_tuples : Callee P w K mg base CX0 2 "_law_tuples" ["_law_found", "_law_due_here"] (Pu.spOf mg pc_law_tuples K))
    (c_law_book_is : Callee P w K mg base CX0 3 "_law_book_is" ["_law_found", "_law_due_here"] (Pu.spOf mg pc_law_book_is K))
    (c_law_whole : Callee P w K mg base CX0 1 "_law_whole" ["_law_found"] (Pu.spOf mg pc_law_whole K))
    (c_Village_strips : Pu.CalleeM P w K mg base CX0 1 (Meth K (ExcR.clsOf mg "Village") "strips") ["self"] (Pu.spOf mg (pc_Village_strips (ExcR.clsOf mg "Village")) K))
    (c_Village_deeds : Pu.CalleeM P w K mg base CX0 1 (Meth K (ExcR.clsOf mg "Village") "deeds") ["self"] (Pu.spOf mg (pc_Village_deeds (ExcR.clsOf mg "Village")) K))
    : Callee P w K mg base CX0 5 "law" ["_law_script"] (Pu.spOf mg pc_law K) := by
  refine DD.ok (k := 4) sc_law (fun vs H Q E h => spOf_len h (fun ds R X h => ?_)) (fun f cdv A outer s H vs Q E hr h => ?_)
  · obtain ⟨ns, rfl, hR⟩ := h
    rfl
  · refine ⟨_, (pss_cons (ps_set (i := 1) sc_law.nd rfl (by first | exact Or.inl rfl | exact Or.inr rfl) (Own.pe_fn c_law_menu (hr.mono (by decide)) pass0 (pa_cons (Own.pe_fn c_law_draw (hr.mono (by decide)) pass0 (pa_cons (pv 0) (pa_cons pe_int pa_nil))) pa_nil)))
      (pss_cons (ps_set (i := 2) sc_law.nd rfl (by first | exact Or.inl rfl | exact Or.inr rfl) (pe_op op_fdiv (Own.pe_fn c_law_at (hr.mono (by decide)) pass0 (pa_cons (pv 0) (pa_cons pe_int pa_nil))) pe_int))
      (pss_cons (ps_set (i := 3) sc_law.nd rfl (by first | exact Or.inl rfl | exact Or.inr rfl) (pe_ix (Own.ix_ltK (K := K)) (pe_lst (pa_cons (pe_op op_mod (pe_op op_fdiv (pv 2) pe_int) pe_int) (pa_cons (pe_op op_mod (pe_op op_fdiv (pv 2) pe_int) pe_int) (pa_cons (pe_op op_add pe_int (pe_op op_mod (pe_op op_fdiv (pv 2) pe_int) pe_int)) pa_nil)))) (pe_op op_mod (pv 2) pe_int) (fun _ _ => rfl)))
      (pss_cons (ps_set (i := 4) sc_law.nd rfl (by first | exact Or.inl rfl | exact Or.inr rfl) (Own.pe_fn c_law_strips (hr.mono (by decide)) pass0 (pa_cons (pv 0) (pa_cons (pv 1) (pa_cons (pv 3) pa_nil)))))
      (pss_cons (ps_set (i := 5) sc_law.nd rfl (by first | exact Or.inl rfl | exact Or.inr rfl) (Pu.pe_new c_Village_init G.m_Village (hr.mono (by decide)) Pu.passes_no (pa_cons (pe_callTy (Pu.call_listK (K := K)) (by rfl) G.list boot_list (pa_cons (pv 4) pa_nil)) pa_nil)))
      (pss_cons (ps_set (i := 6) sc_law.nd rfl (by first | exact Or.inl rfl | exact Or.inr rfl) (pe_lst pa_nil))
      (pss_cons (ps_for PassesOwn.never rfl (pi_range1 rfl G.range (pa_cons (pe_op op_add pe_int (pe_op op_mod (Own.pe_fn c_law_draw (hr.mono (by decide)) pass0 (pa_cons (pv 0) (pa_cons pe_int pa_nil))) pe_int)) pa_nil)) (pg_name (i := 7) sc_law.nd rfl (by first | exact Or.inl rfl | exact Or.inr rfl))
      (pss_cons (ps_set (i := 8) sc_law.nd rfl (by first | exact Or.inl rfl | exact Or.inr rfl) (Own.pe_fn c_law_draw (hr.mono (by decide)) pass0 (pa_cons (pv 0) (pa_cons (pe_op op_add pe_int (pv 7)) pa_nil))))
      (pss_cons (ps_set (i := 9) sc_law.nd rfl (by first | exact Or.inl rfl | exact Or.inr rfl) (Own.pe_fn c_law_place (hr.mono (by decide)) pass0 (pa_cons (pv 8) (pa_cons (pv 4) pa_nil))))
      (pss_cons (ps_set (i := 10) sc_law.nd rfl (by first | exact Or.inl rfl | exact Or.inr rfl) (Own.pe_fn c_law_wide (hr.mono (by decide)) pass0 (pa_cons (pe_op op_fdiv (pe_op op_fdiv (pv 8) pe_int) (pe_callB (call_max2 rfl) (by rfl) G.max boot_max (pa_cons pe_int (pa_cons (pe_callB (Own.call_lenK (K := K)) (by rfl) G.len PySem.boot_len (pa_cons (pv 4) pa_nil)) pa_nil)))) (pa_cons (pv 4) (pa_cons (pv 9) pa_nil)))))
      (pss_cons (ps_set (i := 11) sc_law.nd rfl (by first | exact Or.inl rfl | exact Or.inr rfl) (Own.pe_fn c_law_parting (hr.mono (by decide)) pass0 (pa_cons (pv 5) (pa_cons (pv 9) (pa_cons (pv 10) pa_nil)))))
      (Own.pss_join (ps_set (i := 12) sc_law.nd rfl (by first | exact Or.inl rfl | exact Or.inr rfl) (Own.pe_fn c_law_due (hr.mono (by decide)) pass0 (pa_cons (pv 4) (pa_cons (pv 9) (pa_cons (pv 10) pa_nil)))))
      (pss_cons (ps_if (pt_cmpR (Pu.op_neLK (K := K) (show _ < cLine from hr.units0)) (pe_ix (Own.ix_ltK (K := K)) (pv 11) pe_int (fun _ _ => rfl)) (pv 12) (nomark _))
      (pss_one (ps_ret pe_bl))
      pss_nil)
      (Own.pss_join (ps_if (pt_cmpR (Own.op_eqE (K := K) (show _ < cLine from hr.units0)) (pv 12) (pe_lst pa_nil) (nomark _))
      (pss_cons (ps_expr (pe_bm PySem.F.plainAttrs_list PySem.F.slot_list_append PySem.F.type_list_append mt_append (pv 6) (pa_cons (pe_tup (pa_cons pe_str (pa_cons (pv 9) (pa_cons (pv 10) pa_nil)))) pa_nil)))
      (pss_cons (ps_asg (pe_ix (Own.ix_ltK (K := K)) (pv 4) (pe_op op_sub (pv 9) pe_int) (fun _ _ => rfl)) (Own.pg_tupK (K := K) (n := 2) rfl (pgs_cons (pg_name (i := 13) sc_law.nd rfl (by first | exact Or.inl rfl | exact Or.inr rfl)) (pgs_cons (pg_name (i := 14) sc_law.nd rfl (by first | exact Or.inl rfl | exact Or.inr rfl)) pgs_nil))))
      (pss_cons (ps_set (i := 15) sc_law.nd rfl (by first | exact Or.inl rfl | exact Or.inr rfl) (pe_lst (pa_cons (pe_tup (pa_cons (pv 13) (pa_cons (pv 10) pa_nil))) (pa_cons (pe_tup (pa_cons (pv 13) (pa_cons (pe_op op_sub (pv 14) (pv 10)) pa_nil))) pa_nil))))
      (pss_cons (ps_set (i := 4) sc_law.nd rfl (by first | exact Or.inl rfl | exact Or.inr rfl) (pe_op op_cat (pe_op op_cat (pe_slice (Pu.sl_listK (K := K)) (pv 4) po_none (po_some (pe_op op_sub (pv 9) pe_int))) (pv 15)) (pe_slice (Pu.sl_listK (K := K)) (pv 4) (po_some (pv 9)) po_none)))
      (pss_one (ps_if (PW.pt (pw_or (pt_not (Pu.pt_tru (K := K) (Own.pe_fn c_law_whole (hr.mono (by decide)) pass0 (pa_cons (pe_ix (Own.ix_ltK (K := K)) (pv 11) pe_int (fun _ _ => rfl)) pa_nil)))) (pw_or1 (pt_cmpR (Pu.op_neU (K := K) (show _ < cLine from hr.units0)) (pe_ix (Own.ix_ltK (K := K)) (pv 11) pe_int (fun _ _ => rfl)) (pe_callB (Own.call_lenK (K := K)) (by rfl) G.len PySem.boot_len (pa_cons (pv 6) pa_nil)) (nomark _)))))
      (pss_one (ps_ret pe_bl))
      pss_nil))))))
      pss_nil)
      (pss_one (ps_if (PW.pt (pw_or (pt_not (Pu.pt_tru (K := K) (Own.pe_fn c_law_tuples (hr.mono (by decide)) pass0 (pa_cons (Pu.pe_mth0 c_Village_strips G.cl_Village (hr.mono (by decide)) pass0 (pv 5)) (pa_cons (pv 4) pa_nil))))) (pw_or1 (pt_not (Pu.pt_tru (K := K) (Own.pe_fn c_law_book_is (hr.mono (by decide)) pass0 (pa_cons (Pu.pe_mth0 c_Village_deeds G.cl_Village (hr.mono (by decide)) pass0 (pv 5)) (pa_cons (pv 6) pa_nil))))))))
      (pss_one (ps_ret pe_bl))
      pss_nil))))))))))
      (pss_one (ps_ret pe_bl))))))))), Pu.fn_use (n := 1) h
      (ss_seq (ss_asg (se_call (sa_cons (se_call (sa_cons (se_var 0) (sa_cons se_int sa_nil))) sa_nil)) (sg_name 1))
        (ss_seq (ss_asg (se_fdiv (se_call (sa_cons (se_var 0) (sa_cons se_int sa_nil))) se_int) (sg_name 2))
        (ss_seq (ss_asg (se_ix (se_lst (sa_cons (se_mod (se_fdiv (se_var 2) se_int) se_int) (sa_cons (se_mod (se_fdiv (se_var 2) se_int) se_int) (sa_cons (se_add se_int (se_mod (se_fdiv (se_var 2) se_int) se_int)) sa_nil)))) (se_mod (se_var 2) se_int)) (sg_name 3))
        (ss_seq (ss_asg (se_call (sa_cons (se_var 0) (sa_cons (se_var 1) (sa_cons (se_var 3) sa_nil)))) (sg_name 4))
        (ss_seq (ss_asg (se_makeN (sa_cons (se_list (sa_cons (se_var 4) sa_nil)) sa_nil)) (sg_name 5))
        (ss_seq (ss_asg (se_lst sa_nil) (sg_name 6))
        (ss_seq (ss_for [7, 8, 9, 10, 11, 12, 13, 14, 15] (si_range1 (sa_cons (se_add se_int (se_mod (se_call (sa_cons (se_var 0) (sa_cons se_int sa_nil))) se_int)) sa_nil)) (sg_name 7)
        (ss_seq (ss_asg (se_call (sa_cons (se_var 0) (sa_cons (se_add se_int (se_var 7)) sa_nil))) (sg_name 8))
        (ss_seq (ss_asg (se_call (sa_cons (se_var 8) (sa_cons (se_var 4) sa_nil))) (sg_name 9))
        (ss_seq (ss_asg (se_call (sa_cons (se_fdiv (se_fdiv (se_var 8) se_int) (se_max2 (sa_cons se_int (sa_cons (se_len (sa_cons (se_var 4) sa_nil)) sa_nil)))) (sa_cons (se_var 4) (sa_cons (se_var 9) sa_nil)))) (sg_name 10))
        (ss_seq (ss_asgW (sw_callN 5 (sa_cons (se_var 9) (sa_cons (se_var 10) sa_nil))) (sg_name 11))
        (ss_join (ss_asg (se_call (sa_cons (se_var 4) (sa_cons (se_var 9) (sa_cons (se_var 10) sa_nil)))) (sg_name 12))
        (ss_seq (ss_if (st_test (se_eqV (se_ix (se_var 11) se_int) (se_var 12))) (ss_ret se_bl) ss_next)
        (ss_join (ss_if (st_test (se_eqE (se_var 12) (se_lst sa_nil))) (ss_seq (ss_append 6 (se_tup (sa_cons se_str (sa_cons (se_var 9) (sa_cons (se_var 10) sa_nil)))))
        (ss_seq (ss_asg (se_ix (se_var 4) (se_sub (se_var 9) se_int)) (sg_tup (sgj_cons (sg_name 13) (sgj_cons (sg_name 14) sgj_nil))))
        (ss_seq (ss_asg (se_lst (sa_cons (se_tup (sa_cons (se_var 13) (sa_cons (se_var 10) sa_nil))) (sa_cons (se_tup (sa_cons (se_var 13) (sa_cons (se_sub (se_var 14) (se_var 10)) sa_nil))) sa_nil))) (sg_name 15))
        (ss_seq (ss_asg (se_cat (se_cat (se_slice (se_var 4) so_none (so_some (se_sub (se_var 9) se_int))) (se_var 15)) (se_slice (se_var 4) (so_some (se_var 9)) so_none)) (sg_name 4))
        (ss_if (st_or (st_not (st_tru (se_call (sa_cons (se_ix (se_var 11) se_int) sa_nil)))) (st_test (se_neU (se_ix (se_var 11) se_int) (se_len (sa_cons (se_var 6) sa_nil))))) (ss_ret se_bl) ss_next))))) ss_next)
        (ss_if (st_or (st_not (st_tru (se_call (sa_cons (se_methN nf_Village_strips (se_var 5) sa_nil) (sa_cons (se_var 4) sa_nil))))) (st_not (st_tru (se_call (sa_cons (se_methN nf_Village_deeds (se_var 5) sa_nil) (sa_cons (se_var 6) sa_nil)))))) (ss_ret se_bl) ss_next)))))))))
        (ss_ret se_bl)))))))) (by decide) (fun ds R X h => ?_)⟩
    obtain ⟨ns, rfl, hR⟩ := h
    refine ⟨rfl, ?_⟩
    refine ⟨ns, 0, rfl, by decide, fun c0 => ⟨c0, rfl, fun m hM => ?_⟩⟩
    refine ⟨ns, 0, rfl, by decide, fun a0 => ⟨⟨by decide, by decide⟩, ?_⟩⟩
    have h3 : 0 ≤ a0 / 2 % 3 ∧ a0 / 2 % 3 < 3 := by omega
    refine ⟨⟨by decide, by decide⟩, (by show (0 : Int) < 41; decide), ⟨by decide, by decide⟩, (by show (0 : Int) < 41; decide), ⟨by decide, by decide⟩, (by show (0 : Int) < 3; decide), by simp, (by show (0 : Int) < 3; decide), _, at_map (f := D.int) (xs := [a0 / 2 / 3 % 41, a0 / 2 / 3 % 41, 38 + a0 / 2 / 3 % 3]) h3.1 h3.2, ?_⟩
    have hmany : ∀ v ∈ [a0 / 2 / 3 % 41, a0 / 2 / 3 % 41, 38 + a0 / 2 / 3 % 3], 0 ≤ v ∧ v ≤ 40 := by
      intro v hv
      simp only [List.mem_cons, List.not_mem_nil, or_false] at hv
      rcases hv with rfl | rfl | rfl <;> omega
    have hm := hmany _ (List.getElem_mem (l := [a0 / 2 / 3 % 41, a0 / 2 / 3 % 41, 38 + a0 / 2 / 3 % 3]) (n := (a0 / 2 % 3).toNat) (by show (a0 / 2 % 3).toNat < 3; omega))
    generalize [a0 / 2 / 3 % 41, a0 / 2 / 3 % 41, 38 + a0 / 2 / 3 % 3][(a0 / 2 % 3).toNat]'_ = many at hm ⊢
    refine ⟨ns, m, many, rfl, hM, hm.1, by omega, fun ps hF hlen => ?_⟩
    refine ⟨rfl, fun x => ⟨x, ps, rfl, rfl, by omega, ?_⟩⟩
    rw [stripE_field hF (by omega)]
    refine fun b1 b2 b3 => ⟨rfl, ?_⟩
    refine ⟨by simp, ns, 1, rfl, by decide, fun c1 => ⟨(by show (0 : Int) < 8; decide), ?_⟩⟩
    have hb : 0 ≤ c1 % 8 ∧ c1 % 8 < 8 := by omega
    refine ⟨⟨by omega, by omega⟩, forR_of (fun i γ' => ∃ (bk : List (Str × List Int)) (fs ws : List (List (Int × Int))) (f : List (Int × Int)) (s2 s3 : Option S), γ' = [some (.bor (.scr ns)), some (.own (m.map D.int)), s2, s3, some (.own (f.map prD)), some (.own (vO (ExcR.clsOf mg "Village") x b1 b2 b3 bk (fs ++ [f]) (ws ++ [[]]))), some (.own (bk.map dD)), none, none, none, none, none, none, none, none, none] ∧ bk.length ≤ i ∧ fs.length ≤ i ∧ ws.length ≤ i ∧ f.length ≤ 40 ∧ Field f ∧ ∀ q ∈ bk, q.2.length ≤ 100) ?_ ?_ ?_⟩
    · exact ⟨[], [], [], ps, _, _, rfl, Nat.le_refl _, Nat.le_refl _, Nat.le_refl _, by omega, hF, by simp⟩
    · rintro i γ' hi ⟨bk, fs, ws, f, s2, s3, rfl, h1, h2, h3, h4, hFf, h5⟩
      have hi' : i < (1 + c1 % 8).toNat := hi
      have hlm : (f.map prD).length = f.length := List.length_map ..
      refine ⟨ns, _, rfl, by omega, fun c => ?_⟩
      refine ⟨c, f, rfl, by omega, fun p => ?_⟩
      have hmx : ∀ z : Int, 0 < (if z > 1 then z else 1) ∧ ((if z > 1 then z else 1) = z ∨ (if z > 1 then z else 1) = 1) := fun z => by split <;> omega
      have hm1 := hmx (((f.map prD).length : Nat) : Int)
      refine ⟨⟨by decide, by decide⟩, ⟨hm1.1, Int.lt_of_le_of_lt (b := 40) (by rcases hm1.2 with w | w <;> rw [w] <;> omega) (by decide)⟩, _, f, p, rfl, hFf, by omega, fun h => ?_⟩
      refine ⟨x, b1, b2, b3, bk, fs, ws, f, [], p, h, rfl, rfl, by omega, by omega, by omega, by omega, ?_⟩
      have hs := part_cases f p h
      generalize eo : (if partK f p h = [] then vO (ExcR.clsOf mg "Village") x b1 b2 b3 (bk ++ [(("part" : Str), [p, h])]) (fs ++ [f] ++ [partL f p h]) (ws ++ [[]] ++ [[]]) else vO (ExcR.clsOf mg "Village") x b1 b2 b3 bk (fs ++ [f]) (ws ++ [[]])) = o'
      generalize en' : (if partK f p h = [] then (bk.length : Int) + 1 else -1) = n'
      refine join_of (fun γ' => ∃ t1 t2 : Option S, γ' = [some (.bor (.scr ns)), some (.own (m.map D.int)), s2, s3, some (.own (f.map prD)), some (.own o'), some (.own (bk.map dD)), t1, t2, some (.sh (.int p)), some (.sh (.int h)), some (.sh (.tup [.int n', .lst ((partK f p h).map D.bl)])), some (.own ((partK f p h).map D.bl)), none, none, none]) ⟨f, p, h, rfl, h4, _, _, rfl⟩ ?_
      rintro γ' ⟨t1, t2, rfl⟩
      generalize partK f p h = ks at eo en' hs ⊢
      refine ⟨_, rfl, ks.map V.bl, ks.map V.bl, scal_bl ks, scal_bl ks, flat_bl ks, flat_bl ks, ?_⟩
      show if (!eqL (ks.map V.bl) (ks.map V.bl)) = true then _ else _
      rw [eqL_bl]
      refine iteF ?_
      refine join_of (fun γ' => ∃ (bk : List (Str × List Int)) (fs ws : List (List (Int × Int))) (f : List (Int × Int)) (s2 s3 t1 t2 t3 t4 t5 t6 t7 t8 t9 : Option S), γ' = [some (.bor (.scr ns)), some (.own (m.map D.int)), s2, s3, some (.own (f.map prD)), some (.own (vO (ExcR.clsOf mg "Village") x b1 b2 b3 bk (fs ++ [f]) (ws ++ [[]]))), some (.own (bk.map dD)), t1, t2, t3, t4, t5, t6, t7, t8, t9] ∧ bk.length ≤ i + 1 ∧ fs.length ≤ i + 1 ∧ ws.length ≤ i + 1 ∧ f.length ≤ 40 ∧ Field f ∧ ∀ q ∈ bk, q.2.length ≤ 100) ?_ ?_
      · refine ⟨Nat.zero_le _, ?_⟩
        have emp : (ks.map D.bl).isEmpty = decide (ks = []) := by cases ks <;> simp
        show if (ks.map D.bl).isEmpty = true then _ else _
        rw [emp]
        refine ite2 (fun g => ?_) (fun g => ?_)
        · have hk : ks = [] := of_decide_eq_true g
          rw [if_pos hk] at eo en'
          subst eo en'
          obtain ⟨p1, p2, p3, p4, p5⟩ : 1 ≤ p ∧ p ≤ f.length ∧ 1 ≤ h ∧ h < (atP1 f p).2 ∧ f.length < 40 := by
            rcases hs with ⟨_, z⟩ | ⟨_, z⟩ | ⟨_, z⟩ | ⟨_, _, z⟩
            · rw [hk] at z; cases z
            · rw [hk] at z; cases z
            · rw [hk] at z; cases z
            · exact z
          have lb : (bk.map dD).length = bk.length := List.length_map ..
          have e1 : bk.map dD ++ [dD (("part" : Str), [p, h])] = (bk ++ [(("part" : Str), [p, h])]).map dD := by rw [List.map_append]; rfl
          have e3 : ((((bk.map dD ++ [dD (("part" : Str), [p, h])]).length : Nat)) : Int) = (bk.length : Int) + 1 := by rw [List.length_append, lb]; simp
          have l1 : (cutD (f.map prD) none (some (p - 1))).length ≤ 1000 := by have := (cutD_sub (f.map prD) none (some (p - 1))).length_le; rw [List.length_map] at this; omega
          have l2 : (cutD (f.map prD) (some p) none).length ≤ 1000 := by have := (cutD_sub (f.map prD) (some p) none).length_le; rw [List.length_map] at this; omega
          refine ⟨by simp, by omega, ?_⟩
          refine ⟨_, atP1_eq (by omega) (by omega), rfl, ?_⟩
          refine ⟨by simp, by simp, by simp, ?_⟩
          refine ⟨rfl, rfl, rfl, Nat.le_trans (Nat.add_le_add l1 (Nat.le_refl 2)) (by decide), rfl, rfl, rfl, Nat.le_trans (Nat.add_le_add (by rw [List.length_append]; exact Nat.add_le_add l1 (Nat.le_refl 2)) l2) (by decide), ?_⟩
          refine ⟨_, rfl, _, rfl, iteF ⟨_, rfl, ?_⟩⟩
          show if (!decide ((bk.length : Int) + 1 = (((bk.map dD ++ [dD (("part" : Str), [p, h])]).length : Nat) : Int))) = true then _ else _
          rw [e3]
          refine iteNS rfl ⟨bk ++ [(("part" : Str), [p, h])], fs ++ [f], ws ++ [[]], partL f p h, s2, s3, t1, t2, some (.sh (.int p)), some (.sh (.int h)), some (.sh (.tup [.int ((bk.length : Int) + 1), .lst (ks.map D.bl)])), some (.own (ks.map D.bl)), some (.sh (.int (atP1 f p).1)), some (.sh (.int (atP1 f p).2)), some (.own [prD ((atP1 f p).1, h), prD ((atP1 f p).1, (atP1 f p).2 - h)]), ?_, by simp; omega, by simp; omega, by simp; omega, by rw [partL_len p1 p2]; omega, partL_field hFf p1 p2 p3 p4, ?_⟩
          · rw [← e1, ← partL_eq p1]
            rfl
          · intro q hq
            rcases List.mem_append.mp hq with hq | hq
            · exact h5 q hq
            · rw [List.mem_singleton] at hq
              subst hq
              show 2 ≤ 100
              decide
        · have hk : ¬ ks = [] := fun z => g (decide_eq_true z)
          rw [if_neg hk] at eo
          subst eo
          exact ⟨bk, fs, ws, f, _, _, _, _, _, _, _, _, _, _, _, rfl, by omega, by omega, by omega, h4, hFf, h5⟩
      · rintro γ' ⟨bk, fs, ws, f, s2, s3, t1, t2, t3, t4, t5, t6, t7, t8, t9, rfl, h1, h2, h3, h4, hFf, h5⟩
        refine ⟨rfl, rfl, bk, fs, ws ++ [[]], f, rfl, f, rfl, by omega, iteF ?_⟩
        refine ⟨rfl, rfl, bk, fs ++ [f], ws ++ [[]], rfl, bk, rfl, h5, by omega, iteF ?_⟩
        exact ⟨bk, fs, ws, f, s2, s3, rfl, h1, h2, h3, h4, hFf, h5⟩
    · rintro γ' ⟨bk, fs, ws, f, s2, s3, rfl, h1, h2, h3, h4, hFf, h5⟩
      exact hR
end
end T

namespace T
open PySem PySem.Spec PyProof.Rows L2 Own M
theorem all_mk {l : PySem.W.OpenLaw} {w : World} {K : PySem.W.Frag} {h : Heap} {mg : Str → Option Value} {fa : Addr} (X : K.In h) (G0 : h.Ns mainGlobals mg) (hfa : mg "law" = some (.ref fa))
    {C_Village : Addr} (a_Village : PySem.W.nsIn K mainGlobals "Village" = some (some (.ref C_Village)))
    (pg_Village : PySem.W.plainGet K C_Village Str.empty = true) (hd_Village : PySem.W.hasDictIn K C_Village = true) (po_Village : PySem.W.plainOver K C_Village = true) (sa_Village : PySem.W.findIn K (.ref C_Village) "__setattr__" = some (some (.builtin "object.__setattr__"))) (mk_Village : PySem.W.makesIn K C_Village = true) (kc_Village : PySem.W.keepIn K (.ref C_Village) = true)
    (nA_Village_book : PySem.W.findIn K (.ref C_Village) "book" = some none)
    (nA_Village_fields : PySem.W.findIn K (.ref C_Village) "fields" = some none)
    (nA_Village_wished : PySem.W.findIn K (.ref C_Village) "wished" = some none)
    {f0 : Addr} {od0 an0 : Option Addr} {sl0 : Array (Option Value)} {oc0 kV0 dc0 pm0 cd0 ct0 : Value}
    (a0 : PySem.W.nsIn K mainGlobals "check_holder" = some (some (.ref f0)))
    (l0 : K.lookup f0 = some ⟨oc0, od0, .func (PySem.W.fnOf "check_holder" "check_holder" (defArgs s_check_holder) (defBody s_check_holder) (defScope s_check_holder) .none kV0 dc0 pm0 an0 cd0 ct0), sl0⟩)
    (c0 : PySem.W.codeIn K cd0 "check_holder" = true) (k0 : PySem.W.keepIn K (.ref f0) = true)
    {f1 : Addr} {od1 an1 : Option Addr} {sl1 : Array (Option Value)} {oc1 kV1 dc1 pm1 cd1 ct1 : Value}
    (a1 : PySem.W.nsIn K mainGlobals "check_width" = some (some (.ref f1)))
    (l1 : K.lookup f1 = some ⟨oc1, od1, .func (PySem.W.fnOf "check_width" "check_width" (defArgs s_check_width) (defBody s_check_width) (defScope s_check_width) .none kV1 dc1 pm1 an1 cd1 ct1), sl1⟩)
    (c1 : PySem.W.codeIn K cd1 "check_width" = true) (k1 : PySem.W.keepIn K (.ref f1) = true)
    {f2 : Addr} {od2 an2 : Option Addr} {sl2 : Array (Option Value)} {oc2 kV2 dc2 pm2 cd2 ct2 : Value}
    (a2 : PySem.W.nsIn K mainGlobals "check_strips" = some (some (.ref f2)))
    (l2 : K.lookup f2 = some ⟨oc2, od2, .func (PySem.W.fnOf "check_strips" "check_strips" (defArgs s_check_strips) (defBody s_check_strips) (defScope s_check_strips) .none kV2 dc2 pm2 an2 cd2 ct2), sl2⟩)
    (c2 : PySem.W.codeIn K cd2 "check_strips" = true) (k2 : PySem.W.keepIn K (.ref f2) = true)
    {f3 : Addr} {od3 an3 : Option Addr} {sl3 : Array (Option Value)} {oc3 kV3 dc3 pm3 cd3 ct3 : Value}
    (a3 : PySem.W.nsIn K mainGlobals "check_place" = some (some (.ref f3)))
    (l3 : K.lookup f3 = some ⟨oc3, od3, .func (PySem.W.fnOf "check_place" "check_place" (defArgs s_check_place) (defBody s_check_place) (defScope s_check_place) .none kV3 dc3 pm3 an3 cd3 ct3), sl3⟩)
    (c3 : PySem.W.codeIn K cd3 "check_place" = true) (k3 : PySem.W.keepIn K (.ref f3) = true)
    {f4 : Addr} {od4 an4 : Option Addr} {sl4 : Array (Option Value)} {oc4 kV4 dc4 pm4 cd4 ct4 : Value}
    (a4 : PySem.W.nsIn K mainGlobals "parted" = some (some (.ref f4)))
    (l4 : K.lookup f4 = some ⟨oc4, od4, .func (PySem.W.fnOf "parted" "parted" (defArgs s_parted) (defBody s_parted) (defScope s_parted) .none kV4 dc4 pm4 an4 cd4 ct4), sl4⟩)
    (c4 : PySem.W.codeIn K cd4 "parted" = true) (k4 : PySem.W.keepIn K (.ref f4) = true)
    {f5 : Addr} {od5 an5 : Option Addr} {sl5 : Array (Option Value)} {oc5 kV5 dc5 pm5 cd5 ct5 : Value}
    (a5 : PySem.W.findIn K (.ref C_Village) "__init__" = some (some (.ref f5))) (i5 : PySem.W.isFn K (.ref f5) = true)
    (l5 : K.lookup f5 = some ⟨oc5, od5, .func (PySem.W.fnOf "__init__" "Village.__init__" (defArgs s_Village_init) (defBody s_Village_init) (defScope s_Village_init) .none kV5 dc5 pm5 an5 cd5 ct5), sl5⟩)
    (c5 : PySem.W.codeIn K cd5 "Village.__init__" = true) (k5 : PySem.W.keepIn K (.ref f5) = true)
    {f6 : Addr} {od6 an6 : Option Addr} {sl6 : Array (Option Value)} {oc6 kV6 dc6 pm6 cd6 ct6 : Value}
    (a6 : PySem.W.findIn K (.ref C_Village) "strips" = some (some (.ref f6))) (i6 : PySem.W.isFn K (.ref f6) = true)
    (l6 : K.lookup f6 = some ⟨oc6, od6, .func (PySem.W.fnOf "strips" "Village.strips" (defArgs s_Village_strips) (defBody s_Village_strips) (defScope s_Village_strips) .none kV6 dc6 pm6 an6 cd6 ct6), sl6⟩)
    (c6 : PySem.W.codeIn K cd6 "Village.strips" = true) (k6 : PySem.W.keepIn K (.ref f6) = true)
    {f7 : Addr} {od7 an7 : Option Addr} {sl7 : Array (Option Value)} {oc7 kV7 dc7 pm7 cd7 ct7 : Value}
    (a7 : PySem.W.findIn K (.ref C_Village) "wishes" = some (some (.ref f7))) (i7 : PySem.W.isFn K (.ref f7) = true)
    (l7 : K.lookup f7 = some ⟨oc7, od7, .func (PySem.W.fnOf "wishes" "Village.wishes" (defArgs s_Village_wishes) (defBody s_Village_wishes) (defScope s_Village_wishes) .none kV7 dc7 pm7 an7 cd7 ct7), sl7⟩)
    (c7 : PySem.W.codeIn K cd7 "Village.wishes" = true) (k7 : PySem.W.keepIn K (.ref f7) = true)
    {f8 : Addr} {od8 an8 : Option Addr} {sl8 : Array (Option Value)} {oc8 kV8 dc8 pm8 cd8 ct8 : Value}
    (a8 : PySem.W.findIn K (.ref C_Village) "deeds" = some (some (.ref f8))) (i8 : PySem.W.isFn K (.ref f8) = true)
    (l8 : K.lookup f8 = some ⟨oc8, od8, .func (PySem.W.fnOf "deeds" "Village.deeds" (defArgs s_Village_deeds) (defBody s_Village_deeds) (defScope s_Village_deeds) .none kV8 dc8 pm8 an8 cd8 ct8), sl8⟩)
    (c8 : PySem.W.codeIn K cd8 "Village.deeds" = true) (k8 : PySem.W.keepIn K (.ref f8) = true)
    {f9 : Addr} {od9 an9 : Option Addr} {sl9 : Array (Option Value)} {oc9 kV9 dc9 pm9 cd9 ct9 : Value}
    (a9 : PySem.W.findIn K (.ref C_Village) "check_room" = some (some (.ref f9))) (i9 : PySem.W.isFn K (.ref f9) = true)
    (l9 : K.lookup f9 = some ⟨oc9, od9, .func (PySem.W.fnOf "check_room" "Village.check_room" (defArgs s_Village_check_room) (defBody s_Village_check_room) (defScope s_Village_check_room) .none kV9 dc9 pm9 an9 cd9 ct9), sl9⟩)
    (c9 : PySem.W.codeIn K cd9 "Village.check_room" = true) (k9 : PySem.W.keepIn K (.ref f9) = true)
    {f10 : Addr} {od10 an10 : Option Addr} {sl10 : Array (Option Value)} {oc10 kV10 dc10 pm10 cd10 ct10 : Value}
    (a10 : PySem.W.findIn K (.ref C_Village) "enter" = some (some (.ref f10))) (i10 : PySem.W.isFn K (.ref f10) = true)
    (l10 : K.lookup f10 = some ⟨oc10, od10, .func (PySem.W.fnOf "enter" "Village.enter" (defArgs s_Village_enter) (defBody s_Village_enter) (defScope s_Village_enter) .none kV10 dc10 pm10 an10 cd10 ct10), sl10⟩)
    (c10 : PySem.W.codeIn K cd10 "Village.enter" = true) (k10 : PySem.W.keepIn K (.ref f10) = true)
    {f11 : Addr} {od11 an11 : Option Addr} {sl11 : Array (Option Value)} {oc11 kV11 dc11 pm11 cd11 ct11 : Value}
    (a11 : PySem.W.findIn K (.ref C_Village) "part" = some (some (.ref f11))) (i11 : PySem.W.isFn K (.ref f11) = true)
    (l11 : K.lookup f11 = some ⟨oc11, od11, .func (PySem.W.fnOf "part" "Village.part" (defArgs s_Village_part) (defBody s_Village_part) (defScope s_Village_part) .none kV11 dc11 pm11 an11 cd11 ct11), sl11⟩)
    (c11 : PySem.W.codeIn K cd11 "Village.part" = true) (k11 : PySem.W.keepIn K (.ref f11) = true)
    {f12 : Addr} {od12 an12 : Option Addr} {sl12 : Array (Option Value)} {oc12 kV12 dc12 pm12 cd12 ct12 : Value}
    (a12 : PySem.W.nsIn K mainGlobals "_law_at" = some (some (.ref f12)))
    (l12 : K.lookup f12 = some ⟨oc12, od12, .func (PySem.W.fnOf "_law_at" "_law_at" (defArgs s_law_at) (defBody s_law_at) (defScope s_law_at) .none kV12 dc12 pm12 an12 cd12 ct12), sl12⟩)
    (c12 : PySem.W.codeIn K cd12 "_law_at" = true) (k12 : PySem.W.keepIn K (.ref f12) = true)
    {f13 : Addr} {od13 an13 : Option Addr} {sl13 : Array (Option Value)} {oc13 kV13 dc13 pm13 cd13 ct13 : Value}
    (a13 : PySem.W.nsIn K mainGlobals "_law_whole" = some (some (.ref f13)))
    (l13 : K.lookup f13 = some ⟨oc13, od13, .func (PySem.W.fnOf "_law_whole" "_law_whole" (defArgs s_law_whole) (defBody s_law_whole) (defScope s_law_whole) .none kV13 dc13 pm13 an13 cd13 ct13), sl13⟩)
    (c13 : PySem.W.codeIn K cd13 "_law_whole" = true) (k13 : PySem.W.keepIn K (.ref f13) = true)
    {f14 : Addr} {od14 an14 : Option Addr} {sl14 : Array (Option Value)} {oc14 kV14 dc14 pm14 cd14 ct14 : Value}
    (a14 : PySem.W.nsIn K mainGlobals "_law_mix" = some (some (.ref f14)))
    (l14 : K.lookup f14 = some ⟨oc14, od14, .func (PySem.W.fnOf "_law_mix" "_law_mix" (defArgs s_law_mix) (defBody s_law_mix) (defScope s_law_mix) .none kV14 dc14 pm14 an14 cd14 ct14), sl14⟩)
    (c14 : PySem.W.codeIn K cd14 "_law_mix" = true) (k14 : PySem.W.keepIn K (.ref f14) = true)
    {f15 : Addr} {od15 an15 : Option Addr} {sl15 : Array (Option Value)} {oc15 kV15 dc15 pm15 cd15 ct15 : Value}
    (a15 : PySem.W.nsIn K mainGlobals "_law_draw" = some (some (.ref f15)))
    (l15 : K.lookup f15 = some ⟨oc15, od15, .func (PySem.W.fnOf "_law_draw" "_law_draw" (defArgs s_law_draw) (defBody s_law_draw) (defScope s_law_draw) .none kV15 dc15 pm15 an15 cd15 ct15), sl15⟩)
    (c15 : PySem.W.codeIn K cd15 "_law_draw" = true) (k15 : PySem.W.keepIn K (.ref f15) = true)
    {f16 : Addr} {od16 an16 : Option Addr} {sl16 : Array (Option Value)} {oc16 kV16 dc16 pm16 cd16 ct16 : Value}
    (a16 : PySem.W.nsIn K mainGlobals "_law_menu" = some (some (.ref f16)))
    (l16 : K.lookup f16 = some ⟨oc16, od16, .func (PySem.W.fnOf "_law_menu" "_law_menu" (defArgs s_law_menu) (defBody s_law_menu) (defScope s_law_menu) .none kV16 dc16 pm16 an16 cd16 ct16), sl16⟩)
    (c16 : PySem.W.codeIn K cd16 "_law_menu" = true) (k16 : PySem.W.keepIn K (.ref f16) = true)
    {f17 : Addr} {od17 an17 : Option Addr} {sl17 : Array (Option Value)} {oc17 kV17 dc17 pm17 cd17 ct17 : Value}
    (a17 : PySem.W.nsIn K mainGlobals "_law_holder" = some (some (.ref f17)))
    (l17 : K.lookup f17 = some ⟨oc17, od17, .func (PySem.W.fnOf "_law_holder" "_law_holder" (defArgs s_law_holder) (defBody s_law_holder) (defScope s_law_holder) .none kV17 dc17 pm17 an17 cd17 ct17), sl17⟩)
    (c17 : PySem.W.codeIn K cd17 "_law_holder" = true) (k17 : PySem.W.keepIn K (.ref f17) = true)
    {f18 : Addr} {od18 an18 : Option Addr} {sl18 : Array (Option Value)} {oc18 kV18 dc18 pm18 cd18 ct18 : Value}
    (a18 : PySem.W.nsIn K mainGlobals "_law_strips" = some (some (.ref f18)))
    (l18 : K.lookup f18 = some ⟨oc18, od18, .func (PySem.W.fnOf "_law_strips" "_law_strips" (defArgs s_law_strips) (defBody s_law_strips) (defScope s_law_strips) .none kV18 dc18 pm18 an18 cd18 ct18), sl18⟩)
    (c18 : PySem.W.codeIn K cd18 "_law_strips" = true) (k18 : PySem.W.keepIn K (.ref f18) = true)
    {f19 : Addr} {od19 an19 : Option Addr} {sl19 : Array (Option Value)} {oc19 kV19 dc19 pm19 cd19 ct19 : Value}
    (a19 : PySem.W.nsIn K mainGlobals "_law_tuples" = some (some (.ref f19)))
    (l19 : K.lookup f19 = some ⟨oc19, od19, .func (PySem.W.fnOf "_law_tuples" "_law_tuples" (defArgs s_law_tuples) (defBody s_law_tuples) (defScope s_law_tuples) .none kV19 dc19 pm19 an19 cd19 ct19), sl19⟩)
    (c19 : PySem.W.codeIn K cd19 "_law_tuples" = true) (k19 : PySem.W.keepIn K (.ref f19) = true)
    {f20 : Addr} {od20 an20 : Option Addr} {sl20 : Array (Option Value)} {oc20 kV20 dc20 pm20 cd20 ct20 : Value}
    (a20 : PySem.W.nsIn K mainGlobals "_law_deed_is" = some (some (.ref f20)))
    (l20 : K.lookup f20 = some ⟨oc20, od20, .func (PySem.W.fnOf "_law_deed_is" "_law_deed_is" (defArgs s_law_deed_is) (defBody s_law_deed_is) (defScope s_law_deed_is) .none kV20 dc20 pm20 an20 cd20 ct20), sl20⟩)
    (c20 : PySem.W.codeIn K cd20 "_law_deed_is" = true) (k20 : PySem.W.keepIn K (.ref f20) = true)
    {f21 : Addr} {od21 an21 : Option Addr} {sl21 : Array (Option Value)} {oc21 kV21 dc21 pm21 cd21 ct21 : Value}
    (a21 : PySem.W.nsIn K mainGlobals "_law_book_is" = some (some (.ref f21)))
    (l21 : K.lookup f21 = some ⟨oc21, od21, .func (PySem.W.fnOf "_law_book_is" "_law_book_is" (defArgs s_law_book_is) (defBody s_law_book_is) (defScope s_law_book_is) .none kV21 dc21 pm21 an21 cd21 ct21), sl21⟩)
    (c21 : PySem.W.codeIn K cd21 "_law_book_is" = true) (k21 : PySem.W.keepIn K (.ref f21) = true)
    {f22 : Addr} {od22 an22 : Option Addr} {sl22 : Array (Option Value)} {oc22 kV22 dc22 pm22 cd22 ct22 : Value}
    (a22 : PySem.W.nsIn K mainGlobals "_law_place" = some (some (.ref f22)))
    (l22 : K.lookup f22 = some ⟨oc22, od22, .func (PySem.W.fnOf "_law_place" "_law_place" (defArgs s_law_place) (defBody s_law_place) (defScope s_law_place) .none kV22 dc22 pm22 an22 cd22 ct22), sl22⟩)
    (c22 : PySem.W.codeIn K cd22 "_law_place" = true) (k22 : PySem.W.keepIn K (.ref f22) = true)
    {f23 : Addr} {od23 an23 : Option Addr} {sl23 : Array (Option Value)} {oc23 kV23 dc23 pm23 cd23 ct23 : Value}
    (a23 : PySem.W.nsIn K mainGlobals "_law_width" = some (some (.ref f23)))
    (l23 : K.lookup f23 = some ⟨oc23, od23, .func (PySem.W.fnOf "_law_width" "_law_width" (defArgs s_law_width) (defBody s_law_width) (defScope s_law_width) .none kV23 dc23 pm23 an23 cd23 ct23), sl23⟩)
    (c23 : PySem.W.codeIn K cd23 "_law_width" = true) (k23 : PySem.W.keepIn K (.ref f23) = true)
    {f24 : Addr} {od24 an24 : Option Addr} {sl24 : Array (Option Value)} {oc24 kV24 dc24 pm24 cd24 ct24 : Value}
    (a24 : PySem.W.nsIn K mainGlobals "_law_parting" = some (some (.ref f24)))
    (l24 : K.lookup f24 = some ⟨oc24, od24, .func (PySem.W.fnOf "_law_parting" "_law_parting" (defArgs s_law_parting) (defBody s_law_parting) (defScope s_law_parting) .none kV24 dc24 pm24 an24 cd24 ct24), sl24⟩)
    (c24 : PySem.W.codeIn K cd24 "_law_parting" = true) (k24 : PySem.W.keepIn K (.ref f24) = true)
    {f25 : Addr} {od25 an25 : Option Addr} {sl25 : Array (Option Value)} {oc25 kV25 dc25 pm25 cd25 ct25 : Value}
    (a25 : PySem.W.nsIn K mainGlobals "_law_due" = some (some (.ref f25)))
    (l25 : K.lookup f25 = some ⟨oc25, od25, .func (PySem.W.fnOf "_law_due" "_law_due" (defArgs s_law_due) (defBody s_law_due) (defScope s_law_due) .none kV25 dc25 pm25 an25 cd25 ct25), sl25⟩)
    (c25 : PySem.W.codeIn K cd25 "_law_due" = true) (k25 : PySem.W.keepIn K (.ref f25) = true)
    {f26 : Addr} {od26 an26 : Option Addr} {sl26 : Array (Option Value)} {oc26 kV26 dc26 pm26 cd26 ct26 : Value}
    (a26 : PySem.W.nsIn K mainGlobals "_law_wide" = some (some (.ref f26)))
    (l26 : K.lookup f26 = some ⟨oc26, od26, .func (PySem.W.fnOf "_law_wide" "_law_wide" (defArgs s_law_wide) (defBody s_law_wide) (defScope s_law_wide) .none kV26 dc26 pm26 an26 cd26 ct26), sl26⟩)
    (c26 : PySem.W.codeIn K cd26 "_law_wide" = true) (k26 : PySem.W.keepIn K (.ref f26) = true)
    {f27 : Addr} {od27 an27 : Option Addr} {sl27 : Array (Option Value)} {oc27 kV27 dc27 pm27 cd27 ct27 : Value}
    (a27 : PySem.W.nsIn K mainGlobals "law" = some (some (.ref f27)))
    (l27 : K.lookup f27 = some ⟨oc27, od27, .func (PySem.W.fnOf "law" "law" (defArgs s_law) (defBody s_law) (defScope s_law) .none kV27 dc27 pm27 an27 cd27 ct27), sl27⟩)
    (c27 : PySem.W.codeIn K cd27 "law" = true) (k27 : PySem.W.keepIn K (.ref f27) = true)
    (z_ValueError : PySem.W.nsIn K mainGlobals "ValueError" = some none)
    (z_bool : PySem.W.nsIn K mainGlobals "bool" = some none)
    (z_int : PySem.W.nsIn K mainGlobals "int" = some none)
    (z_isinstance : PySem.W.nsIn K mainGlobals "isinstance" = some none)
    (z_len : PySem.W.nsIn K mainGlobals "len" = some none)
    (z_list : PySem.W.nsIn K mainGlobals "list" = some none)
    (z_max : PySem.W.nsIn K mainGlobals "max" = some none)
    (z_range : PySem.W.nsIn K mainGlobals "range" = some none)
    (z_str : PySem.W.nsIn K mainGlobals "str" = some none)
    (z_tuple : PySem.W.nsIn K mainGlobals "tuple" = some none)
    {t_HOLDERS : Tok} (z_HOLDERS : PySem.W.nsIn K mainGlobals "HOLDERS" = some (some (.int 10 t_HOLDERS)))
    {t_STRIPS : Tok} (z_STRIPS : PySem.W.nsIn K mainGlobals "STRIPS" = some (some (.int 40 t_STRIPS)))
    {t_WIDEST : Tok} (z_WIDEST : PySem.W.nsIn K mainGlobals "WIDEST" = some (some (.int 1000 t_WIDEST)))
    {t_MOST_DEEDS : Tok} (z_MOST_DEEDS : PySem.W.nsIn K mainGlobals "MOST_DEEDS" = some (some (.int 100 t_MOST_DEEDS)))
    {C_MeldError : Addr} {d_MeldError : ClassData} (a_MeldError : PySem.W.nsIn K mainGlobals "MeldError" = some (some (.ref C_MeldError))) (q_MeldError : PySem.W.excIn K C_MeldError [.type "ValueError", .type "Exception", .type "BaseException", .type "object"] "ValueError.__new__" = true)
    (ga_MeldError : PySem.W.findIn K (.ref C_MeldError) "__getattribute__" = some (some (.builtin "BaseException.__getattribute__"))) (gt_MeldError : PySem.W.findIn K (.ref C_MeldError) "__getattr__" = some none)
    (cl_MeldError : PySem.W.findIn K (.ref C_MeldError) "__class__" = some (some (.builtin "object.__class__"))) (i_MeldError : PySem.W.clsIn K C_MeldError = some d_MeldError)
    {C_TooManyStrips : Addr} {d_TooManyStrips : ClassData} (a_TooManyStrips : PySem.W.nsIn K mainGlobals "TooManyStrips" = some (some (.ref C_TooManyStrips))) (q_TooManyStrips : PySem.W.excIn K C_TooManyStrips [.type "ValueError", .type "Exception", .type "BaseException", .type "object"] "ValueError.__new__" = true)
    (ga_TooManyStrips : PySem.W.findIn K (.ref C_TooManyStrips) "__getattribute__" = some (some (.builtin "BaseException.__getattribute__"))) (gt_TooManyStrips : PySem.W.findIn K (.ref C_TooManyStrips) "__getattr__" = some none)
    (cl_TooManyStrips : PySem.W.findIn K (.ref C_TooManyStrips) "__class__" = some (some (.builtin "object.__class__"))) (i_TooManyStrips : PySem.W.clsIn K C_TooManyStrips = some d_TooManyStrips)
    {C_BadHolder : Addr} {d_BadHolder : ClassData} (a_BadHolder : PySem.W.nsIn K mainGlobals "BadHolder" = some (some (.ref C_BadHolder))) (q_BadHolder : PySem.W.excIn K C_BadHolder [.type "ValueError", .type "Exception", .type "BaseException", .type "object"] "ValueError.__new__" = true)
    (ga_BadHolder : PySem.W.findIn K (.ref C_BadHolder) "__getattribute__" = some (some (.builtin "BaseException.__getattribute__"))) (gt_BadHolder : PySem.W.findIn K (.ref C_BadHolder) "__getattr__" = some none)
    (cl_BadHolder : PySem.W.findIn K (.ref C_BadHolder) "__class__" = some (some (.builtin "object.__class__"))) (i_BadHolder : PySem.W.clsIn K C_BadHolder = some d_BadHolder)
    {C_BadWidth : Addr} {d_BadWidth : ClassData} (a_BadWidth : PySem.W.nsIn K mainGlobals "BadWidth" = some (some (.ref C_BadWidth))) (q_BadWidth : PySem.W.excIn K C_BadWidth [.type "ValueError", .type "Exception", .type "BaseException", .type "object"] "ValueError.__new__" = true)
    (ga_BadWidth : PySem.W.findIn K (.ref C_BadWidth) "__getattribute__" = some (some (.builtin "BaseException.__getattribute__"))) (gt_BadWidth : PySem.W.findIn K (.ref C_BadWidth) "__getattr__" = some none)
    (cl_BadWidth : PySem.W.findIn K (.ref C_BadWidth) "__class__" = some (some (.builtin "object.__class__"))) (i_BadWidth : PySem.W.clsIn K C_BadWidth = some d_BadWidth)
    {C_NoStrip : Addr} {d_NoStrip : ClassData} (a_NoStrip : PySem.W.nsIn K mainGlobals "NoStrip" = some (some (.ref C_NoStrip))) (q_NoStrip : PySem.W.excIn K C_NoStrip [.type "ValueError", .type "Exception", .type "BaseException", .type "object"] "ValueError.__new__" = true)
    (ga_NoStrip : PySem.W.findIn K (.ref C_NoStrip) "__getattribute__" = some (some (.builtin "BaseException.__getattribute__"))) (gt_NoStrip : PySem.W.findIn K (.ref C_NoStrip) "__getattr__" = some none)
    (cl_NoStrip : PySem.W.findIn K (.ref C_NoStrip) "__class__" = some (some (.builtin "object.__class__"))) (i_NoStrip : PySem.W.clsIn K C_NoStrip = some d_NoStrip)
    {C_BadPart : Addr} {d_BadPart : ClassData} (a_BadPart : PySem.W.nsIn K mainGlobals "BadPart" = some (some (.ref C_BadPart))) (q_BadPart : PySem.W.excIn K C_BadPart [.type "ValueError", .type "Exception", .type "BaseException", .type "object"] "ValueError.__new__" = true)
    (ga_BadPart : PySem.W.findIn K (.ref C_BadPart) "__getattribute__" = some (some (.builtin "BaseException.__getattribute__"))) (gt_BadPart : PySem.W.findIn K (.ref C_BadPart) "__getattr__" = some none)
    (cl_BadPart : PySem.W.findIn K (.ref C_BadPart) "__class__" = some (some (.builtin "object.__class__"))) (i_BadPart : PySem.W.clsIn K C_BadPart = some d_BadPart)
    {C_BookFull : Addr} {d_BookFull : ClassData} (a_BookFull : PySem.W.nsIn K mainGlobals "BookFull" = some (some (.ref C_BookFull))) (q_BookFull : PySem.W.excIn K C_BookFull [.type "ValueError", .type "Exception", .type "BaseException", .type "object"] "ValueError.__new__" = true)
    (ga_BookFull : PySem.W.findIn K (.ref C_BookFull) "__getattribute__" = some (some (.builtin "BaseException.__getattribute__"))) (gt_BookFull : PySem.W.findIn K (.ref C_BookFull) "__getattr__" = some none)
    (cl_BookFull : PySem.W.findIn K (.ref C_BookFull) "__class__" = some (some (.builtin "object.__class__"))) (i_BookFull : PySem.W.clsIn K C_BookFull = some d_BookFull)
    (x_MeldError_MeldError : PySem.W.exmOne K (.ref C_MeldError) (.ref C_MeldError) = some true)
    (x_TooManyStrips_MeldError : PySem.W.exmOne K (.ref C_TooManyStrips) (.ref C_MeldError) = some true)
    (x_BadHolder_MeldError : PySem.W.exmOne K (.ref C_BadHolder) (.ref C_MeldError) = some true)
    (x_BadWidth_MeldError : PySem.W.exmOne K (.ref C_BadWidth) (.ref C_MeldError) = some true)
    (x_NoStrip_MeldError : PySem.W.exmOne K (.ref C_NoStrip) (.ref C_MeldError) = some true)
    (x_BadPart_MeldError : PySem.W.exmOne K (.ref C_BadPart) (.ref C_MeldError) = some true)
    (x_BookFull_MeldError : PySem.W.exmOne K (.ref C_BookFull) (.ref C_MeldError) = some true)
    (k_TooManyStrips_ValueError : PySem.W.kitOne K (.ref C_TooManyStrips) (.type "ValueError") = some true)
    (k_TooManyStrips_NoStrip : PySem.W.kitOne K (.ref C_TooManyStrips) (.ref C_NoStrip) = some false)
    (k_TooManyStrips_BadPart : PySem.W.kitOne K (.ref C_TooManyStrips) (.ref C_BadPart) = some false)
    (k_TooManyStrips_TooManyStrips : PySem.W.kitOne K (.ref C_TooManyStrips) (.ref C_TooManyStrips) = some true)
    (k_NoStrip_ValueError : PySem.W.kitOne K (.ref C_NoStrip) (.type "ValueError") = some true)
    (k_NoStrip_NoStrip : PySem.W.kitOne K (.ref C_NoStrip) (.ref C_NoStrip) = some true)
    (k_NoStrip_BadPart : PySem.W.kitOne K (.ref C_NoStrip) (.ref C_BadPart) = some false)
    (k_NoStrip_TooManyStrips : PySem.W.kitOne K (.ref C_NoStrip) (.ref C_TooManyStrips) = some false)
    (k_BadPart_ValueError : PySem.W.kitOne K (.ref C_BadPart) (.type "ValueError") = some true)
    (k_BadPart_NoStrip : PySem.W.kitOne K (.ref C_BadPart) (.ref C_NoStrip) = some false)
    (k_BadPart_BadPart : PySem.W.kitOne K (.ref C_BadPart) (.ref C_BadPart) = some true)
    (k_BadPart_TooManyStrips : PySem.W.kitOne K (.ref C_BadPart) (.ref C_TooManyStrips) = some false)
    : ∃ fd : FuncData, (∀ (s : Shared) (v : Value), BindsTo s fd ⟨[v], []⟩ [("_law_script", v)]) ∧ ∀ base : Heap, K.In base → base.Ns mainGlobals mg → FnOk l.prog w K mg base CX0 5 fa fd ["_law_script"] (Pu.lawSp K) := by
  have e := hfa.symm.trans (PySem.W.mg_of X G0 a27)
  cases e
  have e_MeldError := ExcR.clsOf_eq (PySem.W.mg_of X G0 a_MeldError)
  have e_TooManyStrips := ExcR.clsOf_eq (PySem.W.mg_of X G0 a_TooManyStrips)
  have e_BadHolder := ExcR.clsOf_eq (PySem.W.mg_of X G0 a_BadHolder)
  have e_BadWidth := ExcR.clsOf_eq (PySem.W.mg_of X G0 a_BadWidth)
  have e_NoStrip := ExcR.clsOf_eq (PySem.W.mg_of X G0 a_NoStrip)
  have e_BadPart := ExcR.clsOf_eq (PySem.W.mg_of X G0 a_BadPart)
  have e_BookFull := ExcR.clsOf_eq (PySem.W.mg_of X G0 a_BookFull)
  have e_Village := ExcR.clsOf_eq (PySem.W.mg_of X G0 a_Village)
  have G : Glob K mg := ⟨PySem.W.mg_none_of X G0 z_ValueError, PySem.W.mg_none_of X G0 z_bool, PySem.W.mg_none_of X G0 z_int, PySem.W.mg_none_of X G0 z_isinstance, PySem.W.mg_none_of X G0 z_len, PySem.W.mg_none_of X G0 z_list, PySem.W.mg_none_of X G0 z_max, PySem.W.mg_none_of X G0 z_range, PySem.W.mg_none_of X G0 z_str, PySem.W.mg_none_of X G0 z_tuple, ⟨_, PySem.W.mg_of X G0 z_HOLDERS, ⟨_, rfl⟩⟩, ⟨_, PySem.W.mg_of X G0 z_STRIPS, ⟨_, rfl⟩⟩, ⟨_, PySem.W.mg_of X G0 z_WIDEST, ⟨_, rfl⟩⟩, ⟨_, PySem.W.mg_of X G0 z_MOST_DEEDS, ⟨_, rfl⟩⟩, (by rw [e_MeldError]; exact PySem.W.mg_of X G0 a_MeldError), (by rw [e_MeldError]; exact ⟨⟨q_MeldError⟩, ga_MeldError, gt_MeldError, cl_MeldError, by rw [i_MeldError]; rfl⟩), (by rw [e_TooManyStrips]; exact PySem.W.mg_of X G0 a_TooManyStrips), (by rw [e_TooManyStrips]; exact ⟨⟨q_TooManyStrips⟩, ga_TooManyStrips, gt_TooManyStrips, cl_TooManyStrips, by rw [i_TooManyStrips]; rfl⟩), (by rw [e_BadHolder]; exact PySem.W.mg_of X G0 a_BadHolder), (by rw [e_BadHolder]; exact ⟨⟨q_BadHolder⟩, ga_BadHolder, gt_BadHolder, cl_BadHolder, by rw [i_BadHolder]; rfl⟩), (by rw [e_BadWidth]; exact PySem.W.mg_of X G0 a_BadWidth), (by rw [e_BadWidth]; exact ⟨⟨q_BadWidth⟩, ga_BadWidth, gt_BadWidth, cl_BadWidth, by rw [i_BadWidth]; rfl⟩), (by rw [e_NoStrip]; exact PySem.W.mg_of X G0 a_NoStrip), (by rw [e_NoStrip]; exact ⟨⟨q_NoStrip⟩, ga_NoStrip, gt_NoStrip, cl_NoStrip, by rw [i_NoStrip]; rfl⟩), (by rw [e_BadPart]; exact PySem.W.mg_of X G0 a_BadPart), (by rw [e_BadPart]; exact ⟨⟨q_BadPart⟩, ga_BadPart, gt_BadPart, cl_BadPart, by rw [i_BadPart]; rfl⟩), (by rw [e_BookFull]; exact PySem.W.mg_of X G0 a_BookFull), (by rw [e_BookFull]; exact ⟨⟨q_BookFull⟩, ga_BookFull, gt_BookFull, cl_BookFull, by rw [i_BookFull]; rfl⟩), (by rw [e_MeldError]; exact x_MeldError_MeldError), (by rw [e_TooManyStrips, e_MeldError]; exact x_TooManyStrips_MeldError), (by rw [e_BadHolder, e_MeldError]; exact x_BadHolder_MeldError), (by rw [e_BadWidth, e_MeldError]; exact x_BadWidth_MeldError), (by rw [e_NoStrip, e_MeldError]; exact x_NoStrip_MeldError), (by rw [e_BadPart, e_MeldError]; exact x_BadPart_MeldError), (by rw [e_BookFull, e_MeldError]; exact x_BookFull_MeldError), (by rw [e_TooManyStrips]; exact k_TooManyStrips_ValueError), (by rw [e_TooManyStrips, e_NoStrip]; exact k_TooManyStrips_NoStrip), (by rw [e_TooManyStrips, e_BadPart]; exact k_TooManyStrips_BadPart), (by rw [e_TooManyStrips]; exact k_TooManyStrips_TooManyStrips), (by rw [e_NoStrip]; exact k_NoStrip_ValueError), (by rw [e_NoStrip]; exact k_NoStrip_NoStrip), (by rw [e_NoStrip, e_BadPart]; exact k_NoStrip_BadPart), (by rw [e_NoStrip, e_TooManyStrips]; exact k_NoStrip_TooManyStrips), (by rw [e_BadPart]; exact k_BadPart_ValueError), (by rw [e_BadPart, e_NoStrip]; exact k_BadPart_NoStrip), (by rw [e_BadPart]; exact k_BadPart_BadPart), (by rw [e_BadPart, e_TooManyStrips]; exact k_BadPart_TooManyStrips), (by rw [e_Village]; exact PySem.W.mg_of X G0 a_Village), (by rw [e_Village]; exact ⟨pg_Village, hd_Village, po_Village, sa_Village⟩), (by rw [e_Village]; exact nA_Village_book), (by rw [e_Village]; exact nA_Village_fields), (by rw [e_Village]; exact nA_Village_wished)⟩
  have F0 := fun_mk (st := s_check_holder) l0 c0 k0
  have b0 := F0.binds (ps := ["holder"]) fun _ _ _ _ _ _ us hl => by obtain ⟨_, rfl⟩ := Pu.len1 hl; rfl
  have D0 : Def K mg "check_holder" s_check_holder ["holder"] := ⟨_, _, F0, PySem.W.mg_of X G0 a0, b0⟩
  have F1 := fun_mk (st := s_check_width) l1 c1 k1
  have b1 := F1.binds (ps := ["width"]) fun _ _ _ _ _ _ us hl => by obtain ⟨_, rfl⟩ := Pu.len1 hl; rfl
  have D1 : Def K mg "check_width" s_check_width ["width"] := ⟨_, _, F1, PySem.W.mg_of X G0 a1, b1⟩
  have F2 := fun_mk (st := s_check_strips) l2 c2 k2
  have b2 := F2.binds (ps := ["strips"]) fun _ _ _ _ _ _ us hl => by obtain ⟨_, rfl⟩ := Pu.len1 hl; rfl
  have D2 : Def K mg "check_strips" s_check_strips ["strips"] := ⟨_, _, F2, PySem.W.mg_of X G0 a2, b2⟩
  have F3 := fun_mk (st := s_check_place) l3 c3 k3
  have b3 := F3.binds (ps := ["strips", "place"]) fun _ _ _ _ _ _ us hl => by obtain ⟨_, _, rfl⟩ := Pu.len2 hl; rfl
  have D3 : Def K mg "check_place" s_check_place ["strips", "place"] := ⟨_, _, F3, PySem.W.mg_of X G0 a3, b3⟩
  have F4 := fun_mk (st := s_parted) l4 c4 k4
  have b4 := F4.binds (ps := ["strips", "place", "width"]) fun _ _ _ _ _ _ us hl => by obtain ⟨_, _, _, rfl⟩ := Pu.len3 hl; rfl
  have D4 : Def K mg "parted" s_parted ["strips", "place", "width"] := ⟨_, _, F4, PySem.W.mg_of X G0 a4, b4⟩
  have F5 := fun_mk (st := s_Village_init) l5 c5 k5
  have b5 := F5.binds (ps := ["self", "strips"]) fun _ _ _ _ _ _ us hl => by obtain ⟨_, _, rfl⟩ := Pu.len2 hl; rfl
  have D5 : Pu.DefM K (Mk K (ExcR.clsOf mg "Village")) "__init__" "Village.__init__" s_Village_init ["self", "strips"] := ⟨_, _, F5, by rw [e_Village]; exact ⟨mk_Village, a5, i5, kc_Village⟩, b5⟩
  have F6 := fun_mk (st := s_Village_strips) l6 c6 k6
  have b6 := F6.binds (ps := ["self"]) fun _ _ _ _ _ _ us hl => by obtain ⟨_, rfl⟩ := Pu.len1 hl; rfl
  have D6 : Pu.DefM K (Meth K (ExcR.clsOf mg "Village") "strips") "strips" "Village.strips" s_Village_strips ["self"] := ⟨_, _, F6, by rw [e_Village]; exact ⟨a6, i6, k6⟩, b6⟩
  have F7 := fun_mk (st := s_Village_wishes) l7 c7 k7
  have b7 := F7.binds (ps := ["self"]) fun _ _ _ _ _ _ us hl => by obtain ⟨_, rfl⟩ := Pu.len1 hl; rfl
  have D7 : Pu.DefM K (Meth K (ExcR.clsOf mg "Village") "wishes") "wishes" "Village.wishes" s_Village_wishes ["self"] := ⟨_, _, F7, by rw [e_Village]; exact ⟨a7, i7, k7⟩, b7⟩
  have F8 := fun_mk (st := s_Village_deeds) l8 c8 k8
  have b8 := F8.binds (ps := ["self"]) fun _ _ _ _ _ _ us hl => by obtain ⟨_, rfl⟩ := Pu.len1 hl; rfl
  have D8 : Pu.DefM K (Meth K (ExcR.clsOf mg "Village") "deeds") "deeds" "Village.deeds" s_Village_deeds ["self"] := ⟨_, _, F8, by rw [e_Village]; exact ⟨a8, i8, k8⟩, b8⟩
  have F9 := fun_mk (st := s_Village_check_room) l9 c9 k9
  have b9 := F9.binds (ps := ["self"]) fun _ _ _ _ _ _ us hl => by obtain ⟨_, rfl⟩ := Pu.len1 hl; rfl
  have D9 : Pu.DefM K (Meth K (ExcR.clsOf mg "Village") "check_room") "check_room" "Village.check_room" s_Village_check_room ["self"] := ⟨_, _, F9, by rw [e_Village]; exact ⟨a9, i9, k9⟩, b9⟩
  have F10 := fun_mk (st := s_Village_enter) l10 c10 k10
  have b10 := F10.binds (ps := ["self", "deed", "field", "wishes"]) fun _ _ _ _ _ _ us hl => by obtain ⟨_, _, _, _, rfl⟩ := Pu.len4 hl; rfl
  have D10 : Pu.DefM K (Meth K (ExcR.clsOf mg "Village") "enter") "enter" "Village.enter" s_Village_enter ["self", "deed", "field", "wishes"] := ⟨_, _, F10, by rw [e_Village]; exact ⟨a10, i10, k10⟩, b10⟩
  have F11 := fun_mk (st := s_Village_part) l11 c11 k11
  have b11 := F11.binds (ps := ["self", "place", "width"]) fun _ _ _ _ _ _ us hl => by obtain ⟨_, _, _, rfl⟩ := Pu.len3 hl; rfl
  have D11 : Pu.DefM K (Meth K (ExcR.clsOf mg "Village") "part") "part" "Village.part" s_Village_part ["self", "place", "width"] := ⟨_, _, F11, by rw [e_Village]; exact ⟨a11, i11, k11⟩, b11⟩
  have F12 := fun_mk (st := s_law_at) l12 c12 k12
  have b12 := F12.binds (ps := ["_law_script", "_law_k"]) fun _ _ _ _ _ _ us hl => by obtain ⟨_, _, rfl⟩ := Pu.len2 hl; rfl
  have D12 : Def K mg "_law_at" s_law_at ["_law_script", "_law_k"] := ⟨_, _, F12, PySem.W.mg_of X G0 a12, b12⟩
  have F13 := fun_mk (st := s_law_whole) l13 c13 k13
  have b13 := F13.binds (ps := ["_law_found"]) fun _ _ _ _ _ _ us hl => by obtain ⟨_, rfl⟩ := Pu.len1 hl; rfl
  have D13 : Def K mg "_law_whole" s_law_whole ["_law_found"] := ⟨_, _, F13, PySem.W.mg_of X G0 a13, b13⟩
  have F14 := fun_mk (st := s_law_mix) l14 c14 k14
  have b14 := F14.binds (ps := ["_law_cell", "_law_place_here"]) fun _ _ _ _ _ _ us hl => by obtain ⟨_, _, rfl⟩ := Pu.len2 hl; rfl
  have D14 : Def K mg "_law_mix" s_law_mix ["_law_cell", "_law_place_here"] := ⟨_, _, F14, PySem.W.mg_of X G0 a14, b14⟩
  have F15 := fun_mk (st := s_law_draw) l15 c15 k15
  have b15 := F15.binds (ps := ["_law_script", "_law_k"]) fun _ _ _ _ _ _ us hl => by obtain ⟨_, _, rfl⟩ := Pu.len2 hl; rfl
  have D15 : Def K mg "_law_draw" s_law_draw ["_law_script", "_law_k"] := ⟨_, _, F15, PySem.W.mg_of X G0 a15, b15⟩
  have F16 := fun_mk (st := s_law_menu) l16 c16 k16
  have b16 := F16.binds (ps := ["_law_cell"]) fun _ _ _ _ _ _ us hl => by obtain ⟨_, rfl⟩ := Pu.len1 hl; rfl
  have D16 : Def K mg "_law_menu" s_law_menu ["_law_cell"] := ⟨_, _, F16, PySem.W.mg_of X G0 a16, b16⟩
  have F17 := fun_mk (st := s_law_holder) l17 c17 k17
  have b17 := F17.binds (ps := ["_law_menu_here", "_law_k"]) fun _ _ _ _ _ _ us hl => by obtain ⟨_, _, rfl⟩ := Pu.len2 hl; rfl
  have D17 : Def K mg "_law_holder" s_law_holder ["_law_menu_here", "_law_k"] := ⟨_, _, F17, PySem.W.mg_of X G0 a17, b17⟩
  have F18 := fun_mk (st := s_law_strips) l18 c18 k18
  have b18 := F18.binds (ps := ["_law_script", "_law_menu_here", "_law_many"]) fun _ _ _ _ _ _ us hl => by obtain ⟨_, _, _, rfl⟩ := Pu.len3 hl; rfl
  have D18 : Def K mg "_law_strips" s_law_strips ["_law_script", "_law_menu_here", "_law_many"] := ⟨_, _, F18, PySem.W.mg_of X G0 a18, b18⟩
  have F19 := fun_mk (st := s_law_tuples) l19 c19 k19
  have b19 := F19.binds (ps := ["_law_found", "_law_due_here"]) fun _ _ _ _ _ _ us hl => by obtain ⟨_, _, rfl⟩ := Pu.len2 hl; rfl
  have D19 : Def K mg "_law_tuples" s_law_tuples ["_law_found", "_law_due_here"] := ⟨_, _, F19, PySem.W.mg_of X G0 a19, b19⟩
  have F20 := fun_mk (st := s_law_deed_is) l20 c20 k20
  have b20 := F20.binds (ps := ["_law_found", "_law_due_here"]) fun _ _ _ _ _ _ us hl => by obtain ⟨_, _, rfl⟩ := Pu.len2 hl; rfl
  have D20 : Def K mg "_law_deed_is" s_law_deed_is ["_law_found", "_law_due_here"] := ⟨_, _, F20, PySem.W.mg_of X G0 a20, b20⟩
  have F21 := fun_mk (st := s_law_book_is) l21 c21 k21
  have b21 := F21.binds (ps := ["_law_found", "_law_due_here"]) fun _ _ _ _ _ _ us hl => by obtain ⟨_, _, rfl⟩ := Pu.len2 hl; rfl
  have D21 : Def K mg "_law_book_is" s_law_book_is ["_law_found", "_law_due_here"] := ⟨_, _, F21, PySem.W.mg_of X G0 a21, b21⟩
  have F22 := fun_mk (st := s_law_place) l22 c22 k22
  have b22 := F22.binds (ps := ["_law_cell", "_law_strips_here"]) fun _ _ _ _ _ _ us hl => by obtain ⟨_, _, rfl⟩ := Pu.len2 hl; rfl
  have D22 : Def K mg "_law_place" s_law_place ["_law_cell", "_law_strips_here"] := ⟨_, _, F22, PySem.W.mg_of X G0 a22, b22⟩
  have F23 := fun_mk (st := s_law_width) l23 c23 k23
  have b23 := F23.binds (ps := ["_law_cell", "_law_strips_here", "_law_place_here"]) fun _ _ _ _ _ _ us hl => by obtain ⟨_, _, _, rfl⟩ := Pu.len3 hl; rfl
  have D23 : Def K mg "_law_width" s_law_width ["_law_cell", "_law_strips_here", "_law_place_here"] := ⟨_, _, F23, PySem.W.mg_of X G0 a23, b23⟩
  have F24 := fun_mk (st := s_law_parting) l24 c24 k24
  have b24 := F24.binds (ps := ["_law_village", "_law_place_here", "_law_width_here"]) fun _ _ _ _ _ _ us hl => by obtain ⟨_, _, _, rfl⟩ := Pu.len3 hl; rfl
  have D24 : Def K mg "_law_parting" s_law_parting ["_law_village", "_law_place_here", "_law_width_here"] := ⟨_, _, F24, PySem.W.mg_of X G0 a24, b24⟩
  have F25 := fun_mk (st := s_law_due) l25 c25 k25
  have b25 := F25.binds (ps := ["_law_strips_here", "_law_place_here", "_law_width_here"]) fun _ _ _ _ _ _ us hl => by obtain ⟨_, _, _, rfl⟩ := Pu.len3 hl; rfl
  have D25 : Def K mg "_law_due" s_law_due ["_law_strips_here", "_law_place_here", "_law_width_here"] := ⟨_, _, F25, PySem.W.mg_of X G0 a25, b25⟩
  have F26 := fun_mk (st := s_law_wide) l26 c26 k26
  have b26 := F26.binds (ps := ["_law_cell", "_law_strips_here", "_law_place_here"]) fun _ _ _ _ _ _ us hl => by obtain ⟨_, _, _, rfl⟩ := Pu.len3 hl; rfl
  have D26 : Def K mg "_law_wide" s_law_wide ["_law_cell", "_law_strips_here", "_law_place_here"] := ⟨_, _, F26, PySem.W.mg_of X G0 a26, b26⟩
  have F27 := fun_mk (st := s_law) l27 c27 k27
  have b27 := F27.binds (ps := ["_law_script"]) fun _ _ _ _ _ _ us hl => by obtain ⟨_, rfl⟩ := Pu.len1 hl; rfl
  have D27 : Def K mg "law" s_law ["_law_script"] := ⟨_, _, F27, PySem.W.mg_of X G0 a27, b27⟩
  refine ⟨PySem.W.fnOf "law" "law" (defArgs s_law) (defBody s_law) (defScope s_law) .none kV27 dc27 pm27 an27 cd27 ct27, fun s v => .of_eq rfl, fun base _ _ => ?_⟩
  have C0 := ok_check_holder (P := l.prog) (w := w) (base := base) G D0
  have C1 := ok_check_width (P := l.prog) (w := w) (base := base) G D1
  have C3 := ok_check_place (P := l.prog) (w := w) (base := base) G D3
  have C6 := ok_Village_strips (P := l.prog) (w := w) (base := base) G D6
  have C7 := ok_Village_wishes (P := l.prog) (w := w) (base := base) G D7
  have C8 := ok_Village_deeds (P := l.prog) (w := w) (base := base) G D8
  have C9 := ok_Village_check_room (P := l.prog) (w := w) (base := base) G D9
  have C10 := ok_Village_enter (P := l.prog) (w := w) (base := base) G D10
  have C12 := ok_law_at (P := l.prog) (w := w) (base := base) G D12
  have C13 := ok_law_whole (P := l.prog) (w := w) (base := base) G D13
  have C14 := ok_law_mix (P := l.prog) (w := w) (base := base) G D14
  have C16 := ok_law_menu (P := l.prog) (w := w) (base := base) G D16
  have C17 := ok_law_holder (P := l.prog) (w := w) (base := base) G D17
  have C22 := ok_law_place (P := l.prog) (w := w) (base := base) G D22
  have C23 := ok_law_width (P := l.prog) (w := w) (base := base) G D23
  have C25 := ok_law_due (P := l.prog) (w := w) (base := base) G D25
  have C2 := ok_check_strips (P := l.prog) (w := w) (base := base) G D2 C0 C1
  have C4 := ok_parted (P := l.prog) (w := w) (base := base) G D4 C3
  have C15 := ok_law_draw (P := l.prog) (w := w) (base := base) G D15 C14 C12
  have C19 := ok_law_tuples (P := l.prog) (w := w) (base := base) G D19 C13
  have C20 := ok_law_deed_is (P := l.prog) (w := w) (base := base) G D20 C13
  have C26 := ok_law_wide (P := l.prog) (w := w) (base := base) G D26 C23
  have C5 := ok_Village_init (P := l.prog) (w := w) (base := base) G D5 C2
  have C11 := ok_Village_part (P := l.prog) (w := w) (base := base) G D11 C9 C4 C10 C6 C7
  have C18 := ok_law_strips (P := l.prog) (w := w) (base := base) G D18 C15 C17
  have C21 := ok_law_book_is (P := l.prog) (w := w) (base := base) G D21 C20
  have C24 := ok_law_parting (P := l.prog) (w := w) (base := base) G D24 C11
  have C27 := ok_law (P := l.prog) (w := w) (base := base) G D27 C16 C18 C5 C15 C12 C22 C26 C24 C25 C19 C21 C13 C6 C8
  exact (C27.at (PySem.W.mg_of X G0 a27) F27 D27).imp fun _ _ _ _ z => Pu.law_of z
end T
theorem PySem.W.Fast.tw18211779338988264693 : True := trivial
theorem PySem.W.Fast.tw8213500091744504928 : True := trivial
theorem PySem.W.Fast.tw14666619980813954176 : True := trivial
theorem PySem.W.Fast.tw16717432633528417472 : True := trivial
theorem PySem.W.Fast.tw10952711374978658560 : True := trivial
theorem PySem.W.Fast.tw3604463479755224416 : True := trivial
theorem PySem.W.Fast.tw8007948446601242016 : True := trivial
theorem PySem.W.Fast.tw3611105111586084288 : True := trivial
theorem PySem.W.Fast.tw3394624639761008064 : True := trivial
theorem PySem.W.Fast.tw2864069783900795392 : True := trivial
theorem PySem.W.Fast.tw15982194722419521184 : True := trivial
theorem PySem.W.Fast.tw6738551936195315360 : True := trivial
theorem PySem.W.Fast.tw4440221963847474880 : True := trivial
theorem PySem.W.Fast.tw15756423093392125856 : True := trivial
theorem PySem.W.Fast.tw117859483667771296 : True := trivial
theorem PySem.W.Fast.tw13651510278129308576 : True := trivial
theorem PySem.W.Fast.tw146460136689874880 : True := trivial
theorem PySem.W.Fast.tw11777850610528512001 : True := trivial
theorem PySem.W.Fast.tw2399676398133437505 : True := trivial
theorem PySem.W.Fast.tw15260342182241881185 : True := trivial
theorem PySem.W.Fast.tw3724350313557773441 : True := trivial
theorem PySem.W.Fast.tw11683922067008751777 : True := trivial
theorem PySem.W.Fast.tw13497775980542984385 : True := trivial
theorem PySem.W.Fast.tw11344974128965170433 : True := trivial
theorem PySem.W.Fast.tw15205189619555337505 : True := trivial
theorem PySem.W.Fast.tw13588933781106884961 : True := trivial
theorem PySem.W.Fast.tw5695878033824768385 : True := trivial
theorem PySem.W.Fast.tw18004806514349069729 : True := trivial
theorem PySem.W.Fast.tw15959639286367391201 : True := trivial
theorem PySem.W.Fast.tw15121251582312029665 : True := trivial
theorem PySem.W.Fast.tw14750353604851869153 : True := trivial
theorem PySem.W.Fast.tw12472795343274432993 : True := trivial
theorem PySem.W.Fast.tw16390801058186853889 : True := trivial
theorem PySem.W.Fast.tw9247654718366723617 : True := trivial
theorem PySem.W.Fast.tw10496089492421540417 : True := trivial
theorem PySem.W.Fast.tw8374464947792204449 : True := trivial
theorem PySem.W.Fast.tw10581715468595856097 : True := trivial
theorem PySem.W.Fast.tw13498805518951402305 : True := trivial
theorem PySem.W.Fast.tw17688371486319565729 : True := trivial
theorem PySem.W.Fast.tw1190319475263536130 : True := trivial
theorem PySem.W.Fast.tw8403524579863497762 : True := trivial
theorem PySem.W.Fast.tw6815775820659792930 : True := trivial
theorem PySem.W.Fast.tw9770609349809858594 : True := trivial
theorem PySem.W.Fast.tw7105619078348321986 : True := trivial
theorem PySem.W.Fast.tw15522820569625566626 : True := trivial
theorem PySem.W.Fast.tw18189243360909600258 : True := trivial
theorem PySem.W.Fast.tw829300238555164258 : True := trivial
theorem PySem.W.Fast.tw4808103872280558242 : True := trivial
theorem PySem.W.Fast.tw10280430414293885730 : True := trivial
theorem PySem.W.Fast.tw14139445811816683394 : True := trivial
theorem PySem.W.Fast.tw16185359568664320898 : True := trivial
theorem PySem.W.Fast.tw2352823954926021635 : True := trivial
theorem PySem.W.Fast.tw408115010139430947 : True := trivial
theorem PySem.W.Fast.tw4848791452802230307 : True := trivial
theorem PySem.W.Fast.tw16385650353049685091 : True := trivial
theorem PySem.W.Fast.tw6188887192882106499 : True := trivial
theorem PySem.W.Fast.tw8778237412884870307 : True := trivial
theorem PySem.W.Fast.tw17923771987040857283 : True := trivial
theorem PySem.W.Fast.tw1656423915036628195 : True := trivial
theorem PySem.W.Fast.tw5836019904880174403 : True := trivial
theorem PySem.W.Fast.tw2547199191227316611 : True := trivial
theorem PySem.W.Fast.tw18304954254587709859 : True := trivial
theorem PySem.W.Fast.tw14309444809154801091 : True := trivial
theorem PySem.W.Fast.tw1310882252253374947 : True := trivial
theorem PySem.W.Fast.tw7843827840708036067 : True := trivial
theorem PySem.W.Fast.tw1903328439648253475 : True := trivial
theorem PySem.W.Fast.tw833624670648091203 : True := trivial
theorem PySem.W.Fast.tw12150622898580689507 : True := trivial
theorem PySem.W.Fast.tw12819366127026080579 : True := trivial
theorem PySem.W.Fast.tw17174518753598136227 : True := trivial
theorem PySem.W.Fast.tw10592287267580472259 : True := trivial
theorem PySem.W.Fast.tw14530255258236363812 : True := trivial
theorem PySem.W.Fast.tw4854986730107214948 : True := trivial
theorem PySem.W.Fast.tw3908738933781343332 : True := trivial
theorem PySem.W.Fast.tw7502240150435448932 : True := trivial
theorem PySem.W.Fast.tw12452603132517261572 : True := trivial
theorem PySem.W.Fast.tw11284997414815958340 : True := trivial
theorem PySem.W.Fast.tw15905187547223080324 : True := trivial
theorem PySem.W.Fast.tw2228474903577662948 : True := trivial
theorem PySem.W.Fast.tw9434008127425813988 : True := trivial
theorem PySem.W.Fast.tw1561223864465795556 : True := trivial
theorem PySem.W.Fast.tw8369741870403628516 : True := trivial
theorem PySem.W.Fast.tw14254729851579260420 : True := trivial
theorem PySem.W.Fast.tw12669459170185390628 : True := trivial
theorem PySem.W.Fast.tw15362575142336348836 : True := trivial
theorem PySem.W.Fast.tw781817064436615844 : True := trivial
theorem PySem.W.Fast.tw1338021059269756644 : True := trivial
theorem PySem.W.Fast.tw14664012610869187332 : True := trivial
theorem PySem.W.Fast.tw3180661835383585604 : True := trivial
theorem PySem.W.Fast.tw16940177952555757380 : True := trivial
theorem PySem.W.Fast.tw11157782162890384260 : True := trivial
theorem PySem.W.Fast.tw3863392254085587876 : True := trivial
theorem PySem.W.Fast.tw1968282892215749604 : True := trivial
theorem PySem.W.Fast.tw8853423964309549093 : True := trivial
theorem PySem.W.Fast.tw7890802077041061957 : True := trivial
theorem PySem.W.Fast.tw3851046934101854309 : True := trivial
theorem PySem.W.Fast.tw4623564523657508005 : True := trivial
theorem PySem.W.Fast.tw16808374428823118021 : True := trivial
theorem PySem.W.Fast.tw14073586892425852101 : True := trivial
theorem PySem.W.Fast.tw9196699853483574501 : True := trivial
theorem PySem.W.Fast.tw14943947579388224741 : True := trivial
theorem PySem.W.Fast.tw12686053361535642917 : True := trivial
theorem PySem.W.Fast.tw5153778799310984549 : True := trivial
theorem PySem.W.Fast.tw16274703619067364741 : True := trivial
theorem PySem.W.Fast.tw6783981458110123429 : True := trivial
theorem PySem.W.Fast.tw5022806018521774597 : True := trivial
theorem PySem.W.Fast.tw6708957668455925317 : True := trivial
theorem PySem.W.Fast.tw10462095439801371237 : True := trivial
theorem PySem.W.Fast.tw12798167947425151621 : True := trivial
theorem PySem.W.Fast.tw8558064015705589445 : True := trivial
theorem PySem.W.Fast.tw16443779234182854341 : True := trivial
theorem PySem.W.Fast.tw3182359238579278565 : True := trivial
theorem PySem.W.Fast.tw12461565977415116517 : True := trivial
theorem PySem.W.Fast.tw5146861528620319557 : True := trivial
theorem PySem.W.Fast.tw1121959258706138981 : True := trivial
theorem PySem.W.Fast.tw12005945552596362085 : True := trivial
theorem PySem.W.Fast.tw5846405064931965829 : True := trivial
theorem PySem.W.Fast.tw13396314034188125222 : True := trivial
theorem PySem.W.Fast.tw12980891154959397926 : True := trivial
theorem PySem.W.Fast.tw668034846774733958 : True := trivial
theorem PySem.W.Fast.tw18193817738312245414 : True := trivial
theorem PySem.W.Fast.tw13650267952888715590 : True := trivial
theorem PySem.W.Fast.tw11527939483887239526 : True := trivial
theorem PySem.W.Fast.tw9547880642197804390 : True := trivial
theorem PySem.W.Fast.tw13184840885129384454 : True := trivial
theorem PySem.W.Fast.tw15156376935412665894 : True := trivial
theorem PySem.W.Fast.tw1906229284944067142 : True := trivial
theorem PySem.W.Fast.tw8032155299802620582 : True := trivial
theorem PySem.W.Fast.tw16554907309062023910 : True := trivial
theorem PySem.W.Fast.tw3228940550510143302 : True := trivial
theorem PySem.W.Fast.tw7846643395056579430 : True := trivial
theorem PySem.W.Fast.tw5084704335440709574 : True := trivial
theorem PySem.W.Fast.tw6484365259984572358 : True := trivial
theorem PySem.W.Fast.tw5460099074616893447 : True := trivial
theorem PySem.W.Fast.tw5081170562093232135 : True := trivial
theorem PySem.W.Fast.tw1912161324071612455 : True := trivial
theorem PySem.W.Fast.tw12195159625877162119 : True := trivial
theorem PySem.W.Fast.tw3337608684958898407 : True := trivial
theorem PySem.W.Fast.tw7053491792102210823 : True := trivial
theorem PySem.W.Fast.tw18003490444500496647 : True := trivial
theorem PySem.W.Fast.tw10957954663535806855 : True := trivial
theorem PySem.W.Fast.tw7109691946137822631 : True := trivial
theorem PySem.W.Fast.tw6040781858950116807 : True := trivial
theorem PySem.W.Fast.tw2865008431927974567 : True := trivial
theorem PySem.W.Fast.tw5452217014884518599 : True := trivial
theorem PySem.W.Fast.tw14504472791580531463 : True := trivial
theorem PySem.W.Fast.tw6263134249142054663 : True := trivial
theorem PySem.W.Fast.tw7155068461251386247 : True := trivial
theorem PySem.W.Fast.tw16029566779849554887 : True := trivial
theorem PySem.W.Fast.tw13019409208236728263 : True := trivial
theorem PySem.W.Fast.tw8651755414166665224 : True := trivial
theorem PySem.W.Fast.tw8059310214390189096 : True := trivial
theorem PySem.W.Fast.tw16906569350115433640 : True := trivial
theorem PySem.W.Fast.tw9152779956895880424 : True := trivial
theorem PySem.W.Fast.tw7169740112374606120 : True := trivial
theorem PySem.W.Fast.tw6558870295415351592 : True := trivial
theorem PySem.W.Fast.tw13096880624366582088 : True := trivial
theorem PySem.W.Fast.tw10377135759540572552 : True := trivial
theorem PySem.W.Fast.tw1465430583183545768 : True := trivial
theorem PySem.W.Fast.tw16950497955125370280 : True := trivial
theorem PySem.W.Fast.tw5502663167269810664 : True := trivial
theorem PySem.W.Fast.tw6584557388802578920 : True := trivial
theorem PySem.W.Fast.tw10218952738152874504 : True := trivial
theorem PySem.W.Fast.tw12225732805790083592 : True := trivial
theorem PySem.W.Fast.tw14829454866693112328 : True := trivial
theorem PySem.W.Fast.tw14254175419142398536 : True := trivial
theorem PySem.W.Fast.tw6010789454607271528 : True := trivial
theorem PySem.W.Fast.tw14210967955956968104 : True := trivial
theorem PySem.W.Fast.tw10262725335167100584 : True := trivial
theorem PySem.W.Fast.tw10113346794199232200 : True := trivial
theorem PySem.W.Fast.tw10667382418989017896 : True := trivial
theorem PySem.W.Fast.tw13468944513593744200 : True := trivial
theorem PySem.W.Fast.tw16629912218836382600 : True := trivial
theorem PySem.W.Fast.tw6863147454054574121 : True := trivial
theorem PySem.W.Fast.tw6849624491544468553 : True := trivial
theorem PySem.W.Fast.tw9171188567199002825 : True := trivial
theorem PySem.W.Fast.tw6427254889079750889 : True := trivial
theorem PySem.W.Fast.tw5471844995107652873 : True := trivial
theorem PySem.W.Fast.tw12624166436479451465 : True := trivial
theorem PySem.W.Fast.tw7637487148796360041 : True := trivial
theorem PySem.W.Fast.tw10316787674984819113 : True := trivial
theorem PySem.W.Fast.tw2911055261212565929 : True := trivial
theorem PySem.W.Fast.tw2090410185277542857 : True := trivial
theorem PySem.W.Fast.tw7724989897156829769 : True := trivial
theorem PySem.W.Fast.tw10281736521065933385 : True := trivial
theorem PySem.W.Fast.tw17129627834953733737 : True := trivial
theorem PySem.W.Fast.tw18435440227356435049 : True := trivial
theorem PySem.W.Fast.tw4468454260629288585 : True := trivial
theorem PySem.W.Fast.tw1402573198774066953 : True := trivial
theorem PySem.W.Fast.tw12961361136092234537 : True := trivial
theorem PySem.W.Fast.tw5095339090722946921 : True := trivial
theorem PySem.W.Fast.tw3795176282711824361 : True := trivial
theorem PySem.W.Fast.tw9456189850590756841 : True := trivial
theorem PySem.W.Fast.tw16281382172093285418 : True := trivial
theorem PySem.W.Fast.tw16877568062754011402 : True := trivial
theorem PySem.W.Fast.tw17471422079181128042 : True := trivial
theorem PySem.W.Fast.tw16482370186389964234 : True := trivial
theorem PySem.W.Fast.tw1002545750954489322 : True := trivial
theorem PySem.W.Fast.tw6226217662951835114 : True := trivial
theorem PySem.W.Fast.tw18187427893471857226 : True := trivial
theorem PySem.W.Fast.tw4823162363124826762 : True := trivial
theorem PySem.W.Fast.tw9172534155054860106 : True := trivial
theorem PySem.W.Fast.tw9371076034720329610 : True := trivial
theorem PySem.W.Fast.tw4656996710406821866 : True := trivial
theorem PySem.W.Fast.tw6015662611603991563 : True := trivial
theorem PySem.W.Fast.tw398691316125865003 : True := trivial
theorem PySem.W.Fast.tw14149965687265753131 : True := trivial
theorem PySem.W.Fast.tw5536289469419455659 : True := trivial
theorem PySem.W.Fast.tw12948616333704366251 : True := trivial
theorem PySem.W.Fast.tw10148324950370688331 : True := trivial
theorem PySem.W.Fast.tw1659405831948127563 : True := trivial
theorem PySem.W.Fast.tw13677142089038328203 : True := trivial
theorem PySem.W.Fast.tw6195917546232715723 : True := trivial
theorem PySem.W.Fast.tw11672091925334917611 : True := trivial
theorem PySem.W.Fast.tw9951239987479040523 : True := trivial
theorem PySem.W.Fast.tw12797491140557698635 : True := trivial
theorem PySem.W.Fast.tw5514465822733720171 : True := trivial
theorem PySem.W.Fast.tw12488552915152510988 : True := trivial
theorem PySem.W.Fast.tw10393624911417052236 : True := trivial
theorem PySem.W.Fast.tw15769815879836378316 : True := trivial
theorem PySem.W.Fast.tw1601398027921061164 : True := trivial
theorem PySem.W.Fast.tw3091305167159681356 : True := trivial
theorem PySem.W.Fast.tw4509088362595385708 : True := trivial
theorem PySem.W.Fast.tw12515518451390344556 : True := trivial
theorem PySem.W.Fast.tw3071493484021931660 : True := trivial
theorem PySem.W.Fast.tw5645841123895765836 : True := trivial
theorem PySem.W.Fast.tw276712710152305516 : True := trivial
theorem PySem.W.Fast.tw2772100402682508204 : True := trivial
theorem PySem.W.Fast.tw4517281763919794221 : True := trivial
theorem PySem.W.Fast.tw3513751072075335725 : True := trivial
theorem PySem.W.Fast.tw1989031445542215789 : True := trivial
theorem PySem.W.Fast.tw651269810352307341 : True := trivial
theorem PySem.W.Fast.tw6669774359022266541 : True := trivial
theorem PySem.W.Fast.tw14412751946409599213 : True := trivial
theorem PySem.W.Fast.tw11969315009051788717 : True := trivial
theorem PySem.W.Fast.tw11429963414265311693 : True := trivial
theorem PySem.W.Fast.tw7047189166731069997 : True := trivial
theorem PySem.W.Fast.tw925138084794247725 : True := trivial
theorem PySem.W.Fast.tw14798826773453015629 : True := trivial
theorem PySem.W.Fast.tw6033672765485387341 : True := trivial
theorem PySem.W.Fast.tw7323717941793985133 : True := trivial
theorem PySem.W.Fast.tw3235828127351568205 : True := trivial
theorem PySem.W.Fast.tw11437592245952958381 : True := trivial
theorem PySem.W.Fast.tw7868808480884556749 : True := trivial
theorem PySem.W.Fast.tw15296087312925921358 : True := trivial
theorem PySem.W.Fast.tw9050622874524981454 : True := trivial
theorem PySem.W.Fast.tw708434875534588174 : True := trivial
theorem PySem.W.Fast.tw2101956473454529838 : True := trivial
theorem PySem.W.Fast.tw13555792477327432046 : True := trivial
theorem PySem.W.Fast.tw11126325435762618830 : True := trivial
theorem PySem.W.Fast.tw11724001013612875246 : True := trivial
theorem PySem.W.Fast.tw6715099029150089806 : True := trivial
theorem PySem.W.Fast.tw5322017293380404814 : True := trivial
theorem PySem.W.Fast.tw1487885222708075118 : True := trivial
theorem PySem.W.Fast.tw15170848279197900398 : True := trivial
theorem PySem.W.Fast.tw3852773813855917710 : True := trivial
theorem PySem.W.Fast.tw9262264282905839278 : True := trivial
theorem PySem.W.Fast.tw11538957629898722062 : True := trivial
theorem PySem.W.Fast.tw9136441109506678574 : True := trivial
theorem PySem.W.Fast.tw16264826248321649486 : True := trivial
theorem PySem.W.Fast.tw10511676898844068686 : True := trivial
theorem PySem.W.Fast.tw8229158352914510766 : True := trivial
theorem PySem.W.Fast.tw4900670545532976335 : True := trivial
theorem PySem.W.Fast.tw14688587724690030895 : True := trivial
theorem PySem.W.Fast.tw8213856260471682351 : True := trivial
theorem PySem.W.Fast.tw3669674868279921103 : True := trivial
theorem PySem.W.Fast.tw7595221702002360879 : True := trivial
theorem PySem.W.Fast.tw7571411076615879247 : True := trivial
theorem PySem.W.Fast.tw18408345963297889903 : True := trivial
theorem PySem.W.Fast.tw14650151844484836143 : True := trivial
theorem PySem.W.Fast.tw2717184468275859279 : True := trivial
theorem PySem.W.Fast.tw14733166857807758352 : True := trivial
theorem PySem.W.Fast.tw3037807419185860624 : True := trivial
theorem PySem.W.Fast.tw3335301908984918032 : True := trivial
theorem PySem.W.Fast.tw280649341482845264 : True := trivial
theorem PySem.W.Fast.tw16214947487835745360 : True := trivial
theorem PySem.W.Fast.tw16978386994972627056 : True := trivial
theorem PySem.W.Fast.tw6383209079673489616 : True := trivial
theorem PySem.W.Fast.tw1098659884371773680 : True := trivial
theorem PySem.W.Fast.tw7064374561335546096 : True := trivial
theorem PySem.W.Fast.tw17463753180382585136 : True := trivial
theorem PySem.W.Fast.tw15533922039707430192 : True := trivial
theorem PySem.W.Fast.tw16380800678351631664 : True := trivial
theorem PySem.W.Fast.tw8977707591121438032 : True := trivial
theorem PySem.W.Fast.tw5556101204826458448 : True := trivial
theorem PySem.W.Fast.tw4891681171682458960 : True := trivial
theorem PySem.W.Fast.tw906027202078067120 : True := trivial
theorem PySem.W.Fast.tw404509881238326736 : True := trivial
theorem PySem.W.Fast.tw2785558276875619792 : True := trivial
theorem PySem.W.Fast.tw14778791480704311760 : True := trivial
theorem PySem.W.Fast.tw9134218951734437424 : True := trivial
theorem PySem.W.Fast.tw6162403748451228240 : True := trivial
theorem PySem.W.Fast.tw9497346685850226288 : True := trivial
theorem PySem.W.Fast.tw15814249748674955888 : True := trivial
theorem PySem.W.Fast.tw5486631620280286864 : True := trivial
theorem PySem.W.Fast.tw16730299615355951920 : True := trivial
theorem PySem.W.Fast.tw9992446167797980048 : True := trivial
theorem PySem.W.Fast.tw7381641149689447376 : True := trivial
theorem PySem.W.Fast.tw8219259925573862384 : True := trivial
theorem PySem.W.Fast.tw18211410259019424752 : True := trivial
theorem PySem.W.Fast.tw5990684903270975537 : True := trivial
theorem PySem.W.Fast.tw9185945304031596593 : True := trivial
theorem PySem.W.Fast.tw12549312069406636113 : True := trivial
theorem PySem.W.Fast.tw3976874613234029713 : True := trivial
theorem PySem.W.Fast.tw9076246517211273649 : True := trivial
theorem PySem.W.Fast.tw2634319159025377713 : True := trivial
theorem PySem.W.Fast.tw11185974140092177937 : True := trivial
theorem PySem.W.Fast.tw17596467077985496593 : True := trivial
theorem PySem.W.Fast.tw7238212552441545265 : True := trivial
theorem PySem.W.Fast.tw6611984203815641777 : True := trivial
theorem PySem.W.Fast.tw6921569643611476689 : True := trivial
theorem PySem.W.Fast.tw14925896263982347985 : True := trivial
theorem PySem.W.Fast.tw3671675320641229585 : True := trivial
theorem PySem.W.Fast.tw16031099451710955313 : True := trivial
theorem PySem.W.Fast.tw3503928498143306577 : True := trivial
theorem PySem.W.Fast.tw4005730518570109873 : True := trivial
theorem PySem.W.Fast.tw17640266757325657009 : True := trivial
theorem PySem.W.Fast.tw9318742787449826225 : True := trivial
theorem PySem.W.Fast.tw16407988783892838321 : True := trivial
theorem PySem.W.Fast.tw3347558527547331569 : True := trivial
theorem PySem.W.Fast.tw12661952293116870674 : True := trivial
theorem PySem.W.Fast.tw2521729258742214674 : True := trivial
theorem PySem.W.Fast.tw15698129101075854386 : True := trivial
theorem PySem.W.Fast.tw3435857422916423794 : True := trivial
theorem PySem.W.Fast.tw6364695747405428882 : True := trivial
theorem PySem.W.Fast.tw406320718414905554 : True := trivial
theorem PySem.W.Fast.tw14372682709015909650 : True := trivial
theorem PySem.W.Fast.tw3888846633919226162 : True := trivial
theorem PySem.W.Fast.tw7844310318539844914 : True := trivial
theorem PySem.W.Fast.tw3866954445125506450 : True := trivial
theorem PySem.W.Fast.tw8831779689591658930 : True := trivial
theorem PySem.W.Fast.tw1747702937740253682 : True := trivial
theorem PySem.W.Fast.tw2342873559907743314 : True := trivial
theorem PySem.W.Fast.tw12311312591739095794 : True := trivial
theorem PySem.W.Fast.tw11979109388641165042 : True := trivial
theorem PySem.W.Fast.tw15284351860080212786 : True := trivial
theorem PySem.W.Fast.tw4552165954213196658 : True := trivial
theorem PySem.W.Fast.tw6180895622510408594 : True := trivial
theorem PySem.W.Fast.tw7098695240622184370 : True := trivial
theorem PySem.W.Fast.tw16415392733321484210 : True := trivial
theorem PySem.W.Fast.tw2277111401469770835 : True := trivial
theorem PySem.W.Fast.tw7918233090708492403 : True := trivial
theorem PySem.W.Fast.tw7642234296935553331 : True := trivial
theorem PySem.W.Fast.tw18286305891222100275 : True := trivial
theorem PySem.W.Fast.tw14237681847839624531 : True := trivial
theorem PySem.W.Fast.tw9710297351534116179 : True := trivial
theorem PySem.W.Fast.tw1117983430483266931 : True := trivial
theorem PySem.W.Fast.tw18254198379018870163 : True := trivial
theorem PySem.W.Fast.tw17488800865814364627 : True := trivial
theorem PySem.W.Fast.tw12276805141848793715 : True := trivial
theorem PySem.W.Fast.tw2541157535592439411 : True := trivial
theorem PySem.W.Fast.tw1971010371086801555 : True := trivial
theorem PySem.W.Fast.tw10217672313024128723 : True := trivial
theorem PySem.W.Fast.tw369852395235941171 : True := trivial
theorem PySem.W.Fast.tw13307876589822850899 : True := trivial
theorem PySem.W.Fast.tw6097756921654007763 : True := trivial
theorem PySem.W.Fast.tw2268523440301043732 : True := trivial
theorem PySem.W.Fast.tw4736863256326657108 : True := trivial
theorem PySem.W.Fast.tw9952346578613917780 : True := trivial
theorem PySem.W.Fast.tw16833242587423469716 : True := trivial
theorem PySem.W.Fast.tw17260216013765180660 : True := trivial
theorem PySem.W.Fast.tw7247574002903886420 : True := trivial
theorem PySem.W.Fast.tw4061122602294665812 : True := trivial
theorem PySem.W.Fast.tw10269099168432803508 : True := trivial
theorem PySem.W.Fast.tw13524205844234956500 : True := trivial
theorem PySem.W.Fast.tw12994187628295485268 : True := trivial
theorem PySem.W.Fast.tw15695586832058481717 : True := trivial
theorem PySem.W.Fast.tw17853499940442673269 : True := trivial
theorem PySem.W.Fast.tw10310253656683154613 : True := trivial
theorem PySem.W.Fast.tw9833872669766586549 : True := trivial
theorem PySem.W.Fast.tw8486192496697793717 : True := trivial
theorem PySem.W.Fast.tw18403593963236507957 : True := trivial
theorem PySem.W.Fast.tw11727472333474352533 : True := trivial
theorem PySem.W.Fast.tw18418511837286380981 : True := trivial
theorem PySem.W.Fast.tw11511637096185300437 : True := trivial
theorem PySem.W.Fast.tw3414206185092672021 : True := trivial
theorem PySem.W.Fast.tw11848873406626345621 : True := trivial
theorem PySem.W.Fast.tw8159842962148974229 : True := trivial
theorem PySem.W.Fast.tw14886346330692163253 : True := trivial
theorem PySem.W.Fast.tw18227212391541993173 : True := trivial
theorem PySem.W.Fast.tw7293766164280799957 : True := trivial
theorem PySem.W.Fast.tw9731434020341917429 : True := trivial
theorem PySem.W.Fast.tw3983561345225895701 : True := trivial
theorem PySem.W.Fast.tw10253667541243329301 : True := trivial
theorem PySem.W.Fast.tw6153236119332159253 : True := trivial
theorem PySem.W.Fast.tw2230521031348306741 : True := trivial
theorem PySem.W.Fast.tw11465369045297437653 : True := trivial
theorem PySem.W.Fast.tw3612739601673172022 : True := trivial
theorem PySem.W.Fast.tw9397018709495065750 : True := trivial
theorem PySem.W.Fast.tw16864331343257746614 : True := trivial
theorem PySem.W.Fast.tw9808449350993170614 : True := trivial
theorem PySem.W.Fast.tw6538017661770563958 : True := trivial
theorem PySem.W.Fast.tw2020526773480282518 : True := trivial
theorem PySem.W.Fast.tw1661009161709580726 : True := trivial
theorem PySem.W.Fast.tw6144753928571985366 : True := trivial
theorem PySem.W.Fast.tw185755160266447446 : True := trivial
theorem PySem.W.Fast.tw4968899666930495190 : True := trivial
theorem PySem.W.Fast.tw567837761867423606 : True := trivial
theorem PySem.W.Fast.tw4338970745675940758 : True := trivial
theorem PySem.W.Fast.tw12576859765990153206 : True := trivial
theorem PySem.W.Fast.tw6305244265963978775 : True := trivial
theorem PySem.W.Fast.tw1025738952055852055 : True := trivial
theorem PySem.W.Fast.tw7292528592392296599 : True := trivial
theorem PySem.W.Fast.tw16514237552597875863 : True := trivial
theorem PySem.W.Fast.tw17298033403995258007 : True := trivial
theorem PySem.W.Fast.tw13830251802040604919 : True := trivial
theorem PySem.W.Fast.tw3082153788696109463 : True := trivial
theorem PySem.W.Fast.tw9878224183843931543 : True := trivial
theorem PySem.W.Fast.tw583710295942715927 : True := trivial
theorem PySem.W.Fast.tw10500163771360355895 : True := trivial
theorem PySem.W.Fast.tw10594071485866521175 : True := trivial
theorem PySem.W.Fast.tw18441227021615249047 : True := trivial
theorem PySem.W.Fast.tw10619085891746797303 : True := trivial
theorem PySem.W.Fast.tw1921756811390342903 : True := trivial
theorem PySem.W.Fast.tw3966982632361124599 : True := trivial
theorem PySem.W.Fast.tw10189648172824779735 : True := trivial
theorem PySem.W.Fast.tw16360406209104986103 : True := trivial
theorem PySem.W.Fast.tw6318260614482019352 : True := trivial
theorem PySem.W.Fast.tw3681962255335219256 : True := trivial
theorem PySem.W.Fast.tw13917956168197175384 : True := trivial
theorem PySem.W.Fast.tw16928459461598341304 : True := trivial
theorem PySem.W.Fast.tw3594845516648981720 : True := trivial
theorem PySem.W.Fast.tw7202254020163322072 : True := trivial
theorem PySem.W.Fast.tw4261237205797958904 : True := trivial
theorem PySem.W.Fast.tw15143222867907392856 : True := trivial
theorem PySem.W.Fast.tw3523494951320237592 : True := trivial
theorem PySem.W.Fast.tw17510690128399310392 : True := trivial
theorem PySem.W.Fast.tw5226265770146872920 : True := trivial
theorem PySem.W.Fast.tw114704070363110008 : True := trivial
theorem PySem.W.Fast.tw16097503783986362008 : True := trivial
theorem PySem.W.Fast.tw16079497191758991032 : True := trivial
theorem PySem.W.Fast.tw2669750357982158520 : True := trivial
theorem PySem.W.Fast.tw4251804744230371032 : True := trivial
theorem PySem.W.Fast.tw4586020964866340728 : True := trivial
theorem PySem.W.Fast.tw3611220049738068856 : True := trivial
theorem PySem.W.Fast.tw15046957799111179160 : True := trivial
theorem PySem.W.Fast.tw14357375564181687256 : True := trivial
theorem PySem.W.Fast.tw5052851070726575193 : True := trivial
theorem PySem.W.Fast.tw2239159057785610329 : True := trivial
theorem PySem.W.Fast.tw6688468495906655385 : True := trivial
theorem PySem.W.Fast.tw14608138088855198905 : True := trivial
theorem PySem.W.Fast.tw7293727345653914873 : True := trivial
theorem PySem.W.Fast.tw3500640546916151577 : True := trivial
theorem PySem.W.Fast.tw8324564080573394233 : True := trivial
theorem PySem.W.Fast.tw953411660018568601 : True := trivial
theorem PySem.W.Fast.tw14199822050136124825 : True := trivial
theorem PySem.W.Fast.tw17664075575961721273 : True := trivial
theorem PySem.W.Fast.tw4072500344818347449 : True := trivial
theorem PySem.W.Fast.tw12120158927392619961 : True := trivial
theorem PySem.W.Fast.tw8774771814504559129 : True := trivial
theorem PySem.W.Fast.tw8668189247648675417 : True := trivial
theorem PySem.W.Fast.tw12068602382302454425 : True := trivial
theorem PySem.W.Fast.tw7779855641635517081 : True := trivial
theorem PySem.W.Fast.tw4409580904564481721 : True := trivial
theorem PySem.W.Fast.tw7379106068916588249 : True := trivial
theorem PySem.W.Fast.tw7550937626859335481 : True := trivial
theorem PySem.W.Fast.tw6848161484567005017 : True := trivial
theorem PySem.W.Fast.tw14020191175942644633 : True := trivial
theorem PySem.W.Fast.tw15284267545441676185 : True := trivial
theorem PySem.W.Fast.tw611575439662549018 : True := trivial
theorem PySem.W.Fast.tw8071689148900645946 : True := trivial
theorem PySem.W.Fast.tw16745379859859788186 : True := trivial
theorem PySem.W.Fast.tw18208888069256279546 : True := trivial
theorem PySem.W.Fast.tw12575471481577854554 : True := trivial
theorem PySem.W.Fast.tw10932769880346023546 : True := trivial
theorem PySem.W.Fast.tw12452470212069712538 : True := trivial
theorem PySem.W.Fast.tw6958636345535772506 : True := trivial
theorem PySem.W.Fast.tw8407742388494465882 : True := trivial
theorem PySem.W.Fast.tw17340147124373106554 : True := trivial
theorem PySem.W.Fast.tw2263380755656949690 : True := trivial
theorem PySem.W.Fast.tw4104240893992554651 : True := trivial
theorem PySem.W.Fast.tw16727133688682168539 : True := trivial
theorem PySem.W.Fast.tw15815621980903491899 : True := trivial
theorem PySem.W.Fast.tw1340424726527029595 : True := trivial
theorem PySem.W.Fast.tw1566251011780773307 : True := trivial
theorem PySem.W.Fast.tw2134697058176178619 : True := trivial
theorem PySem.W.Fast.tw8422940014201762299 : True := trivial
theorem PySem.W.Fast.tw10136953494468035099 : True := trivial
theorem PySem.W.Fast.tw17271647530211919451 : True := trivial
theorem PySem.W.Fast.tw7594209312124009051 : True := trivial
theorem PySem.W.Fast.tw15509022057367687963 : True := trivial
theorem PySem.W.Fast.tw8275318281365175099 : True := trivial
theorem PySem.W.Fast.tw9655542307917785051 : True := trivial
theorem PySem.W.Fast.tw17026172717392924667 : True := trivial
theorem PySem.W.Fast.tw7785907496659425275 : True := trivial
theorem PySem.W.Fast.tw5154802947173523451 : True := trivial
theorem PySem.W.Fast.tw17351340678467152956 : True := trivial
theorem PySem.W.Fast.tw11055444641419160732 : True := trivial
theorem PySem.W.Fast.tw10313058897788600508 : True := trivial
theorem PySem.W.Fast.tw11208531170483513532 : True := trivial
theorem PySem.W.Fast.tw3209690354507873500 : True := trivial
theorem PySem.W.Fast.tw14576396485793494268 : True := trivial
theorem PySem.W.Fast.tw7724558868822835452 : True := trivial
theorem PySem.W.Fast.tw14602463410950959356 : True := trivial
theorem PySem.W.Fast.tw16252567018997280028 : True := trivial
theorem PySem.W.Fast.tw16640885070533821756 : True := trivial
theorem PySem.W.Fast.tw3303746808253246140 : True := trivial
theorem PySem.W.Fast.tw5301675893316208412 : True := trivial
theorem PySem.W.Fast.tw4264990166561278844 : True := trivial
theorem PySem.W.Fast.tw1003282457802369916 : True := trivial
theorem PySem.W.Fast.tw11695510150994005021 : True := trivial
theorem PySem.W.Fast.tw12194324637001039037 : True := trivial
theorem PySem.W.Fast.tw16169417634407640317 : True := trivial
theorem PySem.W.Fast.tw16534408327821713693 : True := trivial
theorem PySem.W.Fast.tw18423799120876803581 : True := trivial
theorem PySem.W.Fast.tw10265190647296426589 : True := trivial
theorem PySem.W.Fast.tw14527355671252060765 : True := trivial
theorem PySem.W.Fast.tw6402154416238711485 : True := trivial
theorem PySem.W.Fast.tw2697511159537329917 : True := trivial
theorem PySem.W.Fast.tw13010454917497084765 : True := trivial
theorem PySem.W.Fast.tw12375570223836159869 : True := trivial
theorem PySem.W.Fast.tw12851306547874604989 : True := trivial
theorem PySem.W.Fast.tw3887170273503542237 : True := trivial
theorem PySem.W.Fast.tw4361509842802473981 : True := trivial
theorem PySem.W.Fast.tw17121082294072576062 : True := trivial
theorem PySem.W.Fast.tw18083472329924385918 : True := trivial
theorem PySem.W.Fast.tw12180602048735848574 : True := trivial
theorem PySem.W.Fast.tw8629463161869008062 : True := trivial
theorem PySem.W.Fast.tw4430838626535981278 : True := trivial
theorem PySem.W.Fast.tw548622663039470846 : True := trivial
theorem PySem.W.Fast.tw4308803060464317758 : True := trivial
theorem PySem.W.Fast.tw6516128540570556766 : True := trivial
theorem PySem.W.Fast.tw12404597074812631486 : True := trivial
theorem PySem.W.Fast.tw13153091333847304702 : True := trivial
theorem PySem.W.Fast.tw7507618411132152382 : True := trivial
theorem PySem.W.Fast.tw3298575564385888862 : True := trivial
theorem PySem.W.Fast.tw10437971552138245758 : True := trivial
theorem PySem.W.Fast.tw1291788516608679614 : True := trivial
theorem PySem.W.Fast.tw12336798835890998974 : True := trivial
theorem PySem.W.Fast.tw16083393015114080062 : True := trivial
theorem PySem.W.Fast.tw15852861593547091838 : True := trivial
theorem PySem.W.Fast.tw11564260519459220350 : True := trivial
theorem PySem.W.Fast.tw16063851779758907358 : True := trivial
theorem PySem.W.Fast.tw6665766334847349726 : True := trivial
theorem PySem.W.Fast.tw12597630919322188798 : True := trivial
theorem PySem.W.Fast.tw8335331277071779967 : True := trivial
theorem PySem.W.Fast.tw16633167821168095423 : True := trivial
theorem PySem.W.Fast.tw9845988066248112319 : True := trivial
theorem PySem.W.Fast.tw22917275917337791 : True := trivial
theorem PySem.W.Fast.tw4923894963886723359 : True := trivial
theorem PySem.W.Fast.tw6360954042238298399 : True := trivial
theorem PySem.W.Fast.tw2330437668897638815 : True := trivial
theorem PySem.W.Fast.tw17292792102519123455 : True := trivial
theorem PySem.W.Fast.tw14282077945479999999 : True := trivial
theorem PySem.W.Fast.tw15261678321528073727 : True := trivial
theorem PySem.W.Fast.tw9785926553943869983 : True := trivial
theorem PySem.W.Fast.tw17282246255752252991 : True := trivial
theorem PySem.W.Fast.tw6135690373046049343 : True := trivial
theorem PySem.W.Fast.tw13776337214357215935 : True := trivial
theorem PySem.W.Fast.tw9875160424770357983 : True := trivial
theorem PySem.W.Fast.tw12131941526913579743 : True := trivial
theorem PySem.W.Fast.tw363333935535290111 : True := trivial
theorem PySem.W.Fast.tw17500287970615320383 : True := trivial
theorem PySem.W.Fast.tw12236937269297931103 : True := trivial
theorem PySem.W.Fast.tw6179716775786045375 : True := trivial
open PySem PySem.W PyProof.Rows
set_option maxRecDepth 100000 in
set_option maxHeartbeats 0 in
theorem PySem.Challenge.cw_stripmeld_k23_parts_holds : PySem.Challenge.rw_stripmeld_k23_parts.Holds := by
  w_on; o_law; k_head; (case hw => w_witness2)
  k_fill
  refine L2.walk_ofK (l := PySem.Challenge.rw_stripmeld_k23_parts) (n := 63) (k := 5) (x := "_law_script") (CX := L2.CX0) (sp := Pu.lawSp) rfl (by decide) rfl ⟨rfl, by decide, by decide⟩ (fun w h Y => PySem.W.kIn_of Y) ?F ?S ?C
  case F =>
    intro w mg fa h KX G hmg
    refine' T.all_mk KX G hmg ?a_Village ?pg_Village ?hd_Village ?po_Village ?sa_Village ?mk_Village ?kc_Village ?nA_Village_book ?nA_Village_fields ?nA_Village_wished ?a0 ?l0 ?c0 ?k0 ?a1 ?l1 ?c1 ?k1 ?a2 ?l2 ?c2 ?k2 ?a3 ?l3 ?c3 ?k3 ?a4 ?l4 ?c4 ?k4 ?a5 ?i5 ?l5 ?c5 ?k5 ?a6 ?i6 ?l6 ?c6 ?k6 ?a7 ?i7 ?l7 ?c7 ?k7 ?a8 ?i8 ?l8 ?c8 ?k8 ?a9 ?i9 ?l9 ?c9 ?k9 ?a10 ?i10 ?l10 ?c10 ?k10 ?a11 ?i11 ?l11 ?c11 ?k11 ?a12 ?l12 ?c12 ?k12 ?a13 ?l13 ?c13 ?k13 ?a14 ?l14 ?c14 ?k14 ?a15 ?l15 ?c15 ?k15 ?a16 ?l16 ?c16 ?k16 ?a17 ?l17 ?c17 ?k17 ?a18 ?l18 ?c18 ?k18 ?a19 ?l19 ?c19 ?k19 ?a20 ?l20 ?c20 ?k20 ?a21 ?l21 ?c21 ?k21 ?a22 ?l22 ?c22 ?k22 ?a23 ?l23 ?c23 ?k23 ?a24 ?l24 ?c24 ?k24 ?a25 ?l25 ?c25 ?k25 ?a26 ?l26 ?c26 ?k26 ?a27 ?l27 ?c27 ?k27 ?z_ValueError ?z_bool ?z_int ?z_isinstance ?z_len ?z_list ?z_max ?z_range ?z_str ?z_tuple ?z_HOLDERS ?z_STRIPS ?z_WIDEST ?z_MOST_DEEDS ?a_MeldError ?q_MeldError ?ga_MeldError ?gt_MeldError ?cl_MeldError ?i_MeldError ?a_TooManyStrips ?q_TooManyStrips ?ga_TooManyStrips ?gt_TooManyStrips ?cl_TooManyStrips ?i_TooManyStrips ?a_BadHolder ?q_BadHolder ?ga_BadHolder ?gt_BadHolder ?cl_BadHolder ?i_BadHolder ?a_BadWidth ?q_BadWidth ?ga_BadWidth ?gt_BadWidth ?cl_BadWidth ?i_BadWidth ?a_NoStrip ?q_NoStrip ?ga_NoStrip ?gt_NoStrip ?cl_NoStrip ?i_NoStrip ?a_BadPart ?q_BadPart ?ga_BadPart ?gt_BadPart ?cl_BadPart ?i_BadPart ?a_BookFull ?q_BookFull ?ga_BookFull ?gt_BookFull ?cl_BookFull ?i_BookFull ?x_MeldError_MeldError ?x_TooManyStrips_MeldError ?x_BadHolder_MeldError ?x_BadWidth_MeldError ?x_NoStrip_MeldError ?x_BadPart_MeldError ?x_BookFull_MeldError ?k_TooManyStrips_ValueError ?k_TooManyStrips_NoStrip ?k_TooManyStrips_BadPart ?k_TooManyStrips_TooManyStrips ?k_NoStrip_ValueError ?k_NoStrip_NoStrip ?k_NoStrip_BadPart ?k_NoStrip_TooManyStrips ?k_BadPart_ValueError ?k_BadPart_NoStrip ?k_BadPart_BadPart ?k_BadPart_TooManyStrips
    (case a_Village => k_is)
    (case pg_Village => k_is)
    (case hd_Village => k_is)
    (case po_Village => k_is)
    (case sa_Village => k_is)
    (case mk_Village => k_is)
    (case kc_Village => k_is)
    (case nA_Village_book => k_is)
    (case nA_Village_fields => k_is)
    (case nA_Village_wished => k_is)
    (case a0 => k_is)
    (case l0 => k_is)
    (case c0 => k_is)
    (case k0 => k_is)
    (case a1 => k_is)
    (case l1 => k_is)
    (case c1 => k_is)
    (case k1 => k_is)
    (case a2 => k_is)
    (case l2 => k_is)
    (case c2 => k_is)
    (case k2 => k_is)
    (case a3 => k_is)
    (case l3 => k_is)
    (case c3 => k_is)
    (case k3 => k_is)
    (case a4 => k_is)
    (case l4 => k_is)
    (case c4 => k_is)
    (case k4 => k_is)
    (case a5 => k_is)
    (case i5 => k_is)
    (case l5 => k_is)
    (case c5 => k_is)
    (case k5 => k_is)
    (case a6 => k_is)
    (case i6 => k_is)
    (case l6 => k_is)
    (case c6 => k_is)
    (case k6 => k_is)
    (case a7 => k_is)
    (case i7 => k_is)
    (case l7 => k_is)
    (case c7 => k_is)
    (case k7 => k_is)
    (case a8 => k_is)
    (case i8 => k_is)
    (case l8 => k_is)
    (case c8 => k_is)
    (case k8 => k_is)
    (case a9 => k_is)
    (case i9 => k_is)
    (case l9 => k_is)
    (case c9 => k_is)
    (case k9 => k_is)
    (case a10 => k_is)
    (case i10 => k_is)
    (case l10 => k_is)
    (case c10 => k_is)
    (case k10 => k_is)
    (case a11 => k_is)
    (case i11 => k_is)
    (case l11 => k_is)
    (case c11 => k_is)
    (case k11 => k_is)
    (case a12 => k_is)
    (case l12 => k_is)
    (case c12 => k_is)
    (case k12 => k_is)
    (case a13 => k_is)
    (case l13 => k_is)
    (case c13 => k_is)
    (case k13 => k_is)
    (case a14 => k_is)
    (case l14 => k_is)
    (case c14 => k_is)
    (case k14 => k_is)
    (case a15 => k_is)
    (case l15 => k_is)
    (case c15 => k_is)
    (case k15 => k_is)
    (case a16 => k_is)
    (case l16 => k_is)
    (case c16 => k_is)
    (case k16 => k_is)
    (case a17 => k_is)
    (case l17 => k_is)
    (case c17 => k_is)
    (case k17 => k_is)
    (case a18 => k_is)
    (case l18 => k_is)
    (case c18 => k_is)
    (case k18 => k_is)
    (case a19 => k_is)
    (case l19 => k_is)
    (case c19 => k_is)
    (case k19 => k_is)
    (case a20 => k_is)
    (case l20 => k_is)
    (case c20 => k_is)
    (case k20 => k_is)
    (case a21 => k_is)
    (case l21 => k_is)
    (case c21 => k_is)
    (case k21 => k_is)
    (case a22 => k_is)
    (case l22 => k_is)
    (case c22 => k_is)
    (case k22 => k_is)
    (case a23 => k_is)
    (case l23 => k_is)
    (case c23 => k_is)
    (case k23 => k_is)
    (case a24 => k_is)
    (case l24 => k_is)
    (case c24 => k_is)
    (case k24 => k_is)
    (case a25 => k_is)
    (case l25 => k_is)
    (case c25 => k_is)
    (case k25 => k_is)
    (case a26 => k_is)
    (case l26 => k_is)
    (case c26 => k_is)
    (case k26 => k_is)
    (case a27 => k_is)
    (case l27 => k_is)
    (case c27 => k_is)
    (case k27 => k_is)
    (case z_ValueError => k_is)
    (case z_bool => k_is)
    (case z_int => k_is)
    (case z_isinstance => k_is)
    (case z_len => k_is)
    (case z_list => k_is)
    (case z_max => k_is)
    (case z_range => k_is)
    (case z_str => k_is)
    (case z_tuple => k_is)
    (case z_HOLDERS => k_is)
    (case z_STRIPS => k_is)
    (case z_WIDEST => k_is)
    (case z_MOST_DEEDS => k_is)
    (case a_MeldError => k_is)
    (case q_MeldError => k_exc)
    (case ga_MeldError => k_is)
    (case gt_MeldError => k_is)
    (case cl_MeldError => k_is)
    (case i_MeldError => k_is)
    (case a_TooManyStrips => k_is)
    (case q_TooManyStrips => k_exc)
    (case ga_TooManyStrips => k_is)
    (case gt_TooManyStrips => k_is)
    (case cl_TooManyStrips => k_is)
    (case i_TooManyStrips => k_is)
    (case a_BadHolder => k_is)
    (case q_BadHolder => k_exc)
    (case ga_BadHolder => k_is)
    (case gt_BadHolder => k_is)
    (case cl_BadHolder => k_is)
    (case i_BadHolder => k_is)
    (case a_BadWidth => k_is)
    (case q_BadWidth => k_exc)
    (case ga_BadWidth => k_is)
    (case gt_BadWidth => k_is)
    (case cl_BadWidth => k_is)
    (case i_BadWidth => k_is)
    (case a_NoStrip => k_is)
    (case q_NoStrip => k_exc)
    (case ga_NoStrip => k_is)
    (case gt_NoStrip => k_is)
    (case cl_NoStrip => k_is)
    (case i_NoStrip => k_is)
    (case a_BadPart => k_is)
    (case q_BadPart => k_exc)
    (case ga_BadPart => k_is)
    (case gt_BadPart => k_is)
    (case cl_BadPart => k_is)
    (case i_BadPart => k_is)
    (case a_BookFull => k_is)
    (case q_BookFull => k_exc)
    (case ga_BookFull => k_is)
    (case gt_BookFull => k_is)
    (case cl_BookFull => k_is)
    (case i_BookFull => k_is)
    (case x_MeldError_MeldError => kts_exm)
    (case x_TooManyStrips_MeldError => kts_exm)
    (case x_BadHolder_MeldError => kts_exm)
    (case x_BadWidth_MeldError => kts_exm)
    (case x_NoStrip_MeldError => kts_exm)
    (case x_BadPart_MeldError => kts_exm)
    (case x_BookFull_MeldError => kts_exm)
    (case k_TooManyStrips_ValueError => kit_is)
    (case k_TooManyStrips_NoStrip => kit_is)
    (case k_TooManyStrips_BadPart => kit_is)
    (case k_TooManyStrips_TooManyStrips => kit_is)
    (case k_NoStrip_ValueError => kit_is)
    (case k_NoStrip_NoStrip => kit_is)
    (case k_NoStrip_BadPart => kit_is)
    (case k_NoStrip_TooManyStrips => kit_is)
    (case k_BadPart_ValueError => kit_is)
    (case k_BadPart_NoStrip => kit_is)
    (case k_BadPart_BadPart => kit_is)
    (case k_BadPart_TooManyStrips => kit_is)
  case S => exact fun K H a ns hl hO hS => ⟨a, ns, rfl, hS, fun _ => rfl⟩
  case C => exact fun _ _ _ _ z => z
